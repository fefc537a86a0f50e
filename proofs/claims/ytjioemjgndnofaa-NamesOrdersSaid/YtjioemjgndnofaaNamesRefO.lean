/-
  The document's Order: places put in one by one. No statement.
-/
import Derived.Test.YtjioemjgndnofaaNamesRef2
import Derived.Laws.AppendOwnNone
namespace Go.Proofs.Ytjioemjgndnofaa
open Go Go.RowKit Go.Lib Go.Sort
set_option linter.unusedVariables false
set_option linter.unusedSimpArgs false
/-- O holds the first k places in order. -/
structure OrdTo (N : List Bs) (k : Nat) (O : List Nat) : Prop where
  perm : O.Perm (List.range k)
  sorted : O.Pairwise (before N)
theorem OrdTo.len {N : List Bs} {k : Nat} {O : List Nat} (h : OrdTo N k O) : O.length = k := by rw [h.perm.length_eq, List.length_range]
theorem OrdTo.zero (N : List Bs) : OrdTo N 0 [] := ⟨List.Perm.refl _, List.Pairwise.nil⟩
theorem OrdTo.lt {N : List Bs} {k : Nat} {O : List Nat} (h : OrdTo N k O) {i : Nat} (hi : i ∈ O) : i < k := List.mem_range.1 (h.perm.mem_iff.1 hi)
theorem OrdTo.all {N : List Bs} {O : List Nat} (h : OrdTo N N.length O) : O = orderN N := orderN_eq ⟨h.perm, h.sorted⟩
/-- All from place a on are greater than what is to be put in. -/
def InsTo (N : List Bs) (O : List Nat) (i a : Nat) : Prop := ∀ j, a ≤ j → j < O.length → nmAt N i < nmAt N (O.getD j 0)
theorem InsTo.start (N : List Bs) (O : List Nat) (i : Nat) : InsTo N O i O.length := fun j h1 h2 => by omega
theorem InsTo.next {N : List Bs} {O : List Nat} {i a : Nat} (h : InsTo N O i (a + 1)) (ha : nmAt N i < nmAt N (O.getD a 0)) : InsTo N O i a := fun j h1 h2 => by
  by_cases e : j = a
  · rw [e]; exact ha
  · exact h j (by omega) h2
def putIn (O : List Nat) (k a : Nat) : List Nat := O.take a ++ (k :: O.drop a)
theorem OrdTo.put {N : List Bs} {k a : Nat} {O : List Nat} (h : OrdTo N k O) (ha : a ≤ O.length) (hi : InsTo N O k a) (hs : a = 0 ∨ ¬ nmAt N k < nmAt N (O.getD (a - 1) 0)) : OrdTo N (k + 1) (putIn O k a) := by
  have hsp : O = O.take a ++ O.drop a := (List.take_append_drop a O).symm
  have hpw := h.sorted
  rw [hsp, List.pairwise_append] at hpw
  obtain ⟨p1, p2, p3⟩ := hpw
  constructor
  · unfold putIn
    have e1 : (O.take a ++ (k :: O.drop a)).Perm (k :: (O.take a ++ O.drop a)) := List.perm_middle
    rw [← hsp] at e1
    refine e1.trans ?_
    rw [List.range_succ]
    exact (List.Perm.cons k h.perm).trans (List.perm_append_singleton k (List.range k)).symm
  · unfold putIn
    rw [List.pairwise_append]
    refine ⟨p1, ?_, ?_⟩
    · rw [List.pairwise_cons]
      refine ⟨fun b hb => ?_, p2⟩
      rw [List.mem_iff_getElem] at hb
      obtain ⟨j, hj, e⟩ := hb
      rw [List.getElem_drop] at e
      have hj2 : a + j < O.length := by simp at hj; omega
      have := hi (a + j) (by omega) hj2
      rw [List.getD_eq_getElem?_getD, List.getElem?_eq_getElem hj2] at this
      rw [← e]
      exact .inl this
    · intro x hx y hy
      have hxk : x < k := h.lt (List.mem_of_mem_take hx)
      rcases List.mem_cons.1 hy with rfl | hy
      · -- x stands ahead of place a
        rcases hs with rfl | hs
        · simp at hx
        · rw [List.mem_iff_getElem] at hx
          obtain ⟨j, hj, e⟩ := hx
          rw [List.getElem_take] at e
          have hja : j < a := by simp at hj; omega
          have hla : a - 1 < O.length := by omega
          rw [List.getD_eq_getElem?_getD, List.getElem?_eq_getElem hla] at hs
          have hle : nmAt N x < nmAt N y ∨ nmAt N x = nmAt N y := by
            have hq : nmAt N (O[a - 1]) < nmAt N y ∨ nmAt N (O[a - 1]) = nmAt N y := by
              rcases bs_not hs with g | g
              · exact .inl g
              · exact .inr g
            by_cases ej : j = a - 1
            · subst ej; rw [← e]; exact hq
            · have hb := (List.pairwise_iff_getElem.1 h.sorted) j (a - 1) (by omega) hla (by omega)
              rw [e] at hb
              rcases hb with g | ⟨g, _⟩
              · rcases hq with g2 | g2
                · exact .inl (bs_trans g g2)
                · exact .inl (g2 ▸ g)
              · rw [g]; exact hq
          rcases hle with g | g
          · exact .inl g
          · exact .inr ⟨g, hxk⟩
      · exact p3 x hx y hy
/-- A row just laid is the call's own. -/
theorem own_made (w : World) (cs : List Value) (t : TypeId) {base n : Nat} (hb : base ≤ w.heap.size) (hn : cs.length = n) (hm : n ≤ 1000000) : (w.alloc (.cells cs.toArray t)).ownsRow base t 1 (.slice (some ⟨w.heap.size, 0, none⟩) n n) n cs := by
  refine ⟨by omega, .inr ⟨w.heap.size, n, cs.toArray, rfl, hb, heap_alloc_new w _, Nat.le_refl _, by unfold maxLen; omega, by simp; omega, ?_⟩⟩
  rw [Nat.mul_one, ← hn]
  simp
theorem cut_from (g k c a : Nat) (ha : a ≤ k) (hk : k ≤ c) (w : World) :
    (Instr.slice 26 (.slice (some ⟨g, 0, none⟩) k c) (some (.int .i64 (a : Int))) none none).run Try.prog w = .ok (.slice (some ⟨g, if c = a then 0 else a, none⟩) (k - a) (c - a)) w := by
  have hs : ∀ w, (Go.sizeOf (Try.prog.elem 26)).run Try.prog w = .ok 1 w := fun w => by kernel_rfl
  rw [run_slice_l w 26 (some ⟨g, 0, none⟩) k c (by kernel_rfl) .i64 (a : Int) (by omega) (by omega), hs]
  simp only [Result.andThen, sliced, Int.toNat_natCast]
  by_cases h : c = a
  · simp [h]
  · simp [h, Addr.add]
    by_cases h0 : a = 0 <;> simp [h0]
theorem cut_to (g k c a : Nat) (ha : a ≤ k) (hk : k ≤ c) (h0 : 0 < k) (w : World) :
    (Instr.slice 26 (.slice (some ⟨g, 0, none⟩) k c) none (some (.int .i64 (a : Int))) none).run Try.prog w = .ok (.slice (some ⟨g, 0, none⟩) a c) w := by
  have hs : ∀ w, (Go.sizeOf (Try.prog.elem 26)).run Try.prog w = .ok 1 w := fun w => by kernel_rfl
  rw [run_slice_h w 26 (some ⟨g, 0, none⟩) k c (by kernel_rfl) .i64 (a : Int) (by omega) (by omega), hs]
  simp only [Result.andThen, sliced, Int.toNat_natCast]
  have h : ¬ c = 0 := by omega
  simp [h, Addr.add]
/-- What the document's Order hands back. -/
def ROrd (N : List Bs) (n : Nat) (w : World) (e : Ending) (w' : World) : Prop := ∃ v, e = .returned v ∧ w'.ownsRow w.heap.size 3 1 v n (natCells (orderN N)) ∧ Below w.heap.size w w'
theorem natCells_put (O : List Nat) (k a : Nat) : natCells (putIn O k a) = natCells (O.take a) ++ ([.int .i64 (k : Int)] ++ natCells (O.drop a)) := by unfold natCells putIn; simp
theorem natCells_len (O : List Nat) : (natCells O).length = O.length := by unfold natCells; rw [List.length_map]
theorem nat_one (O : List Nat) : ∀ u ∈ natCells O, u.oneCell' = true := by
  intro u hu
  unfold natCells at hu
  rw [List.mem_map] at hu
  obtain ⟨i, _, rfl⟩ := hu
  rfl
theorem nat_cons (k : Nat) (O : List Nat) : ∀ u ∈ [Value.int .i64 (k : Int)] ++ natCells O, u.oneCell' = true := by
  intro u hu
  rcases List.mem_append.1 hu with h | h
  · simp at h; rw [h]; rfl
  · exact nat_one O u h
theorem drop_cells {Y : World} {base e g k c a : Nat} {O : List Nat} (h : Y.ownsRow base e 1 (.slice (some ⟨g, 0, none⟩) k c) k (natCells O)) (hl : (natCells (O.drop a)).length = (k - a) * 1) (hkc : k ≤ c) :
    ∀ j u, (natCells (O.drop a))[j]? = some u → Y.cell? ((⟨g, if c = a then 0 else a, none⟩ : Addr).add j) = some u := by
  intro j u hu
  have hj : j < (natCells (O.drop a)).length := by
    by_cases hh : j < (natCells (O.drop a)).length
    · exact hh
    · rw [List.getElem?_eq_none (by omega)] at hu; cases hu
  rw [if_neg (by omega), Addr.add_lit, World.ownsRow.cellAt h (a + j) (by omega), ← hu]
  unfold natCells
  rw [List.map_drop, List.getElem?_drop]
theorem take_cells {Y : World} {base e g k c a : Nat} {O : List Nat} (h : Y.ownsRow base e 1 (.slice (some ⟨g, 0, none⟩) k c) k (natCells O)) (hak : a ≤ k) :
    ∀ j u, (natCells (O.take a))[j]? = some u → Y.cell? ((⟨g, 0, none⟩ : Addr).add j) = some u := by
  intro j u hu
  have hj : j < a := by
    by_cases hh : j < a
    · exact hh
    · rw [List.getElem?_eq_none (by rw [natCells_len, List.length_take]; omega)] at hu; cases hu
  rw [Addr.add_lit, Nat.zero_add, World.ownsRow.cellAt h j (by omega), ← hu]
  unfold natCells
  rw [List.map_take, List.getElem?_take, if_pos hj]
theorem Laid.ge {Y wr : World} {o : Obj} (l : Laid Y wr o) {n : Nat} (h : n ≤ wr.heap.size) : n ≤ Y.heap.size := by rw [l.size]; omega
theorem Laid.below {Y wr w : World} {o : Obj} (l : Laid Y wr o) {B : Nat} (h : Below B w wr) (hB : B ≤ wr.heap.size) : Below B w Y :=
  ⟨l.os.trans h.os, l.tape.trans h.tape, l.output.trans h.output, by rw [l.size]; have := h.size; omega, fun k hk => by rw [l.heap, Below.heap_alloc wr o k (by omega)]; exact h.block k hk⟩
/-- Behind the first append. -/
structure St6 (w : World) (g k c : Nat) (xs : List Value) (g6 c6 n6 : Nat) (ys : List Value) (w6 : World) : Prop where
  out : w6.ownsRow w.heap.size 3 1 (.slice (some ⟨g, 0, none⟩) k c) k xs
  row : w6.ownsRow w.heap.size 3 1 (.slice (some ⟨g6, 0, none⟩) n6 c6) n6 ys
  below : Below w.heap.size w w6
theorem step6 {w wr Y w6 : World} {g k c g6 c6 n6 : Nat} {xs ys : List Value} {o : Obj} (hb : Below w.heap.size w wr) (hw : wr.ownsRow w.heap.size 3 1 (.slice (some ⟨g, 0, none⟩) k c) k xs)
    (hg : Y.grownBy w6 (Value.slice (some ⟨wr.heap.size, 0, none⟩) 1 1).ownBlock) (ho : w6.ownsRow w.heap.size 3 1 (.slice (some ⟨g6, 0, none⟩) n6 c6) n6 ys)
    (hat : (Value.slice (some ⟨g6, 0, none⟩) n6 c6).ownBlock = (Value.slice (some ⟨wr.heap.size, 0, none⟩) 1 1).ownBlock ∨ (Value.slice (some ⟨g6, 0, none⟩) n6 c6).ownBlock = some Y.heap.size) (l : Laid Y wr o) : St6 w g k c xs g6 c6 n6 ys w6 := by
  have hlt := (hw.lt g rfl).2
  refine ⟨(l.own hw).kept hg (.inr ?_), ho, ?_⟩
  · simp [Value.ownBlock]; omega
  · exact (l.below hb hb.size).grown hg (by rw [l.size]; have := hb.size; omega) (fun b h => by simp [Value.ownBlock] at h; have := hb.size; omega)
theorem own_two (w : World) {base : Nat} (hb : base ≤ w.heap.size) : ((w.alloc (.cells #[.int .i64 0] 3)).alloc (.cells #[] 3)).ownsRow base 3 1 (.slice (some ⟨w.heap.size + 1, 0, none⟩) 0 0) 0 [] := by
  have h := own_made (w.alloc (.cells #[.int .i64 0] 3)) [] 3 (base := base) (n := 0) (by simp; omega) rfl (Nat.zero_le _)
  simpa using h
theorem one_cells (w : World) (q : Nat) (o : Obj) : ∀ j u, [Value.int .i64 0][j]? = some u → (World.alloc (World.alloc (World.drewN w q) (.cells #[.int .i64 0] 3)) o).cell? ((⟨w.heap.size, 0, none⟩ : Addr).add j) = some u := by
  intro j u hu
  cases j with
  | zero =>
    rw [Addr.add_lit]
    have h := ((Whole.made (World.drewN w q) 3 #[.int .i64 0]).alloc o).read 0
    simp at hu
    subst hu
    exact h
  | succ j => simp at hu
theorem below_two {w wr : World} (h : Below w.heap.size w wr) (q : Nat) (o o' : Obj) : Below w.heap.size w (World.alloc (World.alloc (World.drewN wr q) o) o') := by
  have h1 := below_drewN h q
  exact (h1.alloc h1.size o).alloc (Nat.le_trans h1.size (by simp)) o'
structure St44 (w w6 : World) (g6 c6 n6 : Nat) (ys : List Value) (v44 : Value) (m : Nat) (zs : List Value) (w44 : World) : Prop where
  row : w44.ownsRow w.heap.size 3 1 v44 m zs
  src : w44.ownsRow w.heap.size 3 1 (.slice (some ⟨g6, 0, none⟩) n6 c6) n6 ys
  below : Below w.heap.size w w44
theorem step44 {w Y w6 w44 : World} {g k c g6 c6 n6 m : Nat} {xs ys zs : List Value} {v44 : Value} {o : Obj} (h : St6 w g k c xs g6 c6 n6 ys w6)
    (hg : Y.grownBy w44 (Value.slice (some ⟨w6.heap.size, 0, none⟩) 0 0).ownBlock) (ho : w44.ownsRow w.heap.size 3 1 v44 m zs)
    (hat : v44.ownBlock = (Value.slice (some ⟨w6.heap.size, 0, none⟩) 0 0).ownBlock ∨ v44.ownBlock = some Y.heap.size) (l : Laid Y w6 o) : St44 w w6 g6 c6 n6 ys v44 m zs w44 := by
  have hlt := (h.row.lt g6 rfl).2
  refine ⟨ho, (l.own h.row).kept hg (.inr ?_), ?_⟩
  · simp [Value.ownBlock]; omega
  · exact (l.below h.below h.below.size).grown hg (by rw [l.size]; have := h.below.size; omega) (fun b hh => by simp [Value.ownBlock] at hh; have := h.below.size; omega)
theorem St44.below46 {w w6 w44 w46 : World} {g6 c6 n6 m : Nat} {ys zs : List Value} {v44 : Value} (h : St44 w w6 g6 c6 n6 ys v44 m zs w44) (hg : w44.grownBy w46 v44.ownBlock) : Below w.heap.size w w46 :=
  h.below.grown hg h.below.size (fun b hh => (h.row.lt b hh).1)
theorem done46 {w46 : World} {base e : Nat} {v : Value} {n m : Nat} {xs ys zs : List Value} (h : w46.ownsRow base e 1 v n (([] ++ xs) ++ ys)) (he : zs = xs ++ ys) (hn : n = m) : w46.ownsRow base e 1 v m zs := by
  subst hn; rw [he]; simpa using h
set_option maxHeartbeats 3200000 in
theorem rOrder_any (A : Option Addr) (cap : Nat) (L : List ByteArray) (w : World) (hr : Reads w A (strCs L)) (hmax : L.length ≤ 1000000) :
    Calls Try.prog 10 #[.slice A L.length cap] w (ROrd (bsOf L) L.length w) := by
  obtain ⟨n, hn⟩ : ∃ n, L.length = n := ⟨_, rfl⟩
  have HA := Lib.hid (fun O (h : OrdTo (bsOf L) n O) => OrdTo.all (N := bsOf L) (O := O) (by rw [bsOf_len, hn]; exact h))
  have HN := Lib.hid hn
  have HR := Lib.hid hr
  rw [hn] at hmax ⊢
  clear hn hr
  obtain ⟨i1, hi1, hy00, hys, hyb⟩ := info_parts intInfo
  go_enter Try.func10, Try.ntmps10
  go_wp2
  go_loopw [3, 4] (fun v i wr => ∃ (k : Nat) (O : List Nat), k ≤ n ∧ i = .int .i64 k ∧ OrdTo (bsOf L) k O ∧ wr.ownsRow w.heap.size 3 1 v k (natCells O) ∧ (k = 0 → v = .slice none 0 0) ∧ Below w.heap.size w wr) (fun _ i _ => n - (intOf i).toNat)
  case atStart => exact ⟨0, [], by omega, rfl, OrdTo.zero _, World.ownsRow_nil _ _ _ _, fun _ => rfl, Below.refl _ _⟩
  case round =>
    obtain ⟨k, O, hk, rfl, hO, hw, hnil, hb⟩ := hrel
    by_cases hlt : k < n
    · have hL : k < L.length := by rw [HN.out]; exact hlt
      obtain ⟨x, rfl, hx, hc⟩ := reads_at HR.out hL
      have hck : wr.cell? (x.add k) = some (.string (nmS L k)) := by rw [hb.cell (p := x.add k) (add_lt hx k)]; exact hc
      have HO := Lib.hid hO
      have HB := Lib.hid hb
      clear hc hb hO
      by_cases h0 : 0 < k
      · obtain ⟨g, c, rfl, _, hg⟩ := hw.form h0
        have hkc : k ≤ c := by obtain ⟨A1, c1, e1, e2, _, _⟩ := own_form hw; injection e1 with e3 e4 e5; omega
        have hcell : ∀ j, j < k → wr.cell? ⟨g, j, none⟩ = some (.int .i64 (O.getD j 0 : Nat)) := fun j hj => by
          rw [World.ownsRow.cellAt hw j (by omega)]
          unfold natCells
          rw [List.getElem?_map, List.getD_eq_getElem?_getD, List.getElem?_eq_getElem (by rw [HO.out.len]; exact hj)]
          rfl
        have hcl : ∀ j, j < k → wr.cell? (x.add (O.getD j 0)) = some (.string (nmS L (O.getD j 0))) ∧ O.getD j 0 < n := fun j hj => by
          have hm : O.getD j 0 ∈ O := by
            rw [List.getD_eq_getElem?_getD, List.getElem?_eq_getElem (by rw [HO.out.len]; exact hj)]
            simp
          have hj2 := HO.out.lt hm
          obtain ⟨y, he, hy, hyc⟩ := reads_at HR.out (k := O.getD j 0) (by rw [HN.out]; omega)
          injection he with he
          subst he
          refine ⟨?_, by omega⟩
          rw [HB.out.cell (p := x.add _) (add_lt hx _)]; exact hyc
        have HW := Lib.hid hw
        have HCE := Lib.hid hcell
        have HCL := Lib.hid hcl
        clear hw hnil hcell hcl
        go_wp2_with fail
        go_loopw [5] (fun t wr2 => ∃ (a q : Nat), a ≤ k ∧ t = .int .i64 a ∧ InsTo (bsOf L) O k a ∧ wr2 = wr.drewN q) (fun t _ => (intOf t).toNat)
        case atStart => exact ⟨k, 0, Nat.le_refl _, rfl, by have := InsTo.start (bsOf L) O k; rw [HO.out.len] at this; exact this, rfl⟩
        case round =>
          obtain ⟨a, q, hak0, rfl, hI, rfl⟩ := hrel
          have HI := Lib.hid hI
          clear hI
          have hcell := HO.out
          by_cases hz : a = 0
          · have HZ := Lib.hid hz
            have hd : decide (0 < (a : Int)) = false := by simp; omega
            have hd2 : decide (0 < a) = false := by simp; omega
            clear hz hcell
            go_wp2_with fail
            go_quiet (fail)
            have hak : a ≤ k := hak0
            have hcf := cut_from g k c a hak hkc
            have hct := cut_to g k c a hak hkc h0
            have hdl : (natCells (O.drop a)).length = (k - a) * 1 := by unfold natCells; rw [List.length_map, List.length_drop, HO.out.len]; omega
            have hdc := fun (Y : World) h => drop_cells (Y := Y) (e := 3) (base := w.heap.size) (g := g) (k := k) (c := c) (a := a) (O := O) h hdl hkc
            obtain ⟨f, hf⟩ : ∃ f, (if c = a then 0 else a) = f := ⟨_, rfl⟩
            simp only [hf] at hcf hdc
            have HDC := Lib.hid hdc
            clear hdc hf
            have htl : (natCells (O.take a)).length = a * 1 := by unfold natCells; rw [List.length_map, List.length_take, HO.out.len]; omega
            have hput := HO.out.put (a := a) (by rw [HO.out.len]; exact hak) HI.out (.inl HZ.out)
            have HP := Lib.hid hput
            have HNE := Lib.hid (natCells_put O k a)
            have s1 : k - a ≤ 1000000 := by omega
            have s2 : a ≤ 1000000 := by omega
            clear hput
            go_wp2_with (first
              | (refine wpList_append_own_at _ rfl (.tmp 35) (.tmp 38) 26 rfl w.heap.size 3 i1 _ 1 8 Try.underlying26 hi1 hy00 hys hyb rfl (by decide) (.slice (some ⟨wr.heap.size, 0, none⟩) 1 1) 1 [.int .i64 (k : Int)] rfl (own_heap (w' := World.alloc (World.drewN wr _) _) (own_made wr [.int .i64 (k : Int)] 3 HB.out.size rfl (Nat.le_of_ble_eq_true rfl)) rfl) ⟨g, f, none⟩ (k - a) (c - a) (natCells (O.drop a)) rfl hdl (HDC.out _ (Laid.own ⟨rfl, rfl, rfl, rfl⟩ HW.out)) (nat_one _) (by unfold maxLen; omega) (by omega) (Laid.ge ⟨rfl, rfl, rfl, rfl⟩ HB.out.size) ?_; intro v6 w6 ho6 hg6 hz6 hat6; obtain ⟨g6, c6, hv6, hge6, hlt6⟩ := ho6.form (by omega); subst hv6; have H6 := Lib.hid (step6 HB.out HW.out hg6 ho6 hat6 ⟨rfl, rfl, rfl, rfl⟩); clear ho6 hg6 hz6 hat6)
              | (refine wpList_append_own_at _ rfl (.tmp 40) (.tmp 43) 26 rfl w.heap.size 3 i1 _ 1 8 Try.underlying26 hi1 hy00 hys hyb rfl (by decide) (.slice (some ⟨w6.heap.size, 0, none⟩) 0 0) 0 [] rfl (own_made w6 [] 3 H6.out.below.size rfl (Nat.zero_le _)) ⟨g, 0, none⟩ a c (natCells (O.take a)) rfl htl (take_cells (Laid.own ⟨rfl, rfl, rfl, rfl⟩ H6.out.out) hak) (nat_one _) (by unfold maxLen; omega) (by omega) (Laid.ge ⟨rfl, rfl, rfl, rfl⟩ H6.out.below.size) ?_; intro v44 w44 ho44 hg44 hz44 hat44; have H44 := Lib.hid (step44 H6.out hg44 ho44 hat44 ⟨rfl, rfl, rfl, rfl⟩); clear ho44 hg44 hz44 hat44)
              | (refine wpList_append_own_at _ rfl (.tmp 44) (.tmp 45) 26 rfl w.heap.size 3 i1 _ 1 8 Try.underlying26 hi1 hy00 hys hyb rfl (by decide) v44 (0 + a) ([] ++ natCells (O.take a)) rfl H44.out.row ⟨g6, 0, none⟩ (1 + (k - a)) c6 ([.int .i64 (k : Int)] ++ natCells (O.drop a)) rfl (by rw [List.length_append, hdl]; simp) (H44.out.src.cells rfl) (nat_cons _ _) (by unfold maxLen; omega) (by omega) H44.out.below.size ?_; intro v46 w46 ho46 hg46 hz46 hat46; have H46 := Lib.hid (And.intro ho46 hg46); clear ho46 hg46 hz46 hat46))
            go_roundw
            case rel => exact ⟨k + 1, putIn O k a, by omega, by go_num, HP.out, done46 (H46.out.1) HNE.out (by omega), fun h => by omega, H44.out.below46 H46.out.2⟩
            case measure => simp [intOf]; omega
          · obtain ⟨b, hab⟩ : ∃ b, a = b + 1 := ⟨a - 1, by omega⟩
            obtain ⟨cx, cb⟩ := HCL.out b (by omega)
            have co := HCE.out b (by omega)
            have hbk : b < k := by omega
            have hd2 : decide (0 < a) = true := by simp; omega
            have HGT := Lib.hid (gt_less (nmS L k).toList (nmS L (O.getD b 0)).toList)
            have HLT := Lib.hid (bytesLess_lt (nmS L k).toList (nmS L (O.getD b 0)).toList)
            have HNA := Lib.hid (And.intro (nmS_at L k) (nmS_at L (O.getD b 0)))
            obtain ⟨p, hp⟩ : ∃ p, O.getD b 0 = p := ⟨_, rfl⟩
            have HPP := Lib.hid hp
            have HAB := Lib.hid hab
            have hsub : (a : Int) - 1 = (b : Int) := by omega
            have ha1 : (1 : Int) ≤ (a : Int) := by omega
            rw [hp] at cx cb co HGT HLT HNA
            clear hp hcell hz hab
            generalize nmS L k = y at *
            generalize nmS L p = z at *
            have HSTOP : Op.bytesLess y.toList z.toList = false → Hid (a = 0 ∨ ¬ nmAt (bsOf L) k < nmAt (bsOf L) (O.getD (a - 1) 0)) := fun h => Lib.hid (.inr (by
              rw [HAB.out, Nat.add_sub_cancel, HPP.out, HNA.out.1, HNA.out.2]
              rw [HLT.out, decide_eq_false_iff_not] at h
              exact h))
            cases h1 : Op.bytesLess z.toList y.toList with
            | true =>
              have HS := HSTOP (by rw [HGT.out, h1]; rfl)
              clear HSTOP
              go_wp2_with fail
              go_quiet (fail)
              have hak : a ≤ k := hak0
              have hcf := cut_from g k c a hak hkc
              have hct := cut_to g k c a hak hkc h0
              have hdl : (natCells (O.drop a)).length = (k - a) * 1 := by unfold natCells; rw [List.length_map, List.length_drop, HO.out.len]; omega
              have hdc := fun (Y : World) h => drop_cells (Y := Y) (e := 3) (base := w.heap.size) (g := g) (k := k) (c := c) (a := a) (O := O) h hdl hkc
              obtain ⟨f, hf⟩ : ∃ f, (if c = a then 0 else a) = f := ⟨_, rfl⟩
              simp only [hf] at hcf hdc
              have HDC := Lib.hid hdc
              clear hdc hf
              have htl : (natCells (O.take a)).length = a * 1 := by unfold natCells; rw [List.length_map, List.length_take, HO.out.len]; omega
              have hput := HO.out.put (a := a) (by rw [HO.out.len]; exact hak) HI.out HS.out
              have HP := Lib.hid hput
              have HNE := Lib.hid (natCells_put O k a)
              have s1 : k - a ≤ 1000000 := by omega
              have s2 : a ≤ 1000000 := by omega
              clear hput
              go_wp2_with (first
                | (refine wpList_append_own_at _ rfl (.tmp 35) (.tmp 38) 26 rfl w.heap.size 3 i1 _ 1 8 Try.underlying26 hi1 hy00 hys hyb rfl (by decide) (.slice (some ⟨wr.heap.size, 0, none⟩) 1 1) 1 [.int .i64 (k : Int)] rfl (own_heap (w' := World.alloc (World.drewN wr _) _) (own_made wr [.int .i64 (k : Int)] 3 HB.out.size rfl (Nat.le_of_ble_eq_true rfl)) rfl) ⟨g, f, none⟩ (k - a) (c - a) (natCells (O.drop a)) rfl hdl (HDC.out _ (Laid.own ⟨rfl, rfl, rfl, rfl⟩ HW.out)) (nat_one _) (by unfold maxLen; omega) (by omega) (Laid.ge ⟨rfl, rfl, rfl, rfl⟩ HB.out.size) ?_; intro v6 w6 ho6 hg6 hz6 hat6; obtain ⟨g6, c6, hv6, hge6, hlt6⟩ := ho6.form (by omega); subst hv6; have H6 := Lib.hid (step6 HB.out HW.out hg6 ho6 hat6 ⟨rfl, rfl, rfl, rfl⟩); clear ho6 hg6 hz6 hat6)
                | (refine wpList_append_own_at _ rfl (.tmp 40) (.tmp 43) 26 rfl w.heap.size 3 i1 _ 1 8 Try.underlying26 hi1 hy00 hys hyb rfl (by decide) (.slice (some ⟨w6.heap.size, 0, none⟩) 0 0) 0 [] rfl (own_made w6 [] 3 H6.out.below.size rfl (Nat.zero_le _)) ⟨g, 0, none⟩ a c (natCells (O.take a)) rfl htl (take_cells (Laid.own ⟨rfl, rfl, rfl, rfl⟩ H6.out.out) hak) (nat_one _) (by unfold maxLen; omega) (by omega) (Laid.ge ⟨rfl, rfl, rfl, rfl⟩ H6.out.below.size) ?_; intro v44 w44 ho44 hg44 hz44 hat44; have H44 := Lib.hid (step44 H6.out hg44 ho44 hat44 ⟨rfl, rfl, rfl, rfl⟩); clear ho44 hg44 hz44 hat44)
                | (refine wpList_append_own_at _ rfl (.tmp 44) (.tmp 45) 26 rfl w.heap.size 3 i1 _ 1 8 Try.underlying26 hi1 hy00 hys hyb rfl (by decide) v44 (0 + a) ([] ++ natCells (O.take a)) rfl H44.out.row ⟨g6, 0, none⟩ (1 + (k - a)) c6 ([.int .i64 (k : Int)] ++ natCells (O.drop a)) rfl (by rw [List.length_append, hdl]; simp) (H44.out.src.cells rfl) (nat_cons _ _) (by unfold maxLen; omega) (by omega) H44.out.below.size ?_; intro v46 w46 ho46 hg46 hz46 hat46; have H46 := Lib.hid (And.intro ho46 hg46); clear ho46 hg46 hz46 hat46))
              go_roundw
              case rel => exact ⟨k + 1, putIn O k a, by omega, by go_num, HP.out, done46 (H46.out.1) HNE.out (by omega), fun h => by omega, H44.out.below46 H46.out.2⟩
              case measure => simp [intOf]; omega
            | false =>
              cases h2 : (z.toList == y.toList) with
              | true =>
                have HS := HSTOP (by rw [HGT.out, h1, h2]; rfl)
                clear HSTOP
                go_wp2_with fail
                go_quiet (fail)
                have hak : a ≤ k := hak0
                have hcf := cut_from g k c a hak hkc
                have hct := cut_to g k c a hak hkc h0
                have hdl : (natCells (O.drop a)).length = (k - a) * 1 := by unfold natCells; rw [List.length_map, List.length_drop, HO.out.len]; omega
                have hdc := fun (Y : World) h => drop_cells (Y := Y) (e := 3) (base := w.heap.size) (g := g) (k := k) (c := c) (a := a) (O := O) h hdl hkc
                obtain ⟨f, hf⟩ : ∃ f, (if c = a then 0 else a) = f := ⟨_, rfl⟩
                simp only [hf] at hcf hdc
                have HDC := Lib.hid hdc
                clear hdc hf
                have htl : (natCells (O.take a)).length = a * 1 := by unfold natCells; rw [List.length_map, List.length_take, HO.out.len]; omega
                have hput := HO.out.put (a := a) (by rw [HO.out.len]; exact hak) HI.out HS.out
                have HP := Lib.hid hput
                have HNE := Lib.hid (natCells_put O k a)
                have s1 : k - a ≤ 1000000 := by omega
                have s2 : a ≤ 1000000 := by omega
                clear hput
                go_wp2_with (first
                  | (refine wpList_append_own_at _ rfl (.tmp 35) (.tmp 38) 26 rfl w.heap.size 3 i1 _ 1 8 Try.underlying26 hi1 hy00 hys hyb rfl (by decide) (.slice (some ⟨wr.heap.size, 0, none⟩) 1 1) 1 [.int .i64 (k : Int)] rfl (own_heap (w' := World.alloc (World.drewN wr _) _) (own_made wr [.int .i64 (k : Int)] 3 HB.out.size rfl (Nat.le_of_ble_eq_true rfl)) rfl) ⟨g, f, none⟩ (k - a) (c - a) (natCells (O.drop a)) rfl hdl (HDC.out _ (Laid.own ⟨rfl, rfl, rfl, rfl⟩ HW.out)) (nat_one _) (by unfold maxLen; omega) (by omega) (Laid.ge ⟨rfl, rfl, rfl, rfl⟩ HB.out.size) ?_; intro v6 w6 ho6 hg6 hz6 hat6; obtain ⟨g6, c6, hv6, hge6, hlt6⟩ := ho6.form (by omega); subst hv6; have H6 := Lib.hid (step6 HB.out HW.out hg6 ho6 hat6 ⟨rfl, rfl, rfl, rfl⟩); clear ho6 hg6 hz6 hat6)
                  | (refine wpList_append_own_at _ rfl (.tmp 40) (.tmp 43) 26 rfl w.heap.size 3 i1 _ 1 8 Try.underlying26 hi1 hy00 hys hyb rfl (by decide) (.slice (some ⟨w6.heap.size, 0, none⟩) 0 0) 0 [] rfl (own_made w6 [] 3 H6.out.below.size rfl (Nat.zero_le _)) ⟨g, 0, none⟩ a c (natCells (O.take a)) rfl htl (take_cells (Laid.own ⟨rfl, rfl, rfl, rfl⟩ H6.out.out) hak) (nat_one _) (by unfold maxLen; omega) (by omega) (Laid.ge ⟨rfl, rfl, rfl, rfl⟩ H6.out.below.size) ?_; intro v44 w44 ho44 hg44 hz44 hat44; have H44 := Lib.hid (step44 H6.out hg44 ho44 hat44 ⟨rfl, rfl, rfl, rfl⟩); clear ho44 hg44 hz44 hat44)
                  | (refine wpList_append_own_at _ rfl (.tmp 44) (.tmp 45) 26 rfl w.heap.size 3 i1 _ 1 8 Try.underlying26 hi1 hy00 hys hyb rfl (by decide) v44 (0 + a) ([] ++ natCells (O.take a)) rfl H44.out.row ⟨g6, 0, none⟩ (1 + (k - a)) c6 ([.int .i64 (k : Int)] ++ natCells (O.drop a)) rfl (by rw [List.length_append, hdl]; simp) (H44.out.src.cells rfl) (nat_cons _ _) (by unfold maxLen; omega) (by omega) H44.out.below.size ?_; intro v46 w46 ho46 hg46 hz46 hat46; have H46 := Lib.hid (And.intro ho46 hg46); clear ho46 hg46 hz46 hat46))
                go_roundw
                case rel => exact ⟨k + 1, putIn O k a, by omega, by go_num, HP.out, done46 (H46.out.1) HNE.out (by omega), fun h => by omega, H44.out.below46 H46.out.2⟩
                case measure => simp [intOf]; omega
              | false =>
                have HIN := Lib.hid (InsTo.next (N := bsOf L) (O := O) (i := k) (a := b) (by rw [← HAB.out]; exact HI.out) (by
                  have h := HGT.out
                  rw [h1, h2, HLT.out] at h
                  rw [HPP.out, HNA.out.1, HNA.out.2]
                  simpa using h))
                clear HSTOP
                go_wp2_with fail
                go_quiet (fail)
                go_wp2
                go_roundw
                case rel => exact ⟨b, _, by omega, rfl, HIN.out, rfl⟩
                case measure => simp [intOf]; omega
      · obtain rfl : k = 0 := by omega
        obtain rfl := hnil rfl
        have hO0 : O = [] := List.eq_nil_of_length_eq_zero HO.out.len
        subst hO0
        have HP := Lib.hid (HO.out.put (a := 0) (Nat.le_refl _) (InsTo.start _ _ _) (.inl rfl))
        have hbs := HB.out.size
        clear hw hnil
        go_wp2_with fail
        refine wp_loop_rounds 1 ?_
        rw [rounds_succ]
        go_wp2_with fail
        go_quiet (fail)
        go_wp2_with (first
          | (refine wpList_append_own_none rfl (.tmp 35) (.tmp 38) 26 rfl w.heap.size 3 i1 1 Try.underlying26 hi1 (.slice (some ⟨wr.heap.size, 0, none⟩) 1 1) 1 [.int .i64 0] rfl (own_heap (w' := World.alloc (World.drewN wr _) _) (own_made wr [.int .i64 0] 3 HB.out.size rfl (Nat.le_of_ble_eq_true rfl)) rfl) rfl ?_)
          | (refine wpList_append_own_none rfl (.tmp 40) (.tmp 43) 26 rfl w.heap.size 3 i1 1 Try.underlying26 hi1 (.slice (some ⟨wr.heap.size + 1, 0, none⟩) 0 0) 0 [] rfl (own_heap (w' := World.alloc (World.alloc (World.drewN wr _) _) _) (own_two wr HB.out.size) rfl) rfl ?_)
          | (refine wpList_append_own_at _ rfl (.tmp 44) (.tmp 45) 26 rfl w.heap.size 3 i1 _ 1 8 Try.underlying26 hi1 hy00 hys hyb rfl (by decide) (.slice (some ⟨wr.heap.size + 1, 0, none⟩) 0 0) 0 [] rfl (own_heap (w' := World.alloc (World.alloc (World.drewN wr _) _) _) (own_two wr HB.out.size) rfl) ⟨wr.heap.size, 0, none⟩ 1 1 [.int .i64 0] rfl rfl (one_cells wr _ _) (nat_one [0]) (Nat.le_of_ble_eq_true rfl) (Nat.le_of_ble_eq_true rfl) (by simp; omega) ?_; intro v46 w46 ho46 hg46 hz46 hat46; have H46 := Lib.hid (And.intro ho46 hg46); clear ho46 hg46 hz46 hat46))
        go_roundw
        case rel =>
          refine ⟨1, putIn [] 0 0, by omega, by go_num, HP.out, H46.out.1, fun h => by omega, ?_⟩
          exact Below.grown (below_two HB.out _ _ _) H46.out.2 (by simp; omega) (fun b hh => by simp [Value.ownBlock] at hh; omega)
        case measure => simp [intOf]; omega
    · obtain rfl : k = n := by omega
      have HW := Lib.hid hw
      have HO := Lib.hid hO
      have HB := Lib.hid hb
      clear hw hO hb hnil
      go_wp2
      go_ret
      exact ⟨_, rfl, by rw [← HA.out O HO.out]; exact HW.out, HB.out⟩
end Go.Proofs.Ytjioemjgndnofaa
