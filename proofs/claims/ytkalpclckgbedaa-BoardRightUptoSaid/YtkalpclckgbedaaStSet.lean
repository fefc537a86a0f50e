/-
  The document's answer: a card put in another one's place. Conditions: at most 1000 cards a row.
-/
import Derived.Test.YtkalpclckgbedaaStSpoil
import Derived.Test.YtkalpclckgbedaaStEmpty
namespace Go.Proofs.Ytkalpclckgbedaa
open Go.ChangeShapes Go.WideShapes Go.ChangeAt Go.RowKit
set_option linter.unusedVariables false
set_option linter.unusedSimpArgs false
set_option maxRecDepth 20000
set_option maxHeartbeats 3200000
theorem insC_split (l : List Ins) (n : Nat) (hn : n < l.length) : insC l = insC (l.take n) ++ (l[n]).cells ++ insC (l.drop (n + 1)) := by
  have e : l = l.take n ++ [l[n]] ++ l.drop (n + 1) := by
    rw [← List.take_succ_eq_append_getElem hn, List.take_append_drop]
  conv => lhs; rw [e]
  rw [insC_app, insC_app]
  simp [insC]
theorem insC_set (l : List Ins) (n : Nat) (hn : n < l.length) (x : Ins) : insC (l.set n x) = insC (l.take n) ++ x.cells ++ insC (l.drop (n + 1)) := by
  rw [List.set_eq_take_append_cons_drop, if_pos hn]
  rw [show l.take n ++ x :: l.drop (n + 1) = l.take n ++ [x] ++ l.drop (n + 1) by simp, insC_app, insC_app]
  simp [insC]
theorem ownI_set {w : World} {B g c n : Nat} {l : List Ins} (h : OwnI w B (.slice (some ⟨g, 0, none⟩) l.length c) l) (hn : n < l.length) :
    ∃ pre old post : List Value, Whole w g 50 (pre ++ old ++ post).toArray ∧ pre.length = n * 7 ∧ old.length = 7 ∧ ∀ (x : Ins) (w' : World), Whole w' g 50 (pre ++ x.cells ++ post).toArray → OwnI w' B (.slice (some ⟨g, 0, none⟩) l.length c) (l.set n x) := by
  obtain ⟨hl, h⟩ := h
  rcases h with ⟨h, _⟩ | ⟨g', cap, cur, h, hb, hw, h1, h2, h3, h4⟩
  · cases h
  · injection h with h5 h6 h7
    injection h5 with h5
    injection h5 with h5
    subst h5 h7
    obtain ⟨pre, old, post, rfl, hp, ho⟩ := cut7 (cur := cur) hn (by omega)
    refine ⟨pre, old, post, hw, hp, ho, fun x w' hW => ?_⟩
    have hs : (pre ++ old ++ post).length = c * 7 := by simpa using h3
    simp only [List.length_append] at hs
    have hxl : x.cells.length = 7 := rfl
    have e4 : (pre ++ old ++ post).take (l.length * 7) = insC l := by simpa using h4
    rw [insC_split l n hn] at e4
    have lt : (insC (l.take n)).length = n * 7 := by rw [insC_len, List.length_take]; omega
    have a1 : pre = insC (l.take n) := by
      have := congrArg (List.take (n * 7)) e4
      rw [List.take_take, Nat.min_eq_left (by omega), List.append_assoc, List.take_left' hp, List.append_assoc, List.take_left' lt] at this
      exact this
    have a2 : post.take (l.length * 7 - n * 7 - 7) = insC (l.drop (n + 1)) := by
      have := congrArg (List.drop (n * 7 + 7)) e4
      rw [List.drop_take, List.drop_left' (by simp only [List.length_append]; omega), List.drop_left' (by simp only [List.length_append, lt]; rfl)] at this
      rw [← this]
      first | rfl | (congr 1; omega)
    refine ⟨by rw [insC_len, List.length_set], .inr ⟨g, c, (pre ++ x.cells ++ post).toArray, by rw [List.length_set], hb, hW, by rw [List.length_set]; exact h1, h2, by simp only [List.size_toArray, List.length_append]; omega, ?_⟩⟩
    rw [List.length_set, insC_set l n hn x, List.toList_toArray, List.take_append, List.take_of_length_le (by simp only [List.length_append]; omega)]
    rw [a1]
    congr 1
    rw [← a2]
    congr 1
    simp only [List.length_append, lt, hxl]
    omega
theorem own_some7 {w : World} {B : Nat} {v : Value} {l : List Ins} (h : OwnI w B v l) (h0 : 0 < l.length) : ∃ g c, v = .slice (some ⟨g, 0, none⟩) l.length c ∧ B ≤ g ∧ g < w.heap.size := by
  rcases h.2 with ⟨_, e⟩ | ⟨g, c, cur, rfl, hb, hw, _⟩
  · omega
  · exact ⟨g, c, rfl, hb, (show Whole w g 50 cur from hw).inside⟩
def setRow (L : Nat → List Ins) (q : Nat) (l : List Ins) (i : Nat) : List Ins := if i = q then l else L i
def setL (L : Nat → List Ins) (x : Ins) : Nat → List Ins := match placeO L x.id with
  | some (q, n) => setRow L q ((L q).set n x)
  | none => L
theorem rows_upd {w w' : World} {r : Nat → Value} {L : Nat → List Ins} {q : Nat} {v : Value} {l : List Ins} (h : Rows12 w r L) (hb : Below w.heap.size w w') (hv : RowR w' v l) : Rows12 w' (upd r q v) (setRow L q l) := by
  intro i hi
  unfold upd setRow
  by_cases e : i = q
  · rw [if_pos e, if_pos e]; exact hv
  · rw [if_neg e, if_neg e]; exact (h i hi).below hb
theorem rSet (c : Sc) (r : Nat → Value) (L : Nat → List Ins) (x : Ins) (w : World) (hR : Rows12 w r L) (hsz : ∀ q, q < 12 → (L q).length ≤ 1000) :
    Calls Try.prog 26 #[stV c r, x.vals] w fun e w' => ∃ r', e = .returned (.tuple #[stV c r', .bool (placeO L x.id).isSome]) ∧ Rows12 w' r' (setL L x) ∧ Below w.heap.size w w' := by
  obtain ⟨W3, hW3⟩ : ∃ W3, ((w.alloc (.cells (stC c r).toArray 33)).alloc (.cells x.cells.toArray 50)).alloc (.cells zeroSt.toArray 33) = W3 := ⟨_, rfl⟩
  have x1 : Whole W3 w.heap.size 33 (stC c r).toArray := by rw [← hW3]; exact ((Whole.made w _ _).alloc _).alloc _
  have x2 : Whole W3 (w.heap.size + 1) 50 x.cells.toArray := by
    have h2 := Whole.made (w.alloc (.cells (stC c r).toArray 33)) 50 x.cells.toArray
    rw [World.size_alloc] at h2
    rw [← hW3]; exact h2.alloc _
  have x3 : Whole W3 (w.heap.size + 2) 33 zeroSt.toArray := by
    have h2 := Whole.made ((w.alloc (.cells (stC c r).toArray 33)).alloc (.cells x.cells.toArray 50)) 33 zeroSt.toArray
    rw [World.size_alloc, World.size_alloc, hW3] at h2
    exact h2
  have xb : Below w.heap.size w W3 := by rw [← hW3]; exact (((Below.refl _ _).alloc (Nat.le_refl _) _).alloc (by simp) _).alloc (by simp; omega) _
  have zs : w.heap.size + 3 = W3.heap.size := by rw [← hW3]; simp
  have KP := rPlace c r L x.id W3 (fun q hq => (hR q hq).below xb)
  have hv : stV c r = .agg (stC c r).toArray := rfl
  rw [hv] at KP ⊢
  have X1 := Lib.hid x1
  have X2 := Lib.hid x2
  have X3 := Lib.hid x3
  have XB := Lib.hid xb
  have XZ := Lib.hid zs
  have HR := Lib.hid hR
  have c0 : W3.cell? ⟨w.heap.size + 1, 0, none⟩ = some (.int .i64 x.id) := by rw [x2.read]; rfl
  have hlen : (stC c r).length = 30 := rfl
  have hx0 : x.cells[0]? = some (.int .i64 x.id) := rfl
  have HSI : Hid ((Try.prog.info? 33).map (·.size) = some 30) := Lib.hid (by kernel_rfl)
  have HL : Hid ((stC c r).length = 30) := Lib.hid hlen
  have HO : Hid (∀ v ∈ stC c r, v.oneCell' = true) := Lib.hid (stC_one hR.one)
  have HXO : Hid (∀ v ∈ x.cells, v.oneCell' = true) := Lib.hid (by intro v hv; simp only [Ins.cells, List.mem_cons, List.not_mem_nil, or_false] at hv; rcases hv with rfl | rfl | rfl | rfl | rfl | rfl | rfl <;> rfl)
  unfold setL Ins.vals
  cases hp : placeO L x.id with
  | none =>
    rw [hp] at KP
    have KP := Lib.hid KP
    clear hR hv x1 x2 x3 xb zs hp hlen
    subst hW3
    have HST : Hid (stV c r = .agg (stC c r).toArray) := Lib.hid rfl
    generalize stC c r = S at *
    go_enter Try.func26, Try.ntmps26
    go_wp2_with (first
      | ((with_reducible refine at_ld 11 ?_); refine wpList_loadW 33 (.tmp 2) 33 w.heap.size S X1.out (by kernel_rfl) (by rw [HL.out]; exact HSI.out) rfl rfl rfl ?_)
      | (go_at_call 11; refine KP.out.mono ?_; rintro e w3 ⟨rfl, b3⟩; have Y1 := Lib.hid (X1.out.below b3 X1.out.inside); have Y3 := Lib.hid (X3.out.below b3 X3.out.inside); have B3 := Lib.hid (bthen XB.out b3); unfold placeV; clear b3)
      | ((with_reducible refine at_ld 20 ?_); refine wpList_loadW 33 (.tmp 2) 33 w.heap.size S Y1.out (by kernel_rfl) (by rw [HL.out]; exact HSI.out) rfl rfl rfl ?_)
      | ((with_reducible refine at_st 4 20 ?_); refine wpList_storeW 33 (.tmp 4) (.tmp 20) 33 (w.heap.size + 2) zeroSt S Y3.out HL.out (by rw [HL.out]; exact HSI.out) HO.out rfl rfl rfl rfl rfl ?_; intro w9 p9; have P9 := Lib.hid p9; clear p9))
    refine bodyPost_ret (results_ct Try.results26 _ _ (w.heap.size + 2) 33 S.toArray _ (.bool false) rfl rfl P9.out.whole Try.underlying33 rfl (by rw [List.size_toArray, HL.out]; exact HSI.out)) rfl ?_
    have bb := B3.out.trans (P9.out.keeps.below B3.out.size (fun k h => by have h3 : k = w.heap.size + 2 := h; omega))
    exact ⟨r, by rw [HST.out]; rfl, fun q hq => (HR.out q hq).below bb, bb⟩
  | some p =>
    obtain ⟨q, n⟩ := p
    rw [hp] at KP
    obtain ⟨hq6, hnl, hid⟩ := placeO_some hp
    rw [placeV_at n (k := q % 2) (i := q / 2) rfl rfl] at KP
    obtain ⟨k, hk⟩ : ∃ k, q % 2 = k := ⟨_, rfl⟩
    obtain ⟨i, hi⟩ : ∃ i, q / 2 = i := ⟨_, rfl⟩
    rw [hk, hi] at KP
    have hqe : q = 2 * i + k := by omega
    have hi3 : i < 3 := by omega
    have hk2 : k < 2 := by omega
    have KP := Lib.hid KP
    have HLQ : Hid ((L q).length ≤ 1000) := Lib.hid (hsz q (by omega))
    have HROW : Hid (∀ y, Below w.heap.size w y → RowR y (r q) (L q)) := Lib.hid fun y hy => (hR q (by omega)).below hy
    have HSD : Hid (∀ y, Whole y w.heap.size 33 (stC c r).toArray → y.cell? ⟨w.heap.size, 1 + i * 4 + 2 + k, none⟩ = some (r q)) := Lib.hid fun y hy => by rw [st_side hy i k hi3 hk2, ← hqe]
    have HST : Hid (∀ v, (stC c r).toArray.setIfInBounds (1 + i * 4 + 2 + k) v = (stC c (upd r q v)).toArray) := Lib.hid fun v => by rw [hqe]; exact stC_side c r i k hi3 hk2 v
    obtain ⟨A, cp, e, _, _, _, hml⟩ := hR q (by omega)
    have HE := Lib.hid e
    have ln : (n : Int) < ((L q).length : Int) := by omega
    have lk : (k : Int) < 2 := by omega
    have li : (i : Int) < 3 := by omega
    have lk0 : ¬ (k : Int) < 0 := by omega
    have HNL := Lib.hid hnl
    have HZ : Hid (0 + (L q).length ≤ 2199023255552) := Lib.hid (by have := HLQ.out; omega)
    have hbn : (L q).length ≤ 1000 := HLQ.out
    clear hR hv x1 x2 x3 xb zs hp hlen e hid hk hi hqe hsz hml hnl
    subst hW3
    obtain ⟨nq, hnq⟩ : ∃ m, (L q).length = m := ⟨_, rfl⟩
    have HNQ := Lib.hid hnq
    rw [hnq] at ln hbn
    rw [hnq] at HE
    clear hnq
    have RW : Hid (∀ y, Below w.heap.size w y → RowR y (.slice A nq cp) (L q)) := Lib.hid fun y hy => by rw [← HE.out]; exact HROW.out y hy
    have KB : Hid (∀ (x y : World) (o : Obj) (v : Value) (n : Nat) (xs : List Value) (H : Nat), x.heap.size = H → (x.alloc o).grownBy y (some H) → Below x.heap.size x y) := Lib.hid fun x y o v n xs H hH g => by
      subst hH
      exact (((Keeps.refl (fun k => x.heap.size ≤ k) x).alloc o).grown g (fun k hk => by injection hk with hk; exact Nat.le_of_eq hk)).below (Nat.le_refl _) (fun k h => h)
    go_enter Try.func26, Try.ntmps26
    go_wp2_with (first
      | ((with_reducible refine at_ld 11 ?_); refine wpList_loadW 33 (.tmp 2) 33 w.heap.size (stC c r) X1.out (by kernel_rfl) (by rw [HL.out]; exact HSI.out) rfl rfl rfl ?_)
      | (go_at_call 11; refine KP.out.mono ?_; rintro e w3 ⟨rfl, b3⟩; have Y1 := Lib.hid (X1.out.below b3 X1.out.inside); have Y2 := Lib.hid (X2.out.below b3 X2.out.inside); have Y3 := Lib.hid (X3.out.below b3 X3.out.inside); have B3 := Lib.hid (bthen XB.out b3); have sd := HSD.out w3 Y1.out; rw [HE.out] at sd; have lt3 : w.heap.size + 2 < w3.heap.size := Y3.out.inside; have lt1 : w.heap.size < w3.heap.size := (by omega); clear b3)
      | (at_builtin; refine wpList_cat _ (.tmp 21) (.tmp 28) (w.heap.size + 3) _ (.slice A nq cp) 0 [] (L q) (ownI_at (by omega) rfl) (RW.out _ (B3.out.alloc B3.out.size _)) HZ.out (by simp; omega) rfl rfl rfl rfl ?_; intro v4 w4 o4 g4 _
         have O4 : OwnI w4 (w.heap.size + 3) v4 (L q) := (by unfold OwnI; simpa using o4)
         have b4 := KB.out w3 w4 _ v4 0 [] _ rfl g4
         obtain ⟨g, c4, rfl, hg1, hg2⟩ := own_some7 O4 (Nat.lt_of_le_of_lt (Nat.zero_le _) HNL.out)
         obtain ⟨pre, old, post, hW, hpre, hold, hset⟩ := ownI_set O4 HNL.out
         have HW := Lib.hid hW
         have HP1 := Lib.hid hpre
         have HP2 := Lib.hid hold
         have HSET := Lib.hid hset
         have Z1 := Lib.hid (Y1.out.below b4 Y1.out.inside)
         have Z2 := Lib.hid (Y2.out.below b4 Y2.out.inside)
         have Z3 := Lib.hid (Y3.out.below b4 Y3.out.inside)
         have B4 := Lib.hid (bthen B3.out b4)
         rw [HNQ.out]
         rw [HNQ.out] at HSET
         clear o4 g4 O4 b4 hW hpre hold hset sd)
      | ((with_reducible refine at_ld 32 ?_); refine wpList_loadW 50 (.tmp 3) 50 (w.heap.size + 1) x.cells Z2.out (by kernel_rfl) (by kernel_rfl) rfl rfl rfl ?_)
      | ((with_reducible refine at_st 33 32 ?_); refine wpList_storeP 50 (.tmp 33) (.tmp 32) 50 g (n * 7) pre old post x.cells HW.out HP2.out.symm HP1.out.symm (by kernel_rfl) HXO.out rfl rfl rfl rfl rfl ?_; intro w5 p5
         have O5 := Lib.hid (HSET.out x w5 p5.whole)
         have U1 := Lib.hid (p5.keeps.whole Z1.out (fun e => by have e2 : w.heap.size = g := e; omega))
         have U3 := Lib.hid (p5.keeps.whole Z3.out (fun e => by have e2 : w.heap.size + 2 = g := e; omega))
         have B5 := Lib.hid (B4.out.trans (p5.keeps.below B4.out.size (fun k h => by have e2 : k = g := h; omega)))
         have sd := HSD.out w5 U1.out
         rw [HE.out] at sd
         have fd : w5.frozen? ⟨w.heap.size, 1 + i * 4 + 2 + k, none⟩ = false := U1.out.thawed _
         clear p5)
      | ((with_reducible refine at_ld 41 ?_); refine wpList_loadW 33 (.tmp 2) 33 w.heap.size (stC c (upd r q (.slice (some ⟨g, 0, none⟩) nq c4))) (by rw [← HST.out]; exact U1.out.write _ _) (by kernel_rfl) (by rw [show (stC c (upd r q (.slice (some ⟨g, 0, none⟩) nq c4))).length = 30 from rfl]; exact HSI.out) rfl rfl rfl ?_)
      | ((with_reducible refine at_st 4 41 ?_); refine wpList_storeW 33 (.tmp 4) (.tmp 41) 33 (w.heap.size + 2) zeroSt (stC c (upd r q (.slice (some ⟨g, 0, none⟩) nq c4))) ((Keeps.setCell (S := fun k => k = w.heap.size) (Keeps.refl _ w5) (p := ⟨w.heap.size, 1 + i * 4 + 2 + k, none⟩) rfl _).whole U3.out (fun e => by have e2 : w.heap.size + 2 = w.heap.size := e; omega)) rfl (by rw [show (stC c (upd r q (.slice (some ⟨g, 0, none⟩) nq c4))).length = 30 from rfl]; exact HSI.out) (stC_one fun j hj => by unfold upd; split; rfl; exact HR.out.one j hj) rfl rfl rfl rfl rfl ?_; intro w9 p9; have P9 := Lib.hid p9; clear p9))
    refine bodyPost_ret (results_ct Try.results26 _ _ (w.heap.size + 2) 33 (stC c (upd r q (.slice (some ⟨g, 0, none⟩) nq c4))).toArray _ (.bool true) rfl rfl P9.out.whole Try.underlying33 rfl (by kernel_rfl)) rfl ?_
    have k1 : Keeps (fun k => k = w.heap.size) w5 (w5.setCell ⟨w.heap.size, 1 + i * 4 + 2 + k, none⟩ (.slice (some ⟨g, 0, none⟩) nq c4)) := Keeps.setCell (S := fun k => k = w.heap.size) (Keeps.refl _ w5) (p := ⟨w.heap.size, 1 + i * 4 + 2 + k, none⟩) rfl _
    have b6 := B5.out.trans (k1.below B5.out.size (fun k h => Nat.le_of_eq (Eq.symm h)))
    have bb := b6.trans (P9.out.keeps.below b6.size (fun k h => by have h3 : k = w.heap.size + 2 := h; omega))
    have o6 := P9.out.keeps.owns (k1.owns O5.out (fun j h1 h2 => by have := (World.ownsRow.lt O5.out j h1).1; have e2 : j = w.heap.size := h2; omega)) (fun j h1 h2 => by have := (World.ownsRow.lt O5.out j h1).1; have e2 : j = w.heap.size + 2 := h2; omega)
    exact ⟨upd r q _, rfl, rows_upd HR.out bb (OwnI.row o6), bb⟩
end Go.Proofs.Ytkalpclckgbedaa
