/-
  Texts SynMem, CurNil, SynP. No conditions but those that each theorem names.
-/
import Derived.Deep.MidRow
import Derived.Deep.RegionHeld3
import Derived.Test.YtgfkimknnbpmnaaQC16
namespace Go.Proofs.Ytgfkimknnbpmnaa
open Go Go.RowKit
set_option linter.unusedSimpArgs false
set_option linter.unusedVariables false
inductive Ds where
 | nil
 | int (n : Int) (r : Ds)
 | str (s : ByteArray) (r : Ds)
 | row (n : Nat) (cs r : Ds)
def Ds.app : Ds → Ds → Ds
 | .nil, y => y
 | .int n r, y => .int n (r.app y)
 | .str s r, y => .str s (r.app y)
 | .row n cs r, y => .row n cs (r.app y)
def Ds.len : Ds → Nat
 | .nil => 0
 | .int _ r => r.len + 1
 | .str _ r => r.len + 1
 | .row _ _ r => r.len + 1
theorem Ds.app_nil : ∀ x : Ds, x.app .nil = x
 | .nil => rfl
 | .int n r => by rw [Ds.app, Ds.app_nil r]
 | .str s r => by rw [Ds.app, Ds.app_nil r]
 | .row n cs r => by rw [Ds.app, Ds.app_nil r]
theorem Ds.app_assoc (y z : Ds) : ∀ x : Ds, (x.app y).app z = x.app (y.app z)
 | .nil => rfl
 | .int n r => by rw [Ds.app, Ds.app, Ds.app, Ds.app_assoc y z r]
 | .str s r => by rw [Ds.app, Ds.app, Ds.app, Ds.app_assoc y z r]
 | .row n cs r => by rw [Ds.app, Ds.app, Ds.app, Ds.app_assoc y z r]
theorem Ds.len_app (y : Ds) : ∀ x : Ds, (x.app y).len = x.len + y.len
 | .nil => by rw [Ds.app, Ds.len]; omega
 | .int n r => by rw [Ds.app, Ds.len, Ds.len, Ds.len_app y r]; omega
 | .str s r => by rw [Ds.app, Ds.len, Ds.len, Ds.len_app y r]; omega
 | .row n cs r => by rw [Ds.app, Ds.len, Ds.len, Ds.len_app y r]; omega
def Within (N : Nat → Prop) (w : World) (A : Option Addr) (xs : List Value) : Prop :=
 xs = [] ∨ ∃ g, A = some ⟨g, 0, none⟩ ∧ N g ∧ g < w.heap.size ∧ ∀ j, j < xs.length → w.cell? ⟨g, j, none⟩ = xs[j]?
def Ze (N : Nat → Prop) (w : World) : Ds → List Value → Prop
 | .nil, vs => vs = []
 | .int n r, vs => ∃ t, vs = .int .i64 n :: t ∧ Ze N w r t
 | .str s r, vs => ∃ t, vs = .string s :: t ∧ Ze N w r t
 | .row n cs r, vs => ∃ A c xs t, vs = .slice A n c :: t ∧ n ≤ 9223372036854775807 ∧ Within N w A xs ∧ Ze N w cs xs ∧ Ze N w r t
theorem Within.keeps {N M S : Nat → Prop} {w w' : World} {A : Option Addr} {xs : List Value} (h : Within N w A xs) (hk : Zm S w w') (hs : ∀ k, k < w.heap.size → N k → ¬ S k ∧ M k) : Within M w' A xs := by
 rcases h with h | ⟨g, e, h1, h2, h3⟩
 · exact .inl h
 · exact .inr ⟨g, e, (hs g h2 h1).2, Nat.lt_of_lt_of_le h2 hk.size, fun j hj => (World.cell?_of_block (a := ⟨g, j, none⟩) (hk.block g h2 (hs g h2 h1).1)).trans (h3 j hj)⟩
theorem Ze.keeps {N M S : Nat → Prop} {w w' : World} (hk : Zm S w w') (hs : ∀ k, k < w.heap.size → N k → ¬ S k ∧ M k) : ∀ {ds : Ds} {vs : List Value}, Ze N w ds vs → Ze M w' ds vs
 | .nil, vs, h => h
 | .int n r, vs, ⟨t, e, h⟩ => ⟨t, e, Ze.keeps hk hs h⟩
 | .str s r, vs, ⟨t, e, h⟩ => ⟨t, e, Ze.keeps hk hs h⟩
 | .row n cs r, vs, ⟨A, c, xs, t, e, hn, h1, h2, h3⟩ => ⟨A, c, xs, t, e, hn, h1.keeps hk hs, Ze.keeps hk hs h2, Ze.keeps hk hs h3⟩
theorem Ze.mono {N M : Nat → Prop} {w : World} {ds : Ds} {vs : List Value} (h : Ze N w ds vs) (hs : ∀ k, k < w.heap.size → N k → M k) : Ze M w ds vs :=
 h.keeps (S := fun _ => False) (Zm.refl _ w) fun k hk hn => ⟨id, hs k hk hn⟩
theorem Ze.below {N : Nat → Prop} {w w' : World} {ds : Ds} {vs : List Value} (h : Ze N w ds vs) (hb : Below w.heap.size w w') : Ze N w' ds vs :=
 h.keeps (S := fun _ => False) (Zm.of_below hb) fun k _ hn => ⟨id, hn⟩
theorem Ze.len {N : Nat → Prop} {w : World} : ∀ {ds : Ds} {vs : List Value}, Ze N w ds vs → vs.length = ds.len
 | .nil, vs, h => by cases h; rfl
 | .int n r, vs, ⟨t, e, h⟩ => by rw [e, List.length_cons, Ze.len h]; rfl
 | .str s r, vs, ⟨t, e, h⟩ => by rw [e, List.length_cons, Ze.len h]; rfl
 | .row n cs r, vs, ⟨A, c, xs, t, e, _, _, _, h⟩ => by rw [e, List.length_cons, Ze.len h]; rfl
theorem Ze.one {N : Nat → Prop} {w : World} : ∀ {ds : Ds} {vs : List Value}, Ze N w ds vs → ∀ v ∈ vs, v.oneCell' = true
 | .nil, vs, h => by cases h; intro v hv; cases hv
 | .int n r, vs, ⟨t, e, h⟩ => by rw [e]; intro v hv; rcases List.mem_cons.1 hv with rfl | hv; rfl; exact Ze.one h v hv
 | .str s r, vs, ⟨t, e, h⟩ => by rw [e]; intro v hv; rcases List.mem_cons.1 hv with rfl | hv; rfl; exact Ze.one h v hv
 | .row n cs r, vs, ⟨A, c, xs, t, e, _, _, _, h⟩ => by rw [e]; intro v hv; rcases List.mem_cons.1 hv with rfl | hv; rfl; exact Ze.one h v hv
theorem Ze.app {N : Nat → Prop} {w : World} {y : Ds} {us : List Value} (hy : Ze N w y us) : ∀ {x : Ds} {vs : List Value}, Ze N w x vs → Ze N w (x.app y) (vs ++ us)
 | .nil, vs, h => by cases h; exact hy
 | .int n r, vs, ⟨t, e, h⟩ => ⟨t ++ us, by rw [e]; rfl, Ze.app hy h⟩
 | .str s r, vs, ⟨t, e, h⟩ => ⟨t ++ us, by rw [e]; rfl, Ze.app hy h⟩
 | .row n cs r, vs, ⟨A, c, xs, t, e, hn, h1, h2, h⟩ => ⟨A, c, xs, t ++ us, by rw [e]; rfl, hn, h1, h2, Ze.app hy h⟩
theorem Ze.split {N : Nat → Prop} {w : World} {y : Ds} : ∀ {x : Ds} {vs : List Value}, Ze N w (x.app y) vs → ∃ a b, vs = a ++ b ∧ Ze N w x a ∧ Ze N w y b
 | .nil, vs, h => ⟨[], vs, rfl, rfl, h⟩
 | .int n r, vs, ⟨t, e, h⟩ => by obtain ⟨a, b, e2, h1, h2⟩ := Ze.split (x := r) h; exact ⟨.int .i64 n :: a, b, by rw [e, e2]; rfl, ⟨a, rfl, h1⟩, h2⟩
 | .str s r, vs, ⟨t, e, h⟩ => by obtain ⟨a, b, e2, h1, h2⟩ := Ze.split (x := r) h; exact ⟨.string s :: a, b, by rw [e, e2]; rfl, ⟨a, rfl, h1⟩, h2⟩
 | .row n cs r, vs, ⟨A, c, xs, t, e, hn, g1, g2, h⟩ => by obtain ⟨a, b, e2, h1, h2⟩ := Ze.split (x := r) h; exact ⟨.slice A n c :: a, b, by rw [e, e2]; rfl, ⟨A, c, xs, a, rfl, hn, g1, g2, h1⟩, h2⟩
theorem own_within {w : World} {base : Nat} {e : TypeId} {size : Nat} {v : Value} {n : Nat} {xs : List Value} (h : w.ownsRow base e size v n xs) :
   ∃ A c, v = .slice A n c ∧ n ≤ 9223372036854775807 ∧ Within (fun k => base ≤ k) w A xs := by
 obtain ⟨hl, h⟩ := id h
 rcases h with ⟨rfl, rfl⟩ | ⟨g, cap, cur, rfl, hb, hw, h1, h2, h3, h4⟩
 · refine ⟨none, 0, rfl, by omega, .inl ?_⟩
   rw [Nat.zero_mul] at hl
   exact List.length_eq_zero_iff.1 hl
 · unfold maxLen at h2
   refine ⟨some ⟨g, 0, none⟩, cap, rfl, by omega, .inr ⟨g, rfl, hb, Zb.inside (cs := cur) hw, fun j hj => ?_⟩⟩
   rw [Zb.read (cs := cur) hw j, ← h4, List.getElem?_take]
   have hj' : j < n * size := by rw [← hl]; exact hj
   rw [if_pos hj', Array.getElem?_toList]
theorem Ze.rowOf {N : Nat → Prop} {w : World} {base : Nat} {e : TypeId} {size : Nat} {v : Value} {n : Nat} {xs : List Value} {ds : Ds} (h : w.ownsRow base e size v n xs) (hb : ∀ k, base ≤ k → N k) (hd : Ze N w ds xs) :
   Ze N w (.row n ds .nil) [v] := by
 obtain ⟨A, c, rfl, hn, hw⟩ := own_within h
 exact ⟨A, c, xs, [], rfl, hn, hw.keeps (S := fun _ => False) (Zm.refl _ w) (fun k _ hk => ⟨id, hb k hk⟩), hd, rfl⟩
theorem Zb.range {w : World} {g : Nat} {t : TypeId} {a b c : List Value} (h : Zb w g t (a ++ b ++ c).toArray) : w.rangeAt g a.length b := fun j v hv => by
 have hj : j < b.length := (List.getElem?_eq_some_iff.1 hv).1
 rw [h.read, List.getElem?_toArray, List.getElem?_append_left (by rw [List.length_append]; omega), List.getElem?_append_right (by omega), show a.length + j - a.length = j from by omega, hv]
theorem Zb.there {w : World} {g : Nat} {t : TypeId} {a b c : List Value} (h : Zb w g t (a ++ b ++ c).toArray) : w.there g a.length b.length := fun j hj =>
 ⟨h.range.isSome j hj, h.thawed _⟩
theorem Zb.setCells {g : Nat} {t : TypeId} (c : List Value) : ∀ (y b a : List Value) (w : World), y.length = b.length → Zb w g t (a ++ b ++ c).toArray → Zb (w.setCells g a.length y) g t (a ++ y ++ c).toArray
 | [], b, a, w, hl, h => by
   have : b = [] := List.length_eq_zero_iff.1 (by rw [← hl]; rfl)
   rw [this] at h
   exact h
 | v :: y, [], a, w, hl, h => by cases hl
 | v :: y, u :: b, a, w, hl, h => by
   rw [World.setCells]
   have h1 := h.write a.length v
   have e : (a ++ u :: b ++ c).toArray.setIfInBounds a.length v = ((a ++ [v]) ++ b ++ c).toArray := by
     simp [List.setIfInBounds_toArray, List.set_append_right]
   rw [e] at h1
   have h2 := Zb.setCells c y b (a ++ [v]) _ (by rw [List.length_cons, List.length_cons] at hl; omega) h1
   rw [List.length_append] at h2
   have e2 : (a ++ [v] ++ y ++ c).toArray = (a ++ v :: y ++ c).toArray := by simp
   rw [e2] at h2
   exact h2
theorem Zm.setCells {S : Nat → Prop} {g : Nat} (hg : S g) : ∀ (y : List Value) (o : Nat) {a b : World}, Zm S a b → Zm S a (b.setCells g o y)
 | [], _, _, _, h => h
 | v :: y, o, a, b, h => Zm.setCells hg y (o + 1) (h.setCell (p := ⟨g, o, none⟩) hg v)
theorem Ye {P : Program} {ops : Array Oper} {rest : List Oper} {op : Op} {t : TypeId} {ps : String} {af : Array Edge} {gd : Option (Nat × Bool)} {a : Act} {w : World} {Q : Exit → Act → World → Prop} (d : Nat)
   (h : wpList P ops Q (⟨some d, op, t, ps, af, gd⟩ :: rest) a w) : wpList P ops Q (⟨some d, op, t, ps, af, gd⟩ :: rest) a w := h
theorem Zq {P : Program} {ops : Array Oper} {rest : List Oper} {T : TypeId} {t : TypeId} {ps : String} {af : Array Edge} {gd : Option (Nat × Bool)} {a : Act} {w : World} {Q : Exit → Act → World → Prop} (x y : Nat)
   (h : wpList P ops Q (⟨none, .store T (.tmp x) (.tmp y), t, ps, af, gd⟩ :: rest) a w) : wpList P ops Q (⟨none, .store T (.tmp x) (.tmp y), t, ps, af, gd⟩ :: rest) a w := h
structure Put (w w' : World) (g : Nat) (t : TypeId) (vs : List Value) : Prop where
 whole : Zb w' g t vs.toArray
 keeps : Zm (fun k => k = g) w w'
theorem Xi {P : Program} {ops : Array Oper} {rest : List Oper} {o : Oper} {a : Act} {w : World} {Q : Exit → Act → World → Prop} (T : TypeId) (x y : Operand) (t : TypeId) (g n : Nat) (pre old post ys : List Value) (hW : Zb w g t (pre ++ old ++ post).toArray) (hl : ys.length = old.length)
   (hpn : n = pre.length) (hi : (P.info? T).map (·.size) = some ys.length) (h1 : ∀ v ∈ ys, v.oneCell' = true)
   (hgd : o.guard = none) (ho : o.op = .store T x y) (hd : o.dst = none)
   (hx : a.eval x = .pointer (some ⟨g, n, none⟩)) (hy : a.eval y = .agg ys.toArray)
   (h : ∀ w', Put w w' g t (pre ++ ys ++ post) → wpList P ops Q rest a w') : wpList P ops Q (o :: rest) a w := by
 subst hpn
 have ht : w.there g pre.length ys.length := by rw [hl]; exact hW.there
 refine wpList_store_mid hgd T x y ho g pre.length ys.toArray hx hy (by simpa using ht) (by simpa using hi) (all_oneCell_toArray h1) ?_
 rw [hd]
 exact h _ ⟨Zb.setCells post ys old pre w hl hW, Zm.setCells (S := fun k => k = g) rfl _ _ (Zm.refl _ _)⟩
theorem Zf {P : Program} {ops : Array Oper} {rest : List Oper} {o : Oper} {a : Act} {w : World} {Q : Exit → Act → World → Prop} (T : TypeId) (x y : Operand) (t : TypeId) (g : Nat) (old ys : List Value) (hW : Zb w g t old.toArray) (hl : ys.length = old.length)
   (hi : (P.info? T).map (·.size) = some ys.length) (h1 : ∀ v ∈ ys, v.oneCell' = true)
   (hgd : o.guard = none) (ho : o.op = .store T x y) (hd : o.dst = none)
   (hx : a.eval x = .pointer (some ⟨g, 0, none⟩)) (hy : a.eval y = .agg ys.toArray)
   (h : ∀ w', Put w w' g t ys → wpList P ops Q rest a w') : wpList P ops Q (o :: rest) a w :=
 Xi T x y t g 0 [] old [] ys (by simpa using hW) hl rfl hi h1 hgd ho hd hx hy fun w' p => h w' ⟨by simpa using p.whole, p.keeps⟩
theorem Zn {P : Program} {ops : Array Oper} {rest : List Oper} {o : Oper} {a : Act} {w : World} {Q : Exit → Act → World → Prop} (T : TypeId) (x y : Operand) (t : TypeId) (g n : Nat) (pre : List Value) (old v : Value) (post : List Value) (hW : Zb w g t (pre ++ [old] ++ post).toArray)
   (hpn : n = pre.length) (hi : (P.info? T).map (·.size) = some 1) (h1 : v.oneCell' = true)
   (hgd : o.guard = none) (ho : o.op = .store T x y) (hd : o.dst = none)
   (hx : a.eval x = .pointer (some ⟨g, n, none⟩)) (hy : a.eval y = v)
   (h : ∀ w', Put w w' g t (pre ++ [v] ++ post) → wpList P ops Q rest a w') : wpList P ops Q (o :: rest) a w := by
 subst hpn
 refine wpList_plain hgd fun K hK => ?_
 have hc : v.cells = #[v] := by cases v <;> first | rfl | cases h1
 have hst : (storeVar T ⟨g, pre.length, none⟩ v).run P w = .ok () (w.setCells g pre.length [v]) := by
   have := run_storeCells_cells (P := P) g pre.length [v] 0 w (fun j hj => by simpa using (hW.there j hj).1) (fun j hj => by simpa using (hW.there j hj).2) (fun u hu => by simp at hu; rw [hu]; exact h1)
   cases hq : P.info? T with
   | none => simp [hq] at hi
   | some i =>
     have hs : i.size = 1 := by simpa [hq] using hi
     simp only [Nat.add_zero] at this
     simp [storeVar, sizeOf, typeInfo, hq, hc, hs, this]
 unfold Oper.wp execOp
 simp only [ho, hx, hy, Instr.storeAt, Instr.sureAddr, Sem.run_bind, Sem.run_pure, Result.andThen_ok, hst]
 have hh := hK _ _ (h _ ⟨Zb.setCells post [v] [old] pre w rfl hW, Zm.setCells (S := fun k => k = g) rfl _ _ (Zm.refl _ _)⟩)
 have e : a.put o.dst undef = a := by rw [hd]; rfl
 show K (a.put o.dst undef) _
 rw [e]
 exact hh
theorem wpList_loadP {P : Program} {ops : Array Oper} {rest : List Oper} {o : Oper} {a : Act} {w : World} {Q : Exit → Act → World → Prop} (T : TypeId) (x : Operand) (t : TypeId) (g n : Nat) (pre vs post : List Value) (hW : Zb w g t (pre ++ vs ++ post).toArray) (hpn : n = pre.length)
   (hu : (P.underlying T).map TypeDesc.isRow = some true) (hi : (P.info? T).map (·.size) = some vs.length)
   (hgd : o.guard = none) (ho : o.op = .load T x) (hx : a.eval x = .pointer (some ⟨g, n, none⟩))
   (h : wpList P ops Q rest (a.put o.dst (.agg vs.toArray)) w) : wpList P ops Q (o :: rest) a w := by
 subst hpn
 obtain ⟨d, hu, hr⟩ := Option.map_eq_some_iff.1 hu
 exact wpList_load_mid hgd T x ho g pre.length hx vs d hW.range hu hr hi h
theorem Zi {P : Program} {ops : Array Oper} {rest : List Oper} {o : Oper} {a : Act} {w : World} {Q : Exit → Act → World → Prop} (T : TypeId) (x : Operand) (t : TypeId) (g : Nat) (vs : List Value) (hW : Zb w g t vs.toArray)
   (hu : (P.underlying T).map TypeDesc.isRow = some true) (hi : (P.info? T).map (·.size) = some vs.length)
   (hgd : o.guard = none) (ho : o.op = .load T x) (hx : a.eval x = .pointer (some ⟨g, 0, none⟩))
   (h : wpList P ops Q rest (a.put o.dst (.agg vs.toArray)) w) : wpList P ops Q (o :: rest) a w :=
 wpList_loadP T x t g 0 [] vs [] (by simpa using hW) rfl hu hi hgd ho hx h
theorem Xq {P : Program} {w : World} {ops : Array Oper} {rest : List Oper} {o : Oper} {a : Act} {Q : Exit → Act → World → Prop} (s x : Operand) (t e : TypeId) (sz bytes : Nat) (z : Value)
   (ht : P.underlying t = some (.slice e)) (hinfo : (P.info? e).map (fun i => (i.zero, i.size, i.bytes)) = some (some z, sz, bytes)) (hzs : z.cells.size = sz) (hpos : 0 < sz) (hby : bytes ≤ 1024)
   (base : Nat) (v : Value) (n : Nat) (xs news : List Value) (hown : w.ownsRow base e sz v n xs) (g : Nat) (hW : Zb w g e news.toArray) (hnl : news.length = sz) (h1 : ∀ u ∈ news, u.oneCell' = true)
   (hn : n ≤ 68719476736) (hbase : base ≤ w.heap.size)
   (hgd : o.guard = none) (ho : o.op = .call { callee := .builtin .append, args := #[s, x], argTypes := #[t, t] }) (hs : a.eval s = v) (hx : a.eval x = .slice (some ⟨g, 0, none⟩) 1 1)
   (h : ∀ v' w', w'.ownsRow base e sz v' (n + 1) (xs ++ news) → w.grownBy w' v.ownBlock → (v'.ownBlock = v.ownBlock ∨ v'.ownBlock = some w.heap.size) → wpList P ops Q rest (a.put o.dst v') w') :
   wpList P ops Q (o :: rest) a w := by
 obtain ⟨i, hi, hz, hsize, hbytes⟩ := info_parts hinfo
 refine wpList_append_own_at w hgd s x t ho base e i z sz bytes ht hi hz hsize hbytes hzs hpos v n xs hs hown ⟨g, 0, none⟩ 1 1 news hx (by rw [hnl]; omega) ?_ h1 (by unfold maxLen; omega) ?_ hbase ?_
 · intro j u hj
   have hr := hW.read j
   have ha : (⟨g, 0, none⟩ : Addr).add j = ⟨g, j, none⟩ := by simp [Addr.add]; omega
   rw [ha, hr, ← hj]; simp
 · have : (n + 1) * bytes ≤ (n + 1) * 1024 := Nat.mul_le_mul_left _ hby
   omega
 · intro v' w' ho' hg _ hat
   exact h v' w' ho' hg hat
theorem Yg {P : Program} {fn : Func} {R : Ending → World → Prop} {a : Act} {w : World} (s T : Nat) (t : TypeId) (g : Nat) (vs : List Value) (hres : fn.results = #[.cell s T]) (hW : Zb w g t vs.toArray)
   (hu : (P.underlying T).map TypeDesc.isRow = some true) (hi : (P.info? T).map (·.size) = some vs.length)
   (hp : a.tmps.getD s undef = .pointer (some ⟨g, 0, none⟩)) (hd : a.defers = []) (hR : R (.returned (.agg vs.toArray)) w) : bodyPost P fn R .ret a w := by
 obtain ⟨d, hu, hr⟩ := Option.map_eq_some_iff.1 hu
 refine bodyPost_ret (v := .agg vs.toArray) ?_ hd hR
 have hl := run_loadVar_mid (P := P) w g 0 T vs d (by have := Zb.range (a := []) (b := vs) (c := []) (by simpa using hW); exact this) hu hr hi
 have hp' : a.tmps[s]?.getD undef = .pointer (some ⟨g, 0, none⟩) := by simpa using hp
 simp [results, hres, hp', hl, asAddr, Sem.run_bind, Sem.run_pure]
end Go.Proofs.Ytgfkimknnbpmnaa
namespace Go.Proofs.Ytgfkimknnbpmnaa
open Go.ChangeShapes Go.WideShapes Go.ChangeAt Go.RowKit
set_option linter.unusedVariables false
set_option linter.unusedSimpArgs false
def Vl : Int × Nat × Nat := (1, 0, 0)
theorem nStands (w : World) : Calls Try.prog 42 #[.pointer none] w fun e w' => e = .returned (.bool false) ∧ w = w' := by
 go_enter Try.func42, Try.ntmps42
 go_wp2
 go_ret
 exact ⟨rfl, rfl⟩
theorem nPeek (w : World) : Calls Try.prog 28 #[.pointer none] w fun e w' => e = .returned (Wo zTok) ∧ Below w.heap.size w w' := by
 go_enter Try.func28, Try.ntmps28
 go_wp2_with (go_at_call 42; refine (nStands _).mono ?_; rintro e w1 ⟨rfl, rfl⟩)
 refine bodyPost_ret (v := Wo zTok) (by simp [results, Try.results28, go_sem, Wo, zTok]) rfl ⟨rfl, ?_⟩
 exact Zc _ _
theorem nHere (w : World) (E : Int) : Calls Try.prog 43 #[.pointer none, .int .i64 E] w fun e w' => e = .returned (Zk Vl) ∧ Below w.heap.size w w' := by
 go_enter Try.func43, Try.ntmps43
 go_wp2
 refine bodyPost_ret (v := Zk Vl) (by simp [results, Try.results43, go_sem, Zk, Vl]) rfl ⟨rfl, ?_⟩
 exact Zc _ _
theorem nIs (w : World) (t : ByteArray) : Calls Try.prog 44 #[.pointer none, .string t] w fun e w' => e = .returned (.bool false) ∧ Below w.heap.size w w' := by
 go_enter Try.func44, Try.ntmps44
 go_wp2_with (go_at_call 28; refine (nPeek _).mono ?_; rintro e w2 ⟨rfl, b2⟩; have B2 := Hh b2; clear b2; simp only [Wo, zTok])
 go_ret
 exact ⟨rfl, B2.out.alloc B2.out.size _⟩
theorem nTake (w : World) (t : ByteArray) : Calls Try.prog 31 #[.pointer none, .string t] w fun e w' => e = .returned (.bool false) ∧ Below w.heap.size w w' := by
 go_enter Try.func31, Try.ntmps31
 go_wp2_with (go_at_call 44; refine (nIs _ _).mono ?_; rintro e w2 ⟨rfl, b2⟩; have B2 := Hh b2; clear b2)
 go_ret
 exact ⟨rfl, B2.out⟩
theorem nWrong (w : World) : Calls Try.prog 30 #[.pointer none] w fun e w' => e = .returned (Zk Vl) ∧ Below w.heap.size w w' := by
 have F := Hh (Zb.made w 26 #[.int .i64 0, .int .i64 0, .int .i64 0])
 have hfd := fun w => tok_field 0 0 0 0 ⟨#[]⟩ w
 go_enter Try.func30, Try.ntmps30
 go_wp2_with (first
 | (go_at_call 28; refine (nPeek _).mono ?_; rintro e w2 ⟨rfl, b2⟩; have W2 := Hh (F.out.below b2 (by simp)); have B2 := Hh (Vi (Zc _ _) b2); clear b2; simp only [Wo, zTok, Int.ofNat_zero, Int.natCast_zero])
 | (go_at_call 43; refine (nHere _ _).mono ?_; rintro e w3 ⟨rfl, b3⟩; have W3 := Hh (W2.out.below b3 W2.out.inside); obtain ⟨k0, k1, k2, f0, f1, f2⟩ := Yj W3.out; have hz := W3.out.inside; have B3 := Hh (Vi B2.out b3); clear b3; simp only [Zk, Vl]))
 have hF := Yj (Zb.set3 W3.out (.int .i64 1) (.int .i64 0) (.int .i64 0))
 refine bodyPost_ret (v := Zk Vl) (by simp [results, Try.results30, go_sem, hF, Zk, Vl]) rfl ⟨rfl, ?_⟩
 exact Below.set3 B3.out (Nat.le_refl _) _ _ _
theorem nWant (w : World) (t : ByteArray) : Calls Try.prog 64 #[.pointer none, .string t] w fun e w' => e = .returned (Zk Vl) ∧ Below w.heap.size w w' := by
 have F := Hh (Zb.made w 26 #[.int .i64 0, .int .i64 0, .int .i64 0])
 go_enter Try.func64, Try.ntmps64
 go_wp2_with (first
 | (go_at_call 31; refine (nTake _ _).mono ?_; rintro e w2 ⟨rfl, b2⟩; have W2 := Hh (F.out.below b2 (by simp)); have B2 := Hh (Vi (Zc _ _) b2); clear b2)
 | (go_at_call 30; refine (nWrong _).mono ?_; rintro e w3 ⟨rfl, b3⟩; have W3 := Hh (W2.out.below b3 W2.out.inside); obtain ⟨k0, k1, k2, f0, f1, f2⟩ := Yj W3.out; have hz := W3.out.inside; have B3 := Hh (Vi B2.out b3); clear b3; simp only [Zk, Vl]))
 have hF := Yj (Zb.set3 W3.out (.int .i64 1) (.int .i64 0) (.int .i64 0))
 refine bodyPost_ret (v := Zk Vl) (by simp [results, Try.results64, go_sem, hF, Zk, Vl]) rfl ⟨rfl, ?_⟩
 exact Below.set3 B3.out (Nat.le_refl _) _ _ _
theorem nKind (w : World) (k : Int) (hk : 0 < k) : Calls Try.prog 63 #[.pointer none, .int .i64 k] w fun e w' => e = .returned (.tuple #[Wo zTok, Zk Vl]) ∧ Below w.heap.size w w' := by
 have T0 := Hh (Two.start w 36 #[.int .i64 0, .string ⟨#[]⟩, .int .i64 0, .int .i64 0, .int .i64 0] 26 #[.int .i64 0, .int .i64 0, .int .i64 0])
 have hfd := fun w => tok_field 0 0 0 0 ⟨#[]⟩ w
 have q0 : ((0 : Int) != k) = true := by rw [bne_iff_ne]; omega
 go_enter Try.func63, Try.ntmps63
 go_wp2_with (first
 | (go_at_call 28; refine (nPeek _).mono ?_; rintro e w2 ⟨rfl, b2⟩; have T2 := Hh (T0.out.next b2); clear b2; simp only [Wo, zTok, Int.ofNat_zero, Int.natCast_zero])
 | (go_at_call 30; refine (nWrong _).mono ?_; rintro e w3 ⟨rfl, b3⟩; have T3 := Hh (T2.out.next b3); obtain ⟨k0, k1, k2, k3, k4, f0, f1, f2, f3, f4⟩ := Vm T3.out.k0; obtain ⟨g0, g1, g2, z0, z1, z2⟩ := Yj T3.out.k1; have hz := T3.out.k1.inside; clear b3; simp only [Zk, Vl]))
 have hFG := two_set T3.out.k0 T3.out.k1 (.int .i64 0) (.string ⟨#[]⟩) (.int .i64 0) (.int .i64 0) (.int .i64 0) (.int .i64 1) (.int .i64 0) (.int .i64 0)
 have hF := Uh hFG.1
 have hG := Yj hFG.2
 refine bodyPost_ret (v := .tuple #[Wo zTok, Zk Vl]) (by simp [results, Try.results63, go_sem, hF, hG, Zk, Vl, zTok, Wo]) rfl ⟨rfl, ?_⟩
 exact Below.set3 (Below.set5 T3.out.below (Nat.le_refl _) _ _ _ _ _) (Nat.le_succ _) _ _ _
theorem nInt (w : World) : Calls Try.prog 50 #[.pointer none] w fun e w' => e = .returned (.tuple #[.int .i64 0, Zk Vl]) ∧ Below w.heap.size w w' := by
 have F := Hh (Zb.made w 26 #[.int .i64 0, .int .i64 0, .int .i64 0])
 go_enter Try.func50, Try.ntmps50
 go_wp2_with (go_at_call 63; refine (nKind _ _ (by decide)).mono ?_; rintro e w3 ⟨rfl, b3⟩; have W0 := Hh (F.out.below b3 (by simp)); obtain ⟨g0, g1, g2, z0, z1, z2⟩ := Yj W0.out; have hz := W0.out.inside; have B3 := Hh (Vi (Zc _ _) b3); clear b3; simp only [Wo, zTok, Zk, Vl])
 go_region
 all_goals
   go_wp2
   have hF := Yj ((((Zb.set3 W0.out (.int .i64 1) (.int .i64 0) (.int .i64 0)).alloc (.cells #[.int .i64 0, .string ⟨#[]⟩, .int .i64 0, .int .i64 0, .int .i64 0] 36)).alloc (.cells #[.int .i64 1, .int .i64 0, .int .i64 0] 26)).drew)
   refine bodyPost_ret (v := .tuple #[.int .i64 0, Zk Vl]) (by simp [results, Try.results50, go_sem, hF, Zk, Vl]) rfl ⟨rfl, ?_⟩
   have hb := Below.set3 B3.out (Nat.le_refl _) (.int .i64 1) (.int .i64 0) (.int .i64 0)
   exact below_drew1 ((hb.alloc hb.size _).alloc (by have := hb.size; simp at this ⊢; omega) _)
theorem nName (w : World) : Calls Try.prog 47 #[.pointer none] w fun e w' => e = .returned (.tuple #[.string ⟨#[]⟩, Zk Vl]) ∧ Below w.heap.size w w' := by
 have F := Hh (Zb.made w 26 #[.int .i64 0, .int .i64 0, .int .i64 0])
 go_enter Try.func47, Try.ntmps47
 go_wp2_with (go_at_call 63; refine (nKind _ _ (by decide)).mono ?_; rintro e w3 ⟨rfl, b3⟩; have W0 := Hh (F.out.below b3 (by simp)); obtain ⟨g0, g1, g2, z0, z1, z2⟩ := Yj W0.out; have hz := W0.out.inside; have B3 := Hh (Vi (Zc _ _) b3); clear b3; simp only [Wo, zTok, Zk, Vl])
 go_region
 all_goals
   go_wp2
   have hF := Yj ((((Zb.set3 W0.out (.int .i64 1) (.int .i64 0) (.int .i64 0)).alloc (.cells #[.int .i64 0, .string ⟨#[]⟩, .int .i64 0, .int .i64 0, .int .i64 0] 36)).alloc (.cells #[.int .i64 1, .int .i64 0, .int .i64 0] 26)).drew)
   refine bodyPost_ret (v := .tuple #[.string ⟨#[]⟩, Zk Vl]) (by simp [results, Try.results47, go_sem, hF, Zk, Vl]) rfl ⟨rfl, ?_⟩
   have hb := Below.set3 B3.out (Nat.le_refl _) (.int .i64 1) (.int .i64 0) (.int .i64 0)
   exact below_drew1 ((hb.alloc hb.size _).alloc (by have := hb.size; simp at this ⊢; omega) _)
theorem nSigned (w : World) : Calls Try.prog 51 #[.pointer none] w fun e w' => e = .returned (.tuple #[.int .i64 0, Zk Vl]) ∧ Below w.heap.size w w' := by
 have F := Hh (Zb.made w 26 #[.int .i64 0, .int .i64 0, .int .i64 0])
 go_enter Try.func51, Try.ntmps51
 go_wp2_with (first
 | (go_at_call 44; refine (nIs _ _).mono ?_; rintro e w2 ⟨rfl, b2⟩; have W2 := Hh (F.out.below b2 (by simp)); have B2 := Hh (Vi (Zc _ _) b2); clear b2)
 | (go_at_call 50; refine (nInt _).mono ?_; rintro e w3 ⟨rfl, b3⟩; have W0 := Hh (W2.out.below b3 W2.out.inside); obtain ⟨g0, g1, g2, z0, z1, z2⟩ := Yj W0.out; have hz := W0.out.inside; have B3 := Hh (Vi B2.out b3); clear b3; simp only [Zk, Vl]))
 have hF := Yj (Zb.set3 W0.out (.int .i64 1) (.int .i64 0) (.int .i64 0))
 refine bodyPost_ret (v := .tuple #[.int .i64 0, Zk Vl]) (by simp [results, Try.results51, go_sem, hF, Zk, Vl]) rfl ⟨rfl, ?_⟩
 exact Below.set3 B3.out (Nat.le_refl _) _ _ _
theorem nDown (w : World) : Calls Try.prog 77 #[.pointer none] w fun e w' => e = .returned (Zk Vl) ∧ Below w.heap.size w w' := by
 have F := Hh (Zb.made w 26 #[.int .i64 0, .int .i64 0, .int .i64 0])
 go_enter Try.func77, Try.ntmps77
 go_wp2_with (first
 | (go_at_call 42; refine (nStands _).mono ?_; rintro e w1 ⟨rfl, rfl⟩)
 | (go_at_call 43; refine (nHere _ _).mono ?_; rintro e w3 ⟨rfl, b3⟩; have W3 := Hh (F.out.below b3 (by simp)); obtain ⟨k0, k1, k2, f0, f1, f2⟩ := Yj W3.out; have hz := W3.out.inside; have B3 := Hh (Vi (Zc _ _) b3); clear b3; simp only [Zk, Vl]))
 have hF := Yj (Zb.set3 W3.out (.int .i64 1) (.int .i64 0) (.int .i64 0))
 refine bodyPost_ret (v := Zk Vl) (by simp [results, Try.results77, go_sem, hF, Zk, Vl]) rfl ⟨rfl, ?_⟩
 exact Below.set3 B3.out (Nat.le_refl _) _ _ _
theorem nUp (w : World) : Calls Try.prog 78 #[.pointer none] w fun e w' => e = .returned (.tuple #[]) ∧ w = w' := by
 go_enter Try.func78, Try.ntmps78
 go_wp2
 go_end0
 exact ⟨rfl, rfl⟩
def Xd (c : Nat) : St → Value
 | .ok _ _ => .pointer (some ⟨c, 0, none⟩)
 | .bad _ => .pointer none
def fltS : St → Int × Nat × Nat
 | .ok _ _ => okF
 | .bad F => F
structure PAt (w : World) (q c r K : Nat) (L : List TokV) (st : St) : Prop where
 whole : Zb w q 82 #[Xd c st, .int .i64 (fltS st).1, .int .i64 ((fltS st).2.1 : Int), .int .i64 ((fltS st).2.2 : Int)]
 cur : ∀ a d, st = .ok a d → q ≠ c ∧ q ≠ r ∧ Xo w c r K L a d
 flt : ∀ F, st = .bad F → F.1 ≠ 0
 cin : c < w.heap.size
 rin : r < w.heap.size
theorem PAt.keeps {w w' : World} {q c r K : Nat} {L : List TokV} {st : St} (h : PAt w q c r K L st) {S : Nat → Prop} (hk : Zm S w w') (hq : ¬ S q) (hc : ¬ S c) (hr : ¬ S r) : PAt w' q c r K L st :=
 ⟨hk.whole h.whole hq, fun a d e => ⟨(h.cur a d e).1, (h.cur a d e).2.1, (h.cur a d e).2.2.keeps hk hc hr⟩, h.flt, Nat.lt_of_lt_of_le h.cin hk.size, Nat.lt_of_lt_of_le h.rin hk.size⟩
theorem PAt.below {w w' : World} {q c r K : Nat} {L : List TokV} {st : St} (h : PAt w q c r K L st) (hb : Below w.heap.size w w') : PAt w' q c r K L st :=
 h.keeps (S := fun _ => False) (Zm.of_below hb) id id id
structure Ya (w w' : World) (q c r K : Nat) (L : List TokV) (st : St) : Prop where
 at_ : PAt w' q c r K L st
 keeps : Zm (fun k => k = q ∨ k = c) w w'
def Zw (w : World) (q c r K : Nat) (L : List TokV) (st : St) (val : Value) (e : Ending) (w' : World) : Prop := e = .returned val ∧ Ya w w' q c r K L st
theorem Ya.start {w : World} {q c r K : Nat} {L : List TokV} {st : St} (h : PAt w q c r K L st) : Ya w w q c r K L st := ⟨h, Zm.refl _ _⟩
theorem Ya.next {w x y : World} {q c r K : Nat} {L : List TokV} {st : St} (m : Ya w x q c r K L st) (hb : Below x.heap.size x y) : Ya w y q c r K L st :=
 ⟨m.at_.below hb, m.keeps.trans (Zm.of_below hb)⟩
theorem Ya.then {w x y : World} {q c r K : Nat} {L : List TokV} {st st' : St} (m : Ya w x q c r K L st) (h : Ya x y q c r K L st') : Ya w y q c r K L st' :=
 ⟨h.at_, m.keeps.trans h.keeps⟩
theorem Ya.on {w x y : World} {q c r K : Nat} {L : List TokV} {st : St} (m : Ya w x q c r K L st) {G : Nat} (hk : Zm (fun k => k = G) x y) (hG : w.heap.size ≤ G) (hq : q < w.heap.size) (hc : c < w.heap.size) (hr : r < w.heap.size) : Ya w y q c r K L st := by
 refine ⟨m.at_.keeps hk (by omega) (by omega) (by omega), ?_⟩
 have h1 : Zm (fun k => (k = q ∨ k = c) ∨ k = G) w x := m.keeps.mono fun k h => .inl h
 have h2 : Zm (fun k => (k = q ∨ k = c) ∨ k = G) x y := hk.mono fun k h => .inr h
 exact (h1.trans h2).inner fun k hk h => by omega
def wrongV (L : List TokV) : St → Int × Nat × Nat
 | .ok a _ => wrF (Zz L a)
 | .bad _ => Vl
def wantV (L : List TokV) (t : ByteArray) : St → Int × Nat × Nat
 | .ok a _ => wantF L a t
 | .bad _ => Vl
def downV (L : List TokV) : St → Int × Nat × Nat
 | .ok a d => downF L a d
 | .bad _ => Vl
def deeperS : St → St
 | .ok a d => .ok a (downD d)
 | .bad F => .bad F
theorem PAt.step {w x : World} {q c r K : Nat} {L : List TokV} {a d b e : Nat} (h : PAt w q c r K L (.ok a d)) (m : Wu w x c r K L b e) : Ya w x q c r K L (.ok b e) := by
 obtain ⟨h1, h2, h3⟩ := h.cur a d rfl
 refine ⟨⟨m.keeps.whole h.whole h1, fun a' d' e' => ?_, fun F e' => (by cases e'), Nat.lt_of_lt_of_le h.cin m.keeps.size, Nat.lt_of_lt_of_le h.rin m.keeps.size⟩, m.keeps.mono fun k hk => .inr hk⟩
 cases e'
 exact ⟨h1, h2, m.at_⟩
theorem xPeek (w : World) (q c r K : Nat) (L : List TokV) (st : St) (h : PAt w q c r K L st) :
   Calls Try.prog 28 #[Xd c st] w fun e w' => e = .returned (Wo (st.tok L)) ∧ Below w.heap.size w w' := by
 cases st with
 | ok a d => exact cPeek w c _ _ _ _ _ _ (h.cur a d rfl).2.2.look
 | bad F => exact nPeek w
theorem xIs (w : World) (q c r K : Nat) (L : List TokV) (st : St) (t : ByteArray) (h : PAt w q c r K L st) :
   Calls Try.prog 44 #[Xd c st, .string t] w fun e w' => e = .returned (.bool (isS L t st)) ∧ Below w.heap.size w w' := by
 cases st with
 | ok a d => exact cIs w c _ _ _ _ _ _ t (h.cur a d rfl).2.2.look
 | bad F => exact nIs w t
theorem xWrong (w : World) (q c r K : Nat) (L : List TokV) (st : St) (h : PAt w q c r K L st) :
   Calls Try.prog 30 #[Xd c st] w fun e w' => e = .returned (Zk (wrongV L st)) ∧ Below w.heap.size w w' := by
 cases st with
 | ok a d => exact cWrong w c _ _ _ _ _ _ (h.cur a d rfl).2.2.look
 | bad F => exact nWrong w
theorem Wc (w : World) (q c r K : Nat) (L : List TokV) (st : St) (t : ByteArray) (h : PAt w q c r K L st) :
   Calls Try.prog 31 #[Xd c st, .string t] w (Zw w q c r K L (Xg L t st) (.bool (isS L t st))) := by
 cases st with
 | ok a d => exact (cTake w c r K L a d t (h.cur a d rfl).2.2).mono fun e w' p => ⟨p.1, h.step p.2⟩
 | bad F => exact (nTake w t).mono fun e w' p => ⟨p.1, (Ya.start h).next p.2⟩
theorem xWant (w : World) (q c r K : Nat) (L : List TokV) (st : St) (t : ByteArray) (h : PAt w q c r K L st) :
   Calls Try.prog 64 #[Xd c st, .string t] w (Zw w q c r K L (Xg L t st) (Zk (wantV L t st))) := by
 cases st with
 | ok a d => exact (cWant w c r K L a d t (h.cur a d rfl).2.2).mono fun e w' p => ⟨p.1, h.step p.2⟩
 | bad F => exact (nWant w t).mono fun e w' p => ⟨p.1, (Ya.start h).next p.2⟩
theorem xDown (w : World) (q c r K : Nat) (L : List TokV) (st : St) (h : PAt w q c r K L st) :
   Calls Try.prog 77 #[Xd c st] w (Zw w q c r K L (deeperS st) (Zk (downV L st))) := by
 cases st with
 | ok a d => exact (cDown w c r K L a d (h.cur a d rfl).2.2).mono fun e w' p => ⟨p.1, h.step p.2⟩
 | bad F => exact (nDown w).mono fun e w' p => ⟨p.1, (Ya.start h).next p.2⟩
theorem xUp (w : World) (q c r K : Nat) (L : List TokV) (st : St) (h : PAt w q c r K L st) :
   Calls Try.prog 78 #[Xd c st] w (Zw w q c r K L (upS st) (.tuple #[])) := by
 cases st with
 | ok a d => exact (cUp w c r K L a d (h.cur a d rfl).2.2).mono fun e w' p => ⟨p.1, h.step p.2⟩
 | bad F => exact (nUp w).mono fun e w' p => ⟨p.1, by obtain ⟨_, rfl⟩ := p; exact Ya.start h⟩
theorem PAt.cell {w : World} {q c r K : Nat} {L : List TokV} {st : St} (h : PAt w q c r K L st) : w.cell? ⟨q, 0, none⟩ = some (Xd c st) := h.whole.read 0
theorem xNote (w : World) (q c r K : Nat) (L : List TokV) (st : St) (F : Int × Nat × Nat) (h : PAt w q c r K L st) :
   Calls Try.prog 29 #[.pointer (some ⟨q, 0, none⟩), Zk F] w (Zw w q c r K L (Vc F st) (.tuple #[])) := by
 obtain ⟨f0, f1, f2⟩ := F
 have nb := Zc w (.cells #[.int .i64 f0, .int .i64 (f1 : Int), .int .i64 (f2 : Int)] 26)
 have h1 := h.below nb
 have hc := h1.cell
 have HM := Hh ((Ya.start h).next nb)
 have H := Hh h
 have H1 := Hh h1
 clear h h1 nb
 unfold Zk
 cases st with
 | bad G =>
   have hc' : (w.alloc (.cells #[.int .i64 f0, .int .i64 (f1 : Int), .int .i64 (f2 : Int)] 26)).cell? ⟨q, 0, none⟩ = some (.pointer none) := hc
   clear hc
   go_enter Try.func29, Try.ntmps29
   go_wp2
   go_end0
   exact ⟨rfl, HM.out⟩
 | ok a d =>
   have hc' : (w.alloc (.cells #[.int .i64 f0, .int .i64 (f1 : Int), .int .i64 (f2 : Int)] 26)).cell? ⟨q, 0, none⟩ = some (.pointer (some ⟨c, 0, none⟩)) := hc
   clear hc
   by_cases hz : f0 = 0
   · subst hz
     have hn : Vc (0, f1, f2) (.ok a d) = .ok a d := by simp [Vc]
     rw [hn]
     clear hn
     go_enter Try.func29, Try.ntmps29
     go_wp2
     go_end0
     exact ⟨rfl, HM.out⟩
   · have hn : Vc (f0, f1, f2) (.ok a d) = .bad (f0, f1, f2) := if_neg hz
     rw [hn]
     have q1 : (f0 != 0) = true := by rw [bne_iff_ne]; exact hz
     have z0 := H1.out.whole.thawed 0
     have z1 := H1.out.whole.thawed 1
     have z2 := H1.out.whole.thawed 2
     have z3 := H1.out.whole.thawed 3
     have y1 := H1.out.whole.read 1
     have y2 := H1.out.whole.read 2
     have y3 := H1.out.whole.read 3
     have HZ := Hh hz
     clear hn hz
     go_enter Try.func29, Try.ntmps29
     go_wp2
     go_end0
     refine ⟨rfl, ⟨⟨?_, fun _ _ e => (by cases e), fun F e => (by cases e; exact HZ.out), ?_, ?_⟩, ?_⟩⟩
     · exact (((H1.out.whole.write 1 (.int .i64 f0)).write 2 (.int .i64 (f1 : Int))).write 3 (.int .i64 (f2 : Int))).write 0 (.pointer none)
     · have := H1.out.cin; simpa [World.setCell] using this
     · have := H1.out.rin; simpa [World.setCell] using this
     · exact (((HM.out.keeps.setCell (p := ⟨q, 1, none⟩) (.inl rfl) _).setCell (p := ⟨q, 2, none⟩) (.inl rfl) _).setCell (p := ⟨q, 3, none⟩) (.inl rfl) _).setCell (p := ⟨q, 0, none⟩) (.inl rfl) _
theorem want_note (L : List TokV) (t : ByteArray) (st : St) : Vc (wantV L t st) (Xg L t st) = Yu L t st := by
 cases st with
 | ok a d =>
   unfold Yu
   show Vc (wantF L a t) (.ok (Uk L a t) d) = if isT (Zz L a) t = true then .ok (Uk L a t) d else .bad (wrF (Zz L a))
   unfold wantF Uk
   by_cases h : isT (Zz L a) t = true
   · rw [if_pos h, if_pos h, if_pos h]; rfl
   · rw [if_neg h, if_neg h, if_neg h]; exact if_neg (wrF_ne _)
 | bad F => rfl
theorem wrong_note (L : List TokV) (st : St) : Vc (wrongV L st) st = wrongS L st := by
 cases st with
 | ok a d => exact if_neg (wrF_ne _)
 | bad F => rfl
theorem xwant (w : World) (q c r K : Nat) (L : List TokV) (st : St) (t : ByteArray) (h : PAt w q c r K L st) :
   Calls Try.prog 48 #[.pointer (some ⟨q, 0, none⟩), .string t] w (Zw w q c r K L (Yu L t st) (.tuple #[])) := by
 have hc := h.cell
 have H := Hh h
 rw [← want_note]
 generalize hv : wantV L t st = v
 have hw : ∀ w, PAt w q c r K L st → Calls Try.prog 64 #[Xd c st, .string t] w (Zw w q c r K L (Xg L t st) (Zk v)) := fun w h => by rw [← hv]; exact xWant w q c r K L st t h
 clear h hv
 go_enter Try.func48, Try.ntmps48
 go_wp2_with (first
 | (go_at_call 64; refine (hw _ H.out).mono ?_; rintro e w1 ⟨rfl, m1⟩; have M1 := Hh m1; clear m1)
 | (go_at_call 29; refine (xNote _ q c r K L _ v M1.out.at_).mono ?_; rintro e w2 ⟨rfl, m2⟩; have M2 := Hh (M1.out.then m2); clear m2))
 go_end0
 exact ⟨rfl, M2.out⟩
end Go.Proofs.Ytgfkimknnbpmnaa
