/-
  Texts SynMem, CurNil, SynP, SynP2, SynP3. No conditions but those that each theorem names.
-/
import Derived.Deep.MidRow
import Derived.Deep.RegionHeld3
import Derived.Test.YtgfkimknnbpmnaaGreatQB15
namespace Go.Proofs.YtgfkimknnbpmnaaGreat
open Go Go.RowKit
set_option linter.unusedSimpArgs false
set_option linter.unusedVariables false
inductive Ds where
 | nil
 | int (n : Int) (r : Ds)
 | str (s : ByteArray) (r : Ds)
 | row (n : Nat) (cs r : Ds)
def Ds.app : Ds → Ds → Ds
 | .nil, y => y
 | .int n r, y => .int n (r.app y)
 | .str s r, y => .str s (r.app y)
 | .row n cs r, y => .row n cs (r.app y)
def Ds.len : Ds → Nat
 | .nil => 0
 | .int _ r => r.len + 1
 | .str _ r => r.len + 1
 | .row _ _ r => r.len + 1
theorem Ds.app_nil : ∀ x : Ds, x.app .nil = x
 | .nil => rfl
 | .int n r => by rw [Ds.app, Ds.app_nil r]
 | .str s r => by rw [Ds.app, Ds.app_nil r]
 | .row n cs r => by rw [Ds.app, Ds.app_nil r]
theorem Ds.app_assoc (y z : Ds) : ∀ x : Ds, (x.app y).app z = x.app (y.app z)
 | .nil => rfl
 | .int n r => by rw [Ds.app, Ds.app, Ds.app, Ds.app_assoc y z r]
 | .str s r => by rw [Ds.app, Ds.app, Ds.app, Ds.app_assoc y z r]
 | .row n cs r => by rw [Ds.app, Ds.app, Ds.app, Ds.app_assoc y z r]
theorem Ds.len_app (y : Ds) : ∀ x : Ds, (x.app y).len = x.len + y.len
 | .nil => by rw [Ds.app, Ds.len]; omega
 | .int n r => by rw [Ds.app, Ds.len, Ds.len, Ds.len_app y r]; omega
 | .str s r => by rw [Ds.app, Ds.len, Ds.len, Ds.len_app y r]; omega
 | .row n cs r => by rw [Ds.app, Ds.len, Ds.len, Ds.len_app y r]; omega
def Within (N : Nat → Prop) (w : World) (A : Option Addr) (xs : List Value) : Prop :=
 xs = [] ∨ ∃ g, A = some ⟨g, 0, none⟩ ∧ N g ∧ g < w.heap.size ∧ ∀ j, j < xs.length → w.cell? ⟨g, j, none⟩ = xs[j]?
def Zq (N : Nat → Prop) (w : World) : Ds → List Value → Prop
 | .nil, vs => vs = []
 | .int n r, vs => ∃ t, vs = .int .i64 n :: t ∧ Zq N w r t
 | .str s r, vs => ∃ t, vs = .string s :: t ∧ Zq N w r t
 | .row n cs r, vs => ∃ A c xs t, vs = .slice A n c :: t ∧ n ≤ 9223372036854775807 ∧ Within N w A xs ∧ Zq N w cs xs ∧ Zq N w r t
theorem Within.keeps {N M S : Nat → Prop} {w w' : World} {A : Option Addr} {xs : List Value} (h : Within N w A xs) (hk : Yc S w w') (hs : ∀ k, k < w.heap.size → N k → ¬ S k ∧ M k) : Within M w' A xs := by
 rcases h with h | ⟨g, e, h1, h2, h3⟩
 · exact .inl h
 · exact .inr ⟨g, e, (hs g h2 h1).2, Nat.lt_of_lt_of_le h2 hk.size, fun j hj => (World.cell?_of_block (a := ⟨g, j, none⟩) (hk.block g h2 (hs g h2 h1).1)).trans (h3 j hj)⟩
theorem Zq.keeps {N M S : Nat → Prop} {w w' : World} (hk : Yc S w w') (hs : ∀ k, k < w.heap.size → N k → ¬ S k ∧ M k) : ∀ {ds : Ds} {vs : List Value}, Zq N w ds vs → Zq M w' ds vs
 | .nil, vs, h => h
 | .int n r, vs, ⟨t, e, h⟩ => ⟨t, e, Zq.keeps hk hs h⟩
 | .str s r, vs, ⟨t, e, h⟩ => ⟨t, e, Zq.keeps hk hs h⟩
 | .row n cs r, vs, ⟨A, c, xs, t, e, hn, h1, h2, h3⟩ => ⟨A, c, xs, t, e, hn, h1.keeps hk hs, Zq.keeps hk hs h2, Zq.keeps hk hs h3⟩
theorem Zq.mono {N M : Nat → Prop} {w : World} {ds : Ds} {vs : List Value} (h : Zq N w ds vs) (hs : ∀ k, k < w.heap.size → N k → M k) : Zq M w ds vs :=
 h.keeps (S := fun _ => False) (Yc.refl _ w) fun k hk hn => ⟨id, hs k hk hn⟩
theorem Zq.below {N : Nat → Prop} {w w' : World} {ds : Ds} {vs : List Value} (h : Zq N w ds vs) (hb : Below w.heap.size w w') : Zq N w' ds vs :=
 h.keeps (S := fun _ => False) (Yc.of_below hb) fun k _ hn => ⟨id, hn⟩
theorem Zq.len {N : Nat → Prop} {w : World} : ∀ {ds : Ds} {vs : List Value}, Zq N w ds vs → vs.length = ds.len
 | .nil, vs, h => by cases h; rfl
 | .int n r, vs, ⟨t, e, h⟩ => by rw [e, List.length_cons, Zq.len h]; rfl
 | .str s r, vs, ⟨t, e, h⟩ => by rw [e, List.length_cons, Zq.len h]; rfl
 | .row n cs r, vs, ⟨A, c, xs, t, e, _, _, _, h⟩ => by rw [e, List.length_cons, Zq.len h]; rfl
theorem Zq.one {N : Nat → Prop} {w : World} : ∀ {ds : Ds} {vs : List Value}, Zq N w ds vs → ∀ v ∈ vs, v.oneCell' = true
 | .nil, vs, h => by cases h; intro v hv; cases hv
 | .int n r, vs, ⟨t, e, h⟩ => by rw [e]; intro v hv; rcases List.mem_cons.1 hv with rfl | hv; rfl; exact Zq.one h v hv
 | .str s r, vs, ⟨t, e, h⟩ => by rw [e]; intro v hv; rcases List.mem_cons.1 hv with rfl | hv; rfl; exact Zq.one h v hv
 | .row n cs r, vs, ⟨A, c, xs, t, e, _, _, _, h⟩ => by rw [e]; intro v hv; rcases List.mem_cons.1 hv with rfl | hv; rfl; exact Zq.one h v hv
theorem Zq.app {N : Nat → Prop} {w : World} {y : Ds} {us : List Value} (hy : Zq N w y us) : ∀ {x : Ds} {vs : List Value}, Zq N w x vs → Zq N w (x.app y) (vs ++ us)
 | .nil, vs, h => by cases h; exact hy
 | .int n r, vs, ⟨t, e, h⟩ => ⟨t ++ us, by rw [e]; rfl, Zq.app hy h⟩
 | .str s r, vs, ⟨t, e, h⟩ => ⟨t ++ us, by rw [e]; rfl, Zq.app hy h⟩
 | .row n cs r, vs, ⟨A, c, xs, t, e, hn, h1, h2, h⟩ => ⟨A, c, xs, t ++ us, by rw [e]; rfl, hn, h1, h2, Zq.app hy h⟩
theorem Zq.split {N : Nat → Prop} {w : World} {y : Ds} : ∀ {x : Ds} {vs : List Value}, Zq N w (x.app y) vs → ∃ a b, vs = a ++ b ∧ Zq N w x a ∧ Zq N w y b
 | .nil, vs, h => ⟨[], vs, rfl, rfl, h⟩
 | .int n r, vs, ⟨t, e, h⟩ => by obtain ⟨a, b, e2, h1, h2⟩ := Zq.split (x := r) h; exact ⟨.int .i64 n :: a, b, by rw [e, e2]; rfl, ⟨a, rfl, h1⟩, h2⟩
 | .str s r, vs, ⟨t, e, h⟩ => by obtain ⟨a, b, e2, h1, h2⟩ := Zq.split (x := r) h; exact ⟨.string s :: a, b, by rw [e, e2]; rfl, ⟨a, rfl, h1⟩, h2⟩
 | .row n cs r, vs, ⟨A, c, xs, t, e, hn, g1, g2, h⟩ => by obtain ⟨a, b, e2, h1, h2⟩ := Zq.split (x := r) h; exact ⟨.slice A n c :: a, b, by rw [e, e2]; rfl, ⟨A, c, xs, a, rfl, hn, g1, g2, h1⟩, h2⟩
theorem own_within {w : World} {base : Nat} {e : TypeId} {size : Nat} {v : Value} {n : Nat} {xs : List Value} (h : w.ownsRow base e size v n xs) :
   ∃ A c, v = .slice A n c ∧ n ≤ 9223372036854775807 ∧ Within (fun k => base ≤ k) w A xs := by
 obtain ⟨hl, h⟩ := id h
 rcases h with ⟨rfl, rfl⟩ | ⟨g, cap, cur, rfl, hb, hw, h1, h2, h3, h4⟩
 · refine ⟨none, 0, rfl, by omega, .inl ?_⟩
   rw [Nat.zero_mul] at hl
   exact List.length_eq_zero_iff.1 hl
 · unfold maxLen at h2
   refine ⟨some ⟨g, 0, none⟩, cap, rfl, by omega, .inr ⟨g, rfl, hb, Zh.inside (cs := cur) hw, fun j hj => ?_⟩⟩
   rw [Zh.read (cs := cur) hw j, ← h4, List.getElem?_take]
   have hj' : j < n * size := by rw [← hl]; exact hj
   rw [if_pos hj', Array.getElem?_toList]
theorem Zq.rowOf {N : Nat → Prop} {w : World} {base : Nat} {e : TypeId} {size : Nat} {v : Value} {n : Nat} {xs : List Value} {ds : Ds} (h : w.ownsRow base e size v n xs) (hb : ∀ k, base ≤ k → N k) (hd : Zq N w ds xs) :
   Zq N w (.row n ds .nil) [v] := by
 obtain ⟨A, c, rfl, hn, hw⟩ := own_within h
 exact ⟨A, c, xs, [], rfl, hn, hw.keeps (S := fun _ => False) (Yc.refl _ w) (fun k _ hk => ⟨id, hb k hk⟩), hd, rfl⟩
theorem Zh.range {w : World} {g : Nat} {t : TypeId} {a b c : List Value} (h : Zh w g t (a ++ b ++ c).toArray) : w.rangeAt g a.length b := fun j v hv => by
 have hj : j < b.length := (List.getElem?_eq_some_iff.1 hv).1
 rw [h.read, List.getElem?_toArray, List.getElem?_append_left (by rw [List.length_append]; omega), List.getElem?_append_right (by omega), show a.length + j - a.length = j from by omega, hv]
theorem Zh.there {w : World} {g : Nat} {t : TypeId} {a b c : List Value} (h : Zh w g t (a ++ b ++ c).toArray) : w.there g a.length b.length := fun j hj =>
 ⟨h.range.isSome j hj, h.thawed _⟩
theorem Zh.setCells {g : Nat} {t : TypeId} (c : List Value) : ∀ (y b a : List Value) (w : World), y.length = b.length → Zh w g t (a ++ b ++ c).toArray → Zh (w.setCells g a.length y) g t (a ++ y ++ c).toArray
 | [], b, a, w, hl, h => by
   have : b = [] := List.length_eq_zero_iff.1 (by rw [← hl]; rfl)
   rw [this] at h
   exact h
 | v :: y, [], a, w, hl, h => by cases hl
 | v :: y, u :: b, a, w, hl, h => by
   rw [World.setCells]
   have h1 := h.write a.length v
   have e : (a ++ u :: b ++ c).toArray.setIfInBounds a.length v = ((a ++ [v]) ++ b ++ c).toArray := by
     simp [List.setIfInBounds_toArray, List.set_append_right]
   rw [e] at h1
   have h2 := Zh.setCells c y b (a ++ [v]) _ (by rw [List.length_cons, List.length_cons] at hl; omega) h1
   rw [List.length_append] at h2
   have e2 : (a ++ [v] ++ y ++ c).toArray = (a ++ v :: y ++ c).toArray := by simp
   rw [e2] at h2
   exact h2
theorem Yc.setCells {S : Nat → Prop} {g : Nat} (hg : S g) : ∀ (y : List Value) (o : Nat) {a b : World}, Yc S a b → Yc S a (b.setCells g o y)
 | [], _, _, _, h => h
 | v :: y, o, a, b, h => Yc.setCells hg y (o + 1) (h.setCell (p := ⟨g, o, none⟩) hg v)
theorem Zf {P : Program} {ops : Array Oper} {rest : List Oper} {op : Op} {t : TypeId} {ps : String} {af : Array Edge} {gd : Option (Nat × Bool)} {a : Act} {w : World} {Q : Exit → Act → World → Prop} (d : Nat)
   (h : wpList P ops Q (⟨some d, op, t, ps, af, gd⟩ :: rest) a w) : wpList P ops Q (⟨some d, op, t, ps, af, gd⟩ :: rest) a w := h
theorem Zi {P : Program} {ops : Array Oper} {rest : List Oper} {T : TypeId} {t : TypeId} {ps : String} {af : Array Edge} {gd : Option (Nat × Bool)} {a : Act} {w : World} {Q : Exit → Act → World → Prop} (x y : Nat)
   (h : wpList P ops Q (⟨none, .store T (.tmp x) (.tmp y), t, ps, af, gd⟩ :: rest) a w) : wpList P ops Q (⟨none, .store T (.tmp x) (.tmp y), t, ps, af, gd⟩ :: rest) a w := h
structure Put (w w' : World) (g : Nat) (t : TypeId) (vs : List Value) : Prop where
 whole : Zh w' g t vs.toArray
 keeps : Yc (fun k => k = g) w w'
theorem Xg {P : Program} {ops : Array Oper} {rest : List Oper} {o : Oper} {a : Act} {w : World} {Q : Exit → Act → World → Prop} (T : TypeId) (x y : Operand) (t : TypeId) (g n : Nat) (pre old post ys : List Value) (hW : Zh w g t (pre ++ old ++ post).toArray) (hl : ys.length = old.length)
   (hpn : n = pre.length) (hi : (P.info? T).map (·.size) = some ys.length) (h1 : ∀ v ∈ ys, v.oneCell' = true)
   (hgd : o.guard = none) (ho : o.op = .store T x y) (hd : o.dst = none)
   (hx : a.eval x = .pointer (some ⟨g, n, none⟩)) (hy : a.eval y = .agg ys.toArray)
   (h : ∀ w', Put w w' g t (pre ++ ys ++ post) → wpList P ops Q rest a w') : wpList P ops Q (o :: rest) a w := by
 subst hpn
 have ht : w.there g pre.length ys.length := by rw [hl]; exact hW.there
 refine wpList_store_mid hgd T x y ho g pre.length ys.toArray hx hy (by simpa using ht) (by simpa using hi) (all_oneCell_toArray h1) ?_
 rw [hd]
 exact h _ ⟨Zh.setCells post ys old pre w hl hW, Yc.setCells (S := fun k => k = g) rfl _ _ (Yc.refl _ _)⟩
theorem Za {P : Program} {ops : Array Oper} {rest : List Oper} {o : Oper} {a : Act} {w : World} {Q : Exit → Act → World → Prop} (T : TypeId) (x y : Operand) (t : TypeId) (g : Nat) (old ys : List Value) (hW : Zh w g t old.toArray) (hl : ys.length = old.length)
   (hi : (P.info? T).map (·.size) = some ys.length) (h1 : ∀ v ∈ ys, v.oneCell' = true)
   (hgd : o.guard = none) (ho : o.op = .store T x y) (hd : o.dst = none)
   (hx : a.eval x = .pointer (some ⟨g, 0, none⟩)) (hy : a.eval y = .agg ys.toArray)
   (h : ∀ w', Put w w' g t ys → wpList P ops Q rest a w') : wpList P ops Q (o :: rest) a w :=
 Xg T x y t g 0 [] old [] ys (by simpa using hW) hl rfl hi h1 hgd ho hd hx hy fun w' p => h w' ⟨by simpa using p.whole, p.keeps⟩
theorem Zr {P : Program} {ops : Array Oper} {rest : List Oper} {o : Oper} {a : Act} {w : World} {Q : Exit → Act → World → Prop} (T : TypeId) (x y : Operand) (t : TypeId) (g n : Nat) (pre : List Value) (old v : Value) (post : List Value) (hW : Zh w g t (pre ++ [old] ++ post).toArray)
   (hpn : n = pre.length) (hi : (P.info? T).map (·.size) = some 1) (h1 : v.oneCell' = true)
   (hgd : o.guard = none) (ho : o.op = .store T x y) (hd : o.dst = none)
   (hx : a.eval x = .pointer (some ⟨g, n, none⟩)) (hy : a.eval y = v)
   (h : ∀ w', Put w w' g t (pre ++ [v] ++ post) → wpList P ops Q rest a w') : wpList P ops Q (o :: rest) a w := by
 subst hpn
 refine wpList_plain hgd fun K hK => ?_
 have hc : v.cells = #[v] := by cases v <;> first | rfl | cases h1
 have hst : (storeVar T ⟨g, pre.length, none⟩ v).run P w = .ok () (w.setCells g pre.length [v]) := by
   have := run_storeCells_cells (P := P) g pre.length [v] 0 w (fun j hj => by simpa using (hW.there j hj).1) (fun j hj => by simpa using (hW.there j hj).2) (fun u hu => by simp at hu; rw [hu]; exact h1)
   cases hq : P.info? T with
   | none => simp [hq] at hi
   | some i =>
     have hs : i.size = 1 := by simpa [hq] using hi
     simp only [Nat.add_zero] at this
     simp [storeVar, sizeOf, typeInfo, hq, hc, hs, this]
 unfold Oper.wp execOp
 simp only [ho, hx, hy, Instr.storeAt, Instr.sureAddr, Sem.run_bind, Sem.run_pure, Result.andThen_ok, hst]
 have hh := hK _ _ (h _ ⟨Zh.setCells post [v] [old] pre w rfl hW, Yc.setCells (S := fun k => k = g) rfl _ _ (Yc.refl _ _)⟩)
 have e : a.put o.dst undef = a := by rw [hd]; rfl
 show K (a.put o.dst undef) _
 rw [e]
 exact hh
theorem Wm {P : Program} {ops : Array Oper} {rest : List Oper} {o : Oper} {a : Act} {w : World} {Q : Exit → Act → World → Prop} (T : TypeId) (x : Operand) (t : TypeId) (g n : Nat) (pre vs post : List Value) (hW : Zh w g t (pre ++ vs ++ post).toArray) (hpn : n = pre.length)
   (hu : (P.underlying T).map TypeDesc.isRow = some true) (hi : (P.info? T).map (·.size) = some vs.length)
   (hgd : o.guard = none) (ho : o.op = .load T x) (hx : a.eval x = .pointer (some ⟨g, n, none⟩))
   (h : wpList P ops Q rest (a.put o.dst (.agg vs.toArray)) w) : wpList P ops Q (o :: rest) a w := by
 subst hpn
 obtain ⟨d, hu, hr⟩ := Option.map_eq_some_iff.1 hu
 exact wpList_load_mid hgd T x ho g pre.length hx vs d hW.range hu hr hi h
theorem Zb {P : Program} {ops : Array Oper} {rest : List Oper} {o : Oper} {a : Act} {w : World} {Q : Exit → Act → World → Prop} (T : TypeId) (x : Operand) (t : TypeId) (g : Nat) (vs : List Value) (hW : Zh w g t vs.toArray)
   (hu : (P.underlying T).map TypeDesc.isRow = some true) (hi : (P.info? T).map (·.size) = some vs.length)
   (hgd : o.guard = none) (ho : o.op = .load T x) (hx : a.eval x = .pointer (some ⟨g, 0, none⟩))
   (h : wpList P ops Q rest (a.put o.dst (.agg vs.toArray)) w) : wpList P ops Q (o :: rest) a w :=
 Wm T x t g 0 [] vs [] (by simpa using hW) rfl hu hi hgd ho hx h
theorem Wl {P : Program} {w : World} {ops : Array Oper} {rest : List Oper} {o : Oper} {a : Act} {Q : Exit → Act → World → Prop} (s x : Operand) (t e : TypeId) (sz bytes : Nat) (z : Value)
   (ht : P.underlying t = some (.slice e)) (hinfo : (P.info? e).map (fun i => (i.zero, i.size, i.bytes)) = some (some z, sz, bytes)) (hzs : z.cells.size = sz) (hpos : 0 < sz) (hby : bytes ≤ 1024)
   (base : Nat) (v : Value) (n : Nat) (xs news : List Value) (hown : w.ownsRow base e sz v n xs) (g : Nat) (hW : Zh w g e news.toArray) (hnl : news.length = sz) (h1 : ∀ u ∈ news, u.oneCell' = true)
   (hn : n ≤ 68719476736) (hbase : base ≤ w.heap.size)
   (hgd : o.guard = none) (ho : o.op = .call { callee := .builtin .append, args := #[s, x], argTypes := #[t, t] }) (hs : a.eval s = v) (hx : a.eval x = .slice (some ⟨g, 0, none⟩) 1 1)
   (h : ∀ v' w', w'.ownsRow base e sz v' (n + 1) (xs ++ news) → w.grownBy w' v.ownBlock → (v'.ownBlock = v.ownBlock ∨ v'.ownBlock = some w.heap.size) → wpList P ops Q rest (a.put o.dst v') w') :
   wpList P ops Q (o :: rest) a w := by
 obtain ⟨i, hi, hz, hsize, hbytes⟩ := info_parts hinfo
 refine wpList_append_own_at w hgd s x t ho base e i z sz bytes ht hi hz hsize hbytes hzs hpos v n xs hs hown ⟨g, 0, none⟩ 1 1 news hx (by rw [hnl]; omega) ?_ h1 (by unfold maxLen; omega) ?_ hbase ?_
 · intro j u hj
   have hr := hW.read j
   have ha : (⟨g, 0, none⟩ : Addr).add j = ⟨g, j, none⟩ := by simp [Addr.add]; omega
   rw [ha, hr, ← hj]; simp
 · have : (n + 1) * bytes ≤ (n + 1) * 1024 := Nat.mul_le_mul_left _ hby
   omega
 · intro v' w' ho' hg _ hat
   exact h v' w' ho' hg hat
theorem Yy {P : Program} {fn : Func} {R : Ending → World → Prop} {a : Act} {w : World} (s T : Nat) (t : TypeId) (g : Nat) (vs : List Value) (hres : fn.results = #[.cell s T]) (hW : Zh w g t vs.toArray)
   (hu : (P.underlying T).map TypeDesc.isRow = some true) (hi : (P.info? T).map (·.size) = some vs.length)
   (hp : a.tmps.getD s undef = .pointer (some ⟨g, 0, none⟩)) (hd : a.defers = []) (hR : R (.returned (.agg vs.toArray)) w) : bodyPost P fn R .ret a w := by
 obtain ⟨d, hu, hr⟩ := Option.map_eq_some_iff.1 hu
 refine bodyPost_ret (v := .agg vs.toArray) ?_ hd hR
 have hl := run_loadVar_mid (P := P) w g 0 T vs d (by have := Zh.range (a := []) (b := vs) (c := []) (by simpa using hW); exact this) hu hr hi
 have hp' : a.tmps[s]?.getD undef = .pointer (some ⟨g, 0, none⟩) := by simpa using hp
 simp [results, hres, hp', hl, asAddr, Sem.run_bind, Sem.run_pure]
end Go.Proofs.YtgfkimknnbpmnaaGreat
namespace Go.Proofs.YtgfkimknnbpmnaaGreat
open Go.ChangeShapes Go.WideShapes Go.ChangeAt Go.RowKit
set_option linter.unusedVariables false
set_option linter.unusedSimpArgs false
def Ja : Int × Nat × Nat := (1, 0, 0)
theorem nStands (w : World) : Calls Tryz.prog 57 #[.pointer none] w fun e w' => e = .returned (.bool false) ∧ w = w' := by
 go_enter Tryz.func57, Tryz.ntmps57
 go_wp2
 go_ret
 exact ⟨rfl, rfl⟩
theorem nPeek (w : World) : Calls Tryz.prog 36 #[.pointer none] w fun e w' => e = .returned (Wj zTok) ∧ Below w.heap.size w w' := by
 go_enter Tryz.func36, Tryz.ntmps36
 go_wp2_with (go_at_call 57; refine (nStands _).mono ?_; rintro e w1 ⟨rfl, rfl⟩)
 refine bodyPost_ret (v := Wj zTok) (by simp [results, Tryz.results36, go_sem, Wj, zTok]) rfl ⟨rfl, ?_⟩
 exact Zj _ _
theorem nHere (w : World) (E : Int) : Calls Tryz.prog 58 #[.pointer none, .int .i64 E] w fun e w' => e = .returned (Zs Ja) ∧ Below w.heap.size w w' := by
 go_enter Tryz.func58, Tryz.ntmps58
 go_wp2
 refine bodyPost_ret (v := Zs Ja) (by simp [results, Tryz.results58, go_sem, Zs, Ja]) rfl ⟨rfl, ?_⟩
 exact Zj _ _
theorem nIs (w : World) (t : ByteArray) : Calls Tryz.prog 59 #[.pointer none, .string t] w fun e w' => e = .returned (.bool false) ∧ Below w.heap.size w w' := by
 go_enter Tryz.func59, Tryz.ntmps59
 go_wp2_with (go_at_call 36; refine (nPeek _).mono ?_; rintro e w2 ⟨rfl, b2⟩; have B2 := Hh b2; clear b2; simp only [Wj, zTok])
 go_ret
 exact ⟨rfl, B2.out.alloc B2.out.size _⟩
theorem nTake (w : World) (t : ByteArray) : Calls Tryz.prog 39 #[.pointer none, .string t] w fun e w' => e = .returned (.bool false) ∧ Below w.heap.size w w' := by
 go_enter Tryz.func39, Tryz.ntmps39
 go_wp2_with (go_at_call 59; refine (nIs _ _).mono ?_; rintro e w2 ⟨rfl, b2⟩; have B2 := Hh b2; clear b2)
 go_ret
 exact ⟨rfl, B2.out⟩
theorem nWrong (w : World) : Calls Tryz.prog 38 #[.pointer none] w fun e w' => e = .returned (Zs Ja) ∧ Below w.heap.size w w' := by
 have F := Hh (Zh.made w 29 #[.int .i64 0, .int .i64 0, .int .i64 0])
 have hfd := fun w => tok_field 0 0 0 0 ⟨#[]⟩ w
 go_enter Tryz.func38, Tryz.ntmps38
 go_wp2_with (first
 | (go_at_call 36; refine (nPeek _).mono ?_; rintro e w2 ⟨rfl, b2⟩; have W2 := Hh (F.out.below b2 (by simp)); have B2 := Hh (Vg (Zj _ _) b2); clear b2; simp only [Wj, zTok, Int.ofNat_zero, Int.natCast_zero])
 | (go_at_call 58; refine (nHere _ _).mono ?_; rintro e w3 ⟨rfl, b3⟩; have W3 := Hh (W2.out.below b3 W2.out.inside); obtain ⟨k0, k1, k2, f0, f1, f2⟩ := Zz W3.out; have hz := W3.out.inside; have B3 := Hh (Vg B2.out b3); clear b3; simp only [Zs, Ja]))
 have hF := Zz (Zh.set3 W3.out (.int .i64 1) (.int .i64 0) (.int .i64 0))
 refine bodyPost_ret (v := Zs Ja) (by simp [results, Tryz.results38, go_sem, hF, Zs, Ja]) rfl ⟨rfl, ?_⟩
 exact Below.set3 B3.out (Nat.le_refl _) _ _ _
theorem nWant (w : World) (t : ByteArray) : Calls Tryz.prog 85 #[.pointer none, .string t] w fun e w' => e = .returned (Zs Ja) ∧ Below w.heap.size w w' := by
 have F := Hh (Zh.made w 29 #[.int .i64 0, .int .i64 0, .int .i64 0])
 go_enter Tryz.func85, Tryz.ntmps85
 go_wp2_with (first
 | (go_at_call 39; refine (nTake _ _).mono ?_; rintro e w2 ⟨rfl, b2⟩; have W2 := Hh (F.out.below b2 (by simp)); have B2 := Hh (Vg (Zj _ _) b2); clear b2)
 | (go_at_call 38; refine (nWrong _).mono ?_; rintro e w3 ⟨rfl, b3⟩; have W3 := Hh (W2.out.below b3 W2.out.inside); obtain ⟨k0, k1, k2, f0, f1, f2⟩ := Zz W3.out; have hz := W3.out.inside; have B3 := Hh (Vg B2.out b3); clear b3; simp only [Zs, Ja]))
 have hF := Zz (Zh.set3 W3.out (.int .i64 1) (.int .i64 0) (.int .i64 0))
 refine bodyPost_ret (v := Zs Ja) (by simp [results, Tryz.results85, go_sem, hF, Zs, Ja]) rfl ⟨rfl, ?_⟩
 exact Below.set3 B3.out (Nat.le_refl _) _ _ _
theorem nKind (w : World) (k : Int) (hk : 0 < k) : Calls Tryz.prog 84 #[.pointer none, .int .i64 k] w fun e w' => e = .returned (.tuple #[Wj zTok, Zs Ja]) ∧ Below w.heap.size w w' := by
 have T0 := Hh (Two.start w 65 #[.int .i64 0, .string ⟨#[]⟩, .int .i64 0, .int .i64 0, .int .i64 0] 29 #[.int .i64 0, .int .i64 0, .int .i64 0])
 have hfd := fun w => tok_field 0 0 0 0 ⟨#[]⟩ w
 have q0 : ((0 : Int) != k) = true := by rw [bne_iff_ne]; omega
 go_enter Tryz.func84, Tryz.ntmps84
 go_wp2_with (first
 | (go_at_call 36; refine (nPeek _).mono ?_; rintro e w2 ⟨rfl, b2⟩; have T2 := Hh (T0.out.next b2); clear b2; simp only [Wj, zTok, Int.ofNat_zero, Int.natCast_zero])
 | (go_at_call 38; refine (nWrong _).mono ?_; rintro e w3 ⟨rfl, b3⟩; have T3 := Hh (T2.out.next b3); obtain ⟨k0, k1, k2, k3, k4, f0, f1, f2, f3, f4⟩ := Us T3.out.k0; obtain ⟨g0, g1, g2, z0, z1, z2⟩ := Zz T3.out.k1; have hz := T3.out.k1.inside; clear b3; simp only [Zs, Ja]))
 have hFG := two_set T3.out.k0 T3.out.k1 (.int .i64 0) (.string ⟨#[]⟩) (.int .i64 0) (.int .i64 0) (.int .i64 0) (.int .i64 1) (.int .i64 0) (.int .i64 0)
 have hF := Uy hFG.1
 have hG := Zz hFG.2
 refine bodyPost_ret (v := .tuple #[Wj zTok, Zs Ja]) (by simp [results, Tryz.results84, go_sem, hF, hG, Zs, Ja, zTok, Wj]) rfl ⟨rfl, ?_⟩
 exact Below.set3 (Below.set5 T3.out.below (Nat.le_refl _) _ _ _ _ _) (Nat.le_succ _) _ _ _
theorem nInt (w : World) : Calls Tryz.prog 65 #[.pointer none] w fun e w' => e = .returned (.tuple #[.int .i64 0, Zs Ja]) ∧ Below w.heap.size w w' := by
 have F := Hh (Zh.made w 29 #[.int .i64 0, .int .i64 0, .int .i64 0])
 go_enter Tryz.func65, Tryz.ntmps65
 go_wp2_with (go_at_call 84; refine (nKind _ _ (by decide)).mono ?_; rintro e w3 ⟨rfl, b3⟩; have W0 := Hh (F.out.below b3 (by simp)); obtain ⟨g0, g1, g2, z0, z1, z2⟩ := Zz W0.out; have hz := W0.out.inside; have B3 := Hh (Vg (Zj _ _) b3); clear b3; simp only [Wj, zTok, Zs, Ja])
 go_region
 all_goals
   go_wp2
   have hF := Zz ((((Zh.set3 W0.out (.int .i64 1) (.int .i64 0) (.int .i64 0)).alloc (.cells #[.int .i64 0, .string ⟨#[]⟩, .int .i64 0, .int .i64 0, .int .i64 0] 65)).alloc (.cells #[.int .i64 1, .int .i64 0, .int .i64 0] 29)).drew)
   refine bodyPost_ret (v := .tuple #[.int .i64 0, Zs Ja]) (by simp [results, Tryz.results65, go_sem, hF, Zs, Ja]) rfl ⟨rfl, ?_⟩
   have hb := Below.set3 B3.out (Nat.le_refl _) (.int .i64 1) (.int .i64 0) (.int .i64 0)
   exact Xv ((hb.alloc hb.size _).alloc (by have := hb.size; simp at this ⊢; omega) _)
theorem nName (w : World) : Calls Tryz.prog 62 #[.pointer none] w fun e w' => e = .returned (.tuple #[.string ⟨#[]⟩, Zs Ja]) ∧ Below w.heap.size w w' := by
 have F := Hh (Zh.made w 29 #[.int .i64 0, .int .i64 0, .int .i64 0])
 go_enter Tryz.func62, Tryz.ntmps62
 go_wp2_with (go_at_call 84; refine (nKind _ _ (by decide)).mono ?_; rintro e w3 ⟨rfl, b3⟩; have W0 := Hh (F.out.below b3 (by simp)); obtain ⟨g0, g1, g2, z0, z1, z2⟩ := Zz W0.out; have hz := W0.out.inside; have B3 := Hh (Vg (Zj _ _) b3); clear b3; simp only [Wj, zTok, Zs, Ja])
 go_region
 all_goals
   go_wp2
   have hF := Zz ((((Zh.set3 W0.out (.int .i64 1) (.int .i64 0) (.int .i64 0)).alloc (.cells #[.int .i64 0, .string ⟨#[]⟩, .int .i64 0, .int .i64 0, .int .i64 0] 65)).alloc (.cells #[.int .i64 1, .int .i64 0, .int .i64 0] 29)).drew)
   refine bodyPost_ret (v := .tuple #[.string ⟨#[]⟩, Zs Ja]) (by simp [results, Tryz.results62, go_sem, hF, Zs, Ja]) rfl ⟨rfl, ?_⟩
   have hb := Below.set3 B3.out (Nat.le_refl _) (.int .i64 1) (.int .i64 0) (.int .i64 0)
   exact Xv ((hb.alloc hb.size _).alloc (by have := hb.size; simp at this ⊢; omega) _)
theorem nSigned (w : World) : Calls Tryz.prog 66 #[.pointer none] w fun e w' => e = .returned (.tuple #[.int .i64 0, Zs Ja]) ∧ Below w.heap.size w w' := by
 have F := Hh (Zh.made w 29 #[.int .i64 0, .int .i64 0, .int .i64 0])
 go_enter Tryz.func66, Tryz.ntmps66
 go_wp2_with (first
 | (go_at_call 59; refine (nIs _ _).mono ?_; rintro e w2 ⟨rfl, b2⟩; have W2 := Hh (F.out.below b2 (by simp)); have B2 := Hh (Vg (Zj _ _) b2); clear b2)
 | (go_at_call 65; refine (nInt _).mono ?_; rintro e w3 ⟨rfl, b3⟩; have W0 := Hh (W2.out.below b3 W2.out.inside); obtain ⟨g0, g1, g2, z0, z1, z2⟩ := Zz W0.out; have hz := W0.out.inside; have B3 := Hh (Vg B2.out b3); clear b3; simp only [Zs, Ja]))
 have hF := Zz (Zh.set3 W0.out (.int .i64 1) (.int .i64 0) (.int .i64 0))
 refine bodyPost_ret (v := .tuple #[.int .i64 0, Zs Ja]) (by simp [results, Tryz.results66, go_sem, hF, Zs, Ja]) rfl ⟨rfl, ?_⟩
 exact Below.set3 B3.out (Nat.le_refl _) _ _ _
theorem nDown (w : World) : Calls Tryz.prog 117 #[.pointer none] w fun e w' => e = .returned (Zs Ja) ∧ Below w.heap.size w w' := by
 have F := Hh (Zh.made w 29 #[.int .i64 0, .int .i64 0, .int .i64 0])
 go_enter Tryz.func117, Tryz.ntmps117
 go_wp2_with (first
 | (go_at_call 57; refine (nStands _).mono ?_; rintro e w1 ⟨rfl, rfl⟩)
 | (go_at_call 58; refine (nHere _ _).mono ?_; rintro e w3 ⟨rfl, b3⟩; have W3 := Hh (F.out.below b3 (by simp)); obtain ⟨k0, k1, k2, f0, f1, f2⟩ := Zz W3.out; have hz := W3.out.inside; have B3 := Hh (Vg (Zj _ _) b3); clear b3; simp only [Zs, Ja]))
 have hF := Zz (Zh.set3 W3.out (.int .i64 1) (.int .i64 0) (.int .i64 0))
 refine bodyPost_ret (v := Zs Ja) (by simp [results, Tryz.results117, go_sem, hF, Zs, Ja]) rfl ⟨rfl, ?_⟩
 exact Below.set3 B3.out (Nat.le_refl _) _ _ _
theorem nUp (w : World) : Calls Tryz.prog 118 #[.pointer none] w fun e w' => e = .returned (.tuple #[]) ∧ w = w' := by
 go_enter Tryz.func118, Tryz.ntmps118
 go_wp2
 go_end0
 exact ⟨rfl, rfl⟩
def Wr (c : Nat) : St → Value
 | .ok _ _ => .pointer (some ⟨c, 0, none⟩)
 | .bad _ => .pointer none
def Yw : St → Int × Nat × Nat
 | .ok _ _ => okF
 | .bad F => F
structure PAt (w : World) (q c r K : Nat) (L : List TokV) (st : St) : Prop where
 whole : Zh w q 96 #[Wr c st, .int .i64 (Yw st).1, .int .i64 ((Yw st).2.1 : Int), .int .i64 ((Yw st).2.2 : Int)]
 cur : ∀ a d, st = .ok a d → q ≠ c ∧ q ≠ r ∧ Wv w c r K L a d
 flt : ∀ F, st = .bad F → F.1 ≠ 0
 cin : c < w.heap.size
 rin : r < w.heap.size
theorem PAt.keeps {w w' : World} {q c r K : Nat} {L : List TokV} {st : St} (h : PAt w q c r K L st) {S : Nat → Prop} (hk : Yc S w w') (hq : ¬ S q) (hc : ¬ S c) (hr : ¬ S r) : PAt w' q c r K L st :=
 ⟨hk.whole h.whole hq, fun a d e => ⟨(h.cur a d e).1, (h.cur a d e).2.1, (h.cur a d e).2.2.keeps hk hc hr⟩, h.flt, Nat.lt_of_lt_of_le h.cin hk.size, Nat.lt_of_lt_of_le h.rin hk.size⟩
theorem PAt.below {w w' : World} {q c r K : Nat} {L : List TokV} {st : St} (h : PAt w q c r K L st) (hb : Below w.heap.size w w') : PAt w' q c r K L st :=
 h.keeps (S := fun _ => False) (Yc.of_below hb) id id id
structure Xf (w w' : World) (q c r K : Nat) (L : List TokV) (st : St) : Prop where
 at_ : PAt w' q c r K L st
 keeps : Yc (fun k => k = q ∨ k = c) w w'
def Xd (w : World) (q c r K : Nat) (L : List TokV) (st : St) (val : Value) (e : Ending) (w' : World) : Prop := e = .returned val ∧ Xf w w' q c r K L st
theorem Xf.start {w : World} {q c r K : Nat} {L : List TokV} {st : St} (h : PAt w q c r K L st) : Xf w w q c r K L st := ⟨h, Yc.refl _ _⟩
theorem Xf.next {w x y : World} {q c r K : Nat} {L : List TokV} {st : St} (m : Xf w x q c r K L st) (hb : Below x.heap.size x y) : Xf w y q c r K L st :=
 ⟨m.at_.below hb, m.keeps.trans (Yc.of_below hb)⟩
theorem Xf.then {w x y : World} {q c r K : Nat} {L : List TokV} {st st' : St} (m : Xf w x q c r K L st) (h : Xf x y q c r K L st') : Xf w y q c r K L st' :=
 ⟨h.at_, m.keeps.trans h.keeps⟩
theorem Xf.on {w x y : World} {q c r K : Nat} {L : List TokV} {st : St} (m : Xf w x q c r K L st) {G : Nat} (hk : Yc (fun k => k = G) x y) (hG : w.heap.size ≤ G) (hq : q < w.heap.size) (hc : c < w.heap.size) (hr : r < w.heap.size) : Xf w y q c r K L st := by
 refine ⟨m.at_.keeps hk (by omega) (by omega) (by omega), ?_⟩
 have h1 : Yc (fun k => (k = q ∨ k = c) ∨ k = G) w x := m.keeps.mono fun k h => .inl h
 have h2 : Yc (fun k => (k = q ∨ k = c) ∨ k = G) x y := hk.mono fun k h => .inr h
 exact (h1.trans h2).inner fun k hk h => by omega
def wrongV (L : List TokV) : St → Int × Nat × Nat
 | .ok a _ => wrF (Yj L a)
 | .bad _ => Ja
def wantV (L : List TokV) (t : ByteArray) : St → Int × Nat × Nat
 | .ok a _ => wantF L a t
 | .bad _ => Ja
def downV (L : List TokV) : St → Int × Nat × Nat
 | .ok a d => Vi L a d
 | .bad _ => Ja
def deeperS : St → St
 | .ok a d => .ok a (Zag d)
 | .bad F => .bad F
theorem PAt.step {w x : World} {q c r K : Nat} {L : List TokV} {a d b e : Nat} (h : PAt w q c r K L (.ok a d)) (m : Ub w x c r K L b e) : Xf w x q c r K L (.ok b e) := by
 obtain ⟨h1, h2, h3⟩ := h.cur a d rfl
 refine ⟨⟨m.keeps.whole h.whole h1, fun a' d' e' => ?_, fun F e' => (by cases e'), Nat.lt_of_lt_of_le h.cin m.keeps.size, Nat.lt_of_lt_of_le h.rin m.keeps.size⟩, m.keeps.mono fun k hk => .inr hk⟩
 cases e'
 exact ⟨h1, h2, m.at_⟩
theorem xPeek (w : World) (q c r K : Nat) (L : List TokV) (st : St) (h : PAt w q c r K L st) :
   Calls Tryz.prog 36 #[Wr c st] w fun e w' => e = .returned (Wj (st.tok L)) ∧ Below w.heap.size w w' := by
 cases st with
 | ok a d => exact cPeek w c _ _ _ _ _ _ (h.cur a d rfl).2.2.look
 | bad F => exact nPeek w
theorem xIs (w : World) (q c r K : Nat) (L : List TokV) (st : St) (t : ByteArray) (h : PAt w q c r K L st) :
   Calls Tryz.prog 59 #[Wr c st, .string t] w fun e w' => e = .returned (.bool (isS L t st)) ∧ Below w.heap.size w w' := by
 cases st with
 | ok a d => exact cIs w c _ _ _ _ _ _ t (h.cur a d rfl).2.2.look
 | bad F => exact nIs w t
theorem xWrong (w : World) (q c r K : Nat) (L : List TokV) (st : St) (h : PAt w q c r K L st) :
   Calls Tryz.prog 38 #[Wr c st] w fun e w' => e = .returned (Zs (wrongV L st)) ∧ Below w.heap.size w w' := by
 cases st with
 | ok a d => exact cWrong w c _ _ _ _ _ _ (h.cur a d rfl).2.2.look
 | bad F => exact nWrong w
theorem Ug (w : World) (q c r K : Nat) (L : List TokV) (st : St) (t : ByteArray) (h : PAt w q c r K L st) :
   Calls Tryz.prog 39 #[Wr c st, .string t] w (Xd w q c r K L (Xu L t st) (.bool (isS L t st))) := by
 cases st with
 | ok a d => exact (cTake w c r K L a d t (h.cur a d rfl).2.2).mono fun e w' p => ⟨p.1, h.step p.2⟩
 | bad F => exact (nTake w t).mono fun e w' p => ⟨p.1, (Xf.start h).next p.2⟩
theorem xWant (w : World) (q c r K : Nat) (L : List TokV) (st : St) (t : ByteArray) (h : PAt w q c r K L st) :
   Calls Tryz.prog 85 #[Wr c st, .string t] w (Xd w q c r K L (Xu L t st) (Zs (wantV L t st))) := by
 cases st with
 | ok a d => exact (cWant w c r K L a d t (h.cur a d rfl).2.2).mono fun e w' p => ⟨p.1, h.step p.2⟩
 | bad F => exact (nWant w t).mono fun e w' p => ⟨p.1, (Xf.start h).next p.2⟩
theorem xDown (w : World) (q c r K : Nat) (L : List TokV) (st : St) (h : PAt w q c r K L st) :
   Calls Tryz.prog 117 #[Wr c st] w (Xd w q c r K L (deeperS st) (Zs (downV L st))) := by
 cases st with
 | ok a d => exact (cDown w c r K L a d (h.cur a d rfl).2.2).mono fun e w' p => ⟨p.1, h.step p.2⟩
 | bad F => exact (nDown w).mono fun e w' p => ⟨p.1, (Xf.start h).next p.2⟩
theorem xUp (w : World) (q c r K : Nat) (L : List TokV) (st : St) (h : PAt w q c r K L st) :
   Calls Tryz.prog 118 #[Wr c st] w (Xd w q c r K L (upS st) (.tuple #[])) := by
 cases st with
 | ok a d => exact (cUp w c r K L a d (h.cur a d rfl).2.2).mono fun e w' p => ⟨p.1, h.step p.2⟩
 | bad F => exact (nUp w).mono fun e w' p => ⟨p.1, by obtain ⟨_, rfl⟩ := p; exact Xf.start h⟩
theorem PAt.cell {w : World} {q c r K : Nat} {L : List TokV} {st : St} (h : PAt w q c r K L st) : w.cell? ⟨q, 0, none⟩ = some (Wr c st) := h.whole.read 0
theorem xNote (w : World) (q c r K : Nat) (L : List TokV) (st : St) (F : Int × Nat × Nat) (h : PAt w q c r K L st) :
   Calls Tryz.prog 37 #[.pointer (some ⟨q, 0, none⟩), Zs F] w (Xd w q c r K L (Vp F st) (.tuple #[])) := by
 obtain ⟨f0, f1, f2⟩ := F
 have nb := Zj w (.cells #[.int .i64 f0, .int .i64 (f1 : Int), .int .i64 (f2 : Int)] 29)
 have h1 := h.below nb
 have hc := h1.cell
 have HM := Hh ((Xf.start h).next nb)
 have H := Hh h
 have H1 := Hh h1
 clear h h1 nb
 unfold Zs
 cases st with
 | bad G =>
   have hc' : (w.alloc (.cells #[.int .i64 f0, .int .i64 (f1 : Int), .int .i64 (f2 : Int)] 29)).cell? ⟨q, 0, none⟩ = some (.pointer none) := hc
   clear hc
   go_enter Tryz.func37, Tryz.ntmps37
   go_wp2
   go_end0
   exact ⟨rfl, HM.out⟩
 | ok a d =>
   have hc' : (w.alloc (.cells #[.int .i64 f0, .int .i64 (f1 : Int), .int .i64 (f2 : Int)] 29)).cell? ⟨q, 0, none⟩ = some (.pointer (some ⟨c, 0, none⟩)) := hc
   clear hc
   by_cases hz : f0 = 0
   · subst hz
     have hn : Vp (0, f1, f2) (.ok a d) = .ok a d := by simp [Vp]
     rw [hn]
     clear hn
     go_enter Tryz.func37, Tryz.ntmps37
     go_wp2
     go_end0
     exact ⟨rfl, HM.out⟩
   · have hn : Vp (f0, f1, f2) (.ok a d) = .bad (f0, f1, f2) := if_neg hz
     rw [hn]
     have q1 : (f0 != 0) = true := by rw [bne_iff_ne]; exact hz
     have z0 := H1.out.whole.thawed 0
     have z1 := H1.out.whole.thawed 1
     have z2 := H1.out.whole.thawed 2
     have z3 := H1.out.whole.thawed 3
     have y1 := H1.out.whole.read 1
     have y2 := H1.out.whole.read 2
     have y3 := H1.out.whole.read 3
     have HZ := Hh hz
     clear hn hz
     go_enter Tryz.func37, Tryz.ntmps37
     go_wp2
     go_end0
     refine ⟨rfl, ⟨⟨?_, fun _ _ e => (by cases e), fun F e => (by cases e; exact HZ.out), ?_, ?_⟩, ?_⟩⟩
     · exact (((H1.out.whole.write 1 (.int .i64 f0)).write 2 (.int .i64 (f1 : Int))).write 3 (.int .i64 (f2 : Int))).write 0 (.pointer none)
     · have := H1.out.cin; simpa [World.setCell] using this
     · have := H1.out.rin; simpa [World.setCell] using this
     · exact (((HM.out.keeps.setCell (p := ⟨q, 1, none⟩) (.inl rfl) _).setCell (p := ⟨q, 2, none⟩) (.inl rfl) _).setCell (p := ⟨q, 3, none⟩) (.inl rfl) _).setCell (p := ⟨q, 0, none⟩) (.inl rfl) _
theorem want_note (L : List TokV) (t : ByteArray) (st : St) : Vp (wantV L t st) (Xu L t st) = Yx L t st := by
 cases st with
 | ok a d =>
   unfold Yx
   show Vp (wantF L a t) (.ok (Jb L a t) d) = if isT (Yj L a) t = true then .ok (Jb L a t) d else .bad (wrF (Yj L a))
   unfold wantF Jb
   by_cases h : isT (Yj L a) t = true
   · rw [if_pos h, if_pos h, if_pos h]; rfl
   · rw [if_neg h, if_neg h, if_neg h]; exact if_neg (wrF_ne _)
 | bad F => rfl
theorem wrong_note (L : List TokV) (st : St) : Vp (wrongV L st) st = wrongS L st := by
 cases st with
 | ok a d => exact if_neg (wrF_ne _)
 | bad F => rfl
theorem xwant (w : World) (q c r K : Nat) (L : List TokV) (st : St) (t : ByteArray) (h : PAt w q c r K L st) :
   Calls Tryz.prog 63 #[.pointer (some ⟨q, 0, none⟩), .string t] w (Xd w q c r K L (Yx L t st) (.tuple #[])) := by
 have hc := h.cell
 have H := Hh h
 rw [← want_note]
 generalize hv : wantV L t st = v
 have hw : ∀ w, PAt w q c r K L st → Calls Tryz.prog 85 #[Wr c st, .string t] w (Xd w q c r K L (Xu L t st) (Zs v)) := fun w h => by rw [← hv]; exact xWant w q c r K L st t h
 clear h hv
 go_enter Tryz.func63, Tryz.ntmps63
 go_wp2_with (first
 | (go_at_call 85; refine (hw _ H.out).mono ?_; rintro e w1 ⟨rfl, m1⟩; have M1 := Hh m1; clear m1)
 | (go_at_call 37; refine (xNote _ q c r K L _ v M1.out.at_).mono ?_; rintro e w2 ⟨rfl, m2⟩; have M2 := Hh (M1.out.then m2); clear m2))
 go_end0
 exact ⟨rfl, M2.out⟩
theorem idx_hit (v : TokV) : ∀ (ws : List ByteArray) (k : Nat) (hk : k < ws.length), (∀ j, j < k → isT v (ws.getD j ⟨#[]⟩) = false) → isT v (ws.getD k ⟨#[]⟩) = true → Uz v ws = k + 1
 | [], k, hk, _, _ => by cases hk
 | t :: r, 0, hk, _, h => if_pos h
 | t :: r, k + 1, hk, hj, h => by
   have h0 : isT v t = false := hj 0 (by omega)
   have ih := idx_hit v r k (by rw [List.length_cons] at hk; omega) (fun j hjk => hj (j + 1) (by omega)) h
   unfold Uz
   rw [if_neg (by rw [h0]; decide), if_neg (by rw [ih]; omega), ih]
theorem idx_miss (v : TokV) : ∀ (ws : List ByteArray), (∀ j, j < ws.length → isT v (ws.getD j ⟨#[]⟩) = false) → Uz v ws = 0
 | [], _ => rfl
 | t :: r, hj => by
   have h0 : isT v t = false := hj 0 (by rw [List.length_cons]; omega)
   have ih := idx_miss v r (fun j hjk => hj (j + 1) (by rw [List.length_cons]; omega))
   unfold Uz
   rw [if_neg (by rw [h0]; decide), if_pos ih]
theorem find_hit (L : List TokV) (ws : List ByteArray) (st : St) (k : Nat) (hk : k < ws.length) (hj : ∀ j, j < k → isS L (ws.getD j ⟨#[]⟩) st = false) (h : isS L (ws.getD k ⟨#[]⟩) st = true) :
   Zk L ws st = k + 1 ∧ Xc L ws st = Xu L (ws.getD k ⟨#[]⟩) st := by
 cases st with
 | ok a d =>
   have hi := idx_hit (Yj L a) ws k hk hj h
   refine ⟨hi, ?_⟩
   rw [show Xc L ws (.ok a d) = .ok (onA L a) d from if_neg (by rw [hi]; omega)]
   show St.ok (onA L a) d = .ok (Jb L a (ws.getD k ⟨#[]⟩)) d
   unfold Jb
   rw [if_pos (show isT (Yj L a) (ws.getD k ⟨#[]⟩) = true from h)]
 | bad F => cases h
theorem find_miss (L : List TokV) (ws : List ByteArray) (st : St) (hj : ∀ j, j < ws.length → isS L (ws.getD j ⟨#[]⟩) st = false) : Zk L ws st = 0 := by
 cases st with
 | ok a d => exact idx_miss (Yj L a) ws hj
 | bad F => rfl
theorem Wn {L : List TokV} {t : ByteArray} {st : St} (h : isS L t st = false) : Xu L t st = st := by
 cases st with
 | ok a d =>
   show St.ok (Jb L a t) d = .ok a d
   unfold Jb
   rw [if_neg (by rw [show isT (Yj L a) t = false from h]; decide)]
 | bad F => rfl
def Words (w : World) (g : Nat) (ws : List ByteArray) : Prop := Zh w g 9 (ws.map Value.string).toArray
theorem Words.at_ {w : World} {g : Nat} {ws : List ByteArray} (h : Words w g ws) {k : Nat} (hk : k < ws.length) : w.cell? ⟨g, k, none⟩ = some (.string (ws.getD k ⟨#[]⟩)) := by
 rw [Zh.read h k]
 simp [List.getD, hk]
theorem xfind (w : World) (q c r K : Nat) (L : List TokV) (st : St) (ws : List ByteArray) (g n m : Nat) (h : PAt w q c r K L st) (hw : Words w g ws) (hq : g ≠ q) (hc : g ≠ c) (hn : n = ws.length) (hl : n ≤ 64) :
   Calls Tryz.prog 50 #[.pointer (some ⟨q, 0, none⟩), .slice (some ⟨g, 0, none⟩) n m] w (Xd w q c r K L (Xc L ws st) (.int .i64 (Zk L ws st))) := by
 have H := Hh (And.intro hw (And.intro hq (And.intro hc hn)))
 have hP := Hh (Xf.start h)
 clear h hw hq hc hn
 have l64 : (n : Int) ≤ 64 := by omega
 go_enter Tryz.func50, Tryz.ntmps50
 go_wp2
 go_loopw [9] (fun i wr => ∃ k : Nat, i = .int .i64 k ∧ k ≤ n ∧ Xf w wr q c r K L st ∧ ∀ j, j < k → isS L (ws.getD j ⟨#[]⟩) st = false) (fun i _ => n - (intOf i).toNat)
 case atStart => exact ⟨0, by go_num, Nat.zero_le _, hP.out, fun j hj => by omega⟩
 case round =>
   obtain ⟨k, rfl, hk, hm, hj⟩ := hrel
   obtain ⟨H1, H2, H3, H4⟩ := H.out
   have HJ := Hh hj
   have HM := Hh hm
   have hcell := hm.at_.cell
   have HW : Words wr g ws := hm.keeps.whole H1 (by omega)
   have HN := Hh H4
   have hnw : k < n → k < ws.length := fun h => by omega
   have hwn : ¬ k < n → ∀ j, j < ws.length → j < k := fun h j hj => by omega
   clear H4
   by_cases hlt : k < n
   · have hx := HW.at_ (k := k) (hnw hlt)
     have hi := HW.inside
     generalize hv : isS L (ws.getD k ⟨#[]⟩) st = b
     have ht : ∀ w, PAt w q c r K L st → Calls Tryz.prog 39 #[Wr c st, .string (ws.getD k ⟨#[]⟩)] w (Xd w q c r K L (Xu L (ws.getD k ⟨#[]⟩) st) (.bool b)) := fun w h => by rw [← hv]; exact Ug w q c r K L st _ h
     generalize hX : ws.getD k ⟨#[]⟩ = x at *
     have HV := Hh hv
     have HX := Hh hX
     clear hX
     have hlt' : (k : Int) < (n : Int) := by omega
     have HK := Hh (hnw hlt)
     clear hm hj H1 H2 H3 HW hv hk hnw hwn
     cases b
     · go_wp2_with (go_at_call 39; refine (ht _ HM.out.at_).mono ?_; rintro e w1 ⟨rfl, m1⟩; have M1 := Hh (HM.out.then m1); clear m1)
       go_roundw
       case rel =>
         have m := M1.out
         rw [Wn HV.out] at m
         refine ⟨k + 1, by go_num, by omega, m, fun j hj => ?_⟩
         by_cases e : j = k
         · subst e; rw [HX.out]; exact HV.out
         · exact HJ.out j (by omega)
       case measure => simp [intOf]; omega
     · go_wp2_with (go_at_call 39; refine (ht _ HM.out.at_).mono ?_; rintro e w1 ⟨rfl, m1⟩; have M1 := Hh (HM.out.then m1); clear m1)
       go_ret
       obtain ⟨e1, e2⟩ := find_hit L ws st k HK.out HJ.out (by rw [HX.out]; exact HV.out)
       rw [e1, e2, HX.out]
       exact ⟨rI (by omega), M1.out⟩
   · have e := find_miss L ws st (fun j hj => HJ.out j (hwn hlt j hj))
     have HE := Hh e
     have hge : (n : Int) ≤ (k : Int) := by omega
     clear hm hj H1 H2 H3 HW e hnw hwn
     go_wp2
     go_ret
     rw [HE.out, Un L HE.out]
     exact ⟨rfl, HM.out⟩
theorem xone (w : World) (q c r K : Nat) (L : List TokV) (st : St) (ws : List ByteArray) (g n m : Nat) (h : PAt w q c r K L st) (hw : Words w g ws) (hq : g ≠ q) (hc : g ≠ c) (hn : n = ws.length) (hl : n ≤ 64) :
   Calls Tryz.prog 93 #[.pointer (some ⟨q, 0, none⟩), .slice (some ⟨g, 0, none⟩) n m] w (Xd w q c r K L (Zl L ws st) (.int .i64 (Zk L ws st))) := by
 have hf := xfind w q c r K L st ws g n m h hw hq hc hn hl
 have hb := idxW_le
 have hF : Zk L ws st = 0 → Xc L ws st = st := Un L
 unfold Zl
 generalize hk : Zk L ws st = k at *
 have HF := Hh hF
 have HK := Hh hk
 clear h hw hq hc hn hl hb hF hk
 by_cases h0 : k = 0
 · subst h0
   rw [if_pos rfl]
   rw [HF.out rfl] at hf
   rw [← wrong_note]
   generalize hv : wrongV L st = v
   have hw : ∀ w, PAt w q c r K L st → Calls Tryz.prog 38 #[Wr c st] w fun e w' => e = .returned (Zs v) ∧ Below w.heap.size w w' := fun w h => by rw [← hv]; exact xWrong w q c r K L st h
   clear hv
   go_enter Tryz.func93, Tryz.ntmps93
   go_wp2_with (first
 | (go_at_call 50; refine hf.mono ?_; rintro e w1 ⟨rfl, m1⟩; have hcell := m1.at_.cell; have M1 := Hh m1; clear m1)
 | (go_at_call 38; refine (hw _ M1.out.at_).mono ?_; rintro e w2 ⟨rfl, b2⟩; have M2 := Hh (M1.out.next b2); clear b2)
 | (go_at_call 37; refine (xNote _ q c r K L _ v M2.out.at_).mono ?_; rintro e w3 ⟨rfl, m3⟩; have M3 := Hh (M2.out.then m3); clear m3))
   go_ret
   exact ⟨rfl, M3.out⟩
 · rw [if_neg h0]
   have q0 : ((k : Int) == 0) = false := by rw [beq_eq_false_iff_ne]; omega
   clear h0
   go_enter Tryz.func93, Tryz.ntmps93
   go_wp2_with (go_at_call 50; refine hf.mono ?_; rintro e w1 ⟨rfl, m1⟩; have M1 := Hh m1; clear m1)
   go_ret
   exact ⟨rfl, M1.out⟩
theorem xoneB (W : World) (q c r K G : Nat) (L : List TokV) (st : St) (ws : List ByteArray) (n m : Nat) (cs : Array Value) (hcs : cs = (ws.map Value.string).toArray) (hG : G = W.heap.size) (h : PAt W q c r K L st) (hn : n = ws.length) (hl : n ≤ 64) :
   Calls Tryz.prog 93 #[.pointer (some ⟨q, 0, none⟩), .slice (some ⟨G, 0, none⟩) n m] (W.alloc (.cells cs 9)) fun e w' => e = .returned (.int .i64 (Zk L ws st)) ∧ Xf W w' q c r K L (Zl L ws st) := by
 subst hcs hG
 have M1 := (Xf.start h).next (Zj W (.cells (ws.map Value.string).toArray 9))
 have hq := h.whole.inside
 refine (xone _ q c r K L st ws W.heap.size n m M1.at_ (Zh.made _ _ _) (by omega) (by have := h.cin; omega) hn hl).mono ?_
 rintro e w' ⟨h1, h2⟩
 exact ⟨h1, M1.then h2⟩
theorem xfindB (W : World) (q c r K G : Nat) (L : List TokV) (st : St) (ws : List ByteArray) (n m : Nat) (cs : Array Value) (hcs : cs = (ws.map Value.string).toArray) (hG : G = W.heap.size) (h : PAt W q c r K L st) (hn : n = ws.length) (hl : n ≤ 64) :
   Calls Tryz.prog 50 #[.pointer (some ⟨q, 0, none⟩), .slice (some ⟨G, 0, none⟩) n m] (W.alloc (.cells cs 9)) fun e w' => e = .returned (.int .i64 (Zk L ws st)) ∧ Xf W w' q c r K L (Xc L ws st) := by
 subst hcs hG
 have M1 := (Xf.start h).next (Zj W (.cells (ws.map Value.string).toArray 9))
 have hq := h.whole.inside
 refine (xfind _ q c r K L st ws W.heap.size n m M1.at_ (Zh.made _ _ _) (by omega) (by have := h.cin; omega) hn hl).mono ?_
 rintro e w' ⟨h1, h2⟩
 exact ⟨h1, M1.then h2⟩
def intF (L : List TokV) : St → Int × Nat × Nat
 | .ok a _ => Xz L a 2
 | .bad _ => Ja
def intM (L : List TokV) : St → St
 | .ok a d => .ok (Wy L a 2) d
 | .bad F => .bad F
def nameF (L : List TokV) : St → Int × Nat × Nat
 | .ok a _ => Xz L a 3
 | .bad _ => Ja
def nameM (L : List TokV) : St → St
 | .ok a d => .ok (Wy L a 3) d
 | .bad F => .bad F
def sigF (L : List TokV) : St → Int × Nat × Nat
 | .ok a _ => Uv L a
 | .bad _ => Ja
def sigM (L : List TokV) : St → St
 | .ok a d => .ok (signA L a) d
 | .bad F => .bad F
theorem int_note (L : List TokV) (st : St) : Vp (intF L st) (intM L st) = Zam L st := by cases st <;> rfl
theorem name_note (L : List TokV) (st : St) : Vp (nameF L st) (nameM L st) = Vn L st := by cases st <;> rfl
theorem sig_note (L : List TokV) (st : St) : Vp (sigF L st) (sigM L st) = Jh L st := by cases st <;> rfl
theorem xInt (w : World) (q c r K : Nat) (L : List TokV) (st : St) (h : PAt w q c r K L st) :
   Calls Tryz.prog 65 #[Wr c st] w (Xd w q c r K L (intM L st) (.tuple #[.int .i64 (intN L st), Zs (intF L st)])) := by
 cases st with
 | ok a d => exact (cInt w c r K L a d (h.cur a d rfl).2.2).mono fun e w' p => ⟨p.1, h.step p.2⟩
 | bad F => exact (nInt w).mono fun e w' p => ⟨p.1, (Xf.start h).next p.2⟩
theorem xName (w : World) (q c r K : Nat) (L : List TokV) (st : St) (h : PAt w q c r K L st) :
   Calls Tryz.prog 62 #[Wr c st] w (Xd w q c r K L (nameM L st) (.tuple #[.string (nameN L st), Zs (nameF L st)])) := by
 cases st with
 | ok a d => exact (cName w c r K L a d (h.cur a d rfl).2.2).mono fun e w' p => ⟨p.1, h.step p.2⟩
 | bad F => exact (nName w).mono fun e w' p => ⟨p.1, (Xf.start h).next p.2⟩
theorem xSigned (w : World) (q c r K : Nat) (L : List TokV) (st : St) (h : PAt w q c r K L st) :
   Calls Tryz.prog 66 #[Wr c st] w (Xd w q c r K L (sigM L st) (.tuple #[.int .i64 (signN L st), Zs (sigF L st)])) := by
 cases st with
 | ok a d => exact (cSigned w c r K L a d (h.cur a d rfl).2.2).mono fun e w' p => ⟨p.1, h.step p.2⟩
 | bad F => exact (nSigned w).mono fun e w' p => ⟨p.1, (Xf.start h).next p.2⟩
theorem xreadInt (w : World) (q c r K : Nat) (L : List TokV) (st : St) (h : PAt w q c r K L st) :
   Calls Tryz.prog 64 #[.pointer (some ⟨q, 0, none⟩), .func (.func 65) #[Wr c st] #[]] w (Xd w q c r K L (Zam L st) (.int .i64 (intN L st))) := by
 have H := Hh h
 rw [← int_note]
 have hi := xInt w q c r K L st h
 generalize intF L st = F at *
 obtain ⟨f0, f1, f2⟩ := F
 have qin := h.whole.inside
 have cin := h.cin
 have rin := h.rin
 clear h
 unfold Zs at hi
 go_enter Tryz.func64, Tryz.ntmps64
 go_wp2_with (first
 | (go_at_call 65; refine hi.mono ?_; rintro e w1 ⟨rfl, m1⟩; have M1 := Hh (m1.next (Zj w1 (.cells #[.int .i64 f0, .int .i64 (f1 : Int), .int .i64 (f2 : Int)] 29))); clear m1)
 | (go_at_call 37; refine (xNote _ q c r K L _ (f0, f1, f2) M1.out.at_).mono ?_; rintro e w2 ⟨rfl, m2⟩; have M2 := Hh (M1.out.then m2); clear m2))
 go_ret
 exact ⟨rfl, M2.out⟩
theorem xreadName (w : World) (q c r K : Nat) (L : List TokV) (st : St) (h : PAt w q c r K L st) :
   Calls Tryz.prog 61 #[.pointer (some ⟨q, 0, none⟩), .func (.func 62) #[Wr c st] #[]] w (Xd w q c r K L (Vn L st) (.string (nameN L st))) := by
 have H := Hh h
 rw [← name_note]
 have hi := xName w q c r K L st h
 generalize nameF L st = F at *
 obtain ⟨f0, f1, f2⟩ := F
 have qin := h.whole.inside
 have cin := h.cin
 have rin := h.rin
 clear h
 unfold Zs at hi
 go_enter Tryz.func61, Tryz.ntmps61
 go_wp2_with (first
 | (go_at_call 62; refine hi.mono ?_; rintro e w1 ⟨rfl, m1⟩; have M1 := Hh (m1.next (Zj w1 (.cells #[.int .i64 f0, .int .i64 (f1 : Int), .int .i64 (f2 : Int)] 29))); clear m1)
 | (go_at_call 37; refine (xNote _ q c r K L _ (f0, f1, f2) M1.out.at_).mono ?_; rintro e w2 ⟨rfl, m2⟩; have M2 := Hh (M1.out.then m2); clear m2))
 go_ret
 exact ⟨rfl, M2.out⟩
theorem xreadSigned (w : World) (q c r K : Nat) (L : List TokV) (st : St) (h : PAt w q c r K L st) :
   Calls Tryz.prog 64 #[.pointer (some ⟨q, 0, none⟩), .func (.func 66) #[Wr c st] #[]] w (Xd w q c r K L (Jh L st) (.int .i64 (signN L st))) := by
 have H := Hh h
 rw [← sig_note]
 have hi := xSigned w q c r K L st h
 generalize sigF L st = F at *
 obtain ⟨f0, f1, f2⟩ := F
 have qin := h.whole.inside
 have cin := h.cin
 have rin := h.rin
 clear h
 unfold Zs at hi
 go_enter Tryz.func64, Tryz.ntmps64
 go_wp2_with (first
 | (go_at_call 66; refine hi.mono ?_; rintro e w1 ⟨rfl, m1⟩; have M1 := Hh (m1.next (Zj w1 (.cells #[.int .i64 f0, .int .i64 (f1 : Int), .int .i64 (f2 : Int)] 29))); clear m1)
 | (go_at_call 37; refine (xNote _ q c r K L _ (f0, f1, f2) M1.out.at_).mono ?_; rintro e w2 ⟨rfl, m2⟩; have M2 := Hh (M1.out.then m2); clear m2))
 go_ret
 exact ⟨rfl, M2.out⟩
theorem deep_note (L : List TokV) (t : ByteArray) (st : St) (h : isS L t st = true) : Vp (downV L st) (deeperS st) = deepS L t st := by
 cases st with
 | ok a d => exact (if_pos h).symm
 | bad F => cases h
theorem deep_not (L : List TokV) (t : ByteArray) (st : St) (h : isS L t st = false) : deepS L t st = st := by
 cases st with
 | ok a d => exact if_neg (by rw [show isT (Yj L a) t = false from h]; decide)
 | bad F => rfl
theorem xdescend (w : World) (q c r K : Nat) (L : List TokV) (st : St) (t : ByteArray) (h : PAt w q c r K L st) :
   Calls Tryz.prog 91 #[.pointer (some ⟨q, 0, none⟩), .string t] w (Xd w q c r K L (Wp L t st) (.tuple #[])) := by
 have hc := h.cell
 have H := Hh h
 have hi := xIs w q c r K L st t h
 unfold Wp
 cases hb : isS L t st
 · rw [deep_not L t st hb]
   rw [hb] at hi
   clear hb h
   go_enter Tryz.func91, Tryz.ntmps91
   go_wp2_with (first
 | (go_at_call 59; refine hi.mono ?_; rintro e w1 ⟨rfl, b1⟩; have M1 := Hh ((Xf.start H.out).next b1); clear b1)
 | (go_at_call 63; refine (xwant _ q c r K L _ t M1.out.at_).mono ?_; rintro e w2 ⟨rfl, m2⟩; have M2 := Hh (M1.out.then m2); clear m2))
   go_end0
   exact ⟨rfl, M2.out⟩
 · rw [hb] at hi
   rw [← deep_note L t st hb]
   generalize hv : downV L st = v
   have hd : ∀ w, PAt w q c r K L st → Calls Tryz.prog 117 #[Wr c st] w (Xd w q c r K L (deeperS st) (Zs v)) := fun w h => by rw [← hv]; exact xDown w q c r K L st h
   clear hb h hv
   go_enter Tryz.func91, Tryz.ntmps91
   go_wp2_with (first
 | (go_at_call 59; refine hi.mono ?_; rintro e w1 ⟨rfl, b1⟩; have hc1 := (H.out.below b1).cell; have M1 := Hh ((Xf.start H.out).next b1); clear b1)
 | (go_at_call 117; refine (hd _ M1.out.at_).mono ?_; rintro e w2 ⟨rfl, m2⟩; have M2 := Hh (M1.out.then m2); clear m2)
 | (go_at_call 37; refine (xNote _ q c r K L _ v M2.out.at_).mono ?_; rintro e w3 ⟨rfl, m3⟩; have M3 := Hh (M2.out.then m3); clear m3)
 | (go_at_call 63; refine (xwant _ q c r K L _ t M3.out.at_).mono ?_; rintro e w4 ⟨rfl, m4⟩; have M4 := Hh (M3.out.then m4); clear m4))
   go_end0
   exact ⟨rfl, M4.out⟩
theorem xascend (w : World) (q c r K : Nat) (L : List TokV) (st : St) (t : ByteArray) (h : PAt w q c r K L st) :
   Calls Tryz.prog 92 #[.pointer (some ⟨q, 0, none⟩), .string t] w (Xd w q c r K L (riseS L t st) (.tuple #[])) := by
 have H := Hh h
 have hw := xwant w q c r K L st t h
 unfold riseS
 generalize Yx L t st = s at *
 clear h
 go_enter Tryz.func92, Tryz.ntmps92
 go_wp2_with (first
 | (go_at_call 63; refine hw.mono ?_; rintro e w1 ⟨rfl, m1⟩; have hcell := m1.at_.cell; have M1 := Hh m1; clear m1)
 | (go_at_call 118; refine (xUp _ q c r K L _ M1.out.at_).mono ?_; rintro e w2 ⟨rfl, m2⟩; have M2 := Hh (M1.out.then m2); clear m2))
 go_end0
 exact ⟨rfl, M2.out⟩
theorem xside (w : World) (q c r K : Nat) (L : List TokV) (st : St) (h : PAt w q c r K L st) :
   Calls Tryz.prog 94 #[.pointer (some ⟨q, 0, none⟩)] w (Xd w q c r K L (Zl L Zo st) (.int .i64 (Zk L Zo st))) := by
 have qin := h.whole.inside
 have hf := xoneB w q c r K _ L st Zo 3 3 _ rfl rfl h rfl (by decide)
 clear h
 go_enter Tryz.func94, Tryz.ntmps94
 go_wp2_with (go_at_call 93; refine hf.mono ?_; rintro e w1 ⟨rfl, m1⟩; have M1 := Hh m1; clear m1)
 go_ret
 exact ⟨rfl, M1.out⟩
theorem xop (w : World) (q c r K : Nat) (L : List TokV) (st : St) (h : PAt w q c r K L st) :
   Calls Tryz.prog 90 #[.pointer (some ⟨q, 0, none⟩)] w (Xd w q c r K L (Zl L wOp st) (.int .i64 (Zk L wOp st))) := by
 have qin := h.whole.inside
 have hf := xoneB w q c r K _ L st wOp 6 6 _ rfl rfl h rfl (by decide)
 clear h
 go_enter Tryz.func90, Tryz.ntmps90
 go_wp2_with (go_at_call 93; refine hf.mono ?_; rintro e w1 ⟨rfl, m1⟩; have M1 := Hh m1; clear m1)
 go_ret
 exact ⟨rfl, M1.out⟩
theorem row_to : (Tryz.prog.underlying 41).map TypeDesc.isRow = some true := by kernel_rfl
theorem Ws : (Tryz.prog.info? 41).map (·.size) = some 2 := by kernel_rfl
theorem Ye : (Tryz.prog.info? 3).map (·.size) = some 1 := by kernel_rfl
theorem Xf.put {w x y : World} {q c r K : Nat} {L : List TokV} {st : St} (m : Xf w x q c r K L st) {G : Nat} {t : TypeId} {vs : List Value} (p : Put x y G t vs) (hG : w.heap.size ≤ G) (hq : q < w.heap.size) (hc : c < w.heap.size) (hr : r < w.heap.size) : Xf w y q c r K L st := m.on p.keeps hG hq hc hr
set_option maxRecDepth 20000 in
theorem xto (w : World) (q c r K : Nat) (L : List TokV) (st : St) (h : PAt w q c r K L st) :
   Calls Tryz.prog 96 #[.pointer (some ⟨q, 0, none⟩)] w (Xd w q c r K L (toS L st) (.agg #[.int .i64 (toK L st), .int .i64 (toL L st)])) := by
 have qin := h.whole.inside
 have cin := h.cin
 have rin := h.rin
 have nb := Zj w (.cells #[.int .i64 0, .int .i64 0] 41)
 have M0 := Hh ((Xf.start h).next nb)
 have R0 := Hh (Zh.made w 41 #[.int .i64 0, .int .i64 0])
 have hf := xoneB _ q c r K (w.heap.size + 1) L st wTo 4 4 _ rfl (by simp) M0.out.at_ rfl (by decide)
 clear h
 unfold toS toK toL
 generalize hk : Zk L wTo st = k at *
 generalize Zl L wTo st = s1 at *
 clear hk
 by_cases h4 : k = 4
 · subst h4
   rw [if_pos rfl, if_pos rfl]
   rw [show ((4 : Nat) : Int) = 4 from rfl] at hf ⊢
   go_enter Tryz.func96, Tryz.ntmps96
   go_wp2_with (first
 | (go_at_call 93; refine hf.mono ?_; rintro e w1 ⟨rfl, m1⟩
    have nb := Zj w1 (.cells #[.int .i64 4, .int .i64 0] 41)
    have hcell := (m1.at_.below nb).cell
    have hz1 : w.heap.size + 1 ≤ w1.heap.size := by have := m1.keeps.size; simp at this; omega
    have T1 := Hh (Zh.made w1 41 #[.int .i64 4, .int .i64 0])
    have R1 := Hh ((m1.keeps.whole R0.out (by omega)).below nb (by omega))
    have M1 := Hh ((M0.out.then m1).next nb); clear m1 nb)
 | (go_at_call 64; refine (xreadInt _ q c r K L _ M1.out.at_).mono ?_; rintro e w2 ⟨rfl, m2⟩
    have hz2 : w1.heap.size + 1 ≤ w2.heap.size := by have := m2.keeps.size; simp at this; omega
    have T2 := Hh (m2.keeps.whole T1.out (by omega))
    have R2 := Hh (m2.keeps.whole R1.out (by omega))
    have M2 := Hh (M1.out.then m2); clear m2)
 | ((with_reducible refine Zi 18 17 ?_); refine Zr 3 _ _ 41 w1.heap.size 1 [.int .i64 4] (.int .i64 0) (.int .i64 (intN L s1)) [] T2.out rfl Ye rfl rfl rfl rfl rfl rfl ?_
    intro w3 p3
    have T3 := Hh (show Zh w3 w1.heap.size 41 [.int .i64 4, .int .i64 (intN L s1)].toArray from p3.whole)
    have R3 := Hh (p3.keeps.whole R2.out (by omega))
    have M3 := Hh (M2.out.put p3 (by omega) qin cin rin)
    clear p3)
 | ((with_reducible refine Zf 19 ?_); refine Zb 41 _ 41 w1.heap.size _ T3.out row_to Ws rfl rfl rfl ?_)
 | ((with_reducible refine Zi 2 19 ?_); refine Za 41 _ _ 41 w.heap.size _ [.int .i64 4, .int .i64 (intN L s1)] R3.out rfl Ws (by simp [Value.oneCell']) rfl rfl rfl rfl rfl ?_
    intro w4 p4
    have R4 := Hh p4.whole
    have M4 := Hh (M3.out.put p4 (Nat.le_refl _) qin cin rin)
    clear p4))
   exact Yy 2 41 41 w.heap.size _ rfl R4.out row_to Ws rfl rfl ⟨rfl, M4.out⟩
 · rw [if_neg h4, if_neg h4]
   have q4 : ((k : Int) == 4) = false := by rw [beq_eq_false_iff_ne]; omega
   clear h4
   go_enter Tryz.func96, Tryz.ntmps96
   go_wp2_with (first
 | (go_at_call 93; refine hf.mono ?_; rintro e w1 ⟨rfl, m1⟩
    have nb := Zj w1 (.cells #[.int .i64 (k : Int), .int .i64 0] 41)
    have hz1 : w.heap.size + 1 ≤ w1.heap.size := by have := m1.keeps.size; simp at this; omega
    have T1 := Hh (Zh.made w1 41 #[.int .i64 (k : Int), .int .i64 0])
    have R1 := Hh ((m1.keeps.whole R0.out (by omega)).below nb (by omega))
    have M1 := Hh ((M0.out.then m1).next nb); clear m1 nb)
 | ((with_reducible refine Zf 19 ?_); refine Zb 41 _ 41 w1.heap.size _ T1.out row_to Ws rfl rfl rfl ?_)
 | ((with_reducible refine Zi 2 19 ?_); refine Za 41 _ _ 41 w.heap.size _ [.int .i64 (k : Int), .int .i64 0] R1.out rfl Ws (by simp [Value.oneCell']) rfl rfl rfl rfl rfl ?_
    intro w4 p4
    have R4 := Hh p4.whole
    have M4 := Hh (M1.out.put p4 (Nat.le_refl _) qin cin rin)
    clear p4))
   exact Yy 2 41 41 w.heap.size _ rfl R4.out row_to Ws rfl rfl ⟨rfl, M4.out⟩
end Go.Proofs.YtgfkimknnbpmnaaGreat
