/-
  Texts SynMem, LintMath, Lint1, Lint2, CurNil, SynP, SynP2, SynP3. No conditions but those that each theorem names.
-/
import Derived.Deep.MidRow
import Derived.Deep.RegionHeld3
import Derived.Test.YtabegjepejgllaaGreatQL15
namespace Go.Proofs.YtabegjepejgllaaGreat
open Go Go.RowKit
set_option linter.unusedSimpArgs false
set_option linter.unusedVariables false
inductive Ds where
 | nil
 | int (n : Int) (r : Ds)
 | str (s : ByteArray) (r : Ds)
 | row (n : Nat) (cs r : Ds)
def Ds.app : Ds → Ds → Ds
 | .nil, y => y
 | .int n r, y => .int n (r.app y)
 | .str s r, y => .str s (r.app y)
 | .row n cs r, y => .row n cs (r.app y)
def Ds.len : Ds → Nat
 | .nil => 0
 | .int _ r => r.len + 1
 | .str _ r => r.len + 1
 | .row _ _ r => r.len + 1
theorem Ds.app_nil : ∀ x : Ds, x.app .nil = x
 | .nil => rfl
 | .int n r => by rw [Ds.app, Ds.app_nil r]
 | .str s r => by rw [Ds.app, Ds.app_nil r]
 | .row n cs r => by rw [Ds.app, Ds.app_nil r]
theorem Ds.app_assoc (y z : Ds) : ∀ x : Ds, (x.app y).app z = x.app (y.app z)
 | .nil => rfl
 | .int n r => by rw [Ds.app, Ds.app, Ds.app, Ds.app_assoc y z r]
 | .str s r => by rw [Ds.app, Ds.app, Ds.app, Ds.app_assoc y z r]
 | .row n cs r => by rw [Ds.app, Ds.app, Ds.app, Ds.app_assoc y z r]
theorem Ds.len_app (y : Ds) : ∀ x : Ds, (x.app y).len = x.len + y.len
 | .nil => by rw [Ds.app, Ds.len]; omega
 | .int n r => by rw [Ds.app, Ds.len, Ds.len, Ds.len_app y r]; omega
 | .str s r => by rw [Ds.app, Ds.len, Ds.len, Ds.len_app y r]; omega
 | .row n cs r => by rw [Ds.app, Ds.len, Ds.len, Ds.len_app y r]; omega
def Within (N : Nat → Prop) (w : World) (A : Option Addr) (xs : List Value) : Prop :=
 xs = [] ∨ ∃ g, A = some ⟨g, 0, none⟩ ∧ N g ∧ g < w.heap.size ∧ ∀ j, j < xs.length → w.cell? ⟨g, j, none⟩ = xs[j]?
def Zi (N : Nat → Prop) (w : World) : Ds → List Value → Prop
 | .nil, vs => vs = []
 | .int n r, vs => ∃ t, vs = .int .i64 n :: t ∧ Zi N w r t
 | .str s r, vs => ∃ t, vs = .string s :: t ∧ Zi N w r t
 | .row n cs r, vs => ∃ A c xs t, vs = .slice A n c :: t ∧ n ≤ 9223372036854775807 ∧ Within N w A xs ∧ Zi N w cs xs ∧ Zi N w r t
theorem Within.keeps {N M S : Nat → Prop} {w w' : World} {A : Option Addr} {xs : List Value} (h : Within N w A xs) (hk : Zn S w w') (hs : ∀ k, k < w.heap.size → N k → ¬ S k ∧ M k) : Within M w' A xs := by
 rcases h with h | ⟨g, e, h1, h2, h3⟩
 · exact .inl h
 · exact .inr ⟨g, e, (hs g h2 h1).2, Nat.lt_of_lt_of_le h2 hk.size, fun j hj => (World.cell?_of_block (a := ⟨g, j, none⟩) (hk.block g h2 (hs g h2 h1).1)).trans (h3 j hj)⟩
theorem Zi.keeps {N M S : Nat → Prop} {w w' : World} (hk : Zn S w w') (hs : ∀ k, k < w.heap.size → N k → ¬ S k ∧ M k) : ∀ {ds : Ds} {vs : List Value}, Zi N w ds vs → Zi M w' ds vs
 | .nil, vs, h => h
 | .int n r, vs, ⟨t, e, h⟩ => ⟨t, e, Zi.keeps hk hs h⟩
 | .str s r, vs, ⟨t, e, h⟩ => ⟨t, e, Zi.keeps hk hs h⟩
 | .row n cs r, vs, ⟨A, c, xs, t, e, hn, h1, h2, h3⟩ => ⟨A, c, xs, t, e, hn, h1.keeps hk hs, Zi.keeps hk hs h2, Zi.keeps hk hs h3⟩
theorem Zi.mono {N M : Nat → Prop} {w : World} {ds : Ds} {vs : List Value} (h : Zi N w ds vs) (hs : ∀ k, k < w.heap.size → N k → M k) : Zi M w ds vs :=
 h.keeps (S := fun _ => False) (Zn.refl _ w) fun k hk hn => ⟨id, hs k hk hn⟩
theorem Zi.below {N : Nat → Prop} {w w' : World} {ds : Ds} {vs : List Value} (h : Zi N w ds vs) (hb : Below w.heap.size w w') : Zi N w' ds vs :=
 h.keeps (S := fun _ => False) (Zn.of_below hb) fun k _ hn => ⟨id, hn⟩
theorem Zi.len {N : Nat → Prop} {w : World} : ∀ {ds : Ds} {vs : List Value}, Zi N w ds vs → vs.length = ds.len
 | .nil, vs, h => by cases h; rfl
 | .int n r, vs, ⟨t, e, h⟩ => by rw [e, List.length_cons, Zi.len h]; rfl
 | .str s r, vs, ⟨t, e, h⟩ => by rw [e, List.length_cons, Zi.len h]; rfl
 | .row n cs r, vs, ⟨A, c, xs, t, e, _, _, _, h⟩ => by rw [e, List.length_cons, Zi.len h]; rfl
theorem Zi.one {N : Nat → Prop} {w : World} : ∀ {ds : Ds} {vs : List Value}, Zi N w ds vs → ∀ v ∈ vs, v.oneCell' = true
 | .nil, vs, h => by cases h; intro v hv; cases hv
 | .int n r, vs, ⟨t, e, h⟩ => by rw [e]; intro v hv; rcases List.mem_cons.1 hv with rfl | hv; rfl; exact Zi.one h v hv
 | .str s r, vs, ⟨t, e, h⟩ => by rw [e]; intro v hv; rcases List.mem_cons.1 hv with rfl | hv; rfl; exact Zi.one h v hv
 | .row n cs r, vs, ⟨A, c, xs, t, e, _, _, _, h⟩ => by rw [e]; intro v hv; rcases List.mem_cons.1 hv with rfl | hv; rfl; exact Zi.one h v hv
theorem Zi.app {N : Nat → Prop} {w : World} {y : Ds} {us : List Value} (hy : Zi N w y us) : ∀ {x : Ds} {vs : List Value}, Zi N w x vs → Zi N w (x.app y) (vs ++ us)
 | .nil, vs, h => by cases h; exact hy
 | .int n r, vs, ⟨t, e, h⟩ => ⟨t ++ us, by rw [e]; rfl, Zi.app hy h⟩
 | .str s r, vs, ⟨t, e, h⟩ => ⟨t ++ us, by rw [e]; rfl, Zi.app hy h⟩
 | .row n cs r, vs, ⟨A, c, xs, t, e, hn, h1, h2, h⟩ => ⟨A, c, xs, t ++ us, by rw [e]; rfl, hn, h1, h2, Zi.app hy h⟩
theorem Zi.split {N : Nat → Prop} {w : World} {y : Ds} : ∀ {x : Ds} {vs : List Value}, Zi N w (x.app y) vs → ∃ a b, vs = a ++ b ∧ Zi N w x a ∧ Zi N w y b
 | .nil, vs, h => ⟨[], vs, rfl, rfl, h⟩
 | .int n r, vs, ⟨t, e, h⟩ => by obtain ⟨a, b, e2, h1, h2⟩ := Zi.split (x := r) h; exact ⟨.int .i64 n :: a, b, by rw [e, e2]; rfl, ⟨a, rfl, h1⟩, h2⟩
 | .str s r, vs, ⟨t, e, h⟩ => by obtain ⟨a, b, e2, h1, h2⟩ := Zi.split (x := r) h; exact ⟨.string s :: a, b, by rw [e, e2]; rfl, ⟨a, rfl, h1⟩, h2⟩
 | .row n cs r, vs, ⟨A, c, xs, t, e, hn, g1, g2, h⟩ => by obtain ⟨a, b, e2, h1, h2⟩ := Zi.split (x := r) h; exact ⟨.slice A n c :: a, b, by rw [e, e2]; rfl, ⟨A, c, xs, a, rfl, hn, g1, g2, h1⟩, h2⟩
theorem own_within {w : World} {base : Nat} {e : TypeId} {size : Nat} {v : Value} {n : Nat} {xs : List Value} (h : w.ownsRow base e size v n xs) :
   ∃ A c, v = .slice A n c ∧ n ≤ 9223372036854775807 ∧ Within (fun k => base ≤ k) w A xs := by
 obtain ⟨hl, h⟩ := id h
 rcases h with ⟨rfl, rfl⟩ | ⟨g, cap, cur, rfl, hb, hw, h1, h2, h3, h4⟩
 · refine ⟨none, 0, rfl, by omega, .inl ?_⟩
   rw [Nat.zero_mul] at hl
   exact List.length_eq_zero_iff.1 hl
 · unfold maxLen at h2
   refine ⟨some ⟨g, 0, none⟩, cap, rfl, by omega, .inr ⟨g, rfl, hb, Zb.inside (cs := cur) hw, fun j hj => ?_⟩⟩
   rw [Zb.read (cs := cur) hw j, ← h4, List.getElem?_take]
   have hj' : j < n * size := by rw [← hl]; exact hj
   rw [if_pos hj', Array.getElem?_toList]
theorem Zi.rowOf {N : Nat → Prop} {w : World} {base : Nat} {e : TypeId} {size : Nat} {v : Value} {n : Nat} {xs : List Value} {ds : Ds} (h : w.ownsRow base e size v n xs) (hb : ∀ k, base ≤ k → N k) (hd : Zi N w ds xs) :
   Zi N w (.row n ds .nil) [v] := by
 obtain ⟨A, c, rfl, hn, hw⟩ := own_within h
 exact ⟨A, c, xs, [], rfl, hn, hw.keeps (S := fun _ => False) (Zn.refl _ w) (fun k _ hk => ⟨id, hb k hk⟩), hd, rfl⟩
theorem Zb.range {w : World} {g : Nat} {t : TypeId} {a b c : List Value} (h : Zb w g t (a ++ b ++ c).toArray) : w.rangeAt g a.length b := fun j v hv => by
 have hj : j < b.length := (List.getElem?_eq_some_iff.1 hv).1
 rw [h.read, List.getElem?_toArray, List.getElem?_append_left (by rw [List.length_append]; omega), List.getElem?_append_right (by omega), show a.length + j - a.length = j from by omega, hv]
theorem Zb.there {w : World} {g : Nat} {t : TypeId} {a b c : List Value} (h : Zb w g t (a ++ b ++ c).toArray) : w.there g a.length b.length := fun j hj =>
 ⟨h.range.isSome j hj, h.thawed _⟩
theorem Zb.setCells {g : Nat} {t : TypeId} (c : List Value) : ∀ (y b a : List Value) (w : World), y.length = b.length → Zb w g t (a ++ b ++ c).toArray → Zb (w.setCells g a.length y) g t (a ++ y ++ c).toArray
 | [], b, a, w, hl, h => by
   have : b = [] := List.length_eq_zero_iff.1 (by rw [← hl]; rfl)
   rw [this] at h
   exact h
 | v :: y, [], a, w, hl, h => by cases hl
 | v :: y, u :: b, a, w, hl, h => by
   rw [World.setCells]
   have h1 := h.write a.length v
   have e : (a ++ u :: b ++ c).toArray.setIfInBounds a.length v = ((a ++ [v]) ++ b ++ c).toArray := by
     simp [List.setIfInBounds_toArray, List.set_append_right]
   rw [e] at h1
   have h2 := Zb.setCells c y b (a ++ [v]) _ (by rw [List.length_cons, List.length_cons] at hl; omega) h1
   rw [List.length_append] at h2
   have e2 : (a ++ [v] ++ y ++ c).toArray = (a ++ v :: y ++ c).toArray := by simp
   rw [e2] at h2
   exact h2
theorem Zn.setCells {S : Nat → Prop} {g : Nat} (hg : S g) : ∀ (y : List Value) (o : Nat) {a b : World}, Zn S a b → Zn S a (b.setCells g o y)
 | [], _, _, _, h => h
 | v :: y, o, a, b, h => Zn.setCells hg y (o + 1) (h.setCell (p := ⟨g, o, none⟩) hg v)
theorem Zg {P : Program} {ops : Array Oper} {rest : List Oper} {op : Op} {t : TypeId} {ps : String} {af : Array Edge} {gd : Option (Nat × Bool)} {a : Act} {w : World} {Q : Exit → Act → World → Prop} (d : Nat)
   (h : wpList P ops Q (⟨some d, op, t, ps, af, gd⟩ :: rest) a w) : wpList P ops Q (⟨some d, op, t, ps, af, gd⟩ :: rest) a w := h
theorem Zl {P : Program} {ops : Array Oper} {rest : List Oper} {T : TypeId} {t : TypeId} {ps : String} {af : Array Edge} {gd : Option (Nat × Bool)} {a : Act} {w : World} {Q : Exit → Act → World → Prop} (x y : Nat)
   (h : wpList P ops Q (⟨none, .store T (.tmp x) (.tmp y), t, ps, af, gd⟩ :: rest) a w) : wpList P ops Q (⟨none, .store T (.tmp x) (.tmp y), t, ps, af, gd⟩ :: rest) a w := h
structure Put (w w' : World) (g : Nat) (t : TypeId) (vs : List Value) : Prop where
 whole : Zb w' g t vs.toArray
 keeps : Zn (fun k => k = g) w w'
theorem Xk {P : Program} {ops : Array Oper} {rest : List Oper} {o : Oper} {a : Act} {w : World} {Q : Exit → Act → World → Prop} (T : TypeId) (x y : Operand) (t : TypeId) (g n : Nat) (pre old post ys : List Value) (hW : Zb w g t (pre ++ old ++ post).toArray) (hl : ys.length = old.length)
   (hpn : n = pre.length) (hi : (P.info? T).map (·.size) = some ys.length) (h1 : ∀ v ∈ ys, v.oneCell' = true)
   (hgd : o.guard = none) (ho : o.op = .store T x y) (hd : o.dst = none)
   (hx : a.eval x = .pointer (some ⟨g, n, none⟩)) (hy : a.eval y = .agg ys.toArray)
   (h : ∀ w', Put w w' g t (pre ++ ys ++ post) → wpList P ops Q rest a w') : wpList P ops Q (o :: rest) a w := by
 subst hpn
 have ht : w.there g pre.length ys.length := by rw [hl]; exact hW.there
 refine wpList_store_mid hgd T x y ho g pre.length ys.toArray hx hy (by simpa using ht) (by simpa using hi) (all_oneCell_toArray h1) ?_
 rw [hd]
 exact h _ ⟨Zb.setCells post ys old pre w hl hW, Zn.setCells (S := fun k => k = g) rfl _ _ (Zn.refl _ _)⟩
theorem wpList_storeW {P : Program} {ops : Array Oper} {rest : List Oper} {o : Oper} {a : Act} {w : World} {Q : Exit → Act → World → Prop} (T : TypeId) (x y : Operand) (t : TypeId) (g : Nat) (old ys : List Value) (hW : Zb w g t old.toArray) (hl : ys.length = old.length)
   (hi : (P.info? T).map (·.size) = some ys.length) (h1 : ∀ v ∈ ys, v.oneCell' = true)
   (hgd : o.guard = none) (ho : o.op = .store T x y) (hd : o.dst = none)
   (hx : a.eval x = .pointer (some ⟨g, 0, none⟩)) (hy : a.eval y = .agg ys.toArray)
   (h : ∀ w', Put w w' g t ys → wpList P ops Q rest a w') : wpList P ops Q (o :: rest) a w :=
 Xk T x y t g 0 [] old [] ys (by simpa using hW) hl rfl hi h1 hgd ho hd hx hy fun w' p => h w' ⟨by simpa using p.whole, p.keeps⟩
theorem wpList_store1 {P : Program} {ops : Array Oper} {rest : List Oper} {o : Oper} {a : Act} {w : World} {Q : Exit → Act → World → Prop} (T : TypeId) (x y : Operand) (t : TypeId) (g n : Nat) (pre : List Value) (old v : Value) (post : List Value) (hW : Zb w g t (pre ++ [old] ++ post).toArray)
   (hpn : n = pre.length) (hi : (P.info? T).map (·.size) = some 1) (h1 : v.oneCell' = true)
   (hgd : o.guard = none) (ho : o.op = .store T x y) (hd : o.dst = none)
   (hx : a.eval x = .pointer (some ⟨g, n, none⟩)) (hy : a.eval y = v)
   (h : ∀ w', Put w w' g t (pre ++ [v] ++ post) → wpList P ops Q rest a w') : wpList P ops Q (o :: rest) a w := by
 subst hpn
 refine wpList_plain hgd fun K hK => ?_
 have hc : v.cells = #[v] := by cases v <;> first | rfl | cases h1
 have hst : (storeVar T ⟨g, pre.length, none⟩ v).run P w = .ok () (w.setCells g pre.length [v]) := by
   have := run_storeCells_cells (P := P) g pre.length [v] 0 w (fun j hj => by simpa using (hW.there j hj).1) (fun j hj => by simpa using (hW.there j hj).2) (fun u hu => by simp at hu; rw [hu]; exact h1)
   cases hq : P.info? T with
   | none => simp [hq] at hi
   | some i =>
     have hs : i.size = 1 := by simpa [hq] using hi
     simp only [Nat.add_zero] at this
     simp [storeVar, sizeOf, typeInfo, hq, hc, hs, this]
 unfold Oper.wp execOp
 simp only [ho, hx, hy, Instr.storeAt, Instr.sureAddr, Sem.run_bind, Sem.run_pure, Result.andThen_ok, hst]
 have hh := hK _ _ (h _ ⟨Zb.setCells post [v] [old] pre w rfl hW, Zn.setCells (S := fun k => k = g) rfl _ _ (Zn.refl _ _)⟩)
 have e : a.put o.dst undef = a := by rw [hd]; rfl
 show K (a.put o.dst undef) _
 rw [e]
 exact hh
theorem wpList_loadP {P : Program} {ops : Array Oper} {rest : List Oper} {o : Oper} {a : Act} {w : World} {Q : Exit → Act → World → Prop} (T : TypeId) (x : Operand) (t : TypeId) (g n : Nat) (pre vs post : List Value) (hW : Zb w g t (pre ++ vs ++ post).toArray) (hpn : n = pre.length)
   (hu : (P.underlying T).map TypeDesc.isRow = some true) (hi : (P.info? T).map (·.size) = some vs.length)
   (hgd : o.guard = none) (ho : o.op = .load T x) (hx : a.eval x = .pointer (some ⟨g, n, none⟩))
   (h : wpList P ops Q rest (a.put o.dst (.agg vs.toArray)) w) : wpList P ops Q (o :: rest) a w := by
 subst hpn
 obtain ⟨d, hu, hr⟩ := Option.map_eq_some_iff.1 hu
 exact wpList_load_mid hgd T x ho g pre.length hx vs d hW.range hu hr hi h
theorem Zh {P : Program} {ops : Array Oper} {rest : List Oper} {o : Oper} {a : Act} {w : World} {Q : Exit → Act → World → Prop} (T : TypeId) (x : Operand) (t : TypeId) (g : Nat) (vs : List Value) (hW : Zb w g t vs.toArray)
   (hu : (P.underlying T).map TypeDesc.isRow = some true) (hi : (P.info? T).map (·.size) = some vs.length)
   (hgd : o.guard = none) (ho : o.op = .load T x) (hx : a.eval x = .pointer (some ⟨g, 0, none⟩))
   (h : wpList P ops Q rest (a.put o.dst (.agg vs.toArray)) w) : wpList P ops Q (o :: rest) a w :=
 wpList_loadP T x t g 0 [] vs [] (by simpa using hW) rfl hu hi hgd ho hx h
theorem wpList_pushL {P : Program} {w : World} {ops : Array Oper} {rest : List Oper} {o : Oper} {a : Act} {Q : Exit → Act → World → Prop} (s x : Operand) (t e : TypeId) (sz bytes : Nat) (z : Value)
   (ht : P.underlying t = some (.slice e)) (hinfo : (P.info? e).map (fun i => (i.zero, i.size, i.bytes)) = some (some z, sz, bytes)) (hzs : z.cells.size = sz) (hpos : 0 < sz) (hby : bytes ≤ 1024)
   (base : Nat) (v : Value) (n : Nat) (xs news : List Value) (hown : w.ownsRow base e sz v n xs) (g : Nat) (hW : Zb w g e news.toArray) (hnl : news.length = sz) (h1 : ∀ u ∈ news, u.oneCell' = true)
   (hn : n ≤ 68719476736) (hbase : base ≤ w.heap.size)
   (hgd : o.guard = none) (ho : o.op = .call { callee := .builtin .append, args := #[s, x], argTypes := #[t, t] }) (hs : a.eval s = v) (hx : a.eval x = .slice (some ⟨g, 0, none⟩) 1 1)
   (h : ∀ v' w', w'.ownsRow base e sz v' (n + 1) (xs ++ news) → w.grownBy w' v.ownBlock → (v'.ownBlock = v.ownBlock ∨ v'.ownBlock = some w.heap.size) → wpList P ops Q rest (a.put o.dst v') w') :
   wpList P ops Q (o :: rest) a w := by
 obtain ⟨i, hi, hz, hsize, hbytes⟩ := info_parts hinfo
 refine wpList_append_own_at w hgd s x t ho base e i z sz bytes ht hi hz hsize hbytes hzs hpos v n xs hs hown ⟨g, 0, none⟩ 1 1 news hx (by rw [hnl]; omega) ?_ h1 (by unfold maxLen; omega) ?_ hbase ?_
 · intro j u hj
   have hr := hW.read j
   have ha : (⟨g, 0, none⟩ : Addr).add j = ⟨g, j, none⟩ := by simp [Addr.add]; omega
   rw [ha, hr, ← hj]; simp
 · have : (n + 1) * bytes ≤ (n + 1) * 1024 := Nat.mul_le_mul_left _ hby
   omega
 · intro v' w' ho' hg _ hat
   exact h v' w' ho' hg hat
theorem Zo {P : Program} {fn : Func} {R : Ending → World → Prop} {a : Act} {w : World} (s T : Nat) (t : TypeId) (g : Nat) (vs : List Value) (hres : fn.results = #[.cell s T]) (hW : Zb w g t vs.toArray)
   (hu : (P.underlying T).map TypeDesc.isRow = some true) (hi : (P.info? T).map (·.size) = some vs.length)
   (hp : a.tmps.getD s undef = .pointer (some ⟨g, 0, none⟩)) (hd : a.defers = []) (hR : R (.returned (.agg vs.toArray)) w) : bodyPost P fn R .ret a w := by
 obtain ⟨d, hu, hr⟩ := Option.map_eq_some_iff.1 hu
 refine bodyPost_ret (v := .agg vs.toArray) ?_ hd hR
 have hl := run_loadVar_mid (P := P) w g 0 T vs d (by have := Zb.range (a := []) (b := vs) (c := []) (by simpa using hW); exact this) hu hr hi
 have hp' : a.tmps[s]?.getD undef = .pointer (some ⟨g, 0, none⟩) := by simpa using hp
 simp [results, hres, hp', hl, asAddr, Sem.run_bind, Sem.run_pure]
end Go.Proofs.YtabegjepejgllaaGreat
namespace Go.Proofs.YtabegjepejgllaaGreat
open Go
set_option linter.unusedSimpArgs false
set_option linter.unusedVariables false
structure Sc where
 place : Bool
 whn : Int
 each : Bool
abbrev Fa := Int × Int × Int
def faV (F : Fa) : Value := .agg #[.int .i64 F.1, .int .i64 F.2.1, .int .i64 F.2.2]
def orE (a b : Int) : Int := if a = 0 then b else a
def orF (a b : Fa) : Fa := if a.1 = 0 ∧ a.2.1 = 0 ∧ a.2.2 = 0 then b else a
def atF (e l c : Int) : Fa := if e = 0 then (0, 0, 0) else (e, l, c)
def outB (n lo hi : Int) : Bool := decide (n < lo) || decide (hi < n)
def Sc.entered (c : Sc) : Bool := c.place && (c.whn == 6)
def lSide (c : Sc) (n : Int) : Int := if (c.place && !c.entered && (n == 1 || n == 2)) = true then 24 else 0
def lTo (tk tl : Int) : Int := if (tk == 4 && outB tl 1 3) = true then 20 else 0
def Us (s : Se) (k f : Int) : Bool := s.fs.any (fun x => x.kind == f) || (s.kind == k)
def lSelE (c : Sc) (s : Se) : Int :=
 if (!(c.each || c.entered) && Us s 2 5) = true then 24
 else if (c.place && Us s 1 4) = true then 24
 else if lSide c s.side ≠ 0 then lSide c s.side
 else if (s.wh == 3 && outB s.lane 1 3) = true then 20
 else if 4 < s.fs.length then 9 else 0
def Ws (c : Sc) : Ex → Int
 | .leaf k n s sd tk tl => if k = 2 ∨ k = 3 then lSelE c s else if k = 5 then lSide c sd else if k = 6 then orE (lSide c sd) (lTo tk tl) else 0
 | .bin op l r => orE (Ws c l) (Ws c r)
def lParts (c : Sc) (h : AH) : Int :=
 if h.kind = 1 ∨ h.kind = 2 ∨ h.kind = 12 then orE (lSelE c h.sel) (Ws c h.num)
 else if h.kind = 3 ∨ h.kind = 5 ∨ h.kind = 14 ∨ h.kind = 11 then lSelE c h.sel
 else if h.kind = 4 then orE (lSelE c h.sel) (lTo h.tk h.tl)
 else if h.kind = 6 then orE (lSide c h.side) (orE (lTo h.tk h.tl) (Ws c h.num))
 else if h.kind = 7 ∨ h.kind = 9 then orE (lSide c h.side) (Ws c h.num)
 else if h.kind = 8 then lSide c h.side
 else if h.kind = 13 ∨ h.kind = 15 then orE (lSide c h.side) (lTo h.tk h.tl)
 else if h.kind = 10 then orE (Ws c h.cl) (Ws c h.cr)
 else 0
def lAllows (c : Sc) (k : Int) : Bool := if k = 10 then true else if k = 12 ∨ k = 13 ∨ k = 14 ∨ k = 15 then c.whn == 5 else !(c.whn == 5)
def lStand (c : Sc) (i k : Int) : Int := if 12 ≤ i then 9 else if lAllows c k = false then 13 else if (k == 11 && c.each) = true then 8 else 0
def Vy (c : Sc) (i : Nat) : Acs → Fa
 | .nil => (0, 0, 0)
 | .cons h t e r =>
   if (if orE (lStand c i h.kind) (lParts c h) ≠ 0 then (orE (lStand c i h.kind) (lParts c h), h.line, h.col) else if h.kind = 10 then orF (Vy c 0 t) (Vy c 0 e) else if h.kind = 11 then Vy ⟨c.place, c.whn, true⟩ 0 t else (0, 0, 0)).1 = 0 then Vy c (i + 1) r
   else if orE (lStand c i h.kind) (lParts c h) ≠ 0 then (orE (lStand c i h.kind) (lParts c h), h.line, h.col) else if h.kind = 10 then orF (Vy c 0 t) (Vy c 0 e) else if h.kind = 11 then Vy ⟨c.place, c.whn, true⟩ 0 t else (0, 0, 0)
def lAct (c : Sc) (i : Int) (h : AH) (t e : Acs) : Fa :=
 if orE (lStand c i h.kind) (lParts c h) ≠ 0 then (orE (lStand c i h.kind) (lParts c h), h.line, h.col) else if h.kind = 10 then orF (Vy c 0 t) (Vy c 0 e) else if h.kind = 11 then Vy ⟨c.place, c.whn, true⟩ 0 t else (0, 0, 0)
theorem lActs_cons (c : Sc) (i : Nat) (h : AH) (t e r : Acs) : Vy c i (.cons h t e r) = if (lAct c i h t e).1 = 0 then Vy c (i + 1) r else lAct c i h t e := rfl
def exZ : Ex → Int
 | .leaf .. => 1
 | .bin _ l r => 1 + exZ l + exZ r
def acZ (h : AH) (t e : Int) (en : Nat) : Int :=
 if h.kind = 1 ∨ h.kind = 2 ∨ h.kind = 6 ∨ h.kind = 7 ∨ h.kind = 9 ∨ h.kind = 12 then exZ h.num + 1
 else if h.kind = 10 then exZ h.cl + exZ h.cr + t + 1 + (if 0 < en then e + 1 else 0)
 else if h.kind = 11 then t + 2 else 1
def Vj : Acs → Int
 | .nil => 0
 | .cons h t e r => acZ h (Vj t) (Vj e) e.len + Vj r
def wr (n : Int) : Int := IntKind.i64.wrap n
theorem wr_eq (n : Int) : wr n = if 9223372036854775808 ≤ n % 18446744073709551616 then n % 18446744073709551616 - 18446744073709551616 else n % 18446744073709551616 := by
 unfold wr
 simp [IntKind.wrap, IntKind.bits, IntKind.signed]
theorem wr_add (a b : Int) : wr (wr a + wr b) = wr (a + b) := by
 simp only [wr_eq]
 split <;> split <;> split <;> split <;> omega
theorem wr_addL (a b : Int) : wr (wr a + b) = wr (a + b) := by
 simp only [wr_eq]
 split <;> split <;> split <;> omega
theorem wr_small {n : Int} (h0 : -9223372036854775808 ≤ n) (h1 : n < 9223372036854775808) : wr n = n := by
 rw [wr_eq]; split <;> omega
def lBefore (place : Bool) (i : Int) (r : Ru) : Int :=
 if 4 ≤ i then 9 else if (if r.when_ = 6 then place else if r.when_ = 2 ∨ r.when_ = 3 then !place else true) = false then 13
 else if (r.when_ == 5 && outB r.stratum 1 3) = true then 12 else 0
def lBehind (r : Ru) : Int := if 96 < wr (Vj r.acts) then 3 else 0
def lRule (place : Bool) (i : Int) (r : Ru) : Fa := orF (atF (lBefore place i r) r.line r.col) (orF (Vy ⟨place, r.when_, false⟩ 0 r.acts) (atF (lBehind r) r.line r.col))
def lRules (place : Bool) : Nat → List Ru → Fa
 | _, [] => (0, 0, 0)
 | i, r :: l => if (lRule place i r).1 = 0 then lRules place (i + 1) l else lRule place i r
def lCard (c : Ca) : Fa := if (outB c.cost 0 9 || outB c.power (-20) 20) = true then (12, c.line, c.col) else lRules false 0 c.rules
def lPlace (p : Pl) : Fa := lRules true 0 p.rules
def lOne (most tw i : Int) (l c : Int) (f : Fa) : Fa := if most ≤ i then (9, l, c) else if i = tw then (11, l, c) else f
def lCards (tw : Int) : Nat → List Ca → Fa
 | _, [] => (0, 0, 0)
 | i, c :: l => if (lOne 128 tw i c.line c.col (lCard c)).1 = 0 then lCards tw (i + 1) l else lOne 128 tw i c.line c.col (lCard c)
def lPlaces (tw : Int) : Nat → List Pl → Fa
 | _, [] => (0, 0, 0)
 | i, p :: l => if (lOne 32 tw i p.line p.col (lPlace p)).1 = 0 then lPlaces tw (i + 1) l else lOne 32 tw i p.line p.col (lPlace p)
end Go.Proofs.YtabegjepejgllaaGreat
namespace Go.Proofs.YtabegjepejgllaaGreat
open Go Go.RowKit
set_option linter.unusedVariables false
set_option linter.unusedSimpArgs false
def scL (c : Sc) (st ln cl : Int) (A : Option Addr) (n k : Nat) : List Value := [.int .i64 c.whn, .int .i64 st, .int .i64 ln, .int .i64 cl, .slice A n k, .bool c.place, .bool c.each]
theorem Zc {w : World} {g : Nat} {t : TypeId} {a b c d e f h : Value} (W : Zb w g t #[a, b, c, d, e, f, h]) :
   w.cell? ⟨g, 0, none⟩ = some a ∧ w.cell? ⟨g, 1, none⟩ = some b ∧ w.cell? ⟨g, 2, none⟩ = some c ∧ w.cell? ⟨g, 3, none⟩ = some d ∧ w.cell? ⟨g, 4, none⟩ = some e ∧ w.cell? ⟨g, 5, none⟩ = some f ∧ w.cell? ⟨g, 6, none⟩ = some h :=
 ⟨W.read 0, W.read 1, W.read 2, W.read 3, W.read 4, W.read 5, W.read 6⟩
theorem Yc : (Tryz.prog.underlying 29).map TypeDesc.isRow = some true := by kernel_rfl
theorem Zj : (Tryz.prog.info? 29).map (·.size) = some 3 := by kernel_rfl
theorem lOutside (n lo hi : Int) (w : World) : Calls Tryz.prog 92 #[.int .i64 n, .int .i64 lo, .int .i64 hi] w fun e w' => e = .returned (.bool (outB n lo hi)) ∧ Below w.heap.size w w' := by
 go_enter Tryz.func92, Tryz.ntmps92
 by_cases h1 : n < lo
 · go_wp2
   go_ret
   exact ⟨by simp [outB, h1], Below.refl _ _⟩
 · by_cases h2 : hi < n
   · go_wp2
     go_ret
     exact ⟨by simp [outB, h1, h2], Below.refl _ _⟩
   · go_wp2
     go_ret
     exact ⟨by simp [outB, h1, h2], Below.refl _ _⟩
theorem lFaultAt (e l c : Int) (w : World) : Calls Tryz.prog 186 #[.int .i64 e, .int .i64 l, .int .i64 c] w fun r w' => r = .returned (faV (atF e l c)) ∧ Below w.heap.size w w' := by
 go_enter Tryz.func186, Tryz.ntmps186
 by_cases h : e = 0
 · subst h
   go_wp2
   exact Zo 6 29 29 _ [.int .i64 0, .int .i64 0, .int .i64 0] rfl (Zb.made _ _ _) Yc Zj rfl rfl ⟨rfl, Za _ _⟩
 · have hb : (e == 0) = false := by simpa using h
   go_wp2
   exact Zo 6 29 29 _ [.int .i64 e, .int .i64 l, .int .i64 c] rfl (Zb.made _ _ _) Yc Zj rfl rfl ⟨by simp [faV, atF, h], Za _ _⟩
section
variable (c : Sc) (st ln cl : Int) (A : Option Addr) (rn rk : Nat)
theorem lEntered (w : World) : Calls Tryz.prog 277 #[.agg (scL c st ln cl A rn rk).toArray] w fun e w' => e = .returned (.bool c.entered) ∧ Below w.heap.size w w' := by
 obtain ⟨pl, wh, ea⟩ := c
 simp only [scL]
 go_enter Tryz.func277, Tryz.ntmps277
 cases pl
 · go_wp2
   go_ret
   exact ⟨rfl, Za _ _⟩
 · go_wp2
   go_ret
   exact ⟨by simp [Sc.entered], Za _ _⟩
theorem lAlways (w : World) : Calls Tryz.prog 188 #[.agg (scL c st ln cl A rn rk).toArray] w fun e w' => e = .returned (.bool (c.whn == 5)) ∧ Below w.heap.size w w' := by
 obtain ⟨pl, wh, ea⟩ := c
 simp only [scL]
 go_enter Tryz.func188, Tryz.ntmps188
 go_wp2
 go_ret
 exact ⟨rfl, Za _ _⟩
theorem lTriggered (w : World) : Calls Tryz.prog 187 #[.agg (scL c st ln cl A rn rk).toArray] w fun e w' => e = .returned (.bool (if c.whn = 6 then c.place else if c.whn = 2 ∨ c.whn = 3 then !c.place else true)) ∧ Below w.heap.size w w' := by
 obtain ⟨pl, wh, ea⟩ := c
 simp only [scL]
 go_enter Tryz.func187, Tryz.ntmps187
 by_cases h6 : wh = 6
 · subst h6
   go_wp2
   go_ret
   exact ⟨rfl, Za _ _⟩
 · have b6 : (wh == 6) = false := by simpa using h6
   by_cases h2 : wh = 2
   · subst h2
     go_wp2
     go_ret
     exact ⟨rfl, Za _ _⟩
   · have b2 : (wh == 2) = false := by simpa using h2
     by_cases h3 : wh = 3
     · subst h3
       go_wp2
       go_ret
       exact ⟨rfl, Za _ _⟩
     · have b3 : (wh == 3) = false := by simpa using h3
       go_wp2
       go_ret
       exact ⟨by simp [h6, h2, h3], Za _ _⟩
theorem lTo_any (tk tl : Int) (w : World) : Calls Tryz.prog 254 #[.agg [.int .i64 tk, .int .i64 tl].toArray] w fun e w' => e = .returned (.int .i64 (lTo tk tl)) ∧ Below w.heap.size w w' := by
 have ho := fun w => lOutside tl 1 3 w
 have hv : lTo tk tl = if (tk == 4 && outB tl 1 3) = true then 20 else 0 := rfl
 generalize outB tl 1 3 = q at *
 go_enter Tryz.func254, Tryz.ntmps254
 by_cases h4 : tk = 4
 · subst h4
   cases q <;>
   · go_wp2_with (go_at_call 92; refine (ho _).mono ?_; rintro e w1 ⟨rfl, b1⟩)
     go_ret
     exact ⟨by first | rfl | (rw [hv]; rfl), Xi (Za _ _) b1⟩
 · have b4 : (tk == 4) = false := by simpa using h4
   go_wp2
   go_ret
   exact ⟨by rw [hv]; simp [h4], Za _ _⟩
theorem lSide_any (n : Int) (w : World) : Calls Tryz.prog 255 #[.agg (scL c st ln cl A rn rk).toArray, .int .i64 n] w fun e w' => e = .returned (.int .i64 (lSide c n)) ∧ Below w.heap.size w w' := by
 have ho := fun w => lEntered c st ln cl A rn rk w
 have hv : lSide c n = if (c.place && !c.entered && (n == 1 || n == 2)) = true then 24 else 0 := rfl
 generalize c.entered = q at *
 obtain ⟨pl, wh, ea⟩ := c
 simp only [scL] at *
 go_enter Tryz.func255, Tryz.ntmps255
 cases pl
 · go_wp2
   go_ret
   exact ⟨by rw [hv]; simp, Za _ _⟩
 · cases q
   · by_cases h1 : n = 1
     · subst h1
       go_wp2_with (go_at_call 277; refine (ho _).mono ?_; rintro e w1 ⟨rfl, b1⟩)
       go_ret
       exact ⟨by first | rfl | (rw [hv]; rfl), Xi (Za _ _) b1⟩
     · have e1 : (n == 1) = false := by simpa using h1
       by_cases h2 : n = 2
       · subst h2
         go_wp2_with (go_at_call 277; refine (ho _).mono ?_; rintro e w1 ⟨rfl, b1⟩)
         go_ret
         exact ⟨by first | rfl | (rw [hv]; rfl), Xi (Za _ _) b1⟩
       · have e2 : (n == 2) = false := by simpa using h2
         go_wp2_with (go_at_call 277; refine (ho _).mono ?_; rintro e w1 ⟨rfl, b1⟩)
         go_ret
         exact ⟨by rw [hv]; simp [h1, h2], Xi (Za _ _) b1⟩
   · go_wp2_with (go_at_call 277; refine (ho _).mono ?_; rintro e w1 ⟨rfl, b1⟩)
     go_ret
     exact ⟨by rw [hv]; simp, Xi (Za _ _) b1⟩
theorem lAllows_any (k : Int) (w : World) : Calls Tryz.prog 251 #[.agg (scL c st ln cl A rn rk).toArray, .int .i64 k] w fun e w' => e = .returned (.bool (lAllows c k)) ∧ Below w.heap.size w w' := by
 have ho := fun w => lAlways c st ln cl A rn rk w
 have hv : lAllows c k = if k = 10 then true else if k = 12 ∨ k = 13 ∨ k = 14 ∨ k = 15 then c.whn == 5 else !(c.whn == 5) := rfl
 generalize (c.whn == 5) = q at *
 obtain ⟨pl, wh, ea⟩ := c
 simp only [scL] at *
 go_enter Tryz.func251, Tryz.ntmps251
 by_cases h0 : k = 10
 · subst h0
   go_wp2
   go_ret
   exact ⟨by first | rfl | (rw [hv]; rfl), Za _ _⟩
 · have b0 : (k == 10) = false := by simpa using h0
   by_cases hk : k = 12 ∨ k = 13 ∨ k = 14 ∨ k = 15
   · rcases hk with rfl | rfl | rfl | rfl <;>
     · go_wp2_with (go_at_call 188; refine (ho _).mono ?_; rintro e w1 ⟨rfl, b1⟩)
       go_ret
       exact ⟨by first | rfl | (rw [hv]; rfl), Xi (Za _ _) b1⟩
   · have b2 : (k == 12) = false := by rw [beq_eq_false_iff_ne]; omega
     have b3 : (k == 13) = false := by rw [beq_eq_false_iff_ne]; omega
     have b4 : (k == 14) = false := by rw [beq_eq_false_iff_ne]; omega
     have b5 : (k == 15) = false := by rw [beq_eq_false_iff_ne]; omega
     rw [if_neg h0, if_neg hk] at hv
     clear hk h0
     go_wp2_with (go_at_call 188; refine (ho _).mono ?_; rintro e w1 ⟨rfl, b1⟩)
     go_ret
     exact ⟨by rw [hv]; rfl, Xi (Za _ _) b1⟩
theorem lStand_any (i k : Int) (w : World) : Calls Tryz.prog 216 #[.agg (scL c st ln cl A rn rk).toArray, .int .i64 i, .int .i64 k] w fun e w' => e = .returned (.int .i64 (lStand c i k)) ∧ Below w.heap.size w w' := by
 have ho := fun w => lAllows_any c st ln cl A rn rk k w
 have hv : lStand c i k = if 12 ≤ i then 9 else if lAllows c k = false then 13 else if (k == 11 && c.each) = true then 8 else 0 := rfl
 generalize lAllows c k = q at *
 obtain ⟨pl, wh, ea⟩ := c
 simp only [scL] at *
 go_enter Tryz.func216, Tryz.ntmps216
 by_cases h0 : 12 ≤ i
 · go_wp2
   go_ret
   exact ⟨by rw [hv]; simp [h0], Za _ _⟩
 · cases q
   · go_wp2_with (go_at_call 251; refine (ho _).mono ?_; rintro e w1 ⟨rfl, b1⟩)
     go_ret
     exact ⟨by rw [hv]; simp [h0], Xi (Za _ _) b1⟩
   · by_cases h1 : k = 11
     · subst h1
       cases ea <;>
       · go_wp2_with (go_at_call 251; refine (ho _).mono ?_; rintro e w1 ⟨rfl, b1⟩; have W := (Zb.made w 195 #[_, _, _, _, _, _, _]).below b1 (Zb.made w 195 _).inside; obtain ⟨c0, c1, c2, c3, c4, c5, c6⟩ := Zc W)
         go_ret
         exact ⟨by rw [hv]; simp [h0], Xi (Za _ _) b1⟩
     · have b1 : (k == 11) = false := by simpa using h1
       go_wp2_with (go_at_call 251; refine (ho _).mono ?_; rintro e w1 ⟨rfl, b1⟩)
       go_ret
       exact ⟨by rw [hv]; simp [h0, h1], Xi (Za _ _) b1⟩
end
def Xb : List Int → Int
 | [] => 0
 | a :: r => if a = 0 then Xb r else a
theorem firstNZ_zero : ∀ {l : List Int}, (∀ j, j < l.length → l.getD j 0 = 0) → Xb l = 0
 | [], _ => rfl
 | a :: r, h => by
   have h0 : a = 0 := h 0 (by simp)
   unfold Xb
   rw [if_pos h0]
   exact firstNZ_zero fun j hj => by have := h (j + 1) (by simpa using hj); simpa using this
theorem firstNZ_at : ∀ {l : List Int} {k : Nat}, k < l.length → (∀ j, j < k → l.getD j 0 = 0) → l.getD k 0 ≠ 0 → Xb l = l.getD k 0
 | [], k, hk, _, _ => by cases hk
 | a :: r, 0, _, _, h => by
   have h0 : a ≠ 0 := h
   unfold Xb
   rw [if_neg h0]
   rfl
 | a :: r, k + 1, hk, h, hn => by
   have h0 : a = 0 := h 0 (by omega)
   unfold Xb
   rw [if_pos h0]
   have := firstNZ_at (l := r) (k := k) (by simpa using hk) (fun j hj => by have := h (j + 1) (by omega); simpa using this) (by simpa using hn)
   simpa using this
theorem orE2 (a b : Int) : Xb [a, b] = orE a b := by simp only [orE, Xb]; split <;> (try split) <;> omega
theorem orE3 (a b c : Int) : Xb [a, b, c] = orE a (orE b c) := by simp only [orE, Xb]; split <;> (try split) <;> (try split) <;> omega
theorem cell_ints {w : World} {g : Nat} {t : TypeId} {l : List Int} (h : Zb w g t (l.map (Value.int .i64)).toArray) {k : Nat} (hk : k < l.length) : w.cell? ⟨g, k, none⟩ = some (.int .i64 (l.getD k 0)) := by
 rw [Zb.read h k]
 simp [List.getD, hk]
theorem lOrE (l : List Int) (n m g : Nat) (w : World) (hn : l.length = n) (h64 : n ≤ 64) (hW : Zb w g 27 (l.map (Value.int .i64)).toArray) :
   Calls Tryz.prog 215 #[.slice (some ⟨g, 0, none⟩) n m] w fun e w' => e = .returned (.int .i64 (Xb l)) ∧ Below w.heap.size w w' := by
 have HW := Hh hW
 have HN := Hh hn
 clear hW hn
 have l64 : (n : Int) ≤ 64 := by omega
 obtain ⟨V, hV⟩ : ∃ V, V = Xb l := ⟨_, rfl⟩
 rw [← hV]
 have HV := Hh hV
 clear hV
 go_enter Tryz.func215, Tryz.ntmps215
 go_wp2
 go_loopw [8] (fun i wr => ∃ k : Nat, i = .int .i64 k ∧ k ≤ n ∧ Below w.heap.size w wr ∧ Hid (∀ j, j < k → l.getD j 0 = 0)) (fun i _ => n - (intOf i).toNat)
 case atStart => exact ⟨0, by go_num, Nat.zero_le _, Below.refl _ _, Hh fun j hj => by omega⟩
 case round =>
   obtain ⟨k, rfl, hk, hb, hz⟩ := hrel
   by_cases hlt : k < n
   · have hW := HW.out.below hb HW.out.inside
     have hin := hW.inside
     have hc := cell_ints hW (k := k) (by have := HN.out; omega)
     have hnz := fun q => firstNZ_at (l := l) (k := k) (by have := HN.out; omega) hz.out q
     rw [← HV.out] at hnz
     have hs : l.getD k 0 = 0 → Hid (∀ j, j < k + 1 → l.getD j 0 = 0) := fun q => Hh fun j hj => by
       rcases Nat.lt_succ_iff_lt_or_eq.1 hj with r | rfl
       · exact hz.out j r
       · exact q
     generalize l.getD k 0 = v at *
     have lk : (k : Int) < (n : Int) := by omega
     clear hW
     by_cases h0 : v = 0
     · have hs2 := hs h0
       clear hs
       subst h0
       clear hnz
       go_wp2
       go_roundw
       case rel => exact ⟨k + 1, by go_num, by omega, hb, hs2⟩
       case measure => simp [intOf]; omega
     · have hb0 : (v == 0) = false := by simpa using h0
       have hx := hnz h0
       subst hx
       clear hnz hs
       go_wp2
       go_ret
       exact ⟨rfl, hb⟩
   · have hx := firstNZ_zero (l := l) fun j hj => hz.out j (by have := HN.out; omega)
     rw [← HV.out] at hx
     subst hx
     go_wp2
     go_ret
     exact ⟨rfl, hb⟩
def faL (F : Fa) : List Value := [.int .i64 F.1, .int .i64 F.2.1, .int .i64 F.2.2]
def isZ (F : Fa) : Prop := F.1 = 0 ∧ F.2.1 = 0 ∧ F.2.2 = 0
instance (F : Fa) : Decidable (isZ F) := by unfold isZ; exact inferInstance
def Wo : List Fa → Fa
 | [] => (0, 0, 0)
 | a :: r => if isZ a then Wo r else a
theorem firstNF_zero : ∀ {l : List Fa}, (∀ j, j < l.length → isZ (l.getD j (0, 0, 0))) → Wo l = (0, 0, 0)
 | [], _ => rfl
 | a :: r, h => by
   have h0 : isZ a := h 0 (by simp)
   unfold Wo
   rw [if_pos h0]
   exact firstNF_zero fun j hj => by have := h (j + 1) (by simpa using hj); simpa using this
theorem firstNF_at : ∀ {l : List Fa} {k : Nat}, k < l.length → (∀ j, j < k → isZ (l.getD j (0, 0, 0))) → ¬ isZ (l.getD k (0, 0, 0)) → Wo l = l.getD k (0, 0, 0)
 | [], k, hk, _, _ => by cases hk
 | a :: r, 0, _, _, h => by
   have h0 : ¬ isZ a := h
   unfold Wo
   rw [if_neg h0]
   rfl
 | a :: r, k + 1, hk, h, hn => by
   have h0 : isZ a := h 0 (by omega)
   unfold Wo
   rw [if_pos h0]
   have := firstNF_at (l := r) (k := k) (by simpa using hk) (fun j hj => by have := h (j + 1) (by omega); simpa using this) (by simpa using hn)
   simpa using this
theorem orF_if (a b : Fa) : orF a b = if isZ a then b else a := rfl
theorem isZ_eq {a : Fa} (h : isZ a) : a = (0, 0, 0) := by obtain ⟨x, y, z⟩ := a; obtain ⟨h1, h2, h3⟩ := h; dsimp only at *; subst h1 h2 h3; rfl
theorem orF2 (a b : Fa) : Wo [a, b] = orF a b := by
 simp only [orF_if, Wo]; split <;> (try split) <;> first | rfl | (rename_i h; exact (isZ_eq h).symm)
theorem orF3 (a b c : Fa) : Wo [a, b, c] = orF a (orF b c) := by
 rw [orF_if a, ← orF2 b c]; rfl
theorem fa_at : ∀ {l : List Fa} {k : Nat}, k < l.length → ∀ j, j < 3 → (l.flatMap faL)[k * 3 + j]? = (faL (l.getD k (0, 0, 0)))[j]?
 | a :: r, 0, _, j, hj => by
   rcases (show j = 0 ∨ j = 1 ∨ j = 2 by omega) with rfl | rfl | rfl <;> rfl
 | a :: r, k + 1, hk, j, hj => by
   have := fa_at (l := r) (k := k) (by simpa using hk) j hj
   rw [show (k + 1) * 3 + j = (k * 3 + j) + 3 by omega]
   simpa [List.flatMap_cons, faL] using this
theorem cell_fas {w : World} {g : Nat} {t : TypeId} {l : List Fa} (h : Zb w g t (l.flatMap faL).toArray) {k : Nat} (hk : k < l.length) :
   w.cell? ⟨g, k * 3, none⟩ = some (.int .i64 (l.getD k (0, 0, 0)).1) ∧ w.cell? ⟨g, k * 3 + 1, none⟩ = some (.int .i64 (l.getD k (0, 0, 0)).2.1) ∧
     w.cell? ⟨g, k * 3 + 2, none⟩ = some (.int .i64 (l.getD k (0, 0, 0)).2.2) := by
 have key : ∀ j, j < 3 → w.cell? ⟨g, k * 3 + j, none⟩ = (faL (l.getD k (0, 0, 0)))[j]? := fun j hj => by
   rw [Zb.read h, ← fa_at hk j hj]; simp
 exact ⟨key 0 (by omega), key 1 (by omega), key 2 (by omega)⟩
theorem made2 (w : World) (o : Obj) (t : TypeId) (cs : Array Value) : Zb ((w.alloc o).alloc (.cells cs t)) (w.heap.size + 1) t cs := by
 have := Zb.made (w.alloc o) t cs; simpa using this
structure Fz (w : World) (wr : World) : Prop where
 a : Zb wr w.heap.size 29 #[.int .i64 0, .int .i64 0, .int .i64 0]
 b : Zb wr (w.heap.size + 1) 29 #[.int .i64 0, .int .i64 0, .int .i64 0]
 below : Below w.heap.size w wr
theorem Fz.alloc {w wr : World} (h : Fz w wr) (o : Obj) : Fz w (wr.alloc o) := ⟨h.a.alloc _, h.b.alloc _, h.below.trans ((Za _ _).mono h.below.size)⟩
set_option maxRecDepth 20000 in
set_option maxHeartbeats 1600000 in
theorem lOrF (l : List Fa) (n m g : Nat) (w : World) (hn : l.length = n) (h64 : n ≤ 64) (hW : Zb w g 29 (l.flatMap faL).toArray) :
   Calls Tryz.prog 89 #[.slice (some ⟨g, 0, none⟩) n m] w fun e w' => e = .returned (faV (Wo l)) ∧ Below w.heap.size w w' := by
 have HW := Hh hW
 have HN := Hh hn
 have HV : Hid (∃ V, V = Wo l) := Hh ⟨_, rfl⟩
 clear hW hn
 have l64 : (n : Int) ≤ 64 := by omega
 obtain ⟨V, hV⟩ := HV.out
 rw [← hV]
 have HV := Hh hV
 clear hV
 go_enter Tryz.func89, Tryz.ntmps89
 go_wp2
 go_loopw [8] (fun i wr => ∃ k : Nat, i = .int .i64 k ∧ k ≤ n ∧ Fz w wr ∧ Hid (∀ j, j < k → isZ (l.getD j (0, 0, 0)))) (fun i _ => n - (intOf i).toNat)
 case atStart => exact ⟨0, by go_num, Nat.zero_le _, ⟨(Zb.made _ _ _).alloc _, made2 _ _ _ _, (Za _ _).trans ((Za _ _).mono (Za _ _).size)⟩, Hh fun j hj => by omega⟩
 case round =>
   obtain ⟨k, rfl, hk, hF, hz⟩ := hrel
   obtain ⟨a0, a1, a2, f0, f1, f2⟩ := Zu hF.a
   obtain ⟨b0, b1, b2, _, _, _⟩ := Zu hF.b
   have hsz := hF.b.inside
   by_cases hlt : k < n
   · have hW := HW.out.below hF.below HW.out.inside
     have hin := hW.inside
     have hgw := HW.out.inside
     obtain ⟨d0, d1, d2⟩ := cell_fas hW (k := k) (by have := HN.out; omega)
     have hnz := fun q => firstNF_at (l := l) (k := k) (by have := HN.out; omega) hz.out q
     rw [← HV.out] at hnz
     have hs : isZ (l.getD k (0, 0, 0)) → Hid (∀ j, j < k + 1 → isZ (l.getD j (0, 0, 0))) := fun q => Hh fun j hj => by
       rcases Nat.lt_succ_iff_lt_or_eq.1 hj with r | rfl
       · exact hz.out j r
       · exact q
     generalize l.getD k (0, 0, 0) = v at *
     obtain ⟨v0, v1, v2⟩ := v
     dsimp only at d0 d1 d2
     have lk : (k : Int) < (n : Int) := by omega
     clear hW hz
     by_cases h0 : isZ (v0, v1, v2)
     · have hs2 := hs h0
       clear hs hnz
       obtain ⟨q0, q1, q2⟩ := h0
       dsimp only at q0 q1 q2
       subst q0 q1 q2
       go_wp2
       go_roundw
       case rel => exact ⟨k + 1, by go_num, by omega, hF.alloc _, hs2⟩
       case measure => simp [intOf]; omega
     · have hx := hnz h0
       subst hx
       clear hnz hs
       have hs0 : w.heap.size < wr.heap.size := by omega
       have hs0' : ¬ w.heap.size = wr.heap.size := by omega
       by_cases q0 : v0 = 0
       · by_cases q1 : v1 = 0
         · have q2 : v2 ≠ 0 := fun c => h0 ⟨q0, q1, c⟩
           have e2 : (v2 == 0) = false := by simpa using q2
           subst q0 q1
           clear h0
           go_wp2
           exact Zo 2 29 29 _ [_, _, _] rfl ((hF.a.set3 _ _ _).alloc _) Yc Zj rfl rfl ⟨rfl, (Below.set3 hF.below (Nat.le_refl _) _ _ _).alloc (by simpa using hF.below.size) _⟩
         · have e1 : (v1 == 0) = false := by simpa using q1
           subst q0
           clear h0
           go_wp2
           exact Zo 2 29 29 _ [_, _, _] rfl ((hF.a.set3 _ _ _).alloc _) Yc Zj rfl rfl ⟨rfl, (Below.set3 hF.below (Nat.le_refl _) _ _ _).alloc (by simpa using hF.below.size) _⟩
       · have e0 : (v0 == 0) = false := by simpa using q0
         clear h0
         go_wp2
         exact Zo 2 29 29 _ [_, _, _] rfl ((hF.a.set3 _ _ _).alloc _) Yc Zj rfl rfl ⟨rfl, (Below.set3 hF.below (Nat.le_refl _) _ _ _).alloc (by simpa using hF.below.size) _⟩
   · have hx := firstNF_zero (l := l) fun j hj => hz.out j (by have := HN.out; omega)
     rw [← HV.out] at hx
     subst hx
     go_wp2_with ((with_reducible refine Zl 2 17 ?_); refine wpList_storeW 29 _ _ 29 w.heap.size _ [.int .i64 0, .int .i64 0, .int .i64 0] hF.a rfl Zj (by simp [Value.oneCell']) rfl rfl rfl rfl rfl ?_; intro w9 p9; have P9 := Hh p9; clear p9)
     exact Zo 2 29 29 _ [.int .i64 0, .int .i64 0, .int .i64 0] rfl P9.out.whole Yc Zj rfl rfl ⟨rfl, hF.below.trans (P9.out.keeps.below hF.below.size fun q e => by omega)⟩
end Go.Proofs.YtabegjepejgllaaGreat
namespace Go.Proofs.YtabegjepejgllaaGreat
open Go.ChangeShapes Go.WideShapes Go.ChangeAt Go.RowKit
set_option linter.unusedVariables false
set_option linter.unusedSimpArgs false
def Vg : Int × Nat × Nat := (1, 0, 0)
theorem nStands (w : World) : Calls Tryz.prog 173 #[.pointer none] w fun e w' => e = .returned (.bool false) ∧ w = w' := by
 go_enter Tryz.func173, Tryz.ntmps173
 go_wp2
 go_ret
 exact ⟨rfl, rfl⟩
theorem nPeek (w : World) : Calls Tryz.prog 134 #[.pointer none] w fun e w' => e = .returned (Wt zTok) ∧ Below w.heap.size w w' := by
 go_enter Tryz.func134, Tryz.ntmps134
 go_wp2_with (go_at_call 173; refine (nStands _).mono ?_; rintro e w1 ⟨rfl, rfl⟩)
 refine bodyPost_ret (v := Wt zTok) (by simp [results, Tryz.results134, go_sem, Wt, zTok]) rfl ⟨rfl, ?_⟩
 exact Za _ _
theorem nHere (w : World) (E : Int) : Calls Tryz.prog 174 #[.pointer none, .int .i64 E] w fun e w' => e = .returned (Zq Vg) ∧ Below w.heap.size w w' := by
 go_enter Tryz.func174, Tryz.ntmps174
 go_wp2
 refine bodyPost_ret (v := Zq Vg) (by simp [results, Tryz.results174, go_sem, Zq, Vg]) rfl ⟨rfl, ?_⟩
 exact Za _ _
theorem nIs (w : World) (t : ByteArray) : Calls Tryz.prog 175 #[.pointer none, .string t] w fun e w' => e = .returned (.bool false) ∧ Below w.heap.size w w' := by
 go_enter Tryz.func175, Tryz.ntmps175
 go_wp2_with (go_at_call 134; refine (nPeek _).mono ?_; rintro e w2 ⟨rfl, b2⟩; have B2 := Hh b2; clear b2; simp only [Wt, zTok])
 go_ret
 exact ⟨rfl, B2.out.alloc B2.out.size _⟩
theorem nTake (w : World) (t : ByteArray) : Calls Tryz.prog 137 #[.pointer none, .string t] w fun e w' => e = .returned (.bool false) ∧ Below w.heap.size w w' := by
 go_enter Tryz.func137, Tryz.ntmps137
 go_wp2_with (go_at_call 175; refine (nIs _ _).mono ?_; rintro e w2 ⟨rfl, b2⟩; have B2 := Hh b2; clear b2)
 go_ret
 exact ⟨rfl, B2.out⟩
theorem nWrong (w : World) : Calls Tryz.prog 136 #[.pointer none] w fun e w' => e = .returned (Zq Vg) ∧ Below w.heap.size w w' := by
 have F := Hh (Zb.made w 29 #[.int .i64 0, .int .i64 0, .int .i64 0])
 have hfd := fun w => tok_field 0 0 0 0 ⟨#[]⟩ w
 go_enter Tryz.func136, Tryz.ntmps136
 go_wp2_with (first
 | (go_at_call 134; refine (nPeek _).mono ?_; rintro e w2 ⟨rfl, b2⟩; have W2 := Hh (F.out.below b2 (by simp)); have B2 := Hh (Xi (Za _ _) b2); clear b2; simp only [Wt, zTok, Int.ofNat_zero, Int.natCast_zero])
 | (go_at_call 174; refine (nHere _ _).mono ?_; rintro e w3 ⟨rfl, b3⟩; have W3 := Hh (W2.out.below b3 W2.out.inside); obtain ⟨k0, k1, k2, f0, f1, f2⟩ := Zu W3.out; have hz := W3.out.inside; have B3 := Hh (Xi B2.out b3); clear b3; simp only [Zq, Vg]))
 have hF := Zu (Zb.set3 W3.out (.int .i64 1) (.int .i64 0) (.int .i64 0))
 refine bodyPost_ret (v := Zq Vg) (by simp [results, Tryz.results136, go_sem, hF, Zq, Vg]) rfl ⟨rfl, ?_⟩
 exact Below.set3 B3.out (Nat.le_refl _) _ _ _
theorem nWant (w : World) (t : ByteArray) : Calls Tryz.prog 211 #[.pointer none, .string t] w fun e w' => e = .returned (Zq Vg) ∧ Below w.heap.size w w' := by
 have F := Hh (Zb.made w 29 #[.int .i64 0, .int .i64 0, .int .i64 0])
 go_enter Tryz.func211, Tryz.ntmps211
 go_wp2_with (first
 | (go_at_call 137; refine (nTake _ _).mono ?_; rintro e w2 ⟨rfl, b2⟩; have W2 := Hh (F.out.below b2 (by simp)); have B2 := Hh (Xi (Za _ _) b2); clear b2)
 | (go_at_call 136; refine (nWrong _).mono ?_; rintro e w3 ⟨rfl, b3⟩; have W3 := Hh (W2.out.below b3 W2.out.inside); obtain ⟨k0, k1, k2, f0, f1, f2⟩ := Zu W3.out; have hz := W3.out.inside; have B3 := Hh (Xi B2.out b3); clear b3; simp only [Zq, Vg]))
 have hF := Zu (Zb.set3 W3.out (.int .i64 1) (.int .i64 0) (.int .i64 0))
 refine bodyPost_ret (v := Zq Vg) (by simp [results, Tryz.results211, go_sem, hF, Zq, Vg]) rfl ⟨rfl, ?_⟩
 exact Below.set3 B3.out (Nat.le_refl _) _ _ _
theorem nKind (w : World) (k : Int) (hk : 0 < k) : Calls Tryz.prog 210 #[.pointer none, .int .i64 k] w fun e w' => e = .returned (.tuple #[Wt zTok, Zq Vg]) ∧ Below w.heap.size w w' := by
 have T0 := Hh (Two.start w 87 #[.int .i64 0, .string ⟨#[]⟩, .int .i64 0, .int .i64 0, .int .i64 0] 29 #[.int .i64 0, .int .i64 0, .int .i64 0])
 have hfd := fun w => tok_field 0 0 0 0 ⟨#[]⟩ w
 have q0 : ((0 : Int) != k) = true := by rw [bne_iff_ne]; omega
 go_enter Tryz.func210, Tryz.ntmps210
 go_wp2_with (first
 | (go_at_call 134; refine (nPeek _).mono ?_; rintro e w2 ⟨rfl, b2⟩; have T2 := Hh (T0.out.next b2); clear b2; simp only [Wt, zTok, Int.ofNat_zero, Int.natCast_zero])
 | (go_at_call 136; refine (nWrong _).mono ?_; rintro e w3 ⟨rfl, b3⟩; have T3 := Hh (T2.out.next b3); obtain ⟨k0, k1, k2, k3, k4, f0, f1, f2, f3, f4⟩ := Vi T3.out.k0; obtain ⟨g0, g1, g2, z0, z1, z2⟩ := Zu T3.out.k1; have hz := T3.out.k1.inside; clear b3; simp only [Zq, Vg]))
 have hFG := two_set T3.out.k0 T3.out.k1 (.int .i64 0) (.string ⟨#[]⟩) (.int .i64 0) (.int .i64 0) (.int .i64 0) (.int .i64 1) (.int .i64 0) (.int .i64 0)
 have hF := Uf hFG.1
 have hG := Zu hFG.2
 refine bodyPost_ret (v := .tuple #[Wt zTok, Zq Vg]) (by simp [results, Tryz.results210, go_sem, hF, hG, Zq, Vg, zTok, Wt]) rfl ⟨rfl, ?_⟩
 exact Below.set3 (Below.set5 T3.out.below (Nat.le_refl _) _ _ _ _ _) (Nat.le_succ _) _ _ _
theorem nInt (w : World) : Calls Tryz.prog 181 #[.pointer none] w fun e w' => e = .returned (.tuple #[.int .i64 0, Zq Vg]) ∧ Below w.heap.size w w' := by
 have F := Hh (Zb.made w 29 #[.int .i64 0, .int .i64 0, .int .i64 0])
 go_enter Tryz.func181, Tryz.ntmps181
 go_wp2_with (go_at_call 210; refine (nKind _ _ (by decide)).mono ?_; rintro e w3 ⟨rfl, b3⟩; have W0 := Hh (F.out.below b3 (by simp)); obtain ⟨g0, g1, g2, z0, z1, z2⟩ := Zu W0.out; have hz := W0.out.inside; have B3 := Hh (Xi (Za _ _) b3); clear b3; simp only [Wt, zTok, Zq, Vg])
 go_region
 all_goals
   go_wp2
   have hF := Zu ((((Zb.set3 W0.out (.int .i64 1) (.int .i64 0) (.int .i64 0)).alloc (.cells #[.int .i64 0, .string ⟨#[]⟩, .int .i64 0, .int .i64 0, .int .i64 0] 87)).alloc (.cells #[.int .i64 1, .int .i64 0, .int .i64 0] 29)).drew)
   refine bodyPost_ret (v := .tuple #[.int .i64 0, Zq Vg]) (by simp [results, Tryz.results181, go_sem, hF, Zq, Vg]) rfl ⟨rfl, ?_⟩
   have hb := Below.set3 B3.out (Nat.le_refl _) (.int .i64 1) (.int .i64 0) (.int .i64 0)
   exact Up ((hb.alloc hb.size _).alloc (by have := hb.size; simp at this ⊢; omega) _)
theorem nName (w : World) : Calls Tryz.prog 178 #[.pointer none] w fun e w' => e = .returned (.tuple #[.string ⟨#[]⟩, Zq Vg]) ∧ Below w.heap.size w w' := by
 have F := Hh (Zb.made w 29 #[.int .i64 0, .int .i64 0, .int .i64 0])
 go_enter Tryz.func178, Tryz.ntmps178
 go_wp2_with (go_at_call 210; refine (nKind _ _ (by decide)).mono ?_; rintro e w3 ⟨rfl, b3⟩; have W0 := Hh (F.out.below b3 (by simp)); obtain ⟨g0, g1, g2, z0, z1, z2⟩ := Zu W0.out; have hz := W0.out.inside; have B3 := Hh (Xi (Za _ _) b3); clear b3; simp only [Wt, zTok, Zq, Vg])
 go_region
 all_goals
   go_wp2
   have hF := Zu ((((Zb.set3 W0.out (.int .i64 1) (.int .i64 0) (.int .i64 0)).alloc (.cells #[.int .i64 0, .string ⟨#[]⟩, .int .i64 0, .int .i64 0, .int .i64 0] 87)).alloc (.cells #[.int .i64 1, .int .i64 0, .int .i64 0] 29)).drew)
   refine bodyPost_ret (v := .tuple #[.string ⟨#[]⟩, Zq Vg]) (by simp [results, Tryz.results178, go_sem, hF, Zq, Vg]) rfl ⟨rfl, ?_⟩
   have hb := Below.set3 B3.out (Nat.le_refl _) (.int .i64 1) (.int .i64 0) (.int .i64 0)
   exact Up ((hb.alloc hb.size _).alloc (by have := hb.size; simp at this ⊢; omega) _)
theorem nSigned (w : World) : Calls Tryz.prog 182 #[.pointer none] w fun e w' => e = .returned (.tuple #[.int .i64 0, Zq Vg]) ∧ Below w.heap.size w w' := by
 have F := Hh (Zb.made w 29 #[.int .i64 0, .int .i64 0, .int .i64 0])
 go_enter Tryz.func182, Tryz.ntmps182
 go_wp2_with (first
 | (go_at_call 175; refine (nIs _ _).mono ?_; rintro e w2 ⟨rfl, b2⟩; have W2 := Hh (F.out.below b2 (by simp)); have B2 := Hh (Xi (Za _ _) b2); clear b2)
 | (go_at_call 181; refine (nInt _).mono ?_; rintro e w3 ⟨rfl, b3⟩; have W0 := Hh (W2.out.below b3 W2.out.inside); obtain ⟨g0, g1, g2, z0, z1, z2⟩ := Zu W0.out; have hz := W0.out.inside; have B3 := Hh (Xi B2.out b3); clear b3; simp only [Zq, Vg]))
 have hF := Zu (Zb.set3 W0.out (.int .i64 1) (.int .i64 0) (.int .i64 0))
 refine bodyPost_ret (v := .tuple #[.int .i64 0, Zq Vg]) (by simp [results, Tryz.results182, go_sem, hF, Zq, Vg]) rfl ⟨rfl, ?_⟩
 exact Below.set3 B3.out (Nat.le_refl _) _ _ _
theorem nDown (w : World) : Calls Tryz.prog 279 #[.pointer none] w fun e w' => e = .returned (Zq Vg) ∧ Below w.heap.size w w' := by
 have F := Hh (Zb.made w 29 #[.int .i64 0, .int .i64 0, .int .i64 0])
 go_enter Tryz.func279, Tryz.ntmps279
 go_wp2_with (first
 | (go_at_call 173; refine (nStands _).mono ?_; rintro e w1 ⟨rfl, rfl⟩)
 | (go_at_call 174; refine (nHere _ _).mono ?_; rintro e w3 ⟨rfl, b3⟩; have W3 := Hh (F.out.below b3 (by simp)); obtain ⟨k0, k1, k2, f0, f1, f2⟩ := Zu W3.out; have hz := W3.out.inside; have B3 := Hh (Xi (Za _ _) b3); clear b3; simp only [Zq, Vg]))
 have hF := Zu (Zb.set3 W3.out (.int .i64 1) (.int .i64 0) (.int .i64 0))
 refine bodyPost_ret (v := Zq Vg) (by simp [results, Tryz.results279, go_sem, hF, Zq, Vg]) rfl ⟨rfl, ?_⟩
 exact Below.set3 B3.out (Nat.le_refl _) _ _ _
theorem nUp (w : World) : Calls Tryz.prog 280 #[.pointer none] w fun e w' => e = .returned (.tuple #[]) ∧ w = w' := by
 go_enter Tryz.func280, Tryz.ntmps280
 go_wp2
 go_end0
 exact ⟨rfl, rfl⟩
def Xf (c : Nat) : St → Value
 | .ok _ _ => .pointer (some ⟨c, 0, none⟩)
 | .bad _ => .pointer none
def fltS : St → Int × Nat × Nat
 | .ok _ _ => okF
 | .bad F => F
structure PAt (w : World) (q c r K : Nat) (L : List TokV) (st : St) : Prop where
 whole : Zb w q 186 #[Xf c st, .int .i64 (fltS st).1, .int .i64 ((fltS st).2.1 : Int), .int .i64 ((fltS st).2.2 : Int)]
 cur : ∀ a d, st = .ok a d → q ≠ c ∧ q ≠ r ∧ Xt w c r K L a d
 flt : ∀ F, st = .bad F → F.1 ≠ 0
 cin : c < w.heap.size
 rin : r < w.heap.size
theorem PAt.keeps {w w' : World} {q c r K : Nat} {L : List TokV} {st : St} (h : PAt w q c r K L st) {S : Nat → Prop} (hk : Zn S w w') (hq : ¬ S q) (hc : ¬ S c) (hr : ¬ S r) : PAt w' q c r K L st :=
 ⟨hk.whole h.whole hq, fun a d e => ⟨(h.cur a d e).1, (h.cur a d e).2.1, (h.cur a d e).2.2.keeps hk hc hr⟩, h.flt, Nat.lt_of_lt_of_le h.cin hk.size, Nat.lt_of_lt_of_le h.rin hk.size⟩
theorem PAt.below {w w' : World} {q c r K : Nat} {L : List TokV} {st : St} (h : PAt w q c r K L st) (hb : Below w.heap.size w w') : PAt w' q c r K L st :=
 h.keeps (S := fun _ => False) (Zn.of_below hb) id id id
structure Ye (w w' : World) (q c r K : Nat) (L : List TokV) (st : St) : Prop where
 at_ : PAt w' q c r K L st
 keeps : Zn (fun k => k = q ∨ k = c) w w'
def Ya (w : World) (q c r K : Nat) (L : List TokV) (st : St) (val : Value) (e : Ending) (w' : World) : Prop := e = .returned val ∧ Ye w w' q c r K L st
theorem Ye.start {w : World} {q c r K : Nat} {L : List TokV} {st : St} (h : PAt w q c r K L st) : Ye w w q c r K L st := ⟨h, Zn.refl _ _⟩
theorem Ye.next {w x y : World} {q c r K : Nat} {L : List TokV} {st : St} (m : Ye w x q c r K L st) (hb : Below x.heap.size x y) : Ye w y q c r K L st :=
 ⟨m.at_.below hb, m.keeps.trans (Zn.of_below hb)⟩
theorem Ye.then {w x y : World} {q c r K : Nat} {L : List TokV} {st st' : St} (m : Ye w x q c r K L st) (h : Ye x y q c r K L st') : Ye w y q c r K L st' :=
 ⟨h.at_, m.keeps.trans h.keeps⟩
theorem Ye.on {w x y : World} {q c r K : Nat} {L : List TokV} {st : St} (m : Ye w x q c r K L st) {G : Nat} (hk : Zn (fun k => k = G) x y) (hG : w.heap.size ≤ G) (hq : q < w.heap.size) (hc : c < w.heap.size) (hr : r < w.heap.size) : Ye w y q c r K L st := by
 refine ⟨m.at_.keeps hk (by omega) (by omega) (by omega), ?_⟩
 have h1 : Zn (fun k => (k = q ∨ k = c) ∨ k = G) w x := m.keeps.mono fun k h => .inl h
 have h2 : Zn (fun k => (k = q ∨ k = c) ∨ k = G) x y := hk.mono fun k h => .inr h
 exact (h1.trans h2).inner fun k hk h => by omega
def wrongV (L : List TokV) : St → Int × Nat × Nat
 | .ok a _ => wrF (Yk L a)
 | .bad _ => Vg
def wantV (L : List TokV) (t : ByteArray) : St → Int × Nat × Nat
 | .ok a _ => wantF L a t
 | .bad _ => Vg
def downV (L : List TokV) : St → Int × Nat × Nat
 | .ok a d => downF L a d
 | .bad _ => Vg
def deeperS : St → St
 | .ok a d => .ok a (downD d)
 | .bad F => .bad F
theorem PAt.step {w x : World} {q c r K : Nat} {L : List TokV} {a d b e : Nat} (h : PAt w q c r K L (.ok a d)) (m : Wp w x c r K L b e) : Ye w x q c r K L (.ok b e) := by
 obtain ⟨h1, h2, h3⟩ := h.cur a d rfl
 refine ⟨⟨m.keeps.whole h.whole h1, fun a' d' e' => ?_, fun F e' => (by cases e'), Nat.lt_of_lt_of_le h.cin m.keeps.size, Nat.lt_of_lt_of_le h.rin m.keeps.size⟩, m.keeps.mono fun k hk => .inr hk⟩
 cases e'
 exact ⟨h1, h2, m.at_⟩
theorem xPeek (w : World) (q c r K : Nat) (L : List TokV) (st : St) (h : PAt w q c r K L st) :
   Calls Tryz.prog 134 #[Xf c st] w fun e w' => e = .returned (Wt (st.tok L)) ∧ Below w.heap.size w w' := by
 cases st with
 | ok a d => exact cPeek w c _ _ _ _ _ _ (h.cur a d rfl).2.2.look
 | bad F => exact nPeek w
theorem xIs (w : World) (q c r K : Nat) (L : List TokV) (st : St) (t : ByteArray) (h : PAt w q c r K L st) :
   Calls Tryz.prog 175 #[Xf c st, .string t] w fun e w' => e = .returned (.bool (isS L t st)) ∧ Below w.heap.size w w' := by
 cases st with
 | ok a d => exact cIs w c _ _ _ _ _ _ t (h.cur a d rfl).2.2.look
 | bad F => exact nIs w t
theorem xWrong (w : World) (q c r K : Nat) (L : List TokV) (st : St) (h : PAt w q c r K L st) :
   Calls Tryz.prog 136 #[Xf c st] w fun e w' => e = .returned (Zq (wrongV L st)) ∧ Below w.heap.size w w' := by
 cases st with
 | ok a d => exact cWrong w c _ _ _ _ _ _ (h.cur a d rfl).2.2.look
 | bad F => exact nWrong w
theorem We (w : World) (q c r K : Nat) (L : List TokV) (st : St) (t : ByteArray) (h : PAt w q c r K L st) :
   Calls Tryz.prog 137 #[Xf c st, .string t] w (Ya w q c r K L (Xm L t st) (.bool (isS L t st))) := by
 cases st with
 | ok a d => exact (cTake w c r K L a d t (h.cur a d rfl).2.2).mono fun e w' p => ⟨p.1, h.step p.2⟩
 | bad F => exact (nTake w t).mono fun e w' p => ⟨p.1, (Ye.start h).next p.2⟩
theorem xWant (w : World) (q c r K : Nat) (L : List TokV) (st : St) (t : ByteArray) (h : PAt w q c r K L st) :
   Calls Tryz.prog 211 #[Xf c st, .string t] w (Ya w q c r K L (Xm L t st) (Zq (wantV L t st))) := by
 cases st with
 | ok a d => exact (cWant w c r K L a d t (h.cur a d rfl).2.2).mono fun e w' p => ⟨p.1, h.step p.2⟩
 | bad F => exact (nWant w t).mono fun e w' p => ⟨p.1, (Ye.start h).next p.2⟩
theorem xDown (w : World) (q c r K : Nat) (L : List TokV) (st : St) (h : PAt w q c r K L st) :
   Calls Tryz.prog 279 #[Xf c st] w (Ya w q c r K L (deeperS st) (Zq (downV L st))) := by
 cases st with
 | ok a d => exact (cDown w c r K L a d (h.cur a d rfl).2.2).mono fun e w' p => ⟨p.1, h.step p.2⟩
 | bad F => exact (nDown w).mono fun e w' p => ⟨p.1, (Ye.start h).next p.2⟩
theorem xUp (w : World) (q c r K : Nat) (L : List TokV) (st : St) (h : PAt w q c r K L st) :
   Calls Tryz.prog 280 #[Xf c st] w (Ya w q c r K L (upS st) (.tuple #[])) := by
 cases st with
 | ok a d => exact (cUp w c r K L a d (h.cur a d rfl).2.2).mono fun e w' p => ⟨p.1, h.step p.2⟩
 | bad F => exact (nUp w).mono fun e w' p => ⟨p.1, by obtain ⟨_, rfl⟩ := p; exact Ye.start h⟩
theorem PAt.cell {w : World} {q c r K : Nat} {L : List TokV} {st : St} (h : PAt w q c r K L st) : w.cell? ⟨q, 0, none⟩ = some (Xf c st) := h.whole.read 0
theorem xNote (w : World) (q c r K : Nat) (L : List TokV) (st : St) (F : Int × Nat × Nat) (h : PAt w q c r K L st) :
   Calls Tryz.prog 135 #[.pointer (some ⟨q, 0, none⟩), Zq F] w (Ya w q c r K L (Vr F st) (.tuple #[])) := by
 obtain ⟨f0, f1, f2⟩ := F
 have nb := Za w (.cells #[.int .i64 f0, .int .i64 (f1 : Int), .int .i64 (f2 : Int)] 29)
 have h1 := h.below nb
 have hc := h1.cell
 have HM := Hh ((Ye.start h).next nb)
 have H := Hh h
 have H1 := Hh h1
 clear h h1 nb
 unfold Zq
 cases st with
 | bad G =>
   have hc' : (w.alloc (.cells #[.int .i64 f0, .int .i64 (f1 : Int), .int .i64 (f2 : Int)] 29)).cell? ⟨q, 0, none⟩ = some (.pointer none) := hc
   clear hc
   go_enter Tryz.func135, Tryz.ntmps135
   go_wp2
   go_end0
   exact ⟨rfl, HM.out⟩
 | ok a d =>
   have hc' : (w.alloc (.cells #[.int .i64 f0, .int .i64 (f1 : Int), .int .i64 (f2 : Int)] 29)).cell? ⟨q, 0, none⟩ = some (.pointer (some ⟨c, 0, none⟩)) := hc
   clear hc
   by_cases hz : f0 = 0
   · subst hz
     have hn : Vr (0, f1, f2) (.ok a d) = .ok a d := by simp [Vr]
     rw [hn]
     clear hn
     go_enter Tryz.func135, Tryz.ntmps135
     go_wp2
     go_end0
     exact ⟨rfl, HM.out⟩
   · have hn : Vr (f0, f1, f2) (.ok a d) = .bad (f0, f1, f2) := if_neg hz
     rw [hn]
     have q1 : (f0 != 0) = true := by rw [bne_iff_ne]; exact hz
     have z0 := H1.out.whole.thawed 0
     have z1 := H1.out.whole.thawed 1
     have z2 := H1.out.whole.thawed 2
     have z3 := H1.out.whole.thawed 3
     have y1 := H1.out.whole.read 1
     have y2 := H1.out.whole.read 2
     have y3 := H1.out.whole.read 3
     have HZ := Hh hz
     clear hn hz
     go_enter Tryz.func135, Tryz.ntmps135
     go_wp2
     go_end0
     refine ⟨rfl, ⟨⟨?_, fun _ _ e => (by cases e), fun F e => (by cases e; exact HZ.out), ?_, ?_⟩, ?_⟩⟩
     · exact (((H1.out.whole.write 1 (.int .i64 f0)).write 2 (.int .i64 (f1 : Int))).write 3 (.int .i64 (f2 : Int))).write 0 (.pointer none)
     · have := H1.out.cin; simpa [World.setCell] using this
     · have := H1.out.rin; simpa [World.setCell] using this
     · exact (((HM.out.keeps.setCell (p := ⟨q, 1, none⟩) (.inl rfl) _).setCell (p := ⟨q, 2, none⟩) (.inl rfl) _).setCell (p := ⟨q, 3, none⟩) (.inl rfl) _).setCell (p := ⟨q, 0, none⟩) (.inl rfl) _
theorem want_note (L : List TokV) (t : ByteArray) (st : St) : Vr (wantV L t st) (Xm L t st) = Yu L t st := by
 cases st with
 | ok a d =>
   unfold Yu
   show Vr (wantF L a t) (.ok (wantA L a t) d) = if isT (Yk L a) t = true then .ok (wantA L a t) d else .bad (wrF (Yk L a))
   unfold wantF wantA
   by_cases h : isT (Yk L a) t = true
   · rw [if_pos h, if_pos h, if_pos h]; rfl
   · rw [if_neg h, if_neg h, if_neg h]; exact if_neg (wrF_ne _)
 | bad F => rfl
theorem wrong_note (L : List TokV) (st : St) : Vr (wrongV L st) st = wrongS L st := by
 cases st with
 | ok a d => exact if_neg (wrF_ne _)
 | bad F => rfl
theorem xwant (w : World) (q c r K : Nat) (L : List TokV) (st : St) (t : ByteArray) (h : PAt w q c r K L st) :
   Calls Tryz.prog 179 #[.pointer (some ⟨q, 0, none⟩), .string t] w (Ya w q c r K L (Yu L t st) (.tuple #[])) := by
 have hc := h.cell
 have H := Hh h
 rw [← want_note]
 generalize hv : wantV L t st = v
 have hw : ∀ w, PAt w q c r K L st → Calls Tryz.prog 211 #[Xf c st, .string t] w (Ya w q c r K L (Xm L t st) (Zq v)) := fun w h => by rw [← hv]; exact xWant w q c r K L st t h
 clear h hv
 go_enter Tryz.func179, Tryz.ntmps179
 go_wp2_with (first
 | (go_at_call 211; refine (hw _ H.out).mono ?_; rintro e w1 ⟨rfl, m1⟩; have M1 := Hh m1; clear m1)
 | (go_at_call 135; refine (xNote _ q c r K L _ v M1.out.at_).mono ?_; rintro e w2 ⟨rfl, m2⟩; have M2 := Hh (M1.out.then m2); clear m2))
 go_end0
 exact ⟨rfl, M2.out⟩
theorem idx_hit (v : TokV) : ∀ (ws : List ByteArray) (k : Nat) (hk : k < ws.length), (∀ j, j < k → isT v (ws.getD j ⟨#[]⟩) = false) → isT v (ws.getD k ⟨#[]⟩) = true → idxW v ws = k + 1
 | [], k, hk, _, _ => by cases hk
 | t :: r, 0, hk, _, h => if_pos h
 | t :: r, k + 1, hk, hj, h => by
   have h0 : isT v t = false := hj 0 (by omega)
   have ih := idx_hit v r k (by rw [List.length_cons] at hk; omega) (fun j hjk => hj (j + 1) (by omega)) h
   unfold idxW
   rw [if_neg (by rw [h0]; decide), if_neg (by rw [ih]; omega), ih]
theorem idx_miss (v : TokV) : ∀ (ws : List ByteArray), (∀ j, j < ws.length → isT v (ws.getD j ⟨#[]⟩) = false) → idxW v ws = 0
 | [], _ => rfl
 | t :: r, hj => by
   have h0 : isT v t = false := hj 0 (by rw [List.length_cons]; omega)
   have ih := idx_miss v r (fun j hjk => hj (j + 1) (by rw [List.length_cons]; omega))
   unfold idxW
   rw [if_neg (by rw [h0]; decide), if_pos ih]
theorem find_hit (L : List TokV) (ws : List ByteArray) (st : St) (k : Nat) (hk : k < ws.length) (hj : ∀ j, j < k → isS L (ws.getD j ⟨#[]⟩) st = false) (h : isS L (ws.getD k ⟨#[]⟩) st = true) :
   Zp L ws st = k + 1 ∧ Yf L ws st = Xm L (ws.getD k ⟨#[]⟩) st := by
 cases st with
 | ok a d =>
   have hi := idx_hit (Yk L a) ws k hk hj h
   refine ⟨hi, ?_⟩
   rw [show Yf L ws (.ok a d) = .ok (onA L a) d from if_neg (by rw [hi]; omega)]
   show St.ok (onA L a) d = .ok (wantA L a (ws.getD k ⟨#[]⟩)) d
   unfold wantA
   rw [if_pos (show isT (Yk L a) (ws.getD k ⟨#[]⟩) = true from h)]
 | bad F => cases h
theorem find_miss (L : List TokV) (ws : List ByteArray) (st : St) (hj : ∀ j, j < ws.length → isS L (ws.getD j ⟨#[]⟩) st = false) : Zp L ws st = 0 := by
 cases st with
 | ok a d => exact idx_miss (Yk L a) ws hj
 | bad F => rfl
theorem Xc {L : List TokV} {t : ByteArray} {st : St} (h : isS L t st = false) : Xm L t st = st := by
 cases st with
 | ok a d =>
   show St.ok (wantA L a t) d = .ok a d
   unfold wantA
   rw [if_neg (by rw [show isT (Yk L a) t = false from h]; decide)]
 | bad F => rfl
def Words (w : World) (g : Nat) (ws : List ByteArray) : Prop := Zb w g 9 (ws.map Value.string).toArray
theorem Words.at_ {w : World} {g : Nat} {ws : List ByteArray} (h : Words w g ws) {k : Nat} (hk : k < ws.length) : w.cell? ⟨g, k, none⟩ = some (.string (ws.getD k ⟨#[]⟩)) := by
 rw [Zb.read h k]
 simp [List.getD, hk]
theorem xfind (w : World) (q c r K : Nat) (L : List TokV) (st : St) (ws : List ByteArray) (g n m : Nat) (h : PAt w q c r K L st) (hw : Words w g ws) (hq : g ≠ q) (hc : g ≠ c) (hn : n = ws.length) (hl : n ≤ 64) :
   Calls Tryz.prog 148 #[.pointer (some ⟨q, 0, none⟩), .slice (some ⟨g, 0, none⟩) n m] w (Ya w q c r K L (Yf L ws st) (.int .i64 (Zp L ws st))) := by
 have H := Hh (And.intro hw (And.intro hq (And.intro hc hn)))
 have hP := Hh (Ye.start h)
 clear h hw hq hc hn
 have l64 : (n : Int) ≤ 64 := by omega
 go_enter Tryz.func148, Tryz.ntmps148
 go_wp2
 go_loopw [9] (fun i wr => ∃ k : Nat, i = .int .i64 k ∧ k ≤ n ∧ Ye w wr q c r K L st ∧ ∀ j, j < k → isS L (ws.getD j ⟨#[]⟩) st = false) (fun i _ => n - (intOf i).toNat)
 case atStart => exact ⟨0, by go_num, Nat.zero_le _, hP.out, fun j hj => by omega⟩
 case round =>
   obtain ⟨k, rfl, hk, hm, hj⟩ := hrel
   obtain ⟨H1, H2, H3, H4⟩ := H.out
   have HJ := Hh hj
   have HM := Hh hm
   have hcell := hm.at_.cell
   have HW : Words wr g ws := hm.keeps.whole H1 (by omega)
   have HN := Hh H4
   have hnw : k < n → k < ws.length := fun h => by omega
   have hwn : ¬ k < n → ∀ j, j < ws.length → j < k := fun h j hj => by omega
   clear H4
   by_cases hlt : k < n
   · have hx := HW.at_ (k := k) (hnw hlt)
     have hi := HW.inside
     generalize hv : isS L (ws.getD k ⟨#[]⟩) st = b
     have ht : ∀ w, PAt w q c r K L st → Calls Tryz.prog 137 #[Xf c st, .string (ws.getD k ⟨#[]⟩)] w (Ya w q c r K L (Xm L (ws.getD k ⟨#[]⟩) st) (.bool b)) := fun w h => by rw [← hv]; exact We w q c r K L st _ h
     generalize hX : ws.getD k ⟨#[]⟩ = x at *
     have HV := Hh hv
     have HX := Hh hX
     clear hX
     have hlt' : (k : Int) < (n : Int) := by omega
     have HK := Hh (hnw hlt)
     clear hm hj H1 H2 H3 HW hv hk hnw hwn
     cases b
     · go_wp2_with (go_at_call 137; refine (ht _ HM.out.at_).mono ?_; rintro e w1 ⟨rfl, m1⟩; have M1 := Hh (HM.out.then m1); clear m1)
       go_roundw
       case rel =>
         have m := M1.out
         rw [Xc HV.out] at m
         refine ⟨k + 1, by go_num, by omega, m, fun j hj => ?_⟩
         by_cases e : j = k
         · subst e; rw [HX.out]; exact HV.out
         · exact HJ.out j (by omega)
       case measure => simp [intOf]; omega
     · go_wp2_with (go_at_call 137; refine (ht _ HM.out.at_).mono ?_; rintro e w1 ⟨rfl, m1⟩; have M1 := Hh (HM.out.then m1); clear m1)
       go_ret
       obtain ⟨e1, e2⟩ := find_hit L ws st k HK.out HJ.out (by rw [HX.out]; exact HV.out)
       rw [e1, e2, HX.out]
       exact ⟨rI (by omega), M1.out⟩
   · have e := find_miss L ws st (fun j hj => HJ.out j (hwn hlt j hj))
     have HE := Hh e
     have hge : (n : Int) ≤ (k : Int) := by omega
     clear hm hj H1 H2 H3 HW e hnw hwn
     go_wp2
     go_ret
     rw [HE.out, Un L HE.out]
     exact ⟨rfl, HM.out⟩
theorem xone (w : World) (q c r K : Nat) (L : List TokV) (st : St) (ws : List ByteArray) (g n m : Nat) (h : PAt w q c r K L st) (hw : Words w g ws) (hq : g ≠ q) (hc : g ≠ c) (hn : n = ws.length) (hl : n ≤ 64) :
   Calls Tryz.prog 258 #[.pointer (some ⟨q, 0, none⟩), .slice (some ⟨g, 0, none⟩) n m] w (Ya w q c r K L (Ym L ws st) (.int .i64 (Zp L ws st))) := by
 have hf := xfind w q c r K L st ws g n m h hw hq hc hn hl
 have hb := idxW_le
 have hF : Zp L ws st = 0 → Yf L ws st = st := Un L
 unfold Ym
 generalize hk : Zp L ws st = k at *
 have HF := Hh hF
 have HK := Hh hk
 clear h hw hq hc hn hl hb hF hk
 by_cases h0 : k = 0
 · subst h0
   rw [if_pos rfl]
   rw [HF.out rfl] at hf
   rw [← wrong_note]
   generalize hv : wrongV L st = v
   have hw : ∀ w, PAt w q c r K L st → Calls Tryz.prog 136 #[Xf c st] w fun e w' => e = .returned (Zq v) ∧ Below w.heap.size w w' := fun w h => by rw [← hv]; exact xWrong w q c r K L st h
   clear hv
   go_enter Tryz.func258, Tryz.ntmps258
   go_wp2_with (first
 | (go_at_call 148; refine hf.mono ?_; rintro e w1 ⟨rfl, m1⟩; have hcell := m1.at_.cell; have M1 := Hh m1; clear m1)
 | (go_at_call 136; refine (hw _ M1.out.at_).mono ?_; rintro e w2 ⟨rfl, b2⟩; have M2 := Hh (M1.out.next b2); clear b2)
 | (go_at_call 135; refine (xNote _ q c r K L _ v M2.out.at_).mono ?_; rintro e w3 ⟨rfl, m3⟩; have M3 := Hh (M2.out.then m3); clear m3))
   go_ret
   exact ⟨rfl, M3.out⟩
 · rw [if_neg h0]
   have q0 : ((k : Int) == 0) = false := by rw [beq_eq_false_iff_ne]; omega
   clear h0
   go_enter Tryz.func258, Tryz.ntmps258
   go_wp2_with (go_at_call 148; refine hf.mono ?_; rintro e w1 ⟨rfl, m1⟩; have M1 := Hh m1; clear m1)
   go_ret
   exact ⟨rfl, M1.out⟩
theorem xoneB (W : World) (q c r K G : Nat) (L : List TokV) (st : St) (ws : List ByteArray) (n m : Nat) (cs : Array Value) (hcs : cs = (ws.map Value.string).toArray) (hG : G = W.heap.size) (h : PAt W q c r K L st) (hn : n = ws.length) (hl : n ≤ 64) :
   Calls Tryz.prog 258 #[.pointer (some ⟨q, 0, none⟩), .slice (some ⟨G, 0, none⟩) n m] (W.alloc (.cells cs 9)) fun e w' => e = .returned (.int .i64 (Zp L ws st)) ∧ Ye W w' q c r K L (Ym L ws st) := by
 subst hcs hG
 have M1 := (Ye.start h).next (Za W (.cells (ws.map Value.string).toArray 9))
 have hq := h.whole.inside
 refine (xone _ q c r K L st ws W.heap.size n m M1.at_ (Zb.made _ _ _) (by omega) (by have := h.cin; omega) hn hl).mono ?_
 rintro e w' ⟨h1, h2⟩
 exact ⟨h1, M1.then h2⟩
theorem xfindB (W : World) (q c r K G : Nat) (L : List TokV) (st : St) (ws : List ByteArray) (n m : Nat) (cs : Array Value) (hcs : cs = (ws.map Value.string).toArray) (hG : G = W.heap.size) (h : PAt W q c r K L st) (hn : n = ws.length) (hl : n ≤ 64) :
   Calls Tryz.prog 148 #[.pointer (some ⟨q, 0, none⟩), .slice (some ⟨G, 0, none⟩) n m] (W.alloc (.cells cs 9)) fun e w' => e = .returned (.int .i64 (Zp L ws st)) ∧ Ye W w' q c r K L (Yf L ws st) := by
 subst hcs hG
 have M1 := (Ye.start h).next (Za W (.cells (ws.map Value.string).toArray 9))
 have hq := h.whole.inside
 refine (xfind _ q c r K L st ws W.heap.size n m M1.at_ (Zb.made _ _ _) (by omega) (by have := h.cin; omega) hn hl).mono ?_
 rintro e w' ⟨h1, h2⟩
 exact ⟨h1, M1.then h2⟩
def intF (L : List TokV) : St → Int × Nat × Nat
 | .ok a _ => kindF L a 2
 | .bad _ => Vg
def intM (L : List TokV) : St → St
 | .ok a d => .ok (kindA L a 2) d
 | .bad F => .bad F
def nameF (L : List TokV) : St → Int × Nat × Nat
 | .ok a _ => kindF L a 3
 | .bad _ => Vg
def nameM (L : List TokV) : St → St
 | .ok a d => .ok (kindA L a 3) d
 | .bad F => .bad F
def sigF (L : List TokV) : St → Int × Nat × Nat
 | .ok a _ => signF L a
 | .bad _ => Vg
def sigM (L : List TokV) : St → St
 | .ok a d => .ok (signA L a) d
 | .bad F => .bad F
theorem int_note (L : List TokV) (st : St) : Vr (intF L st) (intM L st) = intS L st := by cases st <;> rfl
theorem name_note (L : List TokV) (st : St) : Vr (nameF L st) (nameM L st) = Wm L st := by cases st <;> rfl
theorem sig_note (L : List TokV) (st : St) : Vr (sigF L st) (sigM L st) = signS L st := by cases st <;> rfl
theorem xInt (w : World) (q c r K : Nat) (L : List TokV) (st : St) (h : PAt w q c r K L st) :
   Calls Tryz.prog 181 #[Xf c st] w (Ya w q c r K L (intM L st) (.tuple #[.int .i64 (intN L st), Zq (intF L st)])) := by
 cases st with
 | ok a d => exact (cInt w c r K L a d (h.cur a d rfl).2.2).mono fun e w' p => ⟨p.1, h.step p.2⟩
 | bad F => exact (nInt w).mono fun e w' p => ⟨p.1, (Ye.start h).next p.2⟩
theorem xName (w : World) (q c r K : Nat) (L : List TokV) (st : St) (h : PAt w q c r K L st) :
   Calls Tryz.prog 178 #[Xf c st] w (Ya w q c r K L (nameM L st) (.tuple #[.string (nameN L st), Zq (nameF L st)])) := by
 cases st with
 | ok a d => exact (cName w c r K L a d (h.cur a d rfl).2.2).mono fun e w' p => ⟨p.1, h.step p.2⟩
 | bad F => exact (nName w).mono fun e w' p => ⟨p.1, (Ye.start h).next p.2⟩
theorem xSigned (w : World) (q c r K : Nat) (L : List TokV) (st : St) (h : PAt w q c r K L st) :
   Calls Tryz.prog 182 #[Xf c st] w (Ya w q c r K L (sigM L st) (.tuple #[.int .i64 (signN L st), Zq (sigF L st)])) := by
 cases st with
 | ok a d => exact (cSigned w c r K L a d (h.cur a d rfl).2.2).mono fun e w' p => ⟨p.1, h.step p.2⟩
 | bad F => exact (nSigned w).mono fun e w' p => ⟨p.1, (Ye.start h).next p.2⟩
theorem xreadInt (w : World) (q c r K : Nat) (L : List TokV) (st : St) (h : PAt w q c r K L st) :
   Calls Tryz.prog 180 #[.pointer (some ⟨q, 0, none⟩), .func (.func 181) #[Xf c st] #[]] w (Ya w q c r K L (intS L st) (.int .i64 (intN L st))) := by
 have H := Hh h
 rw [← int_note]
 have hi := xInt w q c r K L st h
 generalize intF L st = F at *
 obtain ⟨f0, f1, f2⟩ := F
 have qin := h.whole.inside
 have cin := h.cin
 have rin := h.rin
 clear h
 unfold Zq at hi
 go_enter Tryz.func180, Tryz.ntmps180
 go_wp2_with (first
 | (go_at_call 181; refine hi.mono ?_; rintro e w1 ⟨rfl, m1⟩; have M1 := Hh (m1.next (Za w1 (.cells #[.int .i64 f0, .int .i64 (f1 : Int), .int .i64 (f2 : Int)] 29))); clear m1)
 | (go_at_call 135; refine (xNote _ q c r K L _ (f0, f1, f2) M1.out.at_).mono ?_; rintro e w2 ⟨rfl, m2⟩; have M2 := Hh (M1.out.then m2); clear m2))
 go_ret
 exact ⟨rfl, M2.out⟩
theorem xreadName (w : World) (q c r K : Nat) (L : List TokV) (st : St) (h : PAt w q c r K L st) :
   Calls Tryz.prog 177 #[.pointer (some ⟨q, 0, none⟩), .func (.func 178) #[Xf c st] #[]] w (Ya w q c r K L (Wm L st) (.string (nameN L st))) := by
 have H := Hh h
 rw [← name_note]
 have hi := xName w q c r K L st h
 generalize nameF L st = F at *
 obtain ⟨f0, f1, f2⟩ := F
 have qin := h.whole.inside
 have cin := h.cin
 have rin := h.rin
 clear h
 unfold Zq at hi
 go_enter Tryz.func177, Tryz.ntmps177
 go_wp2_with (first
 | (go_at_call 178; refine hi.mono ?_; rintro e w1 ⟨rfl, m1⟩; have M1 := Hh (m1.next (Za w1 (.cells #[.int .i64 f0, .int .i64 (f1 : Int), .int .i64 (f2 : Int)] 29))); clear m1)
 | (go_at_call 135; refine (xNote _ q c r K L _ (f0, f1, f2) M1.out.at_).mono ?_; rintro e w2 ⟨rfl, m2⟩; have M2 := Hh (M1.out.then m2); clear m2))
 go_ret
 exact ⟨rfl, M2.out⟩
theorem xreadSigned (w : World) (q c r K : Nat) (L : List TokV) (st : St) (h : PAt w q c r K L st) :
   Calls Tryz.prog 180 #[.pointer (some ⟨q, 0, none⟩), .func (.func 182) #[Xf c st] #[]] w (Ya w q c r K L (signS L st) (.int .i64 (signN L st))) := by
 have H := Hh h
 rw [← sig_note]
 have hi := xSigned w q c r K L st h
 generalize sigF L st = F at *
 obtain ⟨f0, f1, f2⟩ := F
 have qin := h.whole.inside
 have cin := h.cin
 have rin := h.rin
 clear h
 unfold Zq at hi
 go_enter Tryz.func180, Tryz.ntmps180
 go_wp2_with (first
 | (go_at_call 182; refine hi.mono ?_; rintro e w1 ⟨rfl, m1⟩; have M1 := Hh (m1.next (Za w1 (.cells #[.int .i64 f0, .int .i64 (f1 : Int), .int .i64 (f2 : Int)] 29))); clear m1)
 | (go_at_call 135; refine (xNote _ q c r K L _ (f0, f1, f2) M1.out.at_).mono ?_; rintro e w2 ⟨rfl, m2⟩; have M2 := Hh (M1.out.then m2); clear m2))
 go_ret
 exact ⟨rfl, M2.out⟩
theorem deep_note (L : List TokV) (t : ByteArray) (st : St) (h : isS L t st = true) : Vr (downV L st) (deeperS st) = deepS L t st := by
 cases st with
 | ok a d => exact (if_pos h).symm
 | bad F => cases h
theorem deep_not (L : List TokV) (t : ByteArray) (st : St) (h : isS L t st = false) : deepS L t st = st := by
 cases st with
 | ok a d => exact if_neg (by rw [show isT (Yk L a) t = false from h]; decide)
 | bad F => rfl
theorem xdescend (w : World) (q c r K : Nat) (L : List TokV) (st : St) (t : ByteArray) (h : PAt w q c r K L st) :
   Calls Tryz.prog 256 #[.pointer (some ⟨q, 0, none⟩), .string t] w (Ya w q c r K L (Uo L t st) (.tuple #[])) := by
 have hc := h.cell
 have H := Hh h
 have hi := xIs w q c r K L st t h
 unfold Uo
 cases hb : isS L t st
 · rw [deep_not L t st hb]
   rw [hb] at hi
   clear hb h
   go_enter Tryz.func256, Tryz.ntmps256
   go_wp2_with (first
 | (go_at_call 175; refine hi.mono ?_; rintro e w1 ⟨rfl, b1⟩; have M1 := Hh ((Ye.start H.out).next b1); clear b1)
 | (go_at_call 179; refine (xwant _ q c r K L _ t M1.out.at_).mono ?_; rintro e w2 ⟨rfl, m2⟩; have M2 := Hh (M1.out.then m2); clear m2))
   go_end0
   exact ⟨rfl, M2.out⟩
 · rw [hb] at hi
   rw [← deep_note L t st hb]
   generalize hv : downV L st = v
   have hd : ∀ w, PAt w q c r K L st → Calls Tryz.prog 279 #[Xf c st] w (Ya w q c r K L (deeperS st) (Zq v)) := fun w h => by rw [← hv]; exact xDown w q c r K L st h
   clear hb h hv
   go_enter Tryz.func256, Tryz.ntmps256
   go_wp2_with (first
 | (go_at_call 175; refine hi.mono ?_; rintro e w1 ⟨rfl, b1⟩; have hc1 := (H.out.below b1).cell; have M1 := Hh ((Ye.start H.out).next b1); clear b1)
 | (go_at_call 279; refine (hd _ M1.out.at_).mono ?_; rintro e w2 ⟨rfl, m2⟩; have M2 := Hh (M1.out.then m2); clear m2)
 | (go_at_call 135; refine (xNote _ q c r K L _ v M2.out.at_).mono ?_; rintro e w3 ⟨rfl, m3⟩; have M3 := Hh (M2.out.then m3); clear m3)
 | (go_at_call 179; refine (xwant _ q c r K L _ t M3.out.at_).mono ?_; rintro e w4 ⟨rfl, m4⟩; have M4 := Hh (M3.out.then m4); clear m4))
   go_end0
   exact ⟨rfl, M4.out⟩
theorem xascend (w : World) (q c r K : Nat) (L : List TokV) (st : St) (t : ByteArray) (h : PAt w q c r K L st) :
   Calls Tryz.prog 257 #[.pointer (some ⟨q, 0, none⟩), .string t] w (Ya w q c r K L (riseS L t st) (.tuple #[])) := by
 have H := Hh h
 have hw := xwant w q c r K L st t h
 unfold riseS
 generalize Yu L t st = s at *
 clear h
 go_enter Tryz.func257, Tryz.ntmps257
 go_wp2_with (first
 | (go_at_call 179; refine hw.mono ?_; rintro e w1 ⟨rfl, m1⟩; have hcell := m1.at_.cell; have M1 := Hh m1; clear m1)
 | (go_at_call 280; refine (xUp _ q c r K L _ M1.out.at_).mono ?_; rintro e w2 ⟨rfl, m2⟩; have M2 := Hh (M1.out.then m2); clear m2))
 go_end0
 exact ⟨rfl, M2.out⟩
theorem xside (w : World) (q c r K : Nat) (L : List TokV) (st : St) (h : PAt w q c r K L st) :
   Calls Tryz.prog 221 #[.pointer (some ⟨q, 0, none⟩)] w (Ya w q c r K L (Ym L Yb st) (.int .i64 (Zp L Yb st))) := by
 have qin := h.whole.inside
 have hf := xoneB w q c r K _ L st Yb 3 3 _ rfl rfl h rfl (by decide)
 clear h
 go_enter Tryz.func221, Tryz.ntmps221
 go_wp2_with (go_at_call 258; refine hf.mono ?_; rintro e w1 ⟨rfl, m1⟩; have M1 := Hh m1; clear m1)
 go_ret
 exact ⟨rfl, M1.out⟩
theorem xop (w : World) (q c r K : Nat) (L : List TokV) (st : St) (h : PAt w q c r K L st) :
   Calls Tryz.prog 281 #[.pointer (some ⟨q, 0, none⟩)] w (Ya w q c r K L (Ym L wOp st) (.int .i64 (Zp L wOp st))) := by
 have qin := h.whole.inside
 have hf := xoneB w q c r K _ L st wOp 6 6 _ rfl rfl h rfl (by decide)
 clear h
 go_enter Tryz.func281, Tryz.ntmps281
 go_wp2_with (go_at_call 258; refine hf.mono ?_; rintro e w1 ⟨rfl, m1⟩; have M1 := Hh m1; clear m1)
 go_ret
 exact ⟨rfl, M1.out⟩
theorem row_to : (Tryz.prog.underlying 48).map TypeDesc.isRow = some true := by kernel_rfl
theorem Ut : (Tryz.prog.info? 48).map (·.size) = some 2 := by kernel_rfl
theorem Yo : (Tryz.prog.info? 3).map (·.size) = some 1 := by kernel_rfl
theorem Ye.put {w x y : World} {q c r K : Nat} {L : List TokV} {st : St} (m : Ye w x q c r K L st) {G : Nat} {t : TypeId} {vs : List Value} (p : Put x y G t vs) (hG : w.heap.size ≤ G) (hq : q < w.heap.size) (hc : c < w.heap.size) (hr : r < w.heap.size) : Ye w y q c r K L st := m.on p.keeps hG hq hc hr
set_option maxRecDepth 20000 in
theorem xto (w : World) (q c r K : Nat) (L : List TokV) (st : St) (h : PAt w q c r K L st) :
   Calls Tryz.prog 222 #[.pointer (some ⟨q, 0, none⟩)] w (Ya w q c r K L (toS L st) (.agg #[.int .i64 (toK L st), .int .i64 (toL L st)])) := by
 have qin := h.whole.inside
 have cin := h.cin
 have rin := h.rin
 have nb := Za w (.cells #[.int .i64 0, .int .i64 0] 48)
 have M0 := Hh ((Ye.start h).next nb)
 have R0 := Hh (Zb.made w 48 #[.int .i64 0, .int .i64 0])
 have hf := xoneB _ q c r K (w.heap.size + 1) L st wTo 4 4 _ rfl (by simp) M0.out.at_ rfl (by decide)
 clear h
 unfold toS toK toL
 generalize hk : Zp L wTo st = k at *
 generalize Ym L wTo st = s1 at *
 clear hk
 by_cases h4 : k = 4
 · subst h4
   rw [if_pos rfl, if_pos rfl]
   rw [show ((4 : Nat) : Int) = 4 from rfl] at hf ⊢
   go_enter Tryz.func222, Tryz.ntmps222
   go_wp2_with (first
 | (go_at_call 258; refine hf.mono ?_; rintro e w1 ⟨rfl, m1⟩
    have nb := Za w1 (.cells #[.int .i64 4, .int .i64 0] 48)
    have hcell := (m1.at_.below nb).cell
    have hz1 : w.heap.size + 1 ≤ w1.heap.size := by have := m1.keeps.size; simp at this; omega
    have T1 := Hh (Zb.made w1 48 #[.int .i64 4, .int .i64 0])
    have R1 := Hh ((m1.keeps.whole R0.out (by omega)).below nb (by omega))
    have M1 := Hh ((M0.out.then m1).next nb); clear m1 nb)
 | (go_at_call 180; refine (xreadInt _ q c r K L _ M1.out.at_).mono ?_; rintro e w2 ⟨rfl, m2⟩
    have hz2 : w1.heap.size + 1 ≤ w2.heap.size := by have := m2.keeps.size; simp at this; omega
    have T2 := Hh (m2.keeps.whole T1.out (by omega))
    have R2 := Hh (m2.keeps.whole R1.out (by omega))
    have M2 := Hh (M1.out.then m2); clear m2)
 | ((with_reducible refine Zl 18 17 ?_); refine wpList_store1 3 _ _ 48 w1.heap.size 1 [.int .i64 4] (.int .i64 0) (.int .i64 (intN L s1)) [] T2.out rfl Yo rfl rfl rfl rfl rfl rfl ?_
    intro w3 p3
    have T3 := Hh (show Zb w3 w1.heap.size 48 [.int .i64 4, .int .i64 (intN L s1)].toArray from p3.whole)
    have R3 := Hh (p3.keeps.whole R2.out (by omega))
    have M3 := Hh (M2.out.put p3 (by omega) qin cin rin)
    clear p3)
 | ((with_reducible refine Zg 19 ?_); refine Zh 48 _ 48 w1.heap.size _ T3.out row_to Ut rfl rfl rfl ?_)
 | ((with_reducible refine Zl 2 19 ?_); refine wpList_storeW 48 _ _ 48 w.heap.size _ [.int .i64 4, .int .i64 (intN L s1)] R3.out rfl Ut (by simp [Value.oneCell']) rfl rfl rfl rfl rfl ?_
    intro w4 p4
    have R4 := Hh p4.whole
    have M4 := Hh (M3.out.put p4 (Nat.le_refl _) qin cin rin)
    clear p4))
   exact Zo 2 48 48 w.heap.size _ rfl R4.out row_to Ut rfl rfl ⟨rfl, M4.out⟩
 · rw [if_neg h4, if_neg h4]
   have q4 : ((k : Int) == 4) = false := by rw [beq_eq_false_iff_ne]; omega
   clear h4
   go_enter Tryz.func222, Tryz.ntmps222
   go_wp2_with (first
 | (go_at_call 258; refine hf.mono ?_; rintro e w1 ⟨rfl, m1⟩
    have nb := Za w1 (.cells #[.int .i64 (k : Int), .int .i64 0] 48)
    have hz1 : w.heap.size + 1 ≤ w1.heap.size := by have := m1.keeps.size; simp at this; omega
    have T1 := Hh (Zb.made w1 48 #[.int .i64 (k : Int), .int .i64 0])
    have R1 := Hh ((m1.keeps.whole R0.out (by omega)).below nb (by omega))
    have M1 := Hh ((M0.out.then m1).next nb); clear m1 nb)
 | ((with_reducible refine Zg 19 ?_); refine Zh 48 _ 48 w1.heap.size _ T1.out row_to Ut rfl rfl rfl ?_)
 | ((with_reducible refine Zl 2 19 ?_); refine wpList_storeW 48 _ _ 48 w.heap.size _ [.int .i64 (k : Int), .int .i64 0] R1.out rfl Ut (by simp [Value.oneCell']) rfl rfl rfl rfl rfl ?_
    intro w4 p4
    have R4 := Hh p4.whole
    have M4 := Hh (M1.out.put p4 (Nat.le_refl _) qin cin rin)
    clear p4))
   exact Zo 2 48 48 w.heap.size _ rfl R4.out row_to Ut rfl rfl ⟨rfl, M4.out⟩
end Go.Proofs.YtabegjepejgllaaGreat
