/-
  A struct's block, read and written. No program, no conditions.
-/
import Derived.Test.YtkalpclckgbedaaKeeps
import Derived.Deep.MidRow
import Derived.Deep.RegionHeld3
namespace Go.Proofs.Ytkalpclckgbedaa
open Go Go.RowKit
set_option linter.unusedSimpArgs false
set_option linter.unusedVariables false
/-! ## A struct's block, read and written -/
theorem Whole.range {w : World} {g : Nat} {t : TypeId} {a b c : List Value} (h : Whole w g t (a ++ b ++ c).toArray) : w.rangeAt g a.length b := fun j v hv => by
  have hj : j < b.length := (List.getElem?_eq_some_iff.1 hv).1
  rw [h.read, List.getElem?_toArray, List.getElem?_append_left (by rw [List.length_append]; omega), List.getElem?_append_right (by omega), show a.length + j - a.length = j from by omega, hv]
theorem Whole.there {w : World} {g : Nat} {t : TypeId} {a b c : List Value} (h : Whole w g t (a ++ b ++ c).toArray) : w.there g a.length b.length := fun j hj =>
  ⟨h.range.isSome j hj, h.thawed _⟩
theorem Whole.setCells {g : Nat} {t : TypeId} (c : List Value) : ∀ (y b a : List Value) (w : World), y.length = b.length → Whole w g t (a ++ b ++ c).toArray → Whole (w.setCells g a.length y) g t (a ++ y ++ c).toArray
  | [], b, a, w, hl, h => by
    have : b = [] := List.length_eq_zero_iff.1 (by rw [← hl]; rfl)
    rw [this] at h
    exact h
  | v :: y, [], a, w, hl, h => by cases hl
  | v :: y, u :: b, a, w, hl, h => by
    rw [World.setCells]
    have h1 := h.write a.length v
    have e : (a ++ u :: b ++ c).toArray.setIfInBounds a.length v = ((a ++ [v]) ++ b ++ c).toArray := by
      simp [List.setIfInBounds_toArray, List.set_append_right]
    rw [e] at h1
    have h2 := Whole.setCells c y b (a ++ [v]) _ (by rw [List.length_cons, List.length_cons] at hl; omega) h1
    rw [List.length_append] at h2
    have e2 : (a ++ [v] ++ y ++ c).toArray = (a ++ v :: y ++ c).toArray := by simp
    rw [e2] at h2
    exact h2
theorem Keeps.setCells {S : Nat → Prop} {g : Nat} (hg : S g) : ∀ (y : List Value) (o : Nat) {a b : World}, Keeps S a b → Keeps S a (b.setCells g o y)
  | [], _, _, _, h => h
  | v :: y, o, a, b, h => Keeps.setCells hg y (o + 1) (h.setCell (p := ⟨g, o, none⟩) hg v)
/-- The walk stands at the operation that writes slot d, or at the store of slot y through slot x. -/
theorem at_ld {P : Program} {ops : Array Oper} {rest : List Oper} {op : Op} {t : TypeId} {ps : String} {af : Array Edge} {gd : Option (Nat × Bool)} {a : Act} {w : World} {Q : Exit → Act → World → Prop} (d : Nat)
    (h : wpList P ops Q (⟨some d, op, t, ps, af, gd⟩ :: rest) a w) : wpList P ops Q (⟨some d, op, t, ps, af, gd⟩ :: rest) a w := h
theorem at_st {P : Program} {ops : Array Oper} {rest : List Oper} {T : TypeId} {t : TypeId} {ps : String} {af : Array Edge} {gd : Option (Nat × Bool)} {a : Act} {w : World} {Q : Exit → Act → World → Prop} (x y : Nat)
    (h : wpList P ops Q (⟨none, .store T (.tmp x) (.tmp y), t, ps, af, gd⟩ :: rest) a w) : wpList P ops Q (⟨none, .store T (.tmp x) (.tmp y), t, ps, af, gd⟩ :: rest) a w := h
/-- What a store leaves. -/
structure Put (w w' : World) (g : Nat) (t : TypeId) (vs : List Value) : Prop where
  whole : Whole w' g t vs.toArray
  keeps : Keeps (fun k => k = g) w w'
theorem wpList_storeP {P : Program} {ops : Array Oper} {rest : List Oper} {o : Oper} {a : Act} {w : World} {Q : Exit → Act → World → Prop} (T : TypeId) (x y : Operand) (t : TypeId) (g n : Nat) (pre old post ys : List Value) (hW : Whole w g t (pre ++ old ++ post).toArray) (hl : ys.length = old.length)
    (hpn : n = pre.length) (hi : (P.info? T).map (·.size) = some ys.length) (h1 : ∀ v ∈ ys, v.oneCell' = true)
    (hgd : o.guard = none) (ho : o.op = .store T x y) (hd : o.dst = none)
    (hx : a.eval x = .pointer (some ⟨g, n, none⟩)) (hy : a.eval y = .agg ys.toArray)
    (h : ∀ w', Put w w' g t (pre ++ ys ++ post) → wpList P ops Q rest a w') : wpList P ops Q (o :: rest) a w := by
  subst hpn
  have ht : w.there g pre.length ys.length := by rw [hl]; exact hW.there
  refine wpList_store_mid hgd T x y ho g pre.length ys.toArray hx hy (by simpa using ht) (by simpa using hi) (all_oneCell_toArray h1) ?_
  rw [hd]
  exact h _ ⟨Whole.setCells post ys old pre w hl hW, Keeps.setCells (S := fun k => k = g) rfl _ _ (Keeps.refl _ _)⟩
theorem wpList_storeW {P : Program} {ops : Array Oper} {rest : List Oper} {o : Oper} {a : Act} {w : World} {Q : Exit → Act → World → Prop} (T : TypeId) (x y : Operand) (t : TypeId) (g : Nat) (old ys : List Value) (hW : Whole w g t old.toArray) (hl : ys.length = old.length)
    (hi : (P.info? T).map (·.size) = some ys.length) (h1 : ∀ v ∈ ys, v.oneCell' = true)
    (hgd : o.guard = none) (ho : o.op = .store T x y) (hd : o.dst = none)
    (hx : a.eval x = .pointer (some ⟨g, 0, none⟩)) (hy : a.eval y = .agg ys.toArray)
    (h : ∀ w', Put w w' g t ys → wpList P ops Q rest a w') : wpList P ops Q (o :: rest) a w :=
  wpList_storeP T x y t g 0 [] old [] ys (by simpa using hW) hl rfl hi h1 hgd ho hd hx hy fun w' p => h w' ⟨by simpa using p.whole, p.keeps⟩
/-- The store of one cell. -/
theorem wpList_store1 {P : Program} {ops : Array Oper} {rest : List Oper} {o : Oper} {a : Act} {w : World} {Q : Exit → Act → World → Prop} (T : TypeId) (x y : Operand) (t : TypeId) (g n : Nat) (pre : List Value) (old v : Value) (post : List Value) (hW : Whole w g t (pre ++ [old] ++ post).toArray)
    (hpn : n = pre.length) (hi : (P.info? T).map (·.size) = some 1) (h1 : v.oneCell' = true)
    (hgd : o.guard = none) (ho : o.op = .store T x y) (hd : o.dst = none)
    (hx : a.eval x = .pointer (some ⟨g, n, none⟩)) (hy : a.eval y = v)
    (h : ∀ w', Put w w' g t (pre ++ [v] ++ post) → wpList P ops Q rest a w') : wpList P ops Q (o :: rest) a w := by
  subst hpn
  refine wpList_plain hgd fun K hK => ?_
  have hc : v.cells = #[v] := by cases v <;> first | rfl | cases h1
  have hst : (storeVar T ⟨g, pre.length, none⟩ v).run P w = .ok () (w.setCells g pre.length [v]) := by
    have := run_storeCells_cells (P := P) g pre.length [v] 0 w (fun j hj => by simpa using (hW.there j hj).1) (fun j hj => by simpa using (hW.there j hj).2) (fun u hu => by simp at hu; rw [hu]; exact h1)
    cases hq : P.info? T with
    | none => simp [hq] at hi
    | some i =>
      have hs : i.size = 1 := by simpa [hq] using hi
      simp only [Nat.add_zero] at this
      simp [storeVar, sizeOf, typeInfo, hq, hc, hs, this]
  unfold Oper.wp execOp
  simp only [ho, hx, hy, Instr.storeAt, Instr.sureAddr, Sem.run_bind, Sem.run_pure, Result.andThen_ok, hst]
  have hh := hK _ _ (h _ ⟨Whole.setCells post [v] [old] pre w rfl hW, Keeps.setCells (S := fun k => k = g) rfl _ _ (Keeps.refl _ _)⟩)
  have e : a.put o.dst undef = a := by rw [hd]; rfl
  show K (a.put o.dst undef) _
  rw [e]
  exact hh
theorem wpList_loadP {P : Program} {ops : Array Oper} {rest : List Oper} {o : Oper} {a : Act} {w : World} {Q : Exit → Act → World → Prop} (T : TypeId) (x : Operand) (t : TypeId) (g n : Nat) (pre vs post : List Value) (hW : Whole w g t (pre ++ vs ++ post).toArray) (hpn : n = pre.length)
    (hu : (P.underlying T).map TypeDesc.isRow = some true) (hi : (P.info? T).map (·.size) = some vs.length)
    (hgd : o.guard = none) (ho : o.op = .load T x) (hx : a.eval x = .pointer (some ⟨g, n, none⟩))
    (h : wpList P ops Q rest (a.put o.dst (.agg vs.toArray)) w) : wpList P ops Q (o :: rest) a w := by
  subst hpn
  obtain ⟨d, hu, hr⟩ := Option.map_eq_some_iff.1 hu
  exact wpList_load_mid hgd T x ho g pre.length hx vs d hW.range hu hr hi h
theorem wpList_loadW {P : Program} {ops : Array Oper} {rest : List Oper} {o : Oper} {a : Act} {w : World} {Q : Exit → Act → World → Prop} (T : TypeId) (x : Operand) (t : TypeId) (g : Nat) (vs : List Value) (hW : Whole w g t vs.toArray)
    (hu : (P.underlying T).map TypeDesc.isRow = some true) (hi : (P.info? T).map (·.size) = some vs.length)
    (hgd : o.guard = none) (ho : o.op = .load T x) (hx : a.eval x = .pointer (some ⟨g, 0, none⟩))
    (h : wpList P ops Q rest (a.put o.dst (.agg vs.toArray)) w) : wpList P ops Q (o :: rest) a w :=
  wpList_loadP T x t g 0 [] vs [] (by simpa using hW) rfl hu hi hgd ho hx h
end Go.Proofs.Ytkalpclckgbedaa
