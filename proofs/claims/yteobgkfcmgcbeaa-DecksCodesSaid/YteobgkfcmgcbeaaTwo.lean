/-
  Two blocks that a call laid for itself when it began (a parameter that is a structure, a result): how they stand behind what it calls. No program, no conditions.
-/
import Derived.Test.YteobgkfcmgcbeaaBlk
namespace Go.Proofs.Yteobgkfcmgcbeaa
open Go Go.RowKit
theorem whole1 {w : World} {g : Nat} {t : TypeId} {a : Value} (h : Whole w g t #[a]) : w.cell? ⟨g, 0, none⟩ = some a ∧ w.frozen? ⟨g, 0, none⟩ = false := ⟨by rw [h.read]; rfl, h.thawed 0⟩
theorem whole2 {w : World} {g : Nat} {t : TypeId} {a b : Value} (h : Whole w g t #[a, b]) : w.cell? ⟨g, 0, none⟩ = some a ∧ w.cell? ⟨g, 1, none⟩ = some b ∧ w.frozen? ⟨g, 0, none⟩ = false ∧ w.frozen? ⟨g, 1, none⟩ = false :=
  ⟨by rw [h.read]; rfl, by rw [h.read]; rfl, h.thawed 0, h.thawed 1⟩
theorem whole3 {w : World} {g : Nat} {t : TypeId} {a b c : Value} (h : Whole w g t #[a, b, c]) : w.cell? ⟨g, 0, none⟩ = some a ∧ w.cell? ⟨g, 1, none⟩ = some b ∧ w.cell? ⟨g, 2, none⟩ = some c ∧
    w.frozen? ⟨g, 0, none⟩ = false ∧ w.frozen? ⟨g, 1, none⟩ = false ∧ w.frozen? ⟨g, 2, none⟩ = false :=
  ⟨by rw [h.read]; rfl, by rw [h.read]; rfl, by rw [h.read]; rfl, h.thawed 0, h.thawed 1, h.thawed 2⟩
/-- Two blocks laid in w, as they stand in x; nothing that was there in w has changed. -/
structure Two (w : World) (t : TypeId) (cs : Array Value) (u : TypeId) (ds : Array Value) (x : World) : Prop where
  k0 : Whole x w.heap.size t cs
  k1 : Whole x (w.heap.size + 1) u ds
  below : Below w.heap.size w x
theorem Two.start (w : World) (t : TypeId) (cs : Array Value) (u : TypeId) (ds : Array Value) : Two w t cs u ds ((w.alloc (.cells cs t)).alloc (.cells ds u)) := by
  refine ⟨(Whole.made _ _ _).alloc _, ?_, ((Below.refl _ _).alloc (Nat.le_refl _) _).alloc (by simp) _⟩
  have := Whole.made (w.alloc (.cells cs t)) u ds
  simpa using this
theorem Two.next {w x y : World} {t u : TypeId} {cs ds : Array Value} (h : Two w t cs u ds x) (hb : Below x.heap.size x y) : Two w t cs u ds y :=
  ⟨h.k0.below hb h.k0.inside, h.k1.below hb h.k1.inside, h.below.trans (hb.mono h.below.size)⟩
theorem Two.drew {w x : World} {t u : TypeId} {cs ds : Array Value} (h : Two w t cs u ds x) : Two w t cs u ds x.drew :=
  ⟨h.k0, h.k1, h.below.drew⟩
theorem Two.set0 {w x : World} {t u : TypeId} {cs ds : Array Value} (h : Two w t cs u ds x) (i : Nat) (v : Value) : Two w t (cs.setIfInBounds i v) u ds (x.setCell ⟨w.heap.size, i, none⟩ v) :=
  ⟨h.k0.write i v, h.k1.aside (Nat.succ_ne_self _) v, h.below.setCell (Nat.le_refl _) v⟩
theorem Two.set1 {w x : World} {t u : TypeId} {cs ds : Array Value} (h : Two w t cs u ds x) (i : Nat) (v : Value) : Two w t cs u (ds.setIfInBounds i v) (x.setCell ⟨w.heap.size + 1, i, none⟩ v) :=
  ⟨h.k0.aside (Nat.ne_of_lt (Nat.lt_succ_self _)) v, h.k1.write i v, h.below.setCell (Nat.le_succ _) v⟩
end Go.Proofs.Yteobgkfcmgcbeaa
