/-
  Texts SynR2. No conditions but those that each theorem names.
-/
import Derived.Deep.QuietTactic
import Derived.BigQuiet
import Derived.RegionTactic
import Derived.IntWalk
import Derived.Test.YtabegjepejgllaaGreatQL27
namespace Go.Proofs.YtabegjepejgllaaGreat
open Go.ChangeShapes Go.WideShapes Go.ChangeAt Go.RowKit
set_option linter.unusedVariables false
set_option linter.unusedSimpArgs false
theorem Zf {w : World} {g : Nat} {t : TypeId} {a b c d e f : Value} (h : Zb w g t #[a, b, c, d, e, f]) : w.cell? ⟨g, 0, none⟩ = some a ∧ w.cell? ⟨g, 1, none⟩ = some b ∧ w.cell? ⟨g, 2, none⟩ = some c ∧ w.cell? ⟨g, 3, none⟩ = some d ∧ w.cell? ⟨g, 4, none⟩ = some e ∧ w.cell? ⟨g, 5, none⟩ = some f :=
 ⟨by rw [h.read]; rfl, by rw [h.read]; rfl, by rw [h.read]; rfl, by rw [h.read]; rfl, by rw [h.read]; rfl, by rw [h.read]; rfl⟩
structure Box2 (w : World) (xs rs : List Value) (x : World) : Prop where
 box : Zb x w.heap.size 84 xs.toArray
 res : Zb x (w.heap.size + 1) 84 rs.toArray
 below : Below w.heap.size w x
 size : w.heap.size + 2 ≤ x.heap.size
theorem Box2.start (w : World) (xs rs : List Value) : Box2 w xs rs ((w.alloc (.cells xs.toArray 84)).alloc (.cells rs.toArray 84)) := by
 refine ⟨(Zb.made w _ xs.toArray).alloc _, ?_, (Xi (Za w _) (Za _ _)), by simp⟩
 have e := Zb.made (w.alloc (.cells xs.toArray 84)) 84 rs.toArray
 rw [World.size_alloc] at e
 exact e
theorem Box2.next {w x y : World} {xs rs : List Value} (h : Box2 w xs rs x) (b : Below x.heap.size x y) : Box2 w xs rs y :=
 ⟨h.box.below b (by have := h.size; omega), h.res.below b (by have := h.size; omega), h.below.trans (b.mono (by have := h.size; omega)), by have := h.size; have := b.size; omega⟩
theorem Box2.drew {w x : World} {xs rs : List Value} (h : Box2 w xs rs x) : Box2 w xs rs x.drew := ⟨h.box, h.res, Up h.below, h.size⟩
theorem Box2.drewN {w x : World} {xs rs : List Value} (h : Box2 w xs rs x) (n : Nat) : Box2 w xs rs (x.drewN n) := ⟨h.box, h.res, below_drewN h.below n, h.size⟩
end Go.Proofs.YtabegjepejgllaaGreat
