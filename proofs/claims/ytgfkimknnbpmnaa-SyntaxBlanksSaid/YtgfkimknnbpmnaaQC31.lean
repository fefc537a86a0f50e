/-
  Texts SynR2. No conditions but those that each theorem names.
-/
import Derived.Deep.QuietTactic
import Derived.BigQuiet
import Derived.RegionTactic
import Derived.IntWalk
import Derived.Test.YtgfkimknnbpmnaaQC30
namespace Go.Proofs.Ytgfkimknnbpmnaa
open Go.ChangeShapes Go.WideShapes Go.ChangeAt Go.RowKit
set_option linter.unusedVariables false
set_option linter.unusedSimpArgs false
theorem whole6 {w : World} {g : Nat} {t : TypeId} {a b c d e f : Value} (h : Zb w g t #[a, b, c, d, e, f]) : w.cell? ⟨g, 0, none⟩ = some a ∧ w.cell? ⟨g, 1, none⟩ = some b ∧ w.cell? ⟨g, 2, none⟩ = some c ∧ w.cell? ⟨g, 3, none⟩ = some d ∧ w.cell? ⟨g, 4, none⟩ = some e ∧ w.cell? ⟨g, 5, none⟩ = some f :=
 ⟨by rw [h.read]; rfl, by rw [h.read]; rfl, by rw [h.read]; rfl, by rw [h.read]; rfl, by rw [h.read]; rfl, by rw [h.read]; rfl⟩
end Go.Proofs.Ytgfkimknnbpmnaa
