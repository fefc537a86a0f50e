/-
  Texts SynR23. No conditions but those that each theorem names.
-/
import Derived.Test.YtgfkimknnbpmnaaQC45
namespace Go.Proofs.Ytgfkimknnbpmnaa
open Go.ChangeShapes Go.WideShapes Go.ChangeAt Go.RowKit
set_option linter.unusedVariables false
set_option linter.unusedSimpArgs false
theorem z_fi : (Try.prog.info? 32).map (fun i => i.zero.map Value.cells) = some (some ([.slice none 0 0, .slice none 0 0] : List Value).toArray) := by kernel_rfl
theorem z_ca : (Try.prog.info? 66).map (fun i => i.zero.map Value.cells) = some (some ([.string ⟨#[]⟩, .int .i64 0, .int .i64 0, .int .i64 0, .int .i64 0, .slice none 0 0] : List Value).toArray) := by kernel_rfl
end Go.Proofs.Ytgfkimknnbpmnaa
