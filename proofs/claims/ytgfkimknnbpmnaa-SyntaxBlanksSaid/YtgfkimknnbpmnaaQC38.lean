/-
  Texts SynR13. No conditions but those that each theorem names.
-/
import Derived.Test.YtgfkimknnbpmnaaQC37
namespace Go.Proofs.Ytgfkimknnbpmnaa
open Go.ChangeShapes Go.WideShapes Go.ChangeAt Go.RowKit
set_option linter.unusedVariables false
set_option linter.unusedSimpArgs false
theorem z_act : (Try.prog.info? 53).map (fun i => i.zero.map Value.cells) = some (some Zp.toArray) := by kernel_rfl
end Go.Proofs.Ytgfkimknnbpmnaa
