/-
  Texts SynR19. No conditions but those that each theorem names.
-/
import Derived.Test.YtgfkimknnbpmnaaQC43
namespace Go.Proofs.Ytgfkimknnbpmnaa
open Go.ChangeShapes Go.WideShapes Go.ChangeAt Go.RowKit
set_option linter.unusedVariables false
set_option linter.unusedSimpArgs false
theorem z_ru : (Try.prog.info? 89).map (fun i => i.zero.map Value.cells) = some (some ([.int .i64 0, .int .i64 0, .int .i64 0, .int .i64 0, .slice none 0 0] : List Value).toArray) := by kernel_rfl
end Go.Proofs.Ytgfkimknnbpmnaa
