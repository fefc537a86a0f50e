/-
  Texts TokRef. No conditions but those that each theorem names.
-/
import Derived.Deep.QuietTactic
import Derived.BigQuiet
import Derived.Test.YtgfkimknnbpmnaaQC5
import Derived.Test.YtgfkimknnbpmnaaQC7
import Derived.Test.YtgfkimknnbpmnaaQC8
namespace Go.Proofs.Ytgfkimknnbpmnaa
open Go.ChangeShapes Go.WideShapes Go.ChangeAt Go.RowKit
set_option linter.unusedVariables false
set_option linter.unusedSimpArgs false
end Go.Proofs.Ytgfkimknnbpmnaa
