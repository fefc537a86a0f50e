/-
  Texts SynR19. No conditions but those that each theorem names.
-/
import Derived.Test.YtgfkimknnbpmnaaGreatQB40
namespace Go.Proofs.YtgfkimknnbpmnaaGreat
open Go.ChangeShapes Go.WideShapes Go.ChangeAt Go.RowKit
set_option linter.unusedVariables false
set_option linter.unusedSimpArgs false
end Go.Proofs.YtgfkimknnbpmnaaGreat
