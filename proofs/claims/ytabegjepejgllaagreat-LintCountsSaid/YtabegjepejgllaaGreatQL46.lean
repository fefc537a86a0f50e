/-
  Texts SynR12. No conditions but those that each theorem names.
-/
import Derived.Test.YtabegjepejgllaaGreatQL45
namespace Go.Proofs.YtabegjepejgllaaGreat
open Go.ChangeShapes Go.WideShapes Go.ChangeAt Go.RowKit
set_option linter.unusedVariables false
set_option linter.unusedSimpArgs false
end Go.Proofs.YtabegjepejgllaaGreat
