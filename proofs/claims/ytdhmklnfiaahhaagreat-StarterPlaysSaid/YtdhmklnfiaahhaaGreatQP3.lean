/-
  Texts RunesRef. No conditions but those that each theorem names.
-/
import Derived.Test.YtdhmklnfiaahhaaGreatQP1
namespace Go.Proofs.YtdhmklnfiaahhaaGreat
open Go.ChangeShapes Go.WideShapes Go.ChangeAt Go.RowKit
set_option maxRecDepth 20000
set_option maxHeartbeats 12800000
set_option linter.unusedVariables false
set_option linter.unusedSimpArgs false
end Go.Proofs.YtdhmklnfiaahhaaGreat
