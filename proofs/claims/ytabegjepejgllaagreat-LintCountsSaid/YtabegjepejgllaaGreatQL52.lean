/-
  Texts SynR18, SynR19, SynR20, SynR22. No conditions but those that each theorem names.
-/
import Derived.Test.YtabegjepejgllaaGreatQL48
import Derived.Test.YtabegjepejgllaaGreatQL49
import Derived.Test.YtabegjepejgllaaGreatQL51
namespace Go.Proofs.YtabegjepejgllaaGreat
open Go.ChangeShapes Go.WideShapes Go.ChangeAt Go.RowKit
set_option linter.unusedVariables false
set_option linter.unusedSimpArgs false
end Go.Proofs.YtabegjepejgllaaGreat
namespace Go.Proofs.YtabegjepejgllaaGreat
open Go Go.RowKit
set_option linter.unusedSimpArgs false
set_option linter.unusedVariables false
section
variable {w x y : World} {bs : List Bk} {ts : List (Ds × List Value)} {ra rb : Rw} {v' : Value} {news : List Value}
end
end Go.Proofs.YtabegjepejgllaaGreat
