/-
  Texts SynR9. No conditions but those that each theorem names.
-/
import Derived.Test.YtabegjepejgllaaGreatQL30
namespace Go.Proofs.YtabegjepejgllaaGreat
open Go.ChangeShapes Go.WideShapes Go.ChangeAt Go.RowKit
set_option linter.unusedVariables false
set_option linter.unusedSimpArgs false
theorem Env.cell {w x : World} {bs : List Bk} {rs : List Rw} {ts : List (Ds × List Value)} (h : Env w bs rs ts x) (i n : Nat) {g : Nat} {t : TypeId} {vs : List Value} {v : Value} (hi : bs[i]? = some (g, t, vs)) (hv : vs[n]? = some v) : x.cell? ⟨g, n, none⟩ = some v := by
 rw [(h.get i hi).read n, List.getElem?_toArray, hv]
end Go.Proofs.YtabegjepejgllaaGreat
