/-
  Texts SynR23. No conditions but those that each theorem names.
-/
import Derived.Test.YtabegjepejgllaaGreatQL52
namespace Go.Proofs.YtabegjepejgllaaGreat
open Go.ChangeShapes Go.WideShapes Go.ChangeAt Go.RowKit
set_option linter.unusedVariables false
set_option linter.unusedSimpArgs false
theorem z_fi : (Tryz.prog.info? 26).map (fun i => i.zero.map Value.cells) = some (some ([.slice none 0 0, .slice none 0 0] : List Value).toArray) := by kernel_rfl
end Go.Proofs.YtabegjepejgllaaGreat
