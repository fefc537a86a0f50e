/-
  Texts Zeros. No conditions but those that each theorem names.
-/
import Derived.Great.Walk
import Derived.Test.YtljdgdphldckhaaGreatQB9
namespace Go.Proofs.YtljdgdphldckhaaGreat
open Go.ChangeShapes Go.WideShapes Go.ChangeAt Go.RowKit
theorem z_ru : (Tryz.prog.info? 66).map (fun i => i.zero.map Value.cells) = some (some ([.int .i64 0, .int .i64 0, .int .i64 0, .int .i64 0, .slice none 0 0] : List Value).toArray) := by kernel_rfl
theorem z_ca : (Tryz.prog.info? 35).map (fun i => i.zero.map Value.cells) = some (some ([.string ⟨#[]⟩, .int .i64 0, .int .i64 0, .int .i64 0, .int .i64 0, .slice none 0 0] : List Value).toArray) := by kernel_rfl
end Go.Proofs.YtljdgdphldckhaaGreat
