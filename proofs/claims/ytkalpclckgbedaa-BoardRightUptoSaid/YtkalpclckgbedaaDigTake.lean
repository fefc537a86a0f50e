/-
  The contracts of digits.Take, digits.Parse and of their helpers. Conditions: a string is no longer than a string can be; the numbers are int64's.
-/
import Derived.Test.YtkalpclckgbedaaBase
import Derived.Test.YtkalpclckgbedaaDigitsMath
import Derived.Test.YtkalpclckgbedaaRet
import Derived.IntWalk
namespace Go.Proofs.Ytkalpclckgbedaa
open Go.ChangeShapes Go.WideShapes Go.ChangeAt Go.RowKit
set_option linter.unusedVariables false
set_option linter.unusedSimpArgs false
/-- Take's three answers. -/
def takeV (x : Int × Int × Bool) : Value := .tuple #[.int .i64 x.1, .int .i64 x.2.1, .bool x.2.2]
/-- A number or none, as two answers. -/
def optV (o : Option Int) : Value := .tuple #[.int .i64 (o.getD 0), .bool o.isSome]
theorem wholeL_bd {l : List Int} {n : Int} (h : wholeL l = some n) : 0 ≤ n ∧ n ≤ 999999999 := ⟨((wholeL_iff l n).1 h).1, ((wholeL_iff l n).1 h).2.1⟩
end Go.Proofs.Ytkalpclckgbedaa
