/-
  The contract of the document's answer for layer 3: Parse. Conditions: a string is no longer than a string can be.
-/
import Derived.Test.YticbnanfijkodaaDigRef
namespace Go.Proofs.Yticbnanfijkodaa
open Go.ChangeShapes Go.WideShapes Go.ChangeAt Go.RowKit
set_option linter.unusedVariables false
set_option linter.unusedSimpArgs false
theorem put_test2 (s : ByteArray) (m : Int) : ((putS m).toList == s.toList) = decide (putL m = bL s) := by
  have e : (s.toList) = (strOfNums (bL s)).toList := by rw [str_bL]
  rw [e]
  unfold putS
  rw [str_eq_iff _ _ (putL_by _) (bL_bd s)]
theorem bL_tail1 (s : ByteArray) (h : 0 < s.size) : bL (s.extract 1 s.size) = (bL s).drop 1 := by
  have e := bL_extract s 1 (s.size - 1) (by omega)
  rw [show 1 + (s.size - 1) = s.size from by omega] at e
  rw [e, List.take_of_length_le (by rw [List.length_drop, bL_length]; omega)]
end Go.Proofs.Yticbnanfijkodaa
