/-
  The contract of package vari's Size. Conditions: the number is an int64's.
-/
import Derived.Test.YtdjcbhkcciabpaaVari
namespace Go.Proofs.Ytdjcbhkcciabpaa
open Go.ChangeShapes Go.WideShapes Go.ChangeAt Go.RowKit
set_option linter.unusedVariables false
set_option linter.unusedSimpArgs false
theorem Size_any (n : Int) (h1 : -9223372036854775808 ≤ n) (h2 : n ≤ 9223372036854775807) (w : World) : Calls Try.prog 15 #[.int .i64 n] w fun e w' => e = .returned (.int .i64 ((bytesL n).length : Int)) ∧ Below w.heap.size w w' := by
  have hz := bytesS_size n
  have hp := Put_any n h1 h2
  generalize bytesS n = s at *
  have HZ := Lib.hid hz
  have hs : s.size ≤ 140737488355328 := by have := bytesL_len n; omega
  clear hz
  go_enter Try.func15, Try.ntmps15
  go_wp2_with (go_at_call 14; refine (hp _).mono ?_; rintro e w1 ⟨rfl, b1⟩)
  go_ret
  exact ⟨by rw [← HZ.out]; rfl, b1⟩
end Go.Proofs.Ytdjcbhkcciabpaa
