/-
  The contracts of the document's answer for layer 3: Put, value, Take, Parse. Conditions: the numbers are int64's, a string is no longer than a string can be.
-/
import Derived.Test.YticbnanfijkodaaDigTake
import Derived.Test.YticbnanfijkodaaReads
namespace Go.Proofs.Yticbnanfijkodaa
open Go.ChangeShapes Go.WideShapes Go.ChangeAt Go.RowKit
set_option linter.unusedVariables false
set_option linter.unusedSimpArgs false
theorem putS_small {n : Int} (h0 : 0 ≤ n) (h1 : n < 10) : putS n = strOfNums [48 + n] := by
  unfold putS
  rw [putL_pos h0, digL_lt (by omega), Int.toNat_of_nonneg h0]
theorem putS_minus {n : Int} (hn : n < 0) : putS n = strOfNums [45] ++ putS (-n) := by
  unfold putS
  rw [str_append, putL_neg hn, putL_pos (by omega)]; rfl
theorem putS_tens {n : Int} (hn : 10 ≤ n) : putS n = putS (n.tdiv 10) ++ putS (n.tmod 10) := by
  have e1 : (n.tdiv 10).natAbs = n.natAbs / 10 := Int.natAbs_tdiv n 10
  have e2 : (n.tmod 10).natAbs = n.natAbs % 10 := Int.natAbs_tmod n 10
  have p1 : 0 ≤ n.tdiv 10 := Int.tdiv_nonneg (by omega) (by omega)
  have p2 : 0 ≤ n.tmod 10 := Int.tmod_nonneg 10 (by omega)
  unfold putS
  rw [str_append, putL_pos (show 0 ≤ n by omega), putL_pos p1, putL_pos p2, digL_ge (by omega), digL_lt (n := (n.tmod 10).toNat) (by omega)]
  congr 3
  · congr 1; omega
  · congr 1; omega
theorem putS_tens_neg {n : Int} (hn : n ≤ -10) : n.tdiv 10 < 0 ∧ putS n = putS (n.tdiv 10) ++ putS (-(n.tmod 10)) := by
  have e1 : (n.tdiv 10).natAbs = n.natAbs / 10 := Int.natAbs_tdiv n 10
  have e2 : (n.tmod 10).natAbs = n.natAbs % 10 := Int.natAbs_tmod n 10
  have p1 : n.tdiv 10 < 0 := by
    have : 0 ≤ (-n).tdiv 10 := Int.tdiv_nonneg (by omega) (by omega)
    rw [Int.neg_tdiv] at this
    omega
  have p2 : 0 ≤ -(n.tmod 10) := by
    have : 0 ≤ (-n).tmod 10 := Int.tmod_nonneg 10 (by omega)
    rw [Int.neg_tmod] at this
    exact this
  refine ⟨p1, ?_⟩
  unfold putS
  rw [str_append, putL_neg (show n < 0 by omega), putL_neg p1, putL_pos p2, digL_ge (n := (-n).toNat) (by omega), digL_lt (n := (-(n.tmod 10)).toNat) (by omega)]
  rw [List.cons_append]
  congr 3
  · congr 1; omega
  · congr 1; omega
/-- The number of some digits, or -1. -/
def valueOf (l : List Int) : Int := if l ≠ [] ∧ l.length ≤ 9 ∧ plain l = true then valL l else -1
theorem put_test (s : ByteArray) (hd : ∀ x ∈ bL s, 48 ≤ x ∧ x ≤ 57) (h0 : bL s ≠ []) : ((putS (valL (bL s))).toList == s.toList) = plain (bL s) := by
  have e : (s.toList) = (strOfNums (bL s)).toList := by rw [str_bL]
  rw [e]
  unfold putS
  rw [str_eq_iff _ _ (putL_by _) (bL_bd s), putL_pos (valL_nonneg _ hd).1, Bool.eq_iff_iff, decide_eq_true_iff]
  exact digL_valL _ hd h0
end Go.Proofs.Yticbnanfijkodaa
