/-
  The contracts of digits.Put and of its helper: the text of a number. Conditions: the number is an int64's.
-/
import Derived.Test.YtkalpclckgbedaaBase
import Derived.Test.YtkalpclckgbedaaDigitsMath
import Derived.Test.YtkalpclckgbedaaBlk
import Derived.Test.YtkalpclckgbedaaRet
import Derived.IntWalk
namespace Go.Proofs.Ytkalpclckgbedaa
open Go.ChangeShapes Go.WideShapes Go.ChangeAt Go.RowKit
set_option linter.unusedVariables false
set_option linter.unusedSimpArgs false
/-- The digits that the loop has written when it stops. -/
theorem put_done {n m : Int} {k : Nat} {ds : List Int} (hd : k = 0 ∧ m = n ∧ ds = [] ∨ m ≠ 0 ∧ m.natAbs * 10 ^ k ≤ n.natAbs ∧ digL n.natAbs = digL m.natAbs ++ ds) (hq : m.natAbs / 10 = 0) : digL n.natAbs = (48 + (m.natAbs : Int) % 10) :: ds := by
  have hm : digL m.natAbs = [48 + (m.natAbs : Int) % 10] := by rw [digL_lt (by omega)]; congr 1; omega
  rcases hd with ⟨_, rfl, rfl⟩ | ⟨_, _, h⟩
  · exact hm
  · rw [h, hm]; rfl
theorem put_round {n m : Int} {k : Nat} {ds : List Int} (hd : k = 0 ∧ m = n ∧ ds = [] ∨ m ≠ 0 ∧ m.natAbs * 10 ^ k ≤ n.natAbs ∧ digL n.natAbs = digL m.natAbs ++ ds) (hq : (m.tdiv 10).natAbs = m.natAbs / 10) (hz : m.tdiv 10 ≠ 0) :
    m.tdiv 10 ≠ 0 ∧ (m.tdiv 10).natAbs * 10 ^ (k + 1) ≤ n.natAbs ∧ digL n.natAbs = digL (m.tdiv 10).natAbs ++ ((48 + (m.natAbs : Int) % 10) :: ds) := by
  have hm : digL m.natAbs = digL (m.tdiv 10).natAbs ++ [48 + (m.natAbs : Int) % 10] := by rw [digL_ge (by omega), hq]; congr 2
  refine ⟨hz, ?_, ?_⟩
  · have h1 : m.natAbs * 10 ^ k ≤ n.natAbs := by
      rcases hd with ⟨rfl, rfl, _⟩ | ⟨_, h, _⟩
      · omega
      · exact h
    rw [hq, Nat.pow_succ, Nat.mul_comm (10 ^ k) 10, ← Nat.mul_assoc]
    exact Nat.le_trans (Nat.mul_le_mul_right _ (Nat.div_mul_le_self _ _)) h1
  · rcases hd with ⟨_, rfl, rfl⟩ | ⟨_, _, h⟩
    · exact hm
    · rw [h, hm, List.append_assoc]; rfl
theorem putS_neg {n : Int} {l : List Int} (hn : n < 0) (h : digL n.natAbs = l) : putS n = strOfNums (45 :: l) := by
  unfold putS
  rw [putL_neg hn, show (-n).toNat = n.natAbs from by omega, h]
theorem putS_pos {n : Int} {l : List Int} (hn : 0 ≤ n) (h : digL n.natAbs = l) : putS n = strOfNums l := by
  unfold putS
  rw [putL_pos hn, show n.toNat = n.natAbs from by omega, h]
theorem tail_len {cs : Array Value} {f : Nat} {l : List Int} (h : TailIs cs f l) (hc : cs.size = 20) : l.length = 20 - f := by have := h.1; omega
end Go.Proofs.Ytkalpclckgbedaa
