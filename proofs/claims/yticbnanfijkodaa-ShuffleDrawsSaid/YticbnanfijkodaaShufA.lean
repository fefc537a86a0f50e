/-
  Layer 21: what is left of a number: the program's and the document's. No conditions.
-/
import Derived.Test.YticbnanfijkodaaShufMath
import Derived.Test.YticbnanfijkodaaBase
import Derived.Test.YticbnanfijkodaaRet
namespace Go.Proofs.Yticbnanfijkodaa
open Go.ChangeShapes Go.WideShapes Go.ChangeAt Go.RowKit
set_option linter.unusedVariables false
set_option linter.unusedSimpArgs false
theorem around_rem {n m : Int} (hm : 1 ≤ m) : aroundZ n m = if n.tmod m < 0 then n.tmod m + m else n.tmod m := by
  unfold aroundZ
  rw [if_neg (by omega), Int.emod_eq_tmod]
  by_cases h : 0 ≤ n
  · have := Int.tmod_nonneg m h
    rw [if_pos (.inl h), if_neg (by omega)]
    omega
  · by_cases d : m ∣ n
    · have h0 : n.tmod m = 0 := Int.tmod_eq_zero_of_dvd d
      rw [if_pos (.inr d), h0, if_neg (by omega)]
      omega
    · have h1 : n.tmod m ≤ 0 := by
        have : 0 ≤ (-n).tmod m := Int.tmod_nonneg m (by omega)
        rw [Int.neg_tmod] at this
        omega
      have h2 : n.tmod m ≠ 0 := fun c => d (Int.dvd_of_tmod_eq_zero c)
      rw [if_neg (by rintro (c | c); exact h c; exact d c), if_pos (by omega)]
      omega
theorem tmod_lt {n m : Int} (hm : 1 ≤ m) : -m < n.tmod m ∧ n.tmod m < m := by
  have h1 := Int.tmod_lt_of_pos n (show 0 < m by omega)
  have h2 := Int.tmod_lt_of_pos (-n) (show 0 < m by omega)
  rw [Int.neg_tmod] at h2
  omega
theorem pAround_any (n m : Int) (w : World) (h1 : -9223372036854775808 ≤ n) (h2 : n ≤ 9223372036854775807) (h3 : m ≤ 9223372036854775807) :
    Calls Try.prog 10 #[.int .i64 n, .int .i64 m] w fun e w' => e = .returned (.int .i64 (aroundZ n m)) ∧ w' = w := by
  by_cases hm : m < 1
  · have e : aroundZ n m = 0 := by unfold aroundZ; rw [if_pos hm]
    rw [e]
    go_enter Try.func10, Try.ntmps10
    go_wp2
    go_ret
    exact ⟨rfl, rfl⟩
  · rw [around_rem (n := n) (m := m) (by omega)]
    have hb := tmod_lt (n := n) (m := m) (by omega)
    obtain ⟨r, hr⟩ : ∃ r, n.tmod m = r := ⟨_, rfl⟩
    have hw : IntKind.i64.wrap r = r := IntWalk.i64_in _ (by omega)
    have hw2 : r < 0 → IntKind.i64.wrap (r + m) = r + m := fun h => IntWalk.i64_in _ (by omega)
    rw [hr]
    have hz : m ≠ 0 := by omega
    by_cases h0 : r < 0
    · have hw3 := hw2 h0
      rw [if_pos h0]
      go_enter Try.func10, Try.ntmps10
      go_wp2
      go_ret
      exact ⟨rfl, rfl⟩
    · rw [if_neg h0]
      go_enter Try.func10, Try.ntmps10
      go_wp2
      go_ret
      exact ⟨rfl, rfl⟩
end Go.Proofs.Yticbnanfijkodaa
