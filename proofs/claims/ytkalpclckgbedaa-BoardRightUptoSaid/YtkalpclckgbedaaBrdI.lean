/-
  Package board: numbers within bounds, Room. No conditions but a state's rows.
-/
import Derived.Test.YtkalpclckgbedaaStRoom
import Derived.Test.YtkalpclckgbedaaStNum
namespace Go.Proofs.Ytkalpclckgbedaa
open Go.ChangeShapes Go.WideShapes Go.ChangeAt Go.RowKit
set_option linter.unusedVariables false
set_option linter.unusedSimpArgs false
set_option maxRecDepth 20000
set_option maxHeartbeats 3200000
theorem pWithin (n a b : Int) (w : World) : Calls Try.prog 38 #[.int .i64 n, .int .i64 a, .int .i64 b] w fun e w' => e = .returned (.bool (betB n a b)) ∧ w' = w := by
  unfold betB
  by_cases h1 : a ≤ n
  · by_cases h2 : n ≤ b
    · have e : (decide (a ≤ n) && decide (n ≤ b)) = true := by simp [h1, h2]
      rw [e]
      go_enter Try.func38, Try.ntmps38
      go_wp2
      go_ret
      exact ⟨rfl, rfl⟩
    · have e : (decide (a ≤ n) && decide (n ≤ b)) = false := by simp [h2]
      rw [e]
      go_enter Try.func38, Try.ntmps38
      go_wp2
      go_ret
      exact ⟨rfl, rfl⟩
  · have e : (decide (a ≤ n) && decide (n ≤ b)) = false := by simp [h1]
    rw [e]
    go_enter Try.func38, Try.ntmps38
    go_wp2
    go_ret
    exact ⟨rfl, rfl⟩
theorem pStake (n : Int) (w : World) : Calls Try.prog 41 #[.int .i64 n] w fun e w' => e = .returned (.bool (stakeB n)) ∧ w' = w := by
  unfold stakeB
  by_cases h1 : n = 1
  · subst h1
    go_enter Try.func41, Try.ntmps41
    go_wp2
    go_ret
    exact ⟨rfl, rfl⟩
  by_cases h2 : n = 2
  · subst h2
    go_enter Try.func41, Try.ntmps41
    go_wp2
    go_ret
    exact ⟨rfl, rfl⟩
  by_cases h4 : n = 4
  · subst h4
    go_enter Try.func41, Try.ntmps41
    go_wp2
    go_ret
    exact ⟨rfl, rfl⟩
  by_cases h8 : n = 8
  · subst h8
    go_enter Try.func41, Try.ntmps41
    go_wp2
    go_ret
    exact ⟨rfl, rfl⟩
  have e : decide (n = 1 ∨ n = 2 ∨ n = 4 ∨ n = 8) = false := by simp [h1, h2, h4, h8]
  rw [e]
  have b1 : (n == 1) = false := by simp [h1]
  have b2 : (n == 2) = false := by simp [h2]
  have b4 : (n == 4) = false := by simp [h4]
  have b8 : (n == 8) = false := by simp [h8]
  go_enter Try.func41, Try.ntmps41
  go_wp2
  go_ret
  exact ⟨rfl, rfl⟩
theorem pRoom (c : Sc) (r : Nat → Value) (L : Nat → List Ins) (seat lane : Int) (w : World) (hR : Rows12 w r L) :
    Calls Try.prog 19 #[stV c r, .int .i64 seat, .int .i64 lane] w fun e w' => e = .returned (.int .i64 (roomZ L seat lane)) ∧ Below w.heap.size w w' := by
  have HW : Hid (Whole (w.alloc (.cells (stC c r).toArray 33)) w.heap.size 33 (stC c r).toArray) := Lib.hid (Whole.made w _ _)
  have B0 : Hid (Below w.heap.size w (w.alloc (.cells (stC c r).toArray 33))) := Lib.hid ((Below.refl _ _).alloc (Nat.le_refl _) _)
  have hv : stV c r = .agg (stC c r).toArray := rfl
  rw [hv]
  have KS := fun w => pWithin seat 0 1 w
  have KL := fun w => pWithin lane 0 2 w
  by_cases hs : betB seat 0 1 = true
  · rw [hs] at KS
    have KS := Lib.hid KS
    by_cases hl : betB lane 0 2 = true
    · rw [hl] at KL
      have KL := Lib.hid KL
      unfold betB at hs hl
      simp only [Bool.and_eq_true, decide_eq_true_eq] at hs hl
      obtain ⟨k, rfl⟩ : ∃ k : Nat, seat = (k : Int) := ⟨seat.toNat, by omega⟩
      obtain ⟨i, rfl⟩ : ∃ i : Nat, lane = (i : Int) := ⟨lane.toNat, by omega⟩
      have hi : i < 3 := by omega
      have hk : k < 2 := by omega
      have hc := st_side HW.out i k hi hk
      obtain ⟨A, cp, e, _, _, _, hml⟩ := hR (2 * i + k) (by omega)
      rw [e] at hc
      have er : roomZ L (k : Int) (i : Int) = if 4 < (L (2 * i + k)).length then 0 else 4 - ((L (2 * i + k)).length : Int) := by
        unfold roomZ
        rw [if_neg (by omega), Int.toNat_natCast, Int.toNat_natCast]
      rw [er]
      unfold maxLen at hml
      generalize (L (2 * i + k)).length = n at *
      generalize hA : (stC c r).toArray = arr at *
      have l5 : (i : Int) < 3 := by omega
      have l6 : (k : Int) < 2 := by omega
      clear hR hv hA e er hs hl
      by_cases hn : 4 < n
      · rw [if_pos hn]
        have hn1 : (4 : Int) < (n : Int) := by omega
        have hw1 : IntKind.i64.wrap (4 - (n : Int)) = 4 - (n : Int) := IntWalk.i64_in _ (by omega)
        have hmx : max (4 - (n : Int)) 0 = 0 := by omega
        go_enter Try.func19, Try.ntmps19
        go_wp2_with (go_at_call 38; first | ((with_reducible refine (KS.out _).mono ?_); rintro e w3 ⟨rfl, rfl⟩) | ((with_reducible refine (KL.out _).mono ?_); rintro e w3 ⟨rfl, rfl⟩))
        go_ret
        exact ⟨rfl, B0.out⟩
      · rw [if_neg hn]
        have hn1 : ¬ (4 : Int) < (n : Int) := by omega
        have hn2 : (n : Int) ≤ 4 := by omega
        have hw1 : IntKind.i64.wrap (4 - (n : Int)) = 4 - (n : Int) := IntWalk.i64_in _ (by omega)
        have hmx : max (4 - (n : Int)) 0 = 4 - (n : Int) := by omega
        go_enter Try.func19, Try.ntmps19
        go_wp2_with (go_at_call 38; first | ((with_reducible refine (KS.out _).mono ?_); rintro e w3 ⟨rfl, rfl⟩) | ((with_reducible refine (KL.out _).mono ?_); rintro e w3 ⟨rfl, rfl⟩))
        go_ret
        exact ⟨rfl, B0.out⟩
    · have hl2 : betB lane 0 2 = false := by simpa using hl
      rw [hl2] at KL
      have KL := Lib.hid KL
      have er : roomZ L seat lane = 0 := by
        unfold roomZ betB at *
        rw [if_pos]
        simp at hl
        omega
      rw [er]
      clear hR hv hs hl hl2 er
      generalize (stC c r).toArray = arr at *
      go_enter Try.func19, Try.ntmps19
      go_wp2_with (go_at_call 38; first | ((with_reducible refine (KS.out _).mono ?_); rintro e w3 ⟨rfl, rfl⟩) | ((with_reducible refine (KL.out _).mono ?_); rintro e w3 ⟨rfl, rfl⟩))
      go_ret
      exact ⟨rfl, B0.out⟩
  · have hs2 : betB seat 0 1 = false := by simpa using hs
    rw [hs2] at KS
    have KS := Lib.hid KS
    have er : roomZ L seat lane = 0 := by
      unfold roomZ betB at *
      rw [if_pos]
      simp at hs
      omega
    rw [er]
    clear hR hv hs hs2 er
    generalize (stC c r).toArray = arr at *
    go_enter Try.func19, Try.ntmps19
    go_wp2_with (go_at_call 38; (with_reducible refine (KS.out _).mono ?_); rintro e w3 ⟨rfl, rfl⟩)
    go_ret
    exact ⟨rfl, B0.out⟩
end Go.Proofs.Ytkalpclckgbedaa
