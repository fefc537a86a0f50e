/-
  How two places of a list are compared: strings.Compare, cmp.Compare, cmp.Or. No statement.
-/
import Derived.Test.YtjioemjgndnofaaNamesShelf
import Derived.Test.YtjioemjgndnofaaNamesMath
import Derived.Test.YtjioemjgndnofaaBase
import Derived.Test.YtjioemjgndnofaaRet
import Derived.Deep.QuietTactic
import Derived.BigQuiet
import Derived.Deep.RegionHeld3
import Derived.Deep.RegionWith
namespace Go.Proofs.Ytjioemjgndnofaa
open Go Go.RowKit Go.Lib
set_option linter.unusedVariables false
theorem sCompare_any (a b : ByteArray) (w : World) : Calls Try.prog 23 #[.string a, .string b] w fun e w' => e = .returned (.int .i64 (Lib.compareBytes a.toList b.toList)) ∧ w = w' := by
  have h := Any.strings_Compare compareL a b w
  change Calls Try.prog 23 _ _ _ at h
  rw [← Lib.toList_data, ← Lib.toList_data] at h
  exact h.mono fun e w' h => ⟨h.1, h.2.symm⟩
theorem compareInt_cases (x y : Int) : (x < y ∧ Lib.compareInt x y = -1) ∨ (x = y ∧ Lib.compareInt x y = 0) ∨ (y < x ∧ Lib.compareInt x y = 1) := by
  unfold Lib.compareInt
  by_cases h1 : x < y
  · simp [h1]
  · by_cases h2 : x > y
    · right; right; simp [h1, h2]
    · right; left; refine ⟨by omega, by simp [h1, h2]⟩
theorem isNaNi_any (x : Int) (w : World) : Calls Try.prog 29 #[.int .i64 x] w fun e w' => e = .returned (.bool false) ∧ w = w' := by
  go_enter Try.func29, Try.ntmps29
  go_wp2
  go_ret
  exact ⟨by simp, rfl⟩
set_option maxHeartbeats 1000000 in
theorem cCompare_any (x y : Int) (w : World) : Calls Try.prog 24 #[.int .i64 x, .int .i64 y] w fun e w' => e = .returned (.int .i64 (Lib.compareInt x y)) ∧ w = w' := by
  obtain ⟨h, e⟩ | ⟨h, e⟩ | ⟨h, e⟩ := compareInt_cases x y
  all_goals
    rw [e]; clear e
    first | (have h1 : decide (x < y) = true := by simp [h]) | (have h1 : decide (x < y) = false := by simp; omega)
    first | (have h2 : decide (y < x) = true := by simp [h]) | (have h2 : decide (y < x) = false := by simp; omega)
    clear h
    go_enter Try.func24, Try.ntmps24
    go_wp2_with (go_at_call 29; refine (isNaNi_any _ _).mono ?_; rintro e w' ⟨rfl, rfl⟩)
    go_ret
    exact ⟨rfl, rfl⟩
set_option maxHeartbeats 1000000 in
theorem cOr_any (g : Nat) (a b : Int) (w : World) (c0 : w.cell? ⟨g, 0, none⟩ = some (.int .i64 a)) (c1 : w.cell? ⟨g, 1, none⟩ = some (.int .i64 b)) :
    Calls Try.prog 22 #[.slice (some ⟨g, 0, none⟩) 2 2] w fun e w' => e = .returned (.int .i64 (if a = 0 then b else a)) ∧ w = w' := by
  by_cases h0 : a = 0
  · subst h0
    rw [if_pos rfl]
    by_cases h1 : b = 0
    · subst h1
      go_enter Try.func22, Try.ntmps22
      go_wp2
      refine wp_loop_rounds 3 ?_
      rw [rounds_succ]
      go_wp2
      rw [rounds_succ]
      go_wp2
      rw [rounds_succ]
      go_wp2
      go_ret
      exact ⟨rfl, rfl⟩
    · have h1' : (b == 0) = false := by simpa using h1
      go_enter Try.func22, Try.ntmps22
      go_wp2
      refine wp_loop_rounds 3 ?_
      rw [rounds_succ]
      go_wp2
      rw [rounds_succ]
      go_wp2
      go_ret
      exact ⟨rfl, rfl⟩
  · rw [if_neg h0]
    have h1' : (a == 0) = false := by simpa using h0
    go_enter Try.func22, Try.ntmps22
    go_wp2
    refine wp_loop_rounds 3 ?_
    rw [rounds_succ]
    go_wp2
    go_ret
    exact ⟨rfl, rfl⟩
end Go.Proofs.Ytjioemjgndnofaa
