/-
  The document's answer: how much room there is. No conditions.
-/
import Derived.Test.YtkalpclckgbedaaStFresh
namespace Go.Proofs.Ytkalpclckgbedaa
open Go.ChangeShapes Go.WideShapes Go.ChangeAt Go.RowKit
set_option linter.unusedVariables false
set_option linter.unusedSimpArgs false
set_option maxRecDepth 20000
set_option maxHeartbeats 3200000
def roomZ (L : Nat → List Ins) (seat lane : Int) : Int :=
  if seat < 0 ∨ 1 < seat ∨ lane < 0 ∨ 2 < lane then 0 else if 4 < (L (2 * lane.toNat + seat.toNat)).length then 0 else 4 - ((L (2 * lane.toNat + seat.toNat)).length : Int)
theorem rRoom (c : Sc) (r : Nat → Value) (L : Nat → List Ins) (seat lane : Int) (w : World) (hR : Rows12 w r L) :
    Calls Try.prog 20 #[stV c r, .int .i64 seat, .int .i64 lane] w fun e w' => e = .returned (.int .i64 (roomZ L seat lane)) ∧ Below w.heap.size w w' := by
  have HW : Hid (Whole (w.alloc (.cells (stC c r).toArray 33)) w.heap.size 33 (stC c r).toArray) := Lib.hid (Whole.made w _ _)
  have B0 : Hid (Below w.heap.size w (w.alloc (.cells (stC c r).toArray 33))) := Lib.hid ((Below.refl _ _).alloc (Nat.le_refl _) _)
  have hv : stV c r = .agg (stC c r).toArray := rfl
  rw [hv]
  by_cases hbad : seat < 0 ∨ 1 < seat ∨ lane < 0 ∨ 2 < lane
  · have e : roomZ L seat lane = 0 := by unfold roomZ; rw [if_pos hbad]
    rw [e]
    generalize hA : (stC c r).toArray = arr at *
    clear hR hv e hA
    by_cases h1 : seat < 0
    · go_enter Try.func20, Try.ntmps20
      go_wp2
      go_ret
      exact ⟨rfl, B0.out⟩
    · by_cases h2 : 1 < seat
      · go_enter Try.func20, Try.ntmps20
        go_wp2
        go_ret
        exact ⟨rfl, B0.out⟩
      · by_cases h3 : lane < 0
        · go_enter Try.func20, Try.ntmps20
          go_wp2
          go_ret
          exact ⟨rfl, B0.out⟩
        · have h4 : 2 < lane := by omega
          go_enter Try.func20, Try.ntmps20
          go_wp2
          go_ret
          exact ⟨rfl, B0.out⟩
  · obtain ⟨k, rfl⟩ : ∃ k : Nat, seat = (k : Int) := ⟨seat.toNat, by omega⟩
    obtain ⟨i, rfl⟩ : ∃ i : Nat, lane = (i : Int) := ⟨lane.toNat, by omega⟩
    have hi : i < 3 := by omega
    have hk : k < 2 := by omega
    have hc := st_side HW.out i k hi hk
    obtain ⟨A, cp, e, _, _, _, hml⟩ := hR (2 * i + k) (by omega)
    rw [e] at hc
    have er : roomZ L (k : Int) (i : Int) = if 4 < (L (2 * i + k)).length then 0 else 4 - ((L (2 * i + k)).length : Int) := by
      unfold roomZ
      rw [if_neg hbad, Int.toNat_natCast, Int.toNat_natCast]
    rw [er]
    unfold maxLen at hml
    generalize (L (2 * i + k)).length = n at *
    generalize hA : (stC c r).toArray = arr at *
    have l1 : ¬ (k : Int) < 0 := by omega
    have l2 : ¬ (1 : Int) < (k : Int) := by omega
    have l3 : ¬ (i : Int) < 0 := by omega
    have l4 : ¬ (2 : Int) < (i : Int) := by omega
    have l5 : (i : Int) < 3 := by omega
    have l6 : (k : Int) < 2 := by omega
    have l7 : ¬ 1 < k := by omega
    have l8 : ¬ 2 < i := by omega
    clear hR hv hA e er hbad
    by_cases hn : 4 < n
    · rw [if_pos hn]
      have hn1 : (4 : Int) < (n : Int) := by omega
      go_enter Try.func20, Try.ntmps20
      go_wp2
      go_ret
      exact ⟨rfl, B0.out⟩
    · rw [if_neg hn]
      have hn1 : ¬ (4 : Int) < (n : Int) := by omega
      have hn2 : (n : Int) ≤ 4 := by omega
      go_enter Try.func20, Try.ntmps20
      go_wp2
      go_ret
      exact ⟨rfl, B0.out⟩
end Go.Proofs.Ytkalpclckgbedaa
