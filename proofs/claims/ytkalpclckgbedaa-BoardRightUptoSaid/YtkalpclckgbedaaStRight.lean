/-
  The document's answer: Right, where the state's own numbers are out of bounds. No conditions.
-/
import Derived.Test.YtkalpclckgbedaaStNum
import Derived.Test.YtkalpclckgbedaaStSameT
namespace Go.Proofs.Ytkalpclckgbedaa
open Go.ChangeShapes Go.WideShapes Go.ChangeAt Go.RowKit
set_option linter.unusedVariables false
set_option linter.unusedSimpArgs false
set_option maxRecDepth 20000
set_option maxHeartbeats 3200000
def headB (c : Sc) : Bool := betB c.round 0 7 && (stakeB c.stake && (decide (100 ≤ c.next) && (betB c.kind 0 4 && (betB c.winner 0 2 && (c.rstake == 0 || stakeB c.rstake)))))
/-- Which of the numbers is the first that is out of bounds. -/
theorem head_ways {c : Sc} (h : headB c = false) : betB c.round 0 7 = false ∨ (betB c.round 0 7 = true ∧ stakeB c.stake = false) ∨ (betB c.round 0 7 = true ∧ stakeB c.stake = true ∧ c.next < 100) ∨
    (betB c.round 0 7 = true ∧ stakeB c.stake = true ∧ ¬ c.next < 100 ∧ betB c.kind 0 4 = false) ∨ (betB c.round 0 7 = true ∧ stakeB c.stake = true ∧ ¬ c.next < 100 ∧ betB c.kind 0 4 = true ∧ betB c.winner 0 2 = false) ∨
    (betB c.round 0 7 = true ∧ stakeB c.stake = true ∧ ¬ c.next < 100 ∧ betB c.kind 0 4 = true ∧ betB c.winner 0 2 = true ∧ (c.rstake != 0) = true ∧ stakeB c.rstake = false) := by
  unfold headB at h
  cases h1 : betB c.round 0 7 <;> cases h2 : stakeB c.stake <;> cases h4 : betB c.kind 0 4 <;> cases h5 : betB c.winner 0 2 <;> cases h6 : stakeB c.rstake <;> simp [h1, h2, h4, h5, h6] at h ⊢ <;> omega
theorem rRight_head (c : Sc) (r : Nat → Value) (w : World) (h : headB c = false) :
    Calls Try.prog 31 #[stV c r] w fun e w' => e = .returned (.bool false) ∧ Below w.heap.size w w' := by
  have hw := head_ways h
  have x1 : Whole (w.alloc (.cells (stC c r).toArray 33)) w.heap.size 33 (stC c r).toArray := Whole.made w _ _
  have B0 : Hid (Below w.heap.size w (w.alloc (.cells (stC c r).toArray 33))) := Lib.hid ((Below.refl _ _).alloc (Nat.le_refl _) _)
  have B1 : Hid (∀ o, Below w.heap.size w ((w.alloc (.cells (stC c r).toArray 33)).alloc o)) := Lib.hid fun o => B0.out.alloc B0.out.size o
  obtain ⟨p0, p1, p2, p3, p4, p5⟩ := st_head x1
  have q0 : (stC c r).toArray[0]? = some (.int .i64 c.round) := rfl
  have q1 : (stC c r).toArray[25]? = some (.int .i64 c.stake) := rfl
  have q2 : (stC c r).toArray[26]? = some (.int .i64 c.next) := rfl
  have hv : stV c r = .agg (stC c r).toArray := rfl
  rw [hv]
  have K0 := Lib.hid (fun n a b => rBetween n a b)
  have K1 := Lib.hid (fun n => rStake n)
  clear x1 hv h
  generalize (stC c r).toArray = arr at *
  obtain ⟨cr, cs, cn, ck, cw, ct, _, _, _, _, _⟩ := c
  simp only at hw p0 p1 p2 p3 p4 p5 q0 q1 q2
  rcases hw with h1 | ⟨h1, h2⟩ | ⟨h1, h2, h3⟩ | ⟨h1, h2, h3, h4⟩ | ⟨h1, h2, h3, h4, h5⟩ | ⟨h1, h2, h3, h4, h5, h6, h7⟩
  all_goals
    go_enter Try.func31, Try.ntmps31
    go_wp2_with (first
      | (go_at_call 46; (with_reducible refine (K0.out _ _ _ _).mono ?_); rintro e w1 ⟨rfl, rfl⟩)
      | (go_at_call 47; (with_reducible refine (K1.out _ _).mono ?_); rintro e w1 ⟨rfl, rfl⟩))
    go_ret
    exact ⟨rfl, B1.out _⟩
end Go.Proofs.Ytkalpclckgbedaa
