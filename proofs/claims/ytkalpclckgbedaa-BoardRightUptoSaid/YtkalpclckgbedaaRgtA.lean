/-
  Package board: a card's numbers, a result's numbers, the lanes, the players. No conditions but a state's rows.
-/
import Derived.Test.YtkalpclckgbedaaRgtM
import Derived.Test.YtkalpclckgbedaaBrdI
import Derived.Test.YtkalpclckgbedaaBrdF
import Derived.Test.YtkalpclckgbedaaStRight

namespace Go.Proofs.Ytkalpclckgbedaa
open Go.ChangeShapes Go.WideShapes Go.ChangeAt Go.RowKit
set_option linter.unusedVariables false
set_option linter.unusedSimpArgs false
set_option maxRecDepth 20000
set_option maxHeartbeats 3200000
theorem num_ways (x : Ins) : (x.id < 1 ∧ numB x = false) ∨ (¬ x.id < 1 ∧ x.card < -1 ∧ numB x = false) ∨ (¬ x.id < 1 ∧ ¬ x.card < -1 ∧ betB x.cost 0 9 = false ∧ numB x = false) ∨ (¬ x.id < 1 ∧ ¬ x.card < -1 ∧ betB x.cost 0 9 = true ∧ betB x.power (-999) 999 = false ∧ numB x = false) ∨
    (¬ x.id < 1 ∧ ¬ x.card < -1 ∧ betB x.cost 0 9 = true ∧ betB x.power (-999) 999 = true ∧ betB x.plus (-999) 999 = false ∧ numB x = false) ∨ (¬ x.id < 1 ∧ ¬ x.card < -1 ∧ betB x.cost 0 9 = true ∧ betB x.power (-999) 999 = true ∧ betB x.plus (-999) 999 = true ∧ numB x = true) := by
  unfold numB
  by_cases h1 : x.id < 1
  · left; refine ⟨h1, ?_⟩; rw [decide_eq_false (by omega)]; rfl
  · by_cases h2 : x.card < -1
    · right; left; refine ⟨h1, h2, ?_⟩; rw [decide_eq_false (p := -1 ≤ x.card) (by omega)]; simp
    · have e1 : decide (1 ≤ x.id) = true := decide_eq_true (by omega)
      have e2 : decide (-1 ≤ x.card) = true := decide_eq_true (by omega)
      cases h3 : betB x.cost 0 9 <;> cases h4 : betB x.power (-999) 999 <;> cases h5 : betB x.plus (-999) 999 <;> simp [h1, h2, e1, e2]
theorem pCardOK (x : Ins) (w : World) : Calls Try.prog 49 #[.agg x.cells.toArray] w fun e w' => e = .returned (.bool (numB x)) ∧ Below w.heap.size w w' := by
  have hw := num_ways x
  have B0 : Hid (Below w.heap.size w (w.alloc (.cells x.cells.toArray 50))) := Lib.hid ((Below.refl _ _).alloc (Nat.le_refl _) _)
  have q0 : x.cells[0]? = some (.int .i64 x.id) := rfl
  have q1 : x.cells[1]? = some (.int .i64 x.card) := rfl
  have q3 : x.cells[3]? = some (.int .i64 x.cost) := rfl
  have q4 : x.cells[4]? = some (.int .i64 x.power) := rfl
  have q5 : x.cells[5]? = some (.int .i64 x.plus) := rfl
  have K0 := Lib.hid (fun n a b => pWithin n a b)
  generalize x.cells = X at *
  generalize numB x = nb at *
  obtain ⟨xi, xc, xn, xo, xp, xl, xw⟩ := x
  simp only at hw q0 q1 q3 q4 q5
  rcases hw with ⟨h1, rfl⟩ | ⟨h1, h2, rfl⟩ | ⟨h1, h2, h3, rfl⟩ | ⟨h1, h2, h3, h4, rfl⟩ | ⟨h1, h2, h3, h4, h5, rfl⟩ | ⟨h1, h2, h3, h4, h5, rfl⟩
  all_goals
    go_enter Try.func49, Try.ntmps49
    go_wp2_with (go_at_call 38; (with_reducible refine (K0.out _ _ _ _).mono ?_); rintro e w1 ⟨rfl, rfl⟩)
    go_ret
    exact ⟨rfl, B0.out⟩
def resB3 (c : Sc) : Bool := betB c.kind 0 4 && (betB c.winner 0 2 && (c.rstake == 0 || stakeB c.rstake))
theorem res_ways (c : Sc) : (betB c.kind 0 4 = false ∧ resB3 c = false) ∨ (betB c.kind 0 4 = true ∧ betB c.winner 0 2 = false ∧ resB3 c = false) ∨ (betB c.kind 0 4 = true ∧ betB c.winner 0 2 = true ∧ c.rstake = 0 ∧ (c.rstake == 0) = true ∧ resB3 c = true) ∨
    (betB c.kind 0 4 = true ∧ betB c.winner 0 2 = true ∧ c.rstake ≠ 0 ∧ (c.rstake == 0) = false ∧ stakeB c.rstake = false ∧ resB3 c = false) ∨ (betB c.kind 0 4 = true ∧ betB c.winner 0 2 = true ∧ c.rstake ≠ 0 ∧ (c.rstake == 0) = false ∧ stakeB c.rstake = true ∧ resB3 c = true) := by
  unfold resB3
  cases h1 : betB c.kind 0 4 <;> cases h2 : betB c.winner 0 2 <;> cases h3 : stakeB c.rstake <;> by_cases h4 : c.rstake = 0 <;> simp [h4]
theorem pResult (c : Sc) (w : World) : Calls Try.prog 45 #[.agg #[.int .i64 c.kind, .int .i64 c.winner, .int .i64 c.rstake]] w fun e w' => e = .returned (.bool (resB3 c)) ∧ Below w.heap.size w w' := by
  have hw := res_ways c
  have B0 : Hid (Below w.heap.size w (w.alloc (.cells #[.int .i64 c.kind, .int .i64 c.winner, .int .i64 c.rstake] 31))) := Lib.hid ((Below.refl _ _).alloc (Nat.le_refl _) _)
  have K0 := Lib.hid (fun n a b => pWithin n a b)
  have K1 := Lib.hid (fun n => pStake n)
  generalize resB3 c = nb at *
  obtain ⟨cr, cs, cn, ck, cw, ct, _, _, _, _, _⟩ := c
  simp only at hw B0 ⊢
  rcases hw with ⟨h1, rfl⟩ | ⟨h1, h2, rfl⟩ | ⟨h1, h2, h3, h4, rfl⟩ | ⟨h1, h2, h3, h4, h5, rfl⟩ | ⟨h1, h2, h3, h4, h5, rfl⟩
  all_goals
    (try subst h3)
    go_enter Try.func45, Try.ntmps45
    go_wp2_with (first
      | (go_at_call 38; (with_reducible refine (K0.out _ _ _ _).mono ?_); rintro e w1 ⟨rfl, rfl⟩)
      | (go_at_call 41; (with_reducible refine (K1.out _ _).mono ?_); rintro e w1 ⟨rfl, rfl⟩))
    go_ret
    exact ⟨rfl, B0.out⟩
end Go.Proofs.Ytkalpclckgbedaa
