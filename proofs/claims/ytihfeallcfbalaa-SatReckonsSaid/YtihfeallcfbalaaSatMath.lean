/-
  Plain arithmetic of powers, without any program: clamped sums and products, doubling in sequence, sums of lists. No conditions.
-/
namespace Go.Proofs.Ytihfeallcfbalaa
def clampI (n : Int) : Int := if 999 < n then 999 else if n < -999 then -999 else n
theorem clampI_bd (n : Int) : -999 ≤ clampI n ∧ clampI n ≤ 999 := by unfold clampI; split <;> (try split) <;> omega
theorem clampI_in {n : Int} (h : -999 ≤ n) (h' : n ≤ 999) : clampI n = n := by unfold clampI; rw [if_neg (by omega), if_neg (by omega)]
theorem clampI_hi {n : Int} (h : 999 < n) : clampI n = 999 := by unfold clampI; rw [if_pos h]
theorem clampI_lo {n : Int} (h : n < -999) : clampI n = -999 := by unfold clampI; rw [if_neg (by omega), if_pos h]
theorem mul_bd {x y : Int} (hx : -999 ≤ x) (hx' : x ≤ 999) (hy : -999 ≤ y) (hy' : y ≤ 999) : -998001 ≤ x * y ∧ x * y ≤ 998001 := by
  have h1 : (999 - x) * (999 + y) ≥ 0 := Int.mul_nonneg (by omega) (by omega)
  have h2 : (999 + x) * (999 - y) ≥ 0 := Int.mul_nonneg (by omega) (by omega)
  have h3 : (999 - x) * (999 - y) ≥ 0 := Int.mul_nonneg (by omega) (by omega)
  have h4 : (999 + x) * (999 + y) ≥ 0 := Int.mul_nonneg (by omega) (by omega)
  simp only [Int.add_mul, Int.sub_mul, Int.mul_add, Int.mul_sub] at h1 h2 h3 h4
  omega
def addI (a b : Int) : Int := clampI (clampI a + clampI b)
theorem addI_bd (a b : Int) : -999 ≤ addI a b ∧ addI a b ≤ 999 := clampI_bd _
def subI (a b : Int) : Int := clampI (clampI a - clampI b)
def mulI (a b : Int) : Int := clampI (clampI a * clampI b)
def negI (a : Int) : Int := -clampI a
theorem negI_bd (a : Int) : -999 ≤ negI a ∧ negI a ≤ 999 := by have := clampI_bd a; unfold negI; omega
def dblI : Nat → Int → Int
  | 0, n => n
  | k + 1, n => addI (dblI k n) (dblI k n)
theorem dblI_bd (k : Nat) (n : Int) : -999 ≤ dblI k (clampI n) ∧ dblI k (clampI n) ≤ 999 := by
  cases k with
  | zero => exact clampI_bd n
  | succ k => exact addI_bd _ _
/- A fixed point of doubling stays. -/
theorem dblI_stays (n : Int) (k j : Nat) (h : addI (dblI k n) (dblI k n) = dblI k n) : dblI (k + j) n = dblI k n := by
  induction j with
  | zero => rfl
  | succ j ih => show addI (dblI (k + j) n) (dblI (k + j) n) = _; rw [ih, h]
theorem addI_self {n : Int} (h : -999 ≤ n) (h' : n ≤ 999) : addI n n = clampI (n + n) := by unfold addI; rw [clampI_in h h']
theorem dblI_pos (n : Int) (h : 1 ≤ clampI n) (k : Nat) : (2 : Int) ^ k ≤ dblI k (clampI n) ∨ dblI k (clampI n) = 999 := by
  induction k with
  | zero => left; simpa [dblI] using h
  | succ k ih =>
    have bd := dblI_bd k n
    show _ ≤ addI _ _ ∨ addI _ _ = 999
    rw [addI_self bd.1 bd.2]
    have hp : (2 : Int) ^ (k + 1) = 2 * 2 ^ k := by rw [Int.pow_succ]; omega
    have h0 : (1 : Int) ≤ 2 ^ k := by
      have := Int.pow_pos (n := 2) (m := k) (by omega); omega
    generalize dblI k (clampI n) = m at bd ih ⊢
    generalize (2 : Int) ^ k = p at h0 hp ih
    rcases ih with ih | ih
    · by_cases g : 999 < m + m
      · right; exact clampI_hi g
      · left; rw [clampI_in (by omega) (by omega)]; omega
    · right; rw [ih]; rfl
theorem dblI_neg (n : Int) (h : clampI n ≤ -1) (k : Nat) : dblI k (clampI n) ≤ -(2 : Int) ^ k ∨ dblI k (clampI n) = -999 := by
  induction k with
  | zero => left; simp only [dblI, Int.pow_zero]; omega
  | succ k ih =>
    have bd := dblI_bd k n
    show addI _ _ ≤ _ ∨ addI _ _ = -999
    rw [addI_self bd.1 bd.2]
    have hp : (2 : Int) ^ (k + 1) = 2 * 2 ^ k := by rw [Int.pow_succ]; omega
    have h0 : (1 : Int) ≤ 2 ^ k := by
      have := Int.pow_pos (n := 2) (m := k) (by omega); omega
    generalize dblI k (clampI n) = m at bd ih ⊢
    generalize (2 : Int) ^ k = p at h0 hp ih
    rcases ih with ih | ih
    · by_cases g : m + m < -999
      · right; exact clampI_lo g
      · left; rw [clampI_in (by omega) (by omega)]; omega
    · right; rw [ih]; rfl
theorem dblI_zero (k : Nat) : dblI k 0 = 0 := by
  induction k with
  | zero => rfl
  | succ k ih => show addI _ _ = 0; rw [ih]; rfl
theorem dblI_ten (n : Int) : addI (dblI 10 (clampI n)) (dblI 10 (clampI n)) = dblI 10 (clampI n) := by
  have bd := dblI_bd 10 n
  have hp : (2 : Int) ^ 10 = 1024 := rfl
  rcases Int.lt_trichotomy (clampI n) 0 with h | h | h
  · rcases dblI_neg n (by omega) 10 with g | g
    · omega
    · rw [g]; rfl
  · rw [h, dblI_zero]; rfl
  · rcases dblI_pos n (by omega) 10 with g | g
    · omega
    · rw [g]; rfl
/- Ten doublings are as good as any greater number of them. -/
theorem dblI_min (n : Int) (t : Nat) : dblI (min t 10) (clampI n) = dblI t (clampI n) := by
  by_cases h : t ≤ 10
  · rw [Nat.min_eq_left h]
  · rw [Nat.min_eq_right (by omega)]
    have := dblI_stays (clampI n) 10 (t - 10) (dblI_ten n)
    rw [show 10 + (t - 10) = t from by omega] at this
    exact this.symm
def sumI (s : Int) : List Int → Int
  | [] => s
  | x :: l => sumI (addI s x) l
theorem sumI_snoc (l : List Int) (s x : Int) : sumI s (l ++ [x]) = addI (sumI s l) x := by
  induction l generalizing s with
  | nil => rfl
  | cons y l ih => exact ih _
theorem sumI_bd (l : List Int) (s : Int) (h : -999 ≤ s ∧ s ≤ 999) : -999 ≤ sumI s l ∧ sumI s l ≤ 999 := by
  induction l generalizing s with
  | nil => exact h
  | cons y l ih => exact ih _ (addI_bd _ _)
end Go.Proofs.Ytihfeallcfbalaa
