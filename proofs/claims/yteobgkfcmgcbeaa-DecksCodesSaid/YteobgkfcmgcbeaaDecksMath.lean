/-
  The mathematics of layer 20's codes, without any program: what the code of numbers is, and what numbers a text tells. No conditions.
-/
import Derived.Test.YteobgkfcmgcbeaaSumMath
import Derived.Test.YteobgkfcmgcbeaaRunesMath
namespace Go.Proofs.Yteobgkfcmgcbeaa
open Go
set_option linter.unusedVariables false
set_option linter.unusedSimpArgs false
/-- The two letters of a number. -/
def cL (n : Int) : List Int := [97 + n / 16, 97 + n % 16]
def bodyC (l : List Int) : List Int := l.flatMap cL
/-- The letters of a text's checksum. -/
def sumC (s : ByteArray) : List Int := [97 + (sumK s s.size).1 % 16, 97 + (sumK s s.size).2 % 16]
def codeC (l : List Int) : ByteArray := strOfNums (bodyC l) ++ strOfNums (sumC (strOfNums (bodyC l)))
def okC (l : List Int) : Bool := l.all fun n => decide (0 ≤ n ∧ n ≤ 127)
/-- Code. -/
def deckS (l : List Int) : ByteArray := if okC l = true then codeC l else ⟨#[]⟩
def numC (s : ByteArray) (i : Nat) : Int := 16 * ((gB s (2 * i) : Int) - 97) + gB s (2 * i + 1) - 97
/-- The first k numbers of a text. -/
def numsC (s : ByteArray) : Nat → List Int
  | 0 => []
  | k + 1 => numsC s k ++ [numC s k]
/-- A byte that is no letter from a to p. -/
def badC (s : ByteArray) (i : Nat) : Bool := decide (gB s i < 97) || decide (112 < gB s i)
def badsC (s : ByteArray) : Nat → Bool
  | 0 => false
  | k + 1 => badsC s k || badC s k
def bigC (l : List Int) : Bool := l.any fun n => decide (127 < n)
/-- Uncode: the numbers and the error. -/
def uncS (s : ByteArray) : List Int × Int :=
  if s.size < 2 then ([], 2) else if s.size % 2 ≠ 0 ∨ badsC s s.size = true then ([], 4)
  else if bigC (numsC s ((s.size - 2) / 2)) = true then ([], 12)
  else if deckS (numsC s ((s.size - 2) / 2)) = s then (numsC s ((s.size - 2) / 2), 0) else ([], 5)
theorem okC_iff {l : List Int} : okC l = true ↔ ∀ n ∈ l, 0 ≤ n ∧ n ≤ 127 := by unfold okC; simp
theorem badsC_iff {s : ByteArray} : ∀ {k : Nat}, badsC s k = false ↔ ∀ i, i < k → 97 ≤ gB s i ∧ gB s i ≤ 112
  | 0 => ⟨fun _ i h => by omega, fun _ => rfl⟩
  | k + 1 => by
    unfold badsC badC
    rw [Bool.or_eq_false_iff, badsC_iff]
    simp only [Bool.or_eq_false_iff, decide_eq_false_iff_not]
    refine ⟨fun ⟨h1, h2⟩ i hi => ?_, fun h => ⟨fun i hi => h i (by omega), by have := h k (by omega); omega⟩⟩
    rcases Nat.lt_or_ge i k with h | h
    · exact h1 i h
    · obtain rfl : i = k := by omega
      omega
theorem numsC_len (s : ByteArray) : ∀ k, (numsC s k).length = k
  | 0 => rfl
  | k + 1 => by unfold numsC; rw [List.length_append, numsC_len s k]; rfl
theorem numsC_mem {s : ByteArray} : ∀ {k : Nat} {n : Int}, n ∈ numsC s k → ∃ i, i < k ∧ n = numC s i
  | 0, n, h => by cases h
  | k + 1, n, h => by
    unfold numsC at h
    rcases List.mem_append.1 h with h | h
    · obtain ⟨i, hi, e⟩ := numsC_mem h; exact ⟨i, by omega, e⟩
    · exact ⟨k, by omega, by simpa using h⟩
theorem numC_pos {s : ByteArray} {i k : Nat} (hb : badsC s k = false) (h : 2 * i + 1 < k) : 0 ≤ numC s i := by
  have h1 := badsC_iff.1 hb (2 * i) (by omega)
  have h2 := badsC_iff.1 hb (2 * i + 1) h
  unfold numC
  omega
theorem cL_num {s : ByteArray} {i k : Nat} (hb : badsC s k = false) (h : 2 * i + 1 < k) : cL (numC s i) = [(gB s (2 * i) : Int), (gB s (2 * i + 1) : Int)] := by
  have h1 := badsC_iff.1 hb (2 * i) (by omega)
  have h2 := badsC_iff.1 hb (2 * i + 1) h
  unfold cL numC
  rw [show 97 + (16 * ((gB s (2 * i) : Int) - 97) + (gB s (2 * i + 1) : Int) - 97) / 16 = (gB s (2 * i) : Int) from by omega, show 97 + (16 * ((gB s (2 * i) : Int) - 97) + (gB s (2 * i + 1) : Int) - 97) % 16 = (gB s (2 * i + 1) : Int) from by omega]
theorem numsAt_two (s : ByteArray) (m : Nat) : numsAt s 0 (m + 2) = numsAt s 0 m ++ [(gB s m : Int), (gB s (m + 1) : Int)] := by
  unfold numsAt
  rw [List.range_succ, List.range_succ]
  simp
theorem body_nums {s : ByteArray} {n : Nat} (hb : badsC s n = false) : ∀ {k : Nat}, 2 * k ≤ n → bodyC (numsC s k) = numsAt s 0 (2 * k)
  | 0, h => rfl
  | k + 1, h => by
    have ih := body_nums hb (k := k) (by omega)
    unfold numsC
    unfold bodyC at ih ⊢
    rw [List.flatMap_append, ih, show 2 * (k + 1) = 2 * k + 2 from by omega, numsAt_two]
    simp only [List.flatMap_cons, List.flatMap_nil, List.append_nil]
    rw [cL_num hb (by omega)]
/-- The numbers of a text have its letters but the last two. -/
theorem body_is {s : ByteArray} (h2 : 2 ≤ s.size) (he : s.size % 2 = 0) (hb : badsC s s.size = false) : strOfNums (bodyC (numsC s ((s.size - 2) / 2))) = s.extract 0 (s.size - 2) := by
  rw [body_nums hb (by omega), show 2 * ((s.size - 2) / 2) = s.size - 2 from by omega]
  have := extract_nums s 0 (s.size - 2) (by omega)
  rw [Nat.zero_add] at this
  exact this.symm
/-- Only the last two letters are left to look at. -/
theorem sum_iff {s : ByteArray} (h2 : 2 ≤ s.size) (he : s.size % 2 = 0) (hb : badsC s s.size = false) (hbig : bigC (numsC s ((s.size - 2) / 2)) = false) :
    deckS (numsC s ((s.size - 2) / 2)) = s ↔ s.extract (s.size - 2) s.size = strOfNums (sumC (s.extract 0 (s.size - 2))) := by
  have hok : okC (numsC s ((s.size - 2) / 2)) = true := okC_iff.2 fun n hn => by
    obtain ⟨i, hi, rfl⟩ := numsC_mem hn
    refine ⟨numC_pos hb (by omega), ?_⟩
    have : decide (127 < numC s i) = false := by
      unfold bigC at hbig
      exact List.any_eq_false.1 hbig _ hn |> fun h => by simpa using h
    simpa using this
  unfold deckS codeC
  rw [if_pos hok, body_is h2 he hb]
  exact pieces_iff s _ (s.size - 2) (by omega)
theorem cL_by {n : Int} (h : 0 ≤ n ∧ n ≤ 127) : ∀ x ∈ cL n, 0 ≤ x ∧ x < 256 := by
  intro x hx
  unfold cL at hx
  simp only [List.mem_cons, List.not_mem_nil, or_false] at hx
  rcases hx with rfl | rfl <;> omega
theorem bodyC_by {l : List Int} (h : okC l = true) : ∀ x ∈ bodyC l, 0 ≤ x ∧ x < 256 := by
  intro x hx
  obtain ⟨n, hn, hx⟩ := List.mem_flatMap.1 hx
  exact cL_by (okC_iff.1 h n hn) x hx
theorem bodyC_len : ∀ l : List Int, (bodyC l).length = 2 * l.length
  | [] => rfl
  | n :: l => by
    have := bodyC_len l
    show (cL n ++ bodyC l).length = _
    rw [List.length_append, this, List.length_cons]
    show 2 + _ = _
    omega
theorem sumC_by (s : ByteArray) : ∀ x ∈ sumC s, 0 ≤ x ∧ x < 256 := by
  intro x hx
  obtain ⟨a1, a2, b1, b2⟩ := sumK_bd s s.size
  unfold sumC at hx
  simp only [List.mem_cons, List.not_mem_nil, or_false] at hx
  rcases hx with rfl | rfl <;> omega
end Go.Proofs.Yteobgkfcmgcbeaa
