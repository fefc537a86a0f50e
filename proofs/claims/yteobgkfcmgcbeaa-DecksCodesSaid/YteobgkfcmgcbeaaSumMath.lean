/-
  The mathematics of layer 6, without any program: the two numbers of a checksum after each byte, by the program's way and by the document's; one byte changed. No conditions.
-/
import Derived.Test.YteobgkfcmgcbeaaDigitsMath
namespace Go.Proofs.Yteobgkfcmgcbeaa
open Go
set_option linter.unusedVariables false
/-- The checksum after the first k bytes. -/
def sumK (s : ByteArray) : Nat → Int × Int
  | 0 => (0, 0)
  | k + 1 => (((sumK s k).1 + gB s k) % 255, ((sumK s k).2 + ((sumK s k).1 + gB s k) % 255) % 255)
theorem sumK_bd (s : ByteArray) (k : Nat) : 0 ≤ (sumK s k).1 ∧ (sumK s k).1 < 255 ∧ 0 ≤ (sumK s k).2 ∧ (sumK s k).2 < 255 := by
  cases k with
  | zero => exact ⟨by simp [sumK], by simp [sumK], by simp [sumK], by simp [sumK]⟩
  | succ k => simp only [sumK]; omega
/-- The document's second number after the first k of n bytes. -/
def refK (s : ByteArray) (n : Nat) : Nat → Int
  | 0 => 0
  | k + 1 => (refK s n k + ((n : Int) - k) % 255 * gB s k) % 255
theorem refK_bd (s : ByteArray) (n k : Nat) : 0 ≤ refK s n k ∧ refK s n k < 255 := by
  cases k with
  | zero => exact ⟨by simp [refK], by simp [refK]⟩
  | succ k => simp only [refK]; omega
theorem emod_mul (a b : Int) : (a % 255 * b) % 255 = (a * b) % 255 := by rw [Int.mul_emod, Int.emod_emod_of_dvd _ (Int.dvd_refl _), ← Int.mul_emod]
theorem refK_eq (s : ByteArray) (n k : Nat) : refK s n k = ((sumK s k).2 + ((n : Int) - k) * (sumK s k).1) % 255 := by
  induction k with
  | zero => simp [refK, sumK]
  | succ k ih =>
    simp only [refK, sumK]
    rw [ih]
    generalize (sumK s k).1 = a
    generalize (sumK s k).2 = b
    generalize (gB s k : Int) = x
    rw [show ((n : Int) - ((k + 1 : Nat) : Int)) = (n : Int) - k - 1 from by omega]
    generalize (n : Int) - k = m
    have e1 := emod_mul m x
    have e2 : ((m - 1) * ((a + x) % 255)) % 255 = ((m - 1) * (a + x)) % 255 := by rw [Int.mul_comm, emod_mul, Int.mul_comm]
    have e3 : (m - 1) * (a + x) = m * a + m * x - a - x := by rw [Int.sub_mul, Int.one_mul, Int.mul_add]; omega
    rw [e3] at e2
    generalize (m - 1) * ((a + x) % 255) = y at *
    generalize m % 255 * x = z at *
    generalize m * x = u at *
    generalize m * a = v at *
    omega
theorem refK_end (s : ByteArray) (n : Nat) : refK s n n = (sumK s n).2 := by
  rw [refK_eq, Int.sub_self, Int.zero_mul, Int.add_zero]
  have := sumK_bd s n
  omega
theorem sumK_same (s t : ByteArray) (k : Nat) (h : ∀ i, i < k → gB s i = gB t i) : sumK s k = sumK t k := by
  induction k with
  | zero => rfl
  | succ k ih => simp only [sumK]; rw [ih fun i hi => h i (by omega), h k (by omega)]
/-- The first number, with one byte changed. -/
theorem sumK_one (s t : ByteArray) (p k : Nat) (h : ∀ i, i < k → i ≠ p → gB s i = gB t i) (hp : p < k) : ((sumK s k).1 + gB t p) % 255 = ((sumK t k).1 + gB s p) % 255 := by
  induction k with
  | zero => omega
  | succ k ih =>
    simp only [sumK]
    by_cases e : p = k
    · subst e
      rw [sumK_same s t p fun i hi => h i (by omega) (by omega)]
      omega
    · have := ih (fun i hi => h i (by omega)) (by omega)
      rw [h k (by omega) (fun x => e x.symm)]
      omega
/-- The checksum as bytes. -/
def endL (s : ByteArray) : List Int := [(sumK s s.size).1, (sumK s s.size).2]
def endS (s : ByteArray) : ByteArray := strOfNums (endL s)
theorem endL_by (s : ByteArray) : ∀ x ∈ endL s, 0 ≤ x ∧ x < 256 := by
  intro x hx
  have := sumK_bd s s.size
  simp [endL] at hx
  omega
theorem strOf_size (l : List Int) : (strOfNums l).size = l.length := by
  show (strOfNums l).data.size = _
  rw [← Array.length_toList, strOfNums_data, List.length_map]
theorem endS_size (s : ByteArray) : (endS s).size = 2 := by unfold endS; rw [strOf_size]; rfl
theorem ba_ext {s t : ByteArray} (h : s.toList = t.toList) : s = t := by
  rw [ByteArray.toList_eq, ByteArray.toList_eq] at h
  exact ByteArray.ext (Array.toList_inj.1 h)
theorem eqB_iff (s t : ByteArray) : (s.toList == t.toList) = decide (s = t) := by
  rw [Bool.eq_iff_iff]; simp
  exact ⟨ba_ext, fun h => by rw [h]⟩
theorem cut_append (s t : ByteArray) (n : Nat) (hn : n = s.size) : (s ++ t).extract 0 n = s := by
  subst hn
  have e : s ++ t = strOfNums (bL s ++ bL t) := by rw [← str_append, str_bL, str_bL]
  have hz : (s ++ t).size = s.size + t.size := by simp
  have b := bL_extract (s ++ t) 0 s.size (by rw [hz]; omega)
  rw [Nat.zero_add, List.drop_zero] at b
  have b2 : bL (s ++ t) = bL s ++ bL t := by
    rw [e, bL_str]
    intro x hx
    rcases List.mem_append.1 hx with hx | hx
    · exact bL_bd s x hx
    · exact bL_bd t x hx
  rw [← str_bL ((s ++ t).extract 0 s.size), b, b2, List.take_append_of_le_length (by rw [bL_length]; omega), List.take_of_length_le (by rw [bL_length]; omega), str_bL]
theorem bL_app (s t : ByteArray) : bL (s ++ t) = bL s ++ bL t := by
  have e : s ++ t = strOfNums (bL s ++ bL t) := by rw [← str_append, str_bL, str_bL]
  rw [e, bL_str]
  intro x hx
  rcases List.mem_append.1 hx with hx | hx
  · exact bL_bd s x hx
  · exact bL_bd t x hx
theorem tail_append (s t : ByteArray) (n m : Nat) (hn : n = s.size) (hm : m = s.size + t.size) : (s ++ t).extract n m = t := by
  subst hn hm
  have hz : (s ++ t).size = s.size + t.size := by simp
  have b := bL_extract (s ++ t) s.size t.size (by rw [hz]; omega)
  rw [← str_bL ((s ++ t).extract s.size (s.size + t.size)), b, bL_app, List.drop_append_of_le_length (by rw [bL_length]; omega), List.drop_of_length_le (by rw [bL_length]; omega), List.nil_append, List.take_of_length_le (by rw [bL_length]; omega), str_bL]
/-- A string in two pieces. -/
theorem two_pieces (s : ByteArray) (n : Nat) (h : n ≤ s.size) : s.extract 0 n ++ s.extract n s.size = s := by
  have a := bL_extract s 0 n (by omega)
  have b := bL_extract s n (s.size - n) (by omega)
  rw [show n + (s.size - n) = s.size from by omega] at b
  rw [Nat.zero_add, List.drop_zero] at a
  have c := bL_length s
  rw [← str_bL (s.extract 0 n ++ s.extract n s.size), bL_app, a, b, List.take_of_length_le (l := (bL s).drop n) (by rw [List.length_drop]; omega), List.take_append_drop, str_bL]
theorem pieces_iff (s e : ByteArray) (n : Nat) (h : n ≤ s.size) : s.extract 0 n ++ e = s ↔ s.extract n s.size = e := by
  constructor
  · intro k
    have hz : s.size = (s.extract 0 n).size + e.size := by
      have := congrArg ByteArray.size k; simp at this; rw [size_extract _ _ _ h]; omega
    have hz2 := size_extract s 0 n h
    have := tail_append (s.extract 0 n) e n s.size (by omega) hz
    rw [k] at this
    exact this
  · intro k; rw [← k, two_pieces s n h]
theorem gB_append_lo (s t : ByteArray) (i : Nat) (h : i < s.size) : gB (s ++ t) i = gB s i := by
  have hz : (s ++ t).size = s.size + t.size := by simp
  have a := bL_get (s ++ t) i (by omega)
  rw [bL_app, List.getElem?_append_left (by rw [bL_length]; exact h), bL_get s i h] at a
  injection a with a; omega
theorem gB_append_hi (s t : ByteArray) (i : Nat) (h : i < t.size) : gB (s ++ t) (s.size + i) = gB t i := by
  have hz : (s ++ t).size = s.size + t.size := by simp
  have a := bL_get (s ++ t) (s.size + i) (by omega)
  rw [bL_app, List.getElem?_append_right (by rw [bL_length]; omega), bL_length, Nat.add_sub_cancel_left, bL_get t i h] at a
  injection a with a; omega
theorem sumK_extract (s : ByteArray) (n : Nat) (h : n ≤ s.size) : sumK (s.extract 0 n) (s.extract 0 n).size = sumK s n := by
  rw [size_extract _ _ _ h, Nat.sub_zero]
  exact sumK_same _ _ _ fun i hi => by rw [gB_extract s 0 n i (by omega) h, Nat.zero_add]
/-- A string with one byte in the place of another one. -/
def oneS (s : ByteArray) (p : Nat) (c : Int) : ByteArray := s.extract 0 p ++ strOfNums [c] ++ s.extract (p + 1) s.size
theorem gB_one (c : Int) (h0 : 0 ≤ c) (h1 : c < 256) : (gB (strOfNums [c]) 0 : Int) = c := by
  have hb : bL (strOfNums [c]) = [c] := bL_str _ (by intro x hx; simp at hx; omega)
  have := bL_get (strOfNums [c]) 0 (by rw [strOf_size]; simp)
  rw [hb] at this
  simp at this; omega
theorem oneS_size (s : ByteArray) (p : Nat) (c : Int) (hp : p < s.size) : (oneS s p c).size = s.size := by
  unfold oneS
  rw [ByteArray.size_append, ByteArray.size_append, size_extract _ _ _ (by omega), size_extract _ _ _ (by omega), strOf_size]
  simp; omega
theorem oneS_at (s : ByteArray) (p : Nat) (c : Int) (hp : p < s.size) (h0 : 0 ≤ c) (h1 : c < 256) : (gB (oneS s p c) p : Int) = c := by
  have z1 := size_extract s 0 p (by omega)
  have z2 : (s.extract 0 p ++ strOfNums [c]).size = p + 1 := by rw [ByteArray.size_append, z1, strOf_size]; simp
  unfold oneS
  rw [gB_append_lo _ _ _ (by omega)]
  have := gB_append_hi (s.extract 0 p) (strOfNums [c]) 0 (by rw [strOf_size]; simp)
  rw [z1] at this
  simp only [Nat.sub_zero, Nat.add_zero] at this
  rw [this, gB_one c h0 h1]
theorem oneS_else (s : ByteArray) (p : Nat) (c : Int) (hp : p < s.size) (i : Nat) (hi : i < s.size) (h : i ≠ p) : gB s i = gB (oneS s p c) i := by
  have z1 := size_extract s 0 p (by omega)
  have z2 : (s.extract 0 p ++ strOfNums [c]).size = p + 1 := by rw [ByteArray.size_append, z1, strOf_size]; simp
  unfold oneS
  by_cases hl : i < p
  · rw [gB_append_lo _ _ _ (by omega), gB_append_lo _ _ _ (by omega), gB_extract s 0 p i (by omega) (by omega), Nat.zero_add]
  · have := gB_append_hi (s.extract 0 p ++ strOfNums [c]) (s.extract (p + 1) s.size) (i - (p + 1)) (by rw [size_extract _ _ _ (Nat.le_refl _)]; omega)
    rw [z2, show p + 1 + (i - (p + 1)) = i from by omega] at this
    rw [this, gB_extract s (p + 1) s.size _ (by omega) (by omega), show p + 1 + (i - (p + 1)) = i from by omega]
theorem one_parts (s : ByteArray) (p : Nat) (c : Int) (hp : p < s.size) (h0 : 0 ≤ c) (h1 : c < 256) (hne : (gB s p : Int) ≠ c) (hz1 : ¬ ((gB s p : Int) = 0 ∧ c = 255)) (hz2 : ¬ ((gB s p : Int) = 255 ∧ c = 0)) :
    (sumK s s.size).1 ≠ (sumK (oneS s p c) (oneS s p c).size).1 := by
  rw [oneS_size s p c hp]
  have a := sumK_one s (oneS s p c) p s.size (fun i hi h => oneS_else s p c hp i hi h) hp
  rw [oneS_at s p c hp h0 h1] at a
  have b := gB_lt s p
  intro k
  rw [← k] at a
  have := sumK_bd s s.size
  omega
end Go.Proofs.Yteobgkfcmgcbeaa
