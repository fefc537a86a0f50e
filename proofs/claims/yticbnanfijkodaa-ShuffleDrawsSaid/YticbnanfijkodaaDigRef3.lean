/-
  The contracts of the document's answer for layer 3: List, Unlist, Same. Conditions: a list of at most 1000000 numbers that are int64's; a string of at most 1000000000 bytes.
-/
import Derived.Test.YticbnanfijkodaaDigRef2
import Derived.Test.YticbnanfijkodaaDigList
namespace Go.Proofs.Yticbnanfijkodaa
open Go.ChangeShapes Go.WideShapes Go.ChangeAt Go.RowKit
set_option linter.unusedVariables false
set_option linter.unusedSimpArgs false
theorem str_comma (l : List Int) : strOfNums l ++ (⟨#[44]⟩ : ByteArray) = strOfNums (l ++ [44]) := by
  rw [← str_append]; rfl
theorem comma_at (l : List Int) (c : Nat) (hc : commaL l = c) (h : c < l.length) : l[c] = 44 := by
  induction l generalizing c with
  | nil => simp at h
  | cons x r ih =>
    by_cases hx : x = 44
    · subst hx
      rw [commaL_stop] at hc
      subst hc; rfl
    · rw [commaL_cons r hx] at hc
      subst hc
      exact ih _ rfl (by simpa using h)
theorem comma_before (l : List Int) (j : Nat) (h : j < commaL l) (hj : j < l.length) : l[j] ≠ 44 := by
  induction l generalizing j with
  | nil => simp at hj
  | cons x r ih =>
    by_cases hx : x = 44
    · subst hx
      rw [commaL_stop] at h
      omega
    · rw [commaL_cons r hx] at h
      cases j with
      | zero => exact hx
      | succ j => exact ih j (by omega) (by simpa using hj)
theorem comma_str (s : ByteArray) (f i : Nat) (hf : f ≤ i) (hi : i < s.size) (hle : i ≤ f + commaL ((bL s).drop f)) : gB s i = 44 ↔ i = f + commaL ((bL s).drop f) := by
  have hl : ((bL s).drop f).length = s.size - f := by rw [List.length_drop, bL_length]
  have hg : ((bL s).drop f)[i - f]'(by omega) = (gB s i : Int) := by
    rw [List.getElem_drop]
    have h := bL_get s i hi
    rw [List.getElem?_eq_getElem (by rw [bL_length]; exact hi)] at h
    have := Option.some.inj h
    simp only [show f + (i - f) = i from by omega]
    exact this
  constructor
  · intro h
    apply Nat.le_antisymm hle
    apply Nat.le_of_not_lt
    intro c
    have := comma_before ((bL s).drop f) (i - f) (by omega) (by omega)
    rw [hg, h] at this
    exact this rfl
  · intro h
    have := comma_at ((bL s).drop f) (i - f) (by omega) (by omega)
    rw [hg] at this
    omega
end Go.Proofs.Yticbnanfijkodaa
