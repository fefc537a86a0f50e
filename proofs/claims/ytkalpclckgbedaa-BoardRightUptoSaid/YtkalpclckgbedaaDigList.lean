/-
  The contracts of digits.List, digits.Unlist and of their helper. Conditions: a list of at most 1000000 numbers that are int64's; a string of at most 1000000000 bytes.
-/
import Derived.Test.YtkalpclckgbedaaDigPut
import Derived.Test.YtkalpclckgbedaaDigTake
import Derived.Test.YtkalpclckgbedaaReads
namespace Go.Proofs.Ytkalpclckgbedaa
open Go.ChangeShapes Go.WideShapes Go.ChangeAt Go.RowKit
set_option linter.unusedVariables false
set_option linter.unusedSimpArgs false
def ints (y : List Int) : List Value := y.map (Value.int .i64)
theorem info_byte : (Try.prog.info? 5).map (fun i => (i.zero, i.size, i.bytes)) = some (some (.int .u8 0), 1, 1) := by kernel_rfl
/-- What Unlist hands back: a row of the call's own, and whether the text was a list. -/
def UnlistPost (s : ByteArray) (w : World) (e : Ending) (w' : World) : Prop :=
  ∃ (v : Value) (y : List Int), e = .returned (.tuple #[v, .bool (unlistL (bL s)).isSome]) ∧ y = (unlistL (bL s)).getD [] ∧ w'.ownsRow w.heap.size 3 1 v y.length (ints y) ∧ Below w.heap.size w w'
theorem und_ints3 : Try.prog.underlying 62 = some (.slice 3) := by kernel_rfl
theorem info_int3 : (Try.prog.info? 3).map (fun i => (i.zero, i.size, i.bytes)) = some (some (.int .i64 0), 1, 8) := by kernel_rfl
theorem str_empty (s : ByteArray) : s.toList.isEmpty = decide (s.size = 0) := by
  rw [ByteArray.toList_eq, Bool.eq_iff_iff, List.isEmpty_iff, decide_eq_true_iff]
  constructor
  · intro e; rw [← ByteArray.size_data, ← Array.length_toList, e]; rfl
  · intro e
    have : s.data = #[] := Array.eq_empty_of_size_eq_zero e
    rw [this]
theorem unlist_step (s : ByteArray) (f : Nat) (done : List Int) (hf : f ≤ s.size) (h : (allP (pieces ((bL s).drop f))).map (done ++ ·) = unlistL (bL s)) :
    f + commaL ((bL s).drop f) ≤ s.size ∧
    (parseL (bL (s.extract f (f + commaL ((bL s).drop f)))) = none → unlistL (bL s) = none) ∧
    (∀ n, parseL (bL (s.extract f (f + commaL ((bL s).drop f)))) = some n → ∃ Q, (allP Q).map ((done ++ [n]) ++ ·) = unlistL (bL s) ∧ ((f + commaL ((bL s).drop f) + 1 ≤ s.size ∧ Q = pieces ((bL s).drop (f + commaL ((bL s).drop f) + 1))) ∨ (f + commaL ((bL s).drop f) + 1 = s.size + 1 ∧ Q = []))) := by
  have hle := commaL_le ((bL s).drop f)
  have hlen : ((bL s).drop f).length = s.size - f := by rw [List.length_drop, bL_length]
  have hfc : f + commaL ((bL s).drop f) ≤ s.size := by omega
  rw [bL_extract s f _ hfc]
  rw [pieces_eq] at h
  refine ⟨hfc, ?_, ?_⟩
  · intro hp
    rw [allP, hp] at h
    exact h.symm
  · intro n hp
    rw [allP, hp] at h
    generalize hc : commaL ((bL s).drop f) = c at *
    refine ⟨if c < ((bL s).drop f).length then pieces (((bL s).drop f).drop (c + 1)) else [], ?_, ?_⟩
    · rw [← h]
      generalize allP _ = o
      cases o with
      | none => rfl
      | some z => simp
    · by_cases hcl : c < ((bL s).drop f).length
      · rw [if_pos hcl, List.drop_drop]
        exact .inl ⟨by omega, by rw [Nat.add_assoc]⟩
      · exact .inr ⟨by omega, if_neg hcl⟩
theorem parseL_bd {l : List Int} {n : Int} (h : parseL l = some n) : -999999999 ≤ n ∧ n ≤ 999999999 := ⟨((parseL_iff l n).1 h).1, ((parseL_iff l n).1 h).2.1⟩
end Go.Proofs.Ytkalpclckgbedaa
