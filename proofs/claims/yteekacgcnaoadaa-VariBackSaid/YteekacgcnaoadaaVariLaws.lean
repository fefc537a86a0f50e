/-
  The laws of layer 4, but for the round trip: each returns true for every input and writes nothing that was there. No conditions.
-/
import Derived.Test.YteekacgcnaoadaaVariRef2
namespace Go.Proofs.Yteekacgcnaoadaa
open Go.ChangeShapes Go.WideShapes Go.ChangeAt Go.RowKit
set_option linter.unusedVariables false
set_option linter.unusedSimpArgs false
theorem lives04 (w : World) : Calls Try.prog 11 #[] w fun e w' => e = .returned (.bool true) ∧ Below w.heap.size w w' := by
  have e1 : ((bytesS 300).toList == [172, 2]) = true := by
    have : bytesS 300 = strOfNums [172, 2] := by unfold bytesS; rw [bytesL_in (by omega) (by omega)]; simp [encL]
    rw [this]; decide +kernel
  have e2 : ((signedS (-3)).toList == [5]) = true := by
    have : signedS (-3) = strOfNums [5] := by unfold signedS signedL; rw [if_pos (by omega)]; unfold zig; rw [if_pos (by omega), bytesL_in (by omega) (by omega)]; simp [encL]
    rw [this]; decide +kernel
  have p1 := Put_any 300 (by omega) (by omega)
  have p2 := PutSigned_any (-3) (by omega) (by omega)
  generalize bytesS 300 = x at *
  generalize signedS (-3) = y at *
  go_enter Try.func11, Try.ntmps11
  go_wp2_with (first
    | (go_at_call 6; refine (p1 _).mono ?_; rintro e w1 ⟨rfl, b1⟩)
    | (go_at_call 8; refine (p2 _).mono ?_; rintro e w2 ⟨rfl, b2⟩))
  go_ret
  exact ⟨rfl, bthen b1 b2⟩
theorem walk_VariPuts (n : Int) (w : World) (wn : (Lit.int .i64 n).wf = true) :
    Calls Try.prog 3 #[.int .i64 n] w fun e w' => e = .returned (.bool true) ∧ Below w.heap.size w w' := by
  obtain ⟨n1, n2⟩ := bounds_i64 wn
  clear wn
  have p1 := Put_any n n1 n2
  have p2 := rBytes_any n n1 n2
  have p3 := PutSigned_any n n1 n2
  have p4 := rSigned_any n n1 n2
  have p5 := Size_any n n1 n2
  rw [← bytesS_size] at p5
  have hz : (bytesS n).size ≤ 140737488355328 := by rw [bytesS_size]; have := bytesL_len n; omega
  generalize bytesS n = x at *
  generalize signedS n = y at *
  have c0 := Below.refl w.heap.size w
  go_enter Try.func3, Try.ntmps3
  go_wp2_with (first
    | (go_at_call 6; refine (p1 _).mono ?_; rintro e w1 ⟨rfl, b1⟩; have c1 := bthen (by assumption) b1; clear b1)
    | (go_at_call 7; refine (p2 _).mono ?_; rintro e w1 ⟨rfl, b1⟩; have c1 := bthen (by assumption) b1; clear b1)
    | (go_at_call 8; refine (p3 _).mono ?_; rintro e w1 ⟨rfl, b1⟩; have c1 := bthen (by assumption) b1; clear b1)
    | (go_at_call 9; refine (p4 _).mono ?_; rintro e w1 ⟨rfl, b1⟩; have c1 := bthen (by assumption) b1; clear b1)
    | (go_at_call 10; refine (p5 _).mono ?_; rintro e w1 ⟨rfl, b1⟩; have c1 := bthen (by assumption) b1; clear b1)
    | (go_at_call 11; refine (lives04 _).mono ?_; rintro e w1 ⟨rfl, b1⟩; have c1 := bthen (by assumption) b1; clear b1))
  go_ret
  exact ⟨rfl, c1⟩
theorem walk_VariTakes (s : ByteArray) (a : Int) (w : World) (ws : s.size ≤ maxLen) (wa : (Lit.int .i64 a).wf = true) :
    Calls Try.prog 4 #[.string s, .int .i64 a] w fun e w' => e = .returned (.bool true) ∧ Below w.heap.size w w' := by
  unfold maxLen at ws
  obtain ⟨a1, a2⟩ := bounds_i64 wa
  clear wa
  by_cases hz : 200 < s.size
  · go_enter Try.func4, Try.ntmps4
    go_wp2_with (go_at_call 11; refine (lives04 _).mono ?_; rintro e w1 ⟨rfl, hb1⟩)
    go_ret
    exact ⟨rfl, hb1⟩
  · have hs : s.size ≤ 200 := by omega
    have p1 := fun w => Take_any s a w (by omega) a1 a2
    have p2 := fun w => rTake_any s a w (by omega) a1 a2
    have p3 := fun w => TakeSigned_any s a w (by omega) a1 a2
    have p4 := fun w => rTakeSigned_any s a w (by omega) a1 a2
    generalize vtakeOf s a = x at *
    generalize stakeOf s a = y at *
    have c0 := Below.refl w.heap.size w
    go_enter Try.func4, Try.ntmps4
    go_wp2_with (first
      | (go_at_call 12; refine (p1 _).mono ?_; rintro e w1 ⟨rfl, rfl⟩; unfold takeV3)
      | (go_at_call 13; refine (p2 _).mono ?_; rintro e w1 ⟨rfl, b1⟩; unfold takeV3; have c1 := bthen (by assumption) b1; clear b1)
      | (go_at_call 14; refine (p3 _).mono ?_; rintro e w1 ⟨rfl, rfl⟩; unfold takeV3)
      | (go_at_call 15; refine (p4 _).mono ?_; rintro e w1 ⟨rfl, b1⟩; unfold takeV3; have c1 := bthen (by assumption) b1; clear b1)
      | (go_at_call 11; refine (lives04 _).mono ?_; rintro e w1 ⟨rfl, b1⟩; have c1 := bthen (by assumption) b1; clear b1))
    go_ret
    exact ⟨rfl, c1⟩
end Go.Proofs.Yteekacgcnaoadaa
