/-
  The contracts of package cursor's methods on a cursor that is not there. No conditions.
-/
import Derived.Test.YtnlnkjjegaihcaaCur4
import Derived.Test.YtnlnkjjegaihcaaCurRef2
namespace Go.Proofs.Ytnlnkjjegaihcaa
open Go.ChangeShapes Go.WideShapes Go.ChangeAt Go.RowKit
set_option linter.unusedVariables false
set_option linter.unusedSimpArgs false
def argF : Int × Nat × Nat := (1, 0, 0)
theorem nStands (w : World) : Calls Try.prog 34 #[.pointer none] w fun e w' => e = .returned (.bool false) ∧ w = w' := by
  go_enter Try.func34, Try.ntmps34
  go_wp2
  go_ret
  exact ⟨rfl, rfl⟩
theorem nPeek (w : World) : Calls Try.prog 10 #[.pointer none] w fun e w' => e = .returned (tokA zTok) ∧ Below w.heap.size w w' := by
  go_enter Try.func10, Try.ntmps10
  go_wp2_with (go_at_call 34; refine (nStands _).mono ?_; rintro e w1 ⟨rfl, rfl⟩)
  refine bodyPost_ret (v := tokA zTok) (by simp [results, Try.results10, go_sem, tokA, zTok]) rfl ⟨rfl, ?_⟩
  exact new_block _ _
theorem nHere (w : World) (E : Int) : Calls Try.prog 35 #[.pointer none, .int .i64 E] w fun e w' => e = .returned (faultV argF) ∧ Below w.heap.size w w' := by
  go_enter Try.func35, Try.ntmps35
  go_wp2
  refine bodyPost_ret (v := faultV argF) (by simp [results, Try.results35, go_sem, faultV, argF]) rfl ⟨rfl, ?_⟩
  exact new_block _ _
theorem nNext (w : World) : Calls Try.prog 21 #[.pointer none] w fun e w' => e = .returned (tokA zTok) ∧ Below w.heap.size w w' := by
  have F0 := Whole.made w 40 #[.int .i64 0, .string ⟨#[]⟩, .int .i64 0, .int .i64 0, .int .i64 0]
  have F := Lib.hid F0
  clear F0
  go_enter Try.func21, Try.ntmps21
  go_wp2_with (go_at_call 10; refine (nPeek _).mono ?_; rintro e w2 ⟨rfl, b2⟩; have W2 := Lib.hid (F.out.below b2 (by simp)); have hz := W2.out.inside; obtain ⟨k0, k1, k2, k3, k4, f0, f1, f2, f3, f4⟩ := whole5f W2.out; have B2 := Lib.hid (bthen (new_block _ _) b2); clear b2; simp only [tokA, zTok])
  have hF := whole5 ((Whole.set5 W2.out (.int .i64 0) (.string ⟨#[]⟩) (.int .i64 0) (.int .i64 0) (.int .i64 0)).alloc (.cells #[.int .i64 0, .string ⟨#[]⟩, .int .i64 0, .int .i64 0, .int .i64 0] 40))
  refine bodyPost_ret (v := tokA zTok) (by simp [results, Try.results21, go_sem, hF, tokA, zTok]) rfl ⟨rfl, ?_⟩
  exact (Below.set5 B2.out (Nat.le_refl _) _ _ _ _ _).alloc (by simp; omega) _
theorem nIs (w : World) (t : ByteArray) : Calls Try.prog 13 #[.pointer none, .string t] w fun e w' => e = .returned (.bool false) ∧ Below w.heap.size w w' := by
  go_enter Try.func13, Try.ntmps13
  go_wp2_with (go_at_call 10; refine (nPeek _).mono ?_; rintro e w2 ⟨rfl, b2⟩; have B2 := Lib.hid b2; clear b2; simp only [tokA, zTok])
  go_ret
  exact ⟨rfl, B2.out.alloc B2.out.size _⟩
theorem nTake (w : World) (t : ByteArray) : Calls Try.prog 22 #[.pointer none, .string t] w fun e w' => e = .returned (.bool false) ∧ Below w.heap.size w w' := by
  go_enter Try.func22, Try.ntmps22
  go_wp2_with (go_at_call 13; refine (nIs _ _).mono ?_; rintro e w2 ⟨rfl, b2⟩; have B2 := Lib.hid b2; clear b2)
  go_ret
  exact ⟨rfl, B2.out⟩
theorem nWrong (w : World) : Calls Try.prog 15 #[.pointer none] w fun e w' => e = .returned (faultV argF) ∧ Below w.heap.size w w' := by
  have F := Lib.hid (Whole.made w 27 #[.int .i64 0, .int .i64 0, .int .i64 0])
  have hfd := fun w => tok_field 0 0 0 0 ⟨#[]⟩ w
  go_enter Try.func15, Try.ntmps15
  go_wp2_with (first
    | (go_at_call 10; refine (nPeek _).mono ?_; rintro e w2 ⟨rfl, b2⟩; have W2 := Lib.hid (F.out.below b2 (by simp)); have B2 := Lib.hid (bthen (new_block _ _) b2); clear b2; simp only [tokA, zTok, Int.ofNat_zero, Int.natCast_zero])
    | (go_at_call 35; refine (nHere _ _).mono ?_; rintro e w3 ⟨rfl, b3⟩; have W3 := Lib.hid (W2.out.below b3 W2.out.inside); obtain ⟨k0, k1, k2, f0, f1, f2⟩ := whole3 W3.out; have hz := W3.out.inside; have B3 := Lib.hid (bthen B2.out b3); clear b3; simp only [faultV, argF]))
  have hF := whole3 (Whole.set3 W3.out (.int .i64 1) (.int .i64 0) (.int .i64 0))
  refine bodyPost_ret (v := faultV argF) (by simp [results, Try.results15, go_sem, hF, faultV, argF]) rfl ⟨rfl, ?_⟩
  exact Below.set3 B3.out (Nat.le_refl _) _ _ _
theorem nWant (w : World) (t : ByteArray) : Calls Try.prog 23 #[.pointer none, .string t] w fun e w' => e = .returned (faultV argF) ∧ Below w.heap.size w w' := by
  have F := Lib.hid (Whole.made w 27 #[.int .i64 0, .int .i64 0, .int .i64 0])
  go_enter Try.func23, Try.ntmps23
  go_wp2_with (first
    | (go_at_call 22; refine (nTake _ _).mono ?_; rintro e w2 ⟨rfl, b2⟩; have W2 := Lib.hid (F.out.below b2 (by simp)); have B2 := Lib.hid (bthen (new_block _ _) b2); clear b2)
    | (go_at_call 15; refine (nWrong _).mono ?_; rintro e w3 ⟨rfl, b3⟩; have W3 := Lib.hid (W2.out.below b3 W2.out.inside); obtain ⟨k0, k1, k2, f0, f1, f2⟩ := whole3 W3.out; have hz := W3.out.inside; have B3 := Lib.hid (bthen B2.out b3); clear b3; simp only [faultV, argF]))
  have hF := whole3 (Whole.set3 W3.out (.int .i64 1) (.int .i64 0) (.int .i64 0))
  refine bodyPost_ret (v := faultV argF) (by simp [results, Try.results23, go_sem, hF, faultV, argF]) rfl ⟨rfl, ?_⟩
  exact Below.set3 B3.out (Nat.le_refl _) _ _ _
theorem nKind (w : World) (k : Int) (hk : 0 < k) : Calls Try.prog 37 #[.pointer none, .int .i64 k] w fun e w' => e = .returned (.tuple #[tokA zTok, faultV argF]) ∧ Below w.heap.size w w' := by
  have T0 := Lib.hid (Two.start w 40 #[.int .i64 0, .string ⟨#[]⟩, .int .i64 0, .int .i64 0, .int .i64 0] 27 #[.int .i64 0, .int .i64 0, .int .i64 0])
  have hfd := fun w => tok_field 0 0 0 0 ⟨#[]⟩ w
  have q0 : ((0 : Int) != k) = true := by rw [bne_iff_ne]; omega
  go_enter Try.func37, Try.ntmps37
  go_wp2_with (first
    | (go_at_call 10; refine (nPeek _).mono ?_; rintro e w2 ⟨rfl, b2⟩; have T2 := Lib.hid (T0.out.next b2); clear b2; simp only [tokA, zTok, Int.ofNat_zero, Int.natCast_zero])
    | (go_at_call 15; refine (nWrong _).mono ?_; rintro e w3 ⟨rfl, b3⟩; have T3 := Lib.hid (T2.out.next b3); obtain ⟨k0, k1, k2, k3, k4, f0, f1, f2, f3, f4⟩ := whole5f T3.out.k0; obtain ⟨g0, g1, g2, z0, z1, z2⟩ := whole3 T3.out.k1; have hz := T3.out.k1.inside; clear b3; simp only [faultV, argF]))
  have hFG := two_set T3.out.k0 T3.out.k1 (.int .i64 0) (.string ⟨#[]⟩) (.int .i64 0) (.int .i64 0) (.int .i64 0) (.int .i64 1) (.int .i64 0) (.int .i64 0)
  have hF := whole5 hFG.1
  have hG := whole3 hFG.2
  refine bodyPost_ret (v := .tuple #[tokA zTok, faultV argF]) (by simp [results, Try.results37, go_sem, hF, hG, faultV, argF, zTok, tokA]) rfl ⟨rfl, ?_⟩
  exact Below.set3 (Below.set5 T3.out.below (Nat.le_refl _) _ _ _ _ _) (Nat.le_succ _) _ _ _
theorem nInt (w : World) : Calls Try.prog 17 #[.pointer none] w fun e w' => e = .returned (.tuple #[.int .i64 0, faultV argF]) ∧ Below w.heap.size w w' := by
  have F := Lib.hid (Whole.made w 27 #[.int .i64 0, .int .i64 0, .int .i64 0])
  go_enter Try.func17, Try.ntmps17
  go_wp2_with (go_at_call 37; refine (nKind _ _ (by decide)).mono ?_; rintro e w3 ⟨rfl, b3⟩; have W0 := Lib.hid (F.out.below b3 (by simp)); obtain ⟨g0, g1, g2, z0, z1, z2⟩ := whole3 W0.out; have hz := W0.out.inside; have B3 := Lib.hid (bthen (new_block _ _) b3); clear b3; simp only [tokA, zTok, faultV, argF])
  go_region
  all_goals
    go_wp2
    have hF := whole3 ((((Whole.set3 W0.out (.int .i64 1) (.int .i64 0) (.int .i64 0)).alloc (.cells #[.int .i64 0, .string ⟨#[]⟩, .int .i64 0, .int .i64 0, .int .i64 0] 40)).alloc (.cells #[.int .i64 1, .int .i64 0, .int .i64 0] 27)).drew)
    refine bodyPost_ret (v := .tuple #[.int .i64 0, faultV argF]) (by simp [results, Try.results17, go_sem, hF, faultV, argF]) rfl ⟨rfl, ?_⟩
    have hb := Below.set3 B3.out (Nat.le_refl _) (.int .i64 1) (.int .i64 0) (.int .i64 0)
    exact below_drew1 ((hb.alloc hb.size _).alloc (by have := hb.size; simp at this ⊢; omega) _)
theorem nName (w : World) : Calls Try.prog 19 #[.pointer none] w fun e w' => e = .returned (.tuple #[.string ⟨#[]⟩, faultV argF]) ∧ Below w.heap.size w w' := by
  have F := Lib.hid (Whole.made w 27 #[.int .i64 0, .int .i64 0, .int .i64 0])
  go_enter Try.func19, Try.ntmps19
  go_wp2_with (go_at_call 37; refine (nKind _ _ (by decide)).mono ?_; rintro e w3 ⟨rfl, b3⟩; have W0 := Lib.hid (F.out.below b3 (by simp)); obtain ⟨g0, g1, g2, z0, z1, z2⟩ := whole3 W0.out; have hz := W0.out.inside; have B3 := Lib.hid (bthen (new_block _ _) b3); clear b3; simp only [tokA, zTok, faultV, argF])
  go_region
  all_goals
    go_wp2
    have hF := whole3 ((((Whole.set3 W0.out (.int .i64 1) (.int .i64 0) (.int .i64 0)).alloc (.cells #[.int .i64 0, .string ⟨#[]⟩, .int .i64 0, .int .i64 0, .int .i64 0] 40)).alloc (.cells #[.int .i64 1, .int .i64 0, .int .i64 0] 27)).drew)
    refine bodyPost_ret (v := .tuple #[.string ⟨#[]⟩, faultV argF]) (by simp [results, Try.results19, go_sem, hF, faultV, argF]) rfl ⟨rfl, ?_⟩
    have hb := Below.set3 B3.out (Nat.le_refl _) (.int .i64 1) (.int .i64 0) (.int .i64 0)
    exact below_drew1 ((hb.alloc hb.size _).alloc (by have := hb.size; simp at this ⊢; omega) _)
theorem nSigned (w : World) : Calls Try.prog 18 #[.pointer none] w fun e w' => e = .returned (.tuple #[.int .i64 0, faultV argF]) ∧ Below w.heap.size w w' := by
  have F := Lib.hid (Whole.made w 27 #[.int .i64 0, .int .i64 0, .int .i64 0])
  go_enter Try.func18, Try.ntmps18
  go_wp2_with (first
    | (go_at_call 13; refine (nIs _ _).mono ?_; rintro e w2 ⟨rfl, b2⟩; have W2 := Lib.hid (F.out.below b2 (by simp)); have B2 := Lib.hid (bthen (new_block _ _) b2); clear b2)
    | (go_at_call 17; refine (nInt _).mono ?_; rintro e w3 ⟨rfl, b3⟩; have W0 := Lib.hid (W2.out.below b3 W2.out.inside); obtain ⟨g0, g1, g2, z0, z1, z2⟩ := whole3 W0.out; have hz := W0.out.inside; have B3 := Lib.hid (bthen B2.out b3); clear b3; simp only [faultV, argF]))
  have hF := whole3 (Whole.set3 W0.out (.int .i64 1) (.int .i64 0) (.int .i64 0))
  refine bodyPost_ret (v := .tuple #[.int .i64 0, faultV argF]) (by simp [results, Try.results18, go_sem, hF, faultV, argF]) rfl ⟨rfl, ?_⟩
  exact Below.set3 B3.out (Nat.le_refl _) _ _ _
theorem nDown (w : World) : Calls Try.prog 24 #[.pointer none] w fun e w' => e = .returned (faultV argF) ∧ Below w.heap.size w w' := by
  have F := Lib.hid (Whole.made w 27 #[.int .i64 0, .int .i64 0, .int .i64 0])
  go_enter Try.func24, Try.ntmps24
  go_wp2_with (first
    | (go_at_call 34; refine (nStands _).mono ?_; rintro e w1 ⟨rfl, rfl⟩)
    | (go_at_call 35; refine (nHere _ _).mono ?_; rintro e w3 ⟨rfl, b3⟩; have W3 := Lib.hid (F.out.below b3 (by simp)); obtain ⟨k0, k1, k2, f0, f1, f2⟩ := whole3 W3.out; have hz := W3.out.inside; have B3 := Lib.hid (bthen (new_block _ _) b3); clear b3; simp only [faultV, argF]))
  have hF := whole3 (Whole.set3 W3.out (.int .i64 1) (.int .i64 0) (.int .i64 0))
  refine bodyPost_ret (v := faultV argF) (by simp [results, Try.results24, go_sem, hF, faultV, argF]) rfl ⟨rfl, ?_⟩
  exact Below.set3 B3.out (Nat.le_refl _) _ _ _
theorem nUp (w : World) : Calls Try.prog 20 #[.pointer none] w fun e w' => e = .returned (.tuple #[]) ∧ w = w' := by
  go_enter Try.func20, Try.ntmps20
  go_wp2
  go_end0
  exact ⟨rfl, rfl⟩
theorem nDepth (w : World) : Calls Try.prog 12 #[.pointer none] w fun e w' => e = .returned (.int .i64 0) ∧ w = w' := by
  go_enter Try.func12, Try.ntmps12
  go_wp2
  go_ret
  exact ⟨rfl, rfl⟩
end Go.Proofs.Ytnlnkjjegaihcaa
