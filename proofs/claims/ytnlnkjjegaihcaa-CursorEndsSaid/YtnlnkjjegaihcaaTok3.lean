/-
  The contracts of package tokens, on: one token, what lies between tokens, going on. Conditions: strings are no longer than a string can be.
-/
import Derived.Test.YtnlnkjjegaihcaaTok2
import Derived.Test.YtnlnkjjegaihcaaKeeps
namespace Go.Proofs.Ytnlnkjjegaihcaa
open Go.ChangeShapes Go.WideShapes Go.ChangeAt Go.RowKit
set_option linter.unusedVariables false
set_option linter.unusedSimpArgs false
theorem firstV_form (t : ByteArray) : ∃ k x n z e, firstV t = tokR k x n z e := by
  unfold firstV; split
  · exact ⟨_, _, _, _, _, rfl⟩
  · exact ⟨_, _, _, _, _, rfl⟩
set_option maxHeartbeats 1600000 in
theorem tkFirst (t : ByteArray) (w : World) (hs : t.size ≤ 140737488355328) (h35 : 0 < t.size → gB t 0 ≠ 35) :
    Calls Try.prog 40 #[.string t] w fun e w' => e = .returned (firstV t) ∧ Below w.heap.size w w' := by
  by_cases h0 : 0 < t.size
  · have hne : t.toList.isEmpty = false := by
      rw [ByteArray.toList_eq, List.isEmpty_eq_false_iff, ne_eq, ← List.length_eq_zero_iff]
      show ¬ t.data.size = 0
      exact Nat.ne_of_gt h0
    have hne2 : (!t.toList.isEmpty) = true := by rw [hne]; rfl
    have c0 : ∀ w, Calls Try.prog 46 #[.string t, .int .i64 0] w fun e w' => e = .returned (.tuple #[.int .i32 (Utf8.decode t 0).1, .int .i64 (Utf8.decode t 0).2]) ∧ Below w.heap.size w w' := fun w => At_in t 0 w hs h0
    have c1 := fun w => Small_any ((Utf8.decode t 0).1 : Int) w
    have c2 := fun w => Digit_any ((Utf8.decode t 0).1 : Int) w
    have c3 := eql_dec t 0 34 (by omega) (by omega)
    rw [small_dec] at c1
    rw [digit_dec] at c2
    obtain ⟨k, x, n, z, e, hv⟩ := firstV_form t
    have h35' := h35 h0
    cases hsm : isSm (gB t 0 : Int) with
    | true =>
      have d1 := fun w => tkWord t w hs h0 hsm
      rw [hsm] at c1
      rw [hv] at d1 ⊢
      have HV := Lib.hid hv
      simp only [tokR] at d1
      clear hv hsm c3
      go_enter Try.func40, Try.ntmps40
      go_wp2_with (first
        | (go_at_call 46; refine (c0 _).mono ?_; rintro e w1 ⟨rfl, b1⟩; have b1' := bthen ((Below.refl w.heap.size w).alloc (Nat.le_refl _) _) b1; have W1 := Lib.hid ((Whole.made w 40 #[.int .i64 0, .string ⟨#[]⟩, .int .i64 0, .int .i64 0, .int .i64 0]).below b1 (by simp)); clear b1)
        | (go_at_call 47; refine (c1 _).mono ?_; rintro e w2 ⟨rfl, rfl⟩)
        | (go_at_call 49; refine (c2 _).mono ?_; rintro e w2 ⟨rfl, rfl⟩)
        | (go_at_call 48; refine (d1 _).mono ?_; rintro e w2 ⟨rfl, b2⟩; have HB := Lib.hid (bthen b1' b2); have HW := Lib.hid (W1.out.below b2 W1.out.inside); obtain ⟨k0, k1, k2, k3, k4, f0, f1, f2, f3, f4⟩ := whole5f HW.out; clear b2 b1'))
      have hF := whole5 (Whole.set5 HW.out (.int .i64 k) (.string x) (.int .i64 n) (.int .i64 0) (.int .i64 0))
      refine bodyPost_ret (v := tokR k x n z e) (by simp [results, Try.results40, go_sem, tokR, hF]) rfl ⟨rfl, ?_⟩
      exact Below.set5 HB.out (Nat.le_refl _) _ _ _ _ _
    | false =>
      cases hdg : isD (gB t 0 : Int) with
      | true =>
        have d1 := fun w => tkNumber t w hs h0 hdg
        rw [hsm] at c1
        rw [hdg] at c2
        rw [hv] at d1 ⊢
        have HV := Lib.hid hv
        simp only [tokR] at d1
        clear hv hsm hdg c3
        go_enter Try.func40, Try.ntmps40
        go_wp2_with (first
          | (go_at_call 46; refine (c0 _).mono ?_; rintro e w1 ⟨rfl, b1⟩; have b1' := bthen ((Below.refl w.heap.size w).alloc (Nat.le_refl _) _) b1; have W1 := Lib.hid ((Whole.made w 40 #[.int .i64 0, .string ⟨#[]⟩, .int .i64 0, .int .i64 0, .int .i64 0]).below b1 (by simp)); clear b1)
          | (go_at_call 47; refine (c1 _).mono ?_; rintro e w2 ⟨rfl, rfl⟩)
          | (go_at_call 49; refine (c2 _).mono ?_; rintro e w2 ⟨rfl, rfl⟩)
          | (go_at_call 50; refine (d1 _).mono ?_; rintro e w2 ⟨rfl, b2⟩; have HB := Lib.hid (bthen b1' b2); have HW := Lib.hid (W1.out.below b2 W1.out.inside); obtain ⟨k0, k1, k2, k3, k4, f0, f1, f2, f3, f4⟩ := whole5f HW.out; clear b2 b1'))
        have hF := whole5 (Whole.set5 HW.out (.int .i64 k) (.string x) (.int .i64 n) (.int .i64 0) (.int .i64 0))
        refine bodyPost_ret (v := tokR k x n z e) (by simp [results, Try.results40, go_sem, tokR, hF]) rfl ⟨rfl, ?_⟩
        exact Below.set5 HB.out (Nat.le_refl _) _ _ _ _ _
      | false =>
        by_cases hq : gB t 0 = 34
        · have q1 : (((Utf8.decode t 0).1 : Int) == 34) = true := by rw [c3]; simp [hq]
          have d1 := fun w => tkName t w hs h0 hq
          rw [hsm] at c1
          rw [hdg] at c2
          rw [hv] at d1 ⊢
          have HV := Lib.hid hv
          simp only [tokR] at d1
          clear hv hsm hdg c3 hq
          go_enter Try.func40, Try.ntmps40
          go_wp2_with (first
            | (go_at_call 46; refine (c0 _).mono ?_; rintro e w1 ⟨rfl, b1⟩; have b1' := bthen ((Below.refl w.heap.size w).alloc (Nat.le_refl _) _) b1; have W1 := Lib.hid ((Whole.made w 40 #[.int .i64 0, .string ⟨#[]⟩, .int .i64 0, .int .i64 0, .int .i64 0]).below b1 (by simp)); clear b1)
            | (go_at_call 47; refine (c1 _).mono ?_; rintro e w2 ⟨rfl, rfl⟩)
            | (go_at_call 49; refine (c2 _).mono ?_; rintro e w2 ⟨rfl, rfl⟩)
            | (go_at_call 51; refine (d1 _).mono ?_; rintro e w2 ⟨rfl, b2⟩; have HB := Lib.hid (bthen b1' b2); have HW := Lib.hid (W1.out.below b2 W1.out.inside); obtain ⟨k0, k1, k2, k3, k4, f0, f1, f2, f3, f4⟩ := whole5f HW.out; clear b2 b1'))
          have hF := whole5 (Whole.set5 HW.out (.int .i64 k) (.string x) (.int .i64 n) (.int .i64 0) (.int .i64 0))
          refine bodyPost_ret (v := tokR k x n z e) (by simp [results, Try.results40, go_sem, tokR, hF]) rfl ⟨rfl, ?_⟩
          exact Below.set5 HB.out (Nat.le_refl _) _ _ _ _ _
        · have q1 : (((Utf8.decode t 0).1 : Int) == 34) = false := by rw [c3]; simp; omega
          have d1 := fun w => tkMark t w hs h0 hsm hdg h35' hq
          rw [hsm] at c1
          rw [hdg] at c2
          rw [hv] at d1 ⊢
          have HV := Lib.hid hv
          simp only [tokR] at d1
          clear hv hsm hdg c3 hq
          go_enter Try.func40, Try.ntmps40
          go_wp2_with (first
            | (go_at_call 46; refine (c0 _).mono ?_; rintro e w1 ⟨rfl, b1⟩; have b1' := bthen ((Below.refl w.heap.size w).alloc (Nat.le_refl _) _) b1; have W1 := Lib.hid ((Whole.made w 40 #[.int .i64 0, .string ⟨#[]⟩, .int .i64 0, .int .i64 0, .int .i64 0]).below b1 (by simp)); clear b1)
            | (go_at_call 47; refine (c1 _).mono ?_; rintro e w2 ⟨rfl, rfl⟩)
            | (go_at_call 49; refine (c2 _).mono ?_; rintro e w2 ⟨rfl, rfl⟩)
            | (go_at_call 52; refine (d1 _).mono ?_; rintro e w2 ⟨rfl, b2⟩; have HB := Lib.hid (bthen b1' b2); have HW := Lib.hid (W1.out.below b2 W1.out.inside); obtain ⟨k0, k1, k2, k3, k4, f0, f1, f2, f3, f4⟩ := whole5f HW.out; clear b2 b1'))
          have hF := whole5 (Whole.set5 HW.out (.int .i64 k) (.string x) (.int .i64 n) (.int .i64 0) (.int .i64 0))
          refine bodyPost_ret (v := tokR k x n z e) (by simp [results, Try.results40, go_sem, tokR, hF]) rfl ⟨rfl, ?_⟩
          exact Below.set5 HB.out (Nat.le_refl _) _ _ _ _ _
  · have he : t = ⟨#[]⟩ := by
      apply ByteArray.ext
      apply Array.eq_empty_of_size_eq_zero
      have : t.data.size = t.size := rfl
      omega
    subst he
    have hv : firstV ⟨#[]⟩ = tokR 0 ⟨#[]⟩ 0 0 0 := by kernel_rfl
    have HV := Lib.hid hv
    clear hv h35
    go_enter Try.func40, Try.ntmps40
    go_wp2
    refine bodyPost_ret (v := tokR 0 ⟨#[]⟩ 0 0 0) (by simp [results, Try.results40, go_sem, tokR]) rfl ⟨by rw [HV.out], ?_⟩
    exact (Below.refl _ _).alloc (Nat.le_refl _) _
end Go.Proofs.Ytnlnkjjegaihcaa
