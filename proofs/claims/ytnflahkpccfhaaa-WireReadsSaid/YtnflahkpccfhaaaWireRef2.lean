/-
  The contracts of the document's answer for layer 5: what is read. Conditions: the bytes fit in memory.
-/
import Derived.Test.YtnflahkpccfhaaaWireRef
import Derived.Test.YtnflahkpccfhaaaTwo
namespace Go.Proofs.Ytnflahkpccfhaaa
open Go.ChangeShapes Go.WideShapes Go.ChangeAt Go.RowKit
set_option linter.unusedVariables false
set_option linter.unusedSimpArgs false
def rdV (S : ByteArray) (x : Int × Int) : Value := .agg #[.string S, .int .i64 x.1, .int .i64 x.2]
theorem stays_any (S : ByteArray) (a E e' : Int) (w : World) :
    Calls Try.prog 39 #[rdV S (a, E), .int .i64 e'] w fun e w' => e = .returned (rdV S (a, e')) ∧ Below w.heap.size w w' := by
  unfold rdV
  go_enter Try.func39, Try.ntmps39
  go_wp2
  refine bodyPost_ret (v := .agg #[.string S, .int .i64 a, .int .i64 e']) (by simp [results, Try.results39, go_sem]) rfl ⟨rfl, below_two _ _ _⟩
theorem rFail5_any (S : ByteArray) (a E x : Int) (w : World) :
    Calls Try.prog 27 #[rdV S (a, E), .int .i64 x] w fun e w' => e = .returned (rdV S (a, rfail E x)) ∧ Below w.heap.size w w' := by
  by_cases hE : E = 0
  · subst hE
    have R := Lib.hid (show rfail 0 x = x from if_pos rfl)
    unfold rdV
    go_enter Try.func27, Try.ntmps27
    go_wp2
    refine bodyPost_ret (v := .agg #[.string S, .int .i64 a, .int .i64 x]) (by simp [results, Try.results27, go_sem]) rfl ⟨?_, below_two _ _ _⟩
    rw [R.out]
  · have hE2 : (E == 0) = false := by rw [beq_eq_false_iff_ne]; exact hE
    have R := Lib.hid (show rfail E x = E from if_neg hE)
    unfold rdV
    go_enter Try.func27, Try.ntmps27
    go_wp2
    refine bodyPost_ret (v := .agg #[.string S, .int .i64 a, .int .i64 E]) (by simp [results, Try.results27, go_sem]) rfl ⟨?_, below_two _ _ _⟩
    rw [R.out]
theorem rEnd5_any (S : ByteArray) (a E : Int) (hS : S.size ≤ 140737488355328) (w : World) :
    Calls Try.prog 31 #[rdV S (a, E)] w fun e w' => e = .returned (rdV S (a, rend S a E)) ∧ Below w.heap.size w w' := by
  by_cases hE : E = 0
  · subst hE
    by_cases hl : a < S.size
    · have R := Lib.hid (show rend S a 0 = 4 from if_pos ⟨rfl, hl⟩)
      unfold rdV
      go_enter Try.func31, Try.ntmps31
      go_wp2
      refine bodyPost_ret (v := .agg #[.string S, .int .i64 a, .int .i64 4]) (by simp [results, Try.results31, go_sem]) rfl ⟨?_, below_two _ _ _⟩
      rw [R.out]
    · have hl2 : decide (a < S.size) = false := by simp; omega
      have R := Lib.hid (show rend S a 0 = 0 from if_neg (fun c => hl c.2))
      unfold rdV
      go_enter Try.func31, Try.ntmps31
      go_wp2
      refine bodyPost_ret (v := .agg #[.string S, .int .i64 a, .int .i64 0]) (by simp [results, Try.results31, go_sem]) rfl ⟨?_, below_two _ _ _⟩
      rw [R.out]
  · have hE2 : (E == 0) = false := by rw [beq_eq_false_iff_ne]; exact hE
    have R := Lib.hid (show rend S a E = E from if_neg (fun c => hE c.1))
    unfold rdV
    go_enter Try.func31, Try.ntmps31
    go_wp2
    refine bodyPost_ret (v := .agg #[.string S, .int .i64 a, .int .i64 E]) (by simp [results, Try.results31, go_sem]) rfl ⟨?_, below_two _ _ _⟩
    rw [R.out]
theorem rNum5_any (S : ByteArray) (a E most : Int) (hS : S.size ≤ 140737488355328) (a1 : -9223372036854775808 ≤ a) (a2 : a ≤ 9223372036854775807) (w : World) :
    Calls Try.prog 19 #[rdV S (a, E), .int .i64 most] w fun e w' => e = .returned (.tuple #[rdV S (rnum S a E most).1, .int .i64 (rnum S a E most).2]) ∧ Below w.heap.size w w' := by
  have ht := fun w => rTake_any S a w hS a1 a2
  have hst := fun e' w => stays_any S a 0 e' w
  by_cases hE : E = 0
  · subst hE
    obtain ⟨t, hx⟩ : ∃ t, vtakeOf S a = t := ⟨_, rfl⟩
    rw [hx] at ht
    obtain ⟨n, en, c⟩ := t
    unfold takeV3 at ht
    simp only at ht
    by_cases hc : c = 0
    · subst hc
      by_cases hf : n > most ∧ n > 0
      · have R := Lib.hid (show rnum S a 0 most = ((a, 12), 0) by unfold rnum; rw [if_pos rfl, hx, if_pos rfl, if_pos hf])
        clear hx
        obtain ⟨f1, f2⟩ := hf
        unfold rdV at *
        go_enter Try.func19, Try.ntmps19
        go_wp2_with (first
          | (go_at_call 38; refine (ht _).mono ?_; rintro e w1 ⟨rfl, b1⟩
             have t1 := (Two.start w 42 #[.string S, .int .i64 a, .int .i64 0] 42 #[.string { data := #[] }, .int .i64 0, .int .i64 0]).next b1
             have T1 := Lib.hid t1
             obtain ⟨d0, d1, d2, _, _, _⟩ := whole3 t1.k0
             obtain ⟨d3, d4, d5, z3, z4, z5⟩ := whole3 t1.k1
             clear b1 t1)
          | (go_at_call 39; refine (hst _ _).mono ?_; rintro e w2 ⟨rfl, b2⟩
             have t2 := T1.out.next b2
             have T2 := Lib.hid t2
             obtain ⟨e3, e4, e5, y3, y4, y5⟩ := whole3 t2.k1
             clear b2 t2))
        refine bodyPost_ret (v := .tuple #[.agg #[.string S, .int .i64 a, .int .i64 12], .int .i64 0]) (by simp [results, Try.results19, go_sem, e3, e4, e5, y3, y4, y5]) rfl ⟨?_, (((T2.out.set1 0 _).set1 1 _).set1 2 _).below⟩
        rw [R.out]
      · have R := Lib.hid (show rnum S a 0 most = ((en, 0), n) by unfold rnum; rw [if_pos rfl, hx, if_pos rfl, if_neg hf])
        clear hx hst
        unfold rdV at *
        go_enter Try.func19, Try.ntmps19
        go_wp2_with (first
          | (go_at_call 38; refine (ht _).mono ?_; rintro e w1 ⟨rfl, b1⟩
             have t1 := (Two.start w 42 #[.string S, .int .i64 a, .int .i64 0] 42 #[.string { data := #[] }, .int .i64 0, .int .i64 0]).next b1
             have T1 := Lib.hid t1
             obtain ⟨d0, d1, d2, _, _, _⟩ := whole3 t1.k0
             obtain ⟨d3, d4, d5, z3, z4, z5⟩ := whole3 t1.k1
             clear b1 t1))
        all_goals
          refine bodyPost_ret (v := .tuple #[.agg #[.string S, .int .i64 en, .int .i64 0], .int .i64 n]) (by simp [results, Try.results19, go_sem, d0, d1, d2, d3, d4, d5, z3, z4, z5]) rfl ⟨?_, (((T1.out.set1 0 _).set1 1 _).set1 2 _).below⟩
          rw [R.out]
    · have R := Lib.hid (show rnum S a 0 most = ((a, c), 0) by unfold rnum; rw [if_pos rfl, hx, if_neg hc])
      have hc2 : (c != 0) = true := by rw [bne_iff_ne]; exact hc
      clear hx
      unfold rdV at *
      go_enter Try.func19, Try.ntmps19
      go_wp2_with (first
        | (go_at_call 38; refine (ht _).mono ?_; rintro e w1 ⟨rfl, b1⟩
           have t1 := (Two.start w 42 #[.string S, .int .i64 a, .int .i64 0] 42 #[.string { data := #[] }, .int .i64 0, .int .i64 0]).next b1
           have T1 := Lib.hid t1
           obtain ⟨d0, d1, d2, _, _, _⟩ := whole3 t1.k0
           obtain ⟨d3, d4, d5, z3, z4, z5⟩ := whole3 t1.k1
           clear b1 t1)
        | (go_at_call 39; refine (hst _ _).mono ?_; rintro e w2 ⟨rfl, b2⟩
           have t2 := T1.out.next b2
           have T2 := Lib.hid t2
           obtain ⟨e3, e4, e5, y3, y4, y5⟩ := whole3 t2.k1
           clear b2 t2))
      refine bodyPost_ret (v := .tuple #[.agg #[.string S, .int .i64 a, .int .i64 c], .int .i64 0]) (by simp [results, Try.results19, go_sem, e3, e4, e5, y3, y4, y5]) rfl ⟨?_, (((T2.out.set1 0 _).set1 1 _).set1 2 _).below⟩
      rw [R.out]
  · have hE2 : (E != 0) = true := by rw [bne_iff_ne]; exact hE
    have R := Lib.hid (show rnum S a E most = ((a, E), 0) by unfold rnum; rw [if_neg hE])
    clear ht hst
    unfold rdV at *
    go_enter Try.func19, Try.ntmps19
    go_wp2
    refine bodyPost_ret (v := .tuple #[.agg #[.string S, .int .i64 a, .int .i64 E], .int .i64 0]) (by simp [results, Try.results19, go_sem]) rfl ⟨?_, below_two _ _ _⟩
    rw [R.out]
theorem rSig5_any (S : ByteArray) (a E least most : Int) (hS : S.size ≤ 140737488355328) (a1 : -9223372036854775808 ≤ a) (a2 : a ≤ 9223372036854775807) (w : World) :
    Calls Try.prog 21 #[rdV S (a, E), .int .i64 least, .int .i64 most] w fun e w' => e = .returned (.tuple #[rdV S (rsig S a E least most).1, .int .i64 (rsig S a E least most).2]) ∧ Below w.heap.size w w' := by
  have ht := fun w => rTakeSigned_any S a w hS a1 a2
  have hst := fun e' w => stays_any S a 0 e' w
  by_cases hE : E = 0
  · subst hE
    obtain ⟨t, hx⟩ : ∃ t, stakeOf S a = t := ⟨_, rfl⟩
    rw [hx] at ht
    obtain ⟨n, en, c⟩ := t
    unfold takeV3 at ht
    simp only at ht
    by_cases hc : c = 0
    · subst hc
      by_cases hf : n < least ∨ n > most
      · have R := Lib.hid (show rsig S a 0 least most = ((a, 12), 0) by unfold rsig; rw [if_pos rfl, hx, if_pos rfl, if_pos hf])
        clear hx
        by_cases f1 : n < least
        · have f2 : decide (n < least) = true := by simp [f1]
          clear hf
          unfold rdV at *
          go_enter Try.func21, Try.ntmps21
          go_wp2_with (first
            | (go_at_call 42; refine (ht _).mono ?_; rintro e w1 ⟨rfl, b1⟩
               have t1 := (Two.start w 42 #[.string S, .int .i64 a, .int .i64 0] 42 #[.string { data := #[] }, .int .i64 0, .int .i64 0]).next b1
               have T1 := Lib.hid t1
               obtain ⟨d0, d1, d2, _, _, _⟩ := whole3 t1.k0
               obtain ⟨d3, d4, d5, z3, z4, z5⟩ := whole3 t1.k1
               clear b1 t1)
            | (go_at_call 39; refine (hst _ _).mono ?_; rintro e w2 ⟨rfl, b2⟩
               have t2 := T1.out.next b2
               have T2 := Lib.hid t2
               obtain ⟨e3, e4, e5, y3, y4, y5⟩ := whole3 t2.k1
               clear b2 t2))
          refine bodyPost_ret (v := .tuple #[.agg #[.string S, .int .i64 a, .int .i64 12], .int .i64 0]) (by simp [results, Try.results21, go_sem, e3, e4, e5, y3, y4, y5]) rfl ⟨?_, (((T2.out.set1 0 _).set1 1 _).set1 2 _).below⟩
          rw [R.out]
        · have f2 : decide (n < least) = false := by simp [f1]
          have f3 : most < n := by omega
          clear hf
          unfold rdV at *
          go_enter Try.func21, Try.ntmps21
          go_wp2_with (first
            | (go_at_call 42; refine (ht _).mono ?_; rintro e w1 ⟨rfl, b1⟩
               have t1 := (Two.start w 42 #[.string S, .int .i64 a, .int .i64 0] 42 #[.string { data := #[] }, .int .i64 0, .int .i64 0]).next b1
               have T1 := Lib.hid t1
               obtain ⟨d0, d1, d2, _, _, _⟩ := whole3 t1.k0
               obtain ⟨d3, d4, d5, z3, z4, z5⟩ := whole3 t1.k1
               clear b1 t1)
            | (go_at_call 39; refine (hst _ _).mono ?_; rintro e w2 ⟨rfl, b2⟩
               have t2 := T1.out.next b2
               have T2 := Lib.hid t2
               obtain ⟨e3, e4, e5, y3, y4, y5⟩ := whole3 t2.k1
               clear b2 t2))
          refine bodyPost_ret (v := .tuple #[.agg #[.string S, .int .i64 a, .int .i64 12], .int .i64 0]) (by simp [results, Try.results21, go_sem, e3, e4, e5, y3, y4, y5]) rfl ⟨?_, (((T2.out.set1 0 _).set1 1 _).set1 2 _).below⟩
          rw [R.out]
      · have R := Lib.hid (show rsig S a 0 least most = ((en, 0), n) by unfold rsig; rw [if_pos rfl, hx, if_pos rfl, if_neg hf])
        clear hx hst
        have f1 : decide (n < least) = false := by simp; omega
        have f2 : decide (most < n) = false := by simp; omega
        clear hf
        unfold rdV at *
        go_enter Try.func21, Try.ntmps21
        go_wp2_with (first
          | (go_at_call 42; refine (ht _).mono ?_; rintro e w1 ⟨rfl, b1⟩
             have t1 := (Two.start w 42 #[.string S, .int .i64 a, .int .i64 0] 42 #[.string { data := #[] }, .int .i64 0, .int .i64 0]).next b1
             have T1 := Lib.hid t1
             obtain ⟨d0, d1, d2, _, _, _⟩ := whole3 t1.k0
             obtain ⟨d3, d4, d5, z3, z4, z5⟩ := whole3 t1.k1
             clear b1 t1))
        refine bodyPost_ret (v := .tuple #[.agg #[.string S, .int .i64 en, .int .i64 0], .int .i64 n]) (by simp [results, Try.results21, go_sem, d0, d1, d2, d3, d4, d5, z3, z4, z5]) rfl ⟨?_, (((T1.out.set1 0 _).set1 1 _).set1 2 _).below⟩
        rw [R.out]
    · have R := Lib.hid (show rsig S a 0 least most = ((a, c), 0) by unfold rsig; rw [if_pos rfl, hx, if_neg hc])
      have hc2 : (c != 0) = true := by rw [bne_iff_ne]; exact hc
      clear hx
      unfold rdV at *
      go_enter Try.func21, Try.ntmps21
      go_wp2_with (first
        | (go_at_call 42; refine (ht _).mono ?_; rintro e w1 ⟨rfl, b1⟩
           have t1 := (Two.start w 42 #[.string S, .int .i64 a, .int .i64 0] 42 #[.string { data := #[] }, .int .i64 0, .int .i64 0]).next b1
           have T1 := Lib.hid t1
           obtain ⟨d0, d1, d2, _, _, _⟩ := whole3 t1.k0
           obtain ⟨d3, d4, d5, z3, z4, z5⟩ := whole3 t1.k1
           clear b1 t1)
        | (go_at_call 39; refine (hst _ _).mono ?_; rintro e w2 ⟨rfl, b2⟩
           have t2 := T1.out.next b2
           have T2 := Lib.hid t2
           obtain ⟨e3, e4, e5, y3, y4, y5⟩ := whole3 t2.k1
           clear b2 t2))
      refine bodyPost_ret (v := .tuple #[.agg #[.string S, .int .i64 a, .int .i64 c], .int .i64 0]) (by simp [results, Try.results21, go_sem, e3, e4, e5, y3, y4, y5]) rfl ⟨?_, (((T2.out.set1 0 _).set1 1 _).set1 2 _).below⟩
      rw [R.out]
  · have hE2 : (E != 0) = true := by rw [bne_iff_ne]; exact hE
    have R := Lib.hid (show rsig S a E least most = ((a, E), 0) by unfold rsig; rw [if_neg hE])
    clear ht hst
    unfold rdV at *
    go_enter Try.func21, Try.ntmps21
    go_wp2
    refine bodyPost_ret (v := .tuple #[.agg #[.string S, .int .i64 a, .int .i64 E], .int .i64 0]) (by simp [results, Try.results21, go_sem]) rfl ⟨?_, below_two _ _ _⟩
    rw [R.out]
end Go.Proofs.Ytnflahkpccfhaaa
