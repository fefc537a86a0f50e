/-
  The contracts of the document's answer for layer 5: what is read: truths and texts. Conditions: the bytes fit in memory.
-/
import Derived.Test.YtnflahkpccfhaaaWireRef2
namespace Go.Proofs.Ytnflahkpccfhaaa
open Go.ChangeShapes Go.WideShapes Go.ChangeAt Go.RowKit
set_option linter.unusedVariables false
set_option linter.unusedSimpArgs false
theorem rBool5_any (S : ByteArray) (a E : Int) (hS : S.size ≤ 140737488355328) (a1 : 0 ≤ a) (a2 : a ≤ S.size) (w : World) :
    Calls Try.prog 23 #[rdV S (a, E)] w fun e w' => e = .returned (.tuple #[rdV S (rbool S a E).1, .bool (rbool S a E).2]) ∧ Below w.heap.size w w' := by
  have hst := fun e' w => stays_any S a 0 e' w
  by_cases hE : E = 0
  · subst hE
    by_cases hl : a = S.size
    · have R := Lib.hid (rbool_end (S := S) hl)
      have l1 : (a == (S.size : Int)) = true := by rw [beq_iff_eq]; exact hl
      unfold rdV at *
      clear hl
      go_enter Try.func23, Try.ntmps23
      go_wp2_with (go_at_call 39; refine (hst _ _).mono ?_; rintro e w1 ⟨rfl, b1⟩
                   have t1 := (Two.start w 42 #[.string S, .int .i64 a, .int .i64 0] 42 #[.string { data := #[] }, .int .i64 0, .int .i64 0]).next b1
                   have T1 := Lib.hid t1
                   obtain ⟨d3, d4, d5, z3, z4, z5⟩ := whole3 t1.k1
                   clear b1 t1)
      refine bodyPost_ret (v := .tuple #[.agg #[.string S, .int .i64 a, .int .i64 2], .bool false]) (by simp [results, Try.results23, go_sem, d3, d4, d5]) rfl ⟨?_, (((T1.out.set1 0 _).set1 1 _).set1 2 _).below⟩
      rw [R.out]
    · have l1 : (a == (S.size : Int)) = false := by rw [beq_eq_false_iff_ne]; exact hl
      obtain ⟨i, rfl⟩ : ∃ i : Nat, a = i := ⟨a.toNat, by omega⟩
      have hi : i < S.size := by omega
      have b0 : gB S i = (S[i]'hi).toNat := gB_eq S i hi
      have hlt := gB_lt S i
      by_cases hc : 1 < gB S i
      · have R := Lib.hid (rbool_far (S := S) hl (by rw [Int.toNat_natCast]; exact hc))
        have q1 : (((S[i]'hi).toNat : Int) != 0) = true := by rw [bne_iff_ne]; omega
        have q2 : (((S[i]'hi).toNat : Int) != 1) = true := by rw [bne_iff_ne]; omega
        clear b0 hc
        unfold rdV at *
        go_enter Try.func23, Try.ntmps23
        go_wp2_with (go_at_call 39; refine (hst _ _).mono ?_; rintro e w1 ⟨rfl, b1⟩
                     have t1 := (Two.start w 42 #[.string S, .int .i64 i, .int .i64 0] 42 #[.string { data := #[] }, .int .i64 0, .int .i64 0]).next b1
                     have T1 := Lib.hid t1
                     obtain ⟨d3, d4, d5, z3, z4, z5⟩ := whole3 t1.k1
                     clear b1 t1)
        refine bodyPost_ret (v := .tuple #[.agg #[.string S, .int .i64 i, .int .i64 4], .bool false]) (by simp [results, Try.results23, go_sem, d3, d4, d5]) rfl ⟨?_, (((T1.out.set1 0 _).set1 1 _).set1 2 _).below⟩
        rw [R.out]
      · have R := Lib.hid (rbool_ok (S := S) hl (by rw [Int.toNat_natCast]; omega))
        by_cases h1 : gB S i = 1
        · have q1 : (((S[i]'hi).toNat : Int) != 0) = true := by rw [bne_iff_ne]; omega
          have q2 : (((S[i]'hi).toNat : Int) != 1) = false := by rw [bne_eq_false_iff_eq]; omega
          have q3 : (((S[i]'hi).toNat : Int) == 1) = true := by rw [beq_iff_eq]; omega
          have H1 := Lib.hid h1
          clear b0 hc hst h1
          unfold rdV at *
          go_enter Try.func23, Try.ntmps23
          go_wp2
          refine bodyPost_ret (v := .tuple #[.agg #[.string S, .int .i64 (i + 1), .int .i64 0], .bool true]) (by simp [results, Try.results23, go_sem]) rfl ⟨?_, below_two _ _ _⟩
          rw [R.out, Int.toNat_natCast, H1.out]; rfl
        · have q1 : (((S[i]'hi).toNat : Int) != 0) = false := by rw [bne_eq_false_iff_eq]; omega
          have q2 : (((S[i]'hi).toNat : Int) != 1) = true := by rw [bne_iff_ne]; omega
          have q3 : (((S[i]'hi).toNat : Int) == 1) = false := by rw [beq_eq_false_iff_ne]; omega
          have H1 := Lib.hid (decide_eq_false h1)
          clear b0 hc hst h1
          unfold rdV at *
          go_enter Try.func23, Try.ntmps23
          go_wp2
          refine bodyPost_ret (v := .tuple #[.agg #[.string S, .int .i64 (i + 1), .int .i64 0], .bool false]) (by simp [results, Try.results23, go_sem]) rfl ⟨?_, below_two _ _ _⟩
          rw [R.out, Int.toNat_natCast, H1.out]
  · have hE2 : (E != 0) = true := by rw [bne_iff_ne]; exact hE
    have R := Lib.hid (rbool_bad (S := S) (a := a) hE)
    clear hst
    unfold rdV at *
    go_enter Try.func23, Try.ntmps23
    go_wp2
    refine bodyPost_ret (v := .tuple #[.agg #[.string S, .int .i64 a, .int .i64 E], .bool false]) (by simp [results, Try.results23, go_sem]) rfl ⟨?_, below_two _ _ _⟩
    rw [R.out]
set_option maxHeartbeats 1600000 in
theorem rTake5_any (S : ByteArray) (a E most : Int) (hS : S.size ≤ 140737488355328) (a1 : 0 ≤ a) (a2 : a ≤ S.size) (w : World) :
    Calls Try.prog 25 #[rdV S (a, E), .int .i64 most] w fun e w' => e = .returned (.tuple #[rdV S (rtext S a E most).1, .string (rtext S a E most).2]) ∧ Below w.heap.size w w' := by
  have hn := fun w => rNum5_any S a E most hS (by omega) (by omega) w
  have hst := fun e' w => stays_any S a E e' w
  obtain ⟨x, hx⟩ : ∃ x, rnum S a E most = x := ⟨_, rfl⟩
  have hT1 := rtext_err hx
  have hT2 := rtext_far hx
  have hT3 := rtext_ok hx
  have hcs : x.1.2 = 0 → E = 0 ∧ 0 ≤ x.1.1 ∧ x.1.1 ≤ S.size ∧ 0 ≤ x.2 ∧ x.2 ≤ 2147483647 := by
    intro h0
    by_cases hE : E = 0
    · subst hE
      have := rnum_cases S a most a1 a2
      rw [hx] at this
      rcases this with h | h
      · exact absurd h0 h.1
      · exact ⟨rfl, by omega, h.2.2.1, h.2.2.2⟩
    · rw [rnum_bad hE] at hx
      subst hx
      exact absurd h0 hE
  rw [hx] at hn
  clear hx
  obtain ⟨⟨a', E'⟩, n⟩ := x
  simp only at hn hT1 hT2 hT3 hcs
  by_cases hE' : E' = 0
  · subst hE'
    obtain ⟨rfl, p1, p2, p3, p4⟩ := hcs rfl
    by_cases hf : n > S.size - a'
    · have R := Lib.hid (hT2 rfl hf)
      have q1 : decide ((S.size : Int) - a' < n) = true := by simp; omega
      have q2 : (S.size : Int) - a' < n := by omega
      clear hf hT1 hT2 hT3 hcs
      unfold rdV at *
      go_enter Try.func25, Try.ntmps25
      go_wp2_with (first
        | (go_at_call 19; refine (hn _).mono ?_; rintro e w1 ⟨rfl, b1⟩
           have t1 := (Two.start w 42 #[.string S, .int .i64 a, .int .i64 0] 42 #[.string { data := #[] }, .int .i64 0, .int .i64 0]).next b1
           have T1 := Lib.hid t1
           obtain ⟨d0, d1, d2, _, _, _⟩ := whole3 t1.k0
           obtain ⟨d3, d4, d5, z3, z4, z5⟩ := whole3 t1.k1
           have l0 := t1.k0.inside
           have l1 := t1.k1.inside
           clear b1 t1)
        | (go_at_call 39; refine (hst _ _).mono ?_; rintro e w2 ⟨rfl, b2⟩
           have t2 := (T1.out.next (below_more (Below.refl _ w1) (.cells #[.string S, .int .i64 a', .int .i64 0] 42))).next b2
           have T2 := Lib.hid t2
           obtain ⟨e3, e4, e5, y3, y4, y5⟩ := whole3 t2.k1
           clear b2 t2))
      refine bodyPost_ret (v := .tuple #[.agg #[.string S, .int .i64 a, .int .i64 2], .string { data := #[] }]) (by simp [results, Try.results25, go_sem, e3, e4, e5]) rfl ⟨?_, (((T2.out.set1 0 _).set1 1 _).set1 2 _).below⟩
      rw [R.out]; rfl
    · have R := Lib.hid (hT3 rfl hf)
      have q1 : decide (S.size - a' < n) = false := by simp; omega
      have q2 : ¬ ((S.size : Int) - a' < n) := by omega
      have q3 : a' + n ≤ (S.size : Int) := by omega
      have q4 : a' ≤ a' + n := by omega
      clear hT1 hT2 hT3 hcs hst hf
      unfold rdV at *
      go_enter Try.func25, Try.ntmps25
      go_wp2_with (first
        | (go_at_call 19; refine (hn _).mono ?_; rintro e w1 ⟨rfl, b1⟩
           have t1 := (Two.start w 42 #[.string S, .int .i64 a, .int .i64 0] 42 #[.string { data := #[] }, .int .i64 0, .int .i64 0]).next b1
           have T1 := Lib.hid t1
           obtain ⟨d0, d1, d2, _, _, _⟩ := whole3 t1.k0
           obtain ⟨d3, d4, d5, z3, z4, z5⟩ := whole3 t1.k1
           have l0 := t1.k0.inside
           have l1 := t1.k1.inside
           clear b1 t1))
      go_region
      go_wp2
      refine bodyPost_ret (v := .tuple #[.agg #[.string S, .int .i64 (a' + n), .int .i64 0], .string (S.extract a'.toNat (a' + n).toNat)]) (by simp [results, Try.results25, go_sem, l1, d3, d4, d5]) rfl ⟨?_, ?_⟩
      · rw [R.out]
      · have B := (((T1.out.set1 0 (.string S)).set1 1 (.int .i64 (a' + n))).set1 2 (.int .i64 0)).below
        exact below_drew1 (B.alloc B.size _)
  · have hE2 : (E' != 0) = true := by rw [bne_iff_ne]; exact hE'
    have R := Lib.hid (hT1 hE')
    clear hT1 hT2 hT3 hcs hst
    unfold rdV at *
    go_enter Try.func25, Try.ntmps25
    go_wp2_with (first
        | (go_at_call 19; refine (hn _).mono ?_; rintro e w1 ⟨rfl, b1⟩
           have t1 := (Two.start w 42 #[.string S, .int .i64 a, .int .i64 E] 42 #[.string { data := #[] }, .int .i64 0, .int .i64 0]).next b1
           have T1 := Lib.hid t1
           obtain ⟨d0, d1, d2, _, _, _⟩ := whole3 t1.k0
           obtain ⟨d3, d4, d5, z3, z4, z5⟩ := whole3 t1.k1
           have l0 := t1.k0.inside
           have l1 := t1.k1.inside
           clear b1 t1))
    refine bodyPost_ret (v := .tuple #[.agg #[.string S, .int .i64 a', .int .i64 E'], .string { data := #[] }]) (by simp [results, Try.results25, go_sem, l1, d3, d4, d5]) rfl ⟨?_, ?_⟩
    · rw [R.out]; rfl
    · have B := (((T1.out.set1 0 (.string S)).set1 1 (.int .i64 a')).set1 2 (.int .i64 E')).below
      exact B.alloc B.size _
end Go.Proofs.Ytnflahkpccfhaaa
