/-
  The law of the round trip of layer 4: it returns true for every input and writes nothing that was there. No conditions.
-/
import Derived.Test.YteekacgcnaoadaaVariLaws
import Derived.Test.YteekacgcnaoadaaVariBackMath
namespace Go.Proofs.Yteekacgcnaoadaa
open Go.ChangeShapes Go.WideShapes Go.ChangeAt Go.RowKit
set_option linter.unusedVariables false
set_option linter.unusedSimpArgs false
/-- The way through the first part: the number is in range and cut inside, or not cut; or it is below, or above. -/
def Part (n cut : Int) : Prop := (0 ≤ n ∧ n ≤ 2147483647 ∧ 0 ≤ cut ∧ cut < (bytesS n).size) ∨ (0 ≤ n ∧ n ≤ 2147483647 ∧ cut < 0) ∨ (0 ≤ n ∧ n ≤ 2147483647 ∧ 0 ≤ cut ∧ ((bytesS n).size : Int) ≤ cut) ∨ n < 0 ∨ (0 ≤ n ∧ 2147483647 < n)
set_option maxHeartbeats 40000000 in
set_option maxRecDepth 100000 in
theorem walk_VariBack (n : Int) (s : ByteArray) (cut : Int) (w : World) (wn : (Lit.int .i64 n).wf = true) (ws : s.size ≤ maxLen) (wc : (Lit.int .i64 cut).wf = true) :
    Calls Try.prog 5 #[.int .i64 n, .string s, .int .i64 cut] w fun e w' => e = .returned (.bool true) ∧ Below w.heap.size w w' := by
  unfold maxLen at ws
  obtain ⟨n1, n2⟩ := bounds_i64 wn
  obtain ⟨k1, k2⟩ := bounds_i64 wc
  clear wn wc
  by_cases hz : 200 < s.size
  · have hz1 : 200 < (s.size : Int) := by omega
    go_enter Try.func5, Try.ntmps5
    go_wp2_with (go_at_call 11; refine (lives04 _).mono ?_; rintro e w1 ⟨rfl, hb1⟩)
    go_ret
    exact ⟨rfl, hb1⟩
  · have hz1 : ¬ 200 < (s.size : Int) := by omega
    have hsz : s.size ≤ 200 := by omega
    have p1 := Put_any n n1 n2
    have p2 := PutSigned_any n n1 n2
    have q1 := bytesS_le n
    have q2 := signedS_le n
    have t1 := fun w => Take_any (bytesS n ++ s) 0 w (by rw [ByteArray.size_append]; omega) (by omega) (by omega)
    have t2 := fun w => TakeSigned_any (signedS n ++ s) 0 w (by rw [ByteArray.size_append]; omega) (by omega) (by omega)
    have t3 := fun w => Take_any s 0 w (by omega) (by omega) (by omega)
    have t4 := fun w => Take_any ((bytesS n).extract 0 cut.toNat) 0 w (by rw [ByteArray.size_extract]; omega) (by omega) (by omega)
    have hpart : Part n cut := by unfold Part; omega
    have hsig : (signedS n).toList.isEmpty = true ∨ (signedS n).toList.isEmpty = false ∧ n ≤ 1073741823 ∧ stakeOf (signedS n ++ s) 0 = (n, ((signedS n).size : Int), 0) := by
      by_cases h : -1073741824 ≤ n ∧ n ≤ 1073741823
      · right
        refine ⟨?_, h.2, stake_enc n s h.1 h.2⟩
        have hz := zig_in h.1 h.2
        have := (bytesS_lo hz.1 hz.2).1
        rw [← signedS_in h.1 h.2] at this
        cases hl : (signedS n).toList with
        | nil =>
          rw [ByteArray.toList_eq] at hl
          have h2 : (signedS n).data.size = 0 := by rw [← Array.length_toList, hl]; rfl
          have h3 : (signedS n).size = (signedS n).data.size := rfl
          omega
        | cons x r => rfl
      · left
        rw [signedS_out (by omega), ByteArray.toList_eq]; rfl
    have htk : (∃ k e c, vtakeOf s 0 = (k, e, c) ∧ (c != 0) = true) ∨ ∃ k e, vtakeOf s 0 = (k, e, 0) ∧ -9223372036854775808 ≤ k ∧ k ≤ 9223372036854775807 ∧ 0 < e ∧ e ≤ (s.size : Int) ∧ ((bytesS k).toList == (s.extract 0 e.toNat).toList) = true := by
      obtain ⟨x, hx⟩ : ∃ x, vtakeOf s 0 = x := ⟨_, rfl⟩
      obtain ⟨k, e, c⟩ := x
      by_cases hc : c = 0
      · subst hc
        obtain ⟨b1, b2, b3, b4, b5⟩ := vtake_back s k e hx
        exact .inr ⟨k, e, hx, by omega, by omega, b3, b4, by rw [b5]; simp⟩
      · exact .inl ⟨k, e, c, hx, by rw [bne_iff_ne]; exact hc⟩
    have hpart2 : (0 ≤ n ∧ n ≤ 2147483647 ∧ 0 ≤ cut ∧ cut < (bytesS n).size ∧ 1 ≤ (bytesS n).size ∧ vtakeOf (bytesS n ++ s) 0 = (n, ((bytesS n).size : Int), 0) ∧ vtakeOf ((bytesS n).extract 0 cut.toNat) 0 = (0, 0, 2)) ∨ (0 ≤ n ∧ n ≤ 2147483647 ∧ 1 ≤ (bytesS n).size ∧ vtakeOf (bytesS n ++ s) 0 = (n, ((bytesS n).size : Int), 0) ∧ (cut < 0 ∨ 0 ≤ cut ∧ ((bytesS n).size : Int) ≤ cut)) ∨ n < 0 ∨ (0 ≤ n ∧ 2147483647 < n) := by
      unfold Part at hpart
      rcases hpart with h | h | h | h | h
      · exact .inl ⟨h.1, h.2.1, h.2.2.1, h.2.2.2, (bytesS_lo h.1 h.2.1).1, vtake_enc n s h.1 h.2.1, vtake_cut n cut h.1 h.2.1 h.2.2.1 h.2.2.2⟩
      · exact .inr (.inl ⟨h.1, h.2.1, (bytesS_lo h.1 h.2.1).1, vtake_enc n s h.1 h.2.1, .inl h.2.2⟩)
      · exact .inr (.inl ⟨h.1, h.2.1, (bytesS_lo h.1 h.2.1).1, vtake_enc n s h.1 h.2.1, .inr h.2.2⟩)
      · exact .inr (.inr (.inl h))
      · exact .inr (.inr (.inr h))
    clear hpart
    obtain ⟨x1, hx1⟩ : ∃ x, vtakeOf (bytesS n ++ s) 0 = x := ⟨_, rfl⟩
    obtain ⟨x2, hx2⟩ : ∃ x, stakeOf (signedS n ++ s) 0 = x := ⟨_, rfl⟩
    obtain ⟨x3, hx3⟩ : ∃ x, vtakeOf s 0 = x := ⟨_, rfl⟩
    obtain ⟨x4, hx4⟩ : ∃ x, vtakeOf ((bytesS n).extract 0 cut.toNat) 0 = x := ⟨_, rfl⟩
    rw [hx1] at t1 hpart2
    rw [hx2] at t2 hsig
    rw [hx3] at t3 htk
    rw [hx4] at t4 hpart2
    clear hx1 hx2 hx3 hx4
    generalize bytesS n = P at *
    generalize signedS n = S at *
    have c0 := Below.refl w.heap.size w
    rcases htk with ⟨k, e, c, rfl, h2⟩ | ⟨k, e, rfl, h3, h4, h5, h6, h7⟩
    · rcases hpart2 with ⟨g1, g2, g3, g4, g5, rfl, rfl⟩ | ⟨g1, g2, g5, rfl, g3 | ⟨g3, g4⟩⟩ | g1 | ⟨g1, g2⟩ <;> rcases hsig with h1 | ⟨h1, h0, rfl⟩
      all_goals first | (exfalso; omega) | skip
      all_goals
        go_enter Try.func5, Try.ntmps5
        go_wp2_with (first
          | (go_at_call 6; (with_reducible refine (p1 _).mono ?_); rintro e w1 ⟨rfl, b1⟩; have c1 := bthen (by assumption) b1)
          | (go_at_call 8; (with_reducible refine (p2 _).mono ?_); rintro e w1 ⟨rfl, b1⟩; have c1 := bthen (by assumption) b1)
          | (go_at_call 12; (with_reducible refine (t1 _).mono ?_); rintro e w1 ⟨rfl, rfl⟩; unfold takeV3)
          | (go_at_call 12; (with_reducible refine (t4 _).mono ?_); rintro e w1 ⟨rfl, rfl⟩; unfold takeV3)
          | (go_at_call 12; (with_reducible refine (t3 _).mono ?_); rintro e w1 ⟨rfl, rfl⟩; unfold takeV3)
          | (go_at_call 14; (with_reducible refine (t2 _).mono ?_); rintro e w1 ⟨rfl, rfl⟩; unfold takeV3))
        clear b1
        refine wp_region_noPanic ?_
        refine wp_region_held_drew (S := fun x => Below w.heap.size w x) (by kernel_rfl) (below_drew1 c1) (fun hHeld => ?_)
        refine wpAnyH_take (i := 0) (oi := ⟨some 109, _, _, _, _, _⟩) (v := .int .i64 c) rfl (by kernel_rfl) (by kernel_rfl) (by kernel_rfl) (fun _ _ _ h => h) (Or.inl ⟨by rfl, fun w2 hS => by go_simp⟩) (by assumption) ?_
        simp only [Act.put, List.setIfInBounds_toArray, List.set_cons_zero, List.set_cons_succ]
        refine wpAnyH_take (i := 1) (oi := ⟨some 110, _, _, _, _, _⟩) (v := .bool true) rfl (by kernel_rfl) (by kernel_rfl) (by kernel_rfl) (fun _ _ _ h => h) (Or.inl ⟨by rfl, fun w2 hS => by go_simp⟩) (by assumption) ?_
        simp only [Act.put, List.setIfInBounds_toArray, List.set_cons_zero, List.set_cons_succ]
        refine wpAnyH_take (i := 2) (oi := ⟨some 111, _, _, _, _, _⟩) (v := .bool true) rfl (by kernel_rfl) (by kernel_rfl) (by kernel_rfl) (fun _ _ _ h => h) (Or.inl ⟨by rfl, fun w2 hS => by go_simp⟩) (by assumption) ?_
        simp only [Act.put, List.setIfInBounds_toArray, List.set_cons_zero, List.set_cons_succ]
        refine wpAnyH_take (i := 3) (oi := ⟨some 112, _, _, _, _, _⟩) (v := undef) rfl (by kernel_rfl) (by kernel_rfl) (by kernel_rfl) (fun _ _ _ h => h) (Or.inr ⟨by rfl, rfl⟩) (by assumption) ?_
        simp only [Act.put, List.setIfInBounds_toArray, List.set_cons_zero, List.set_cons_succ]
        refine wpAnyH_take (i := 4) (oi := ⟨some 113, _, _, _, _, _⟩) (v := undef) rfl (by kernel_rfl) (by kernel_rfl) (by kernel_rfl) (fun _ _ _ h => h) (Or.inr ⟨by rfl, rfl⟩) (by assumption) ?_
        simp only [Act.put, List.setIfInBounds_toArray, List.set_cons_zero, List.set_cons_succ]
        refine wpAnyH_take (i := 5) (oi := ⟨some 114, _, _, _, _, _⟩) (v := undef) rfl (by kernel_rfl) (by kernel_rfl) (by kernel_rfl) (fun _ _ _ h => h) (Or.inr ⟨by rfl, rfl⟩) (by assumption) ?_
        simp only [Act.put, List.setIfInBounds_toArray, List.set_cons_zero, List.set_cons_succ]
        refine wpAnyH_take (i := 6) (oi := ⟨some 115, _, _, _, _, _⟩) (v := undef) rfl (by kernel_rfl) (by kernel_rfl) (by kernel_rfl) (fun _ _ _ h => h) (Or.inr ⟨by rfl, rfl⟩) (by assumption) ?_
        simp only [Act.put, List.setIfInBounds_toArray, List.set_cons_zero, List.set_cons_succ]
        refine wpAnyH_take (i := 7) (oi := ⟨some 116, _, _, _, _, _⟩) (v := undef) rfl (by kernel_rfl) (by kernel_rfl) (by kernel_rfl) (fun _ _ _ h => h) (Or.inr ⟨by rfl, rfl⟩) (by assumption) ?_
        simp only [Act.put, List.setIfInBounds_toArray, List.set_cons_zero, List.set_cons_succ]
        refine wpAnyH_take (i := 8) (oi := ⟨some 117, _, _, _, _, _⟩) (v := undef) rfl (by kernel_rfl) (by kernel_rfl) (by kernel_rfl) (fun _ _ _ h => h) (Or.inr ⟨by rfl, rfl⟩) (by assumption) ?_
        simp only [Act.put, List.setIfInBounds_toArray, List.set_cons_zero, List.set_cons_succ]
        refine wpAnyH_take (i := 9) (oi := ⟨some 118, _, _, _, _, _⟩) (v := undef) rfl (by kernel_rfl) (by kernel_rfl) (by kernel_rfl) (fun _ _ _ h => h) (Or.inr ⟨by rfl, rfl⟩) (by assumption) ?_
        simp only [Act.put, List.setIfInBounds_toArray, List.set_cons_zero, List.set_cons_succ]
        refine wpAnyH_take (i := 10) (oi := ⟨some 119, _, _, _, _, _⟩) (v := undef) rfl (by kernel_rfl) (by kernel_rfl) (by kernel_rfl) (fun _ _ _ h => h) (Or.inr ⟨by rfl, rfl⟩) (by assumption) ?_
        simp only [Act.put, List.setIfInBounds_toArray, List.set_cons_zero, List.set_cons_succ]
        refine wpAnyH_take (i := 11) (oi := ⟨some 120, _, _, _, _, _⟩) (v := undef) rfl (by kernel_rfl) (by kernel_rfl) (by kernel_rfl) (fun _ _ _ h => h) (Or.inr ⟨by rfl, rfl⟩) (by assumption) ?_
        simp only [Act.put, List.setIfInBounds_toArray, List.set_cons_zero, List.set_cons_succ]
        refine wpAnyH_take (i := 12) (oi := ⟨some 121, _, _, _, _, _⟩) (v := undef) rfl (by kernel_rfl) (by kernel_rfl) (by kernel_rfl) (fun _ _ _ h => h) (Or.inr ⟨by rfl, rfl⟩) (by assumption) ?_
        simp only [Act.put, List.setIfInBounds_toArray, List.set_cons_zero, List.set_cons_succ]
        refine wpAnyH_take (i := 13) (oi := ⟨some 122, _, _, _, _, _⟩) (v := undef) rfl (by kernel_rfl) (by kernel_rfl) (by kernel_rfl) (fun _ _ _ h => h) (Or.inr ⟨by rfl, rfl⟩) (by assumption) ?_
        simp only [Act.put, List.setIfInBounds_toArray, List.set_cons_zero, List.set_cons_succ]
        refine wpAnyH_take (i := 14) (oi := ⟨some 123, _, _, _, _, _⟩) (v := undef) rfl (by kernel_rfl) (by kernel_rfl) (by kernel_rfl) (fun _ _ _ h => h) (Or.inr ⟨by rfl, rfl⟩) (by assumption) ?_
        simp only [Act.put, List.setIfInBounds_toArray, List.set_cons_zero, List.set_cons_succ]
        refine wpAnyH_take (i := 15) (oi := ⟨some 124, _, _, _, _, _⟩) (v := undef) rfl (by kernel_rfl) (by kernel_rfl) (by kernel_rfl) (fun _ _ _ h => h) (Or.inr ⟨by rfl, rfl⟩) (by assumption) ?_
        simp only [Act.put, List.setIfInBounds_toArray, List.set_cons_zero, List.set_cons_succ]
        refine wpAnyH_take (i := 16) (oi := ⟨some 125, _, _, _, _, _⟩) (v := undef) rfl (by kernel_rfl) (by kernel_rfl) (by kernel_rfl) (fun _ _ _ h => h) (Or.inr ⟨by rfl, rfl⟩) (by assumption) ?_
        simp only [Act.put, List.setIfInBounds_toArray, List.set_cons_zero, List.set_cons_succ]
        refine wpAnyH_take (i := 17) (oi := ⟨some 126, _, _, _, _, _⟩) (v := undef) rfl (by kernel_rfl) (by kernel_rfl) (by kernel_rfl) (fun _ _ _ h => h) (Or.inr ⟨by rfl, rfl⟩) (by assumption) ?_
        simp only [Act.put, List.setIfInBounds_toArray, List.set_cons_zero, List.set_cons_succ]
        refine wpAnyH_take (i := 18) (oi := ⟨some 127, _, _, _, _, _⟩) (v := undef) rfl (by kernel_rfl) (by kernel_rfl) (by kernel_rfl) (fun _ _ _ h => h) (Or.inr ⟨by rfl, rfl⟩) (by assumption) ?_
        simp only [Act.put, List.setIfInBounds_toArray, List.set_cons_zero, List.set_cons_succ]
        refine wpAnyH_take (i := 19) (oi := ⟨some 128, _, _, _, _, _⟩) (v := .bool true) rfl (by kernel_rfl) (by kernel_rfl) (by kernel_rfl) (fun _ _ _ h => h) (Or.inl ⟨by rfl, fun w2 hS => by go_simp⟩) (by assumption) ?_
        simp only [Act.put, List.setIfInBounds_toArray, List.set_cons_zero, List.set_cons_succ]
        refine wpAnyH_take (i := 20) (oi := ⟨some 129, _, _, _, _, _⟩) (v := .bool true) rfl (by kernel_rfl) (by kernel_rfl) (by kernel_rfl) (fun _ _ _ h => h) (Or.inl ⟨by rfl, fun w2 hS => by go_simp⟩) (by assumption) ?_
        simp only [Act.put, List.setIfInBounds_toArray, List.set_cons_zero, List.set_cons_succ]
        refine wpAnyH_ready (rs := [21]) (by kernel_rfl) (by simp) ?_
        refine AllReadyH.cons (o := ⟨some 130, _, _, _, _, _⟩) rfl (fun K hK => ?_) AllReadyH.nil
        go_simp
        go_at_call 11
        (with_reducible refine (lives04 _).mono ?_)
        rintro e w3 ⟨rfl, b1⟩
        refine hK.out _ _ (bthen hHeld b1) (fun hHeld3 => ?_)
        clear hK K
        try simp only [Act.put, List.setIfInBounds_toArray, List.set_cons_zero, List.set_cons_succ]
        refine wpAnyH_take (i := 22) (oi := ⟨some 131, _, _, _, _, _⟩) (v := .bool true) rfl (by kernel_rfl) (by kernel_rfl) (by kernel_rfl) (fun _ _ _ h => h) (Or.inl ⟨by rfl, fun w2 hS => by go_simp⟩) (by assumption) ?_
        simp only [Act.put, List.setIfInBounds_toArray, List.set_cons_zero, List.set_cons_succ]
        refine wpAnyH_take (i := 23) (oi := ⟨some 6, _, _, _, _, _⟩) (v := .bool true) rfl (by kernel_rfl) (by kernel_rfl) (by kernel_rfl) (fun _ _ _ h => h) (Or.inl ⟨by rfl, fun w2 hS => by go_simp⟩) (by assumption) ?_
        simp only [Act.put, List.setIfInBounds_toArray, List.set_cons_zero, List.set_cons_succ]
        refine wpAnyH_done (by kernel_rfl) ?_ _
        refine NoPanic.normal ?_
        go_wp2
        go_ret
        exact ⟨rfl, by assumption⟩
    · have p4 := Put_any k h3 h4
      have h8 : 0 ≤ e := Int.le_of_lt h5
      rcases hpart2 with ⟨g1, g2, g3, g4, g5, rfl, rfl⟩ | ⟨g1, g2, g5, rfl, g3 | ⟨g3, g4⟩⟩ | g1 | ⟨g1, g2⟩ <;> rcases hsig with h1 | ⟨h1, h0, rfl⟩
      all_goals first | (exfalso; omega) | skip
      all_goals
        go_enter Try.func5, Try.ntmps5
        go_wp2_with (first
          | (go_at_call 6; (with_reducible refine (p1 _).mono ?_); rintro e w1 ⟨rfl, b1⟩; have c1 := bthen (by assumption) b1)
          | (go_at_call 8; (with_reducible refine (p2 _).mono ?_); rintro e w1 ⟨rfl, b1⟩; have c1 := bthen (by assumption) b1)
          | (go_at_call 12; (with_reducible refine (t1 _).mono ?_); rintro e w1 ⟨rfl, rfl⟩; unfold takeV3)
          | (go_at_call 12; (with_reducible refine (t4 _).mono ?_); rintro e w1 ⟨rfl, rfl⟩; unfold takeV3)
          | (go_at_call 12; (with_reducible refine (t3 _).mono ?_); rintro e w1 ⟨rfl, rfl⟩; unfold takeV3)
          | (go_at_call 14; (with_reducible refine (t2 _).mono ?_); rintro e w1 ⟨rfl, rfl⟩; unfold takeV3))
        have d0 := below_drew1 c1
        clear b1
        go_region_held3 (fun x => Below w.heap.size w x) (first
          | assumption
          | exact bthen (by assumption) b1) (first
          | (go_at_call 6; (with_reducible refine (p4 _).mono ?_); rintro e w1 ⟨rfl, b1⟩)
          | (go_at_call 11; (with_reducible refine (lives04 _).mono ?_); rintro e w1 ⟨rfl, b1⟩))
        all_goals
          go_wp2
          go_ret
          exact ⟨rfl, by assumption⟩
end Go.Proofs.Yteekacgcnaoadaa
