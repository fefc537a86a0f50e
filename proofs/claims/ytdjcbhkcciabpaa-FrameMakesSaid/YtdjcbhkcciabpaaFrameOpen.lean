/-
  The contracts of frame.Open and of the document's Open. Conditions: strings of at most 9000 bytes.
-/
import Derived.Test.YtdjcbhkcciabpaaFrame
import Derived.Test.YtdjcbhkcciabpaaGoto
namespace Go.Proofs.Ytdjcbhkcciabpaa
open Go.ChangeShapes Go.WideShapes Go.ChangeAt Go.RowKit
set_option linter.unusedVariables false
set_option linter.unusedSimpArgs false
def openV (s : ByteArray) : Value := .tuple #[.int .i64 (openOf s).1, .string (openOf s).2.1, .int .i64 (openOf s).2.2]
theorem okS_iff (s : ByteArray) (h : 2 ≤ s.size) : okS s = decide (s.extract (s.size - 2) s.size = endS (s.extract 0 (s.size - 2))) := by
  unfold okS
  simp only [show (2 ≤ s.size) = True from by simp; omega, true_and]
set_option maxRecDepth 100000 in
set_option maxHeartbeats 3200000 in
theorem Open_any (s : ByteArray) (w : World) (hs : s.size ≤ 9000) : Calls Try.prog 10 #[.string s] w fun e w' => e = .returned (openV s) ∧ Below w.heap.size w w' := by
  by_cases c1 : 2048 < s.size
  · have E := Lib.hid (show openV s = .tuple #[.int .i64 0, .string noS, .int .i64 3] by unfold openV openOf; rw [if_pos c1]; rfl)
    have d1 : 2048 < (s.size : Int) := by omega
    go_enter Try.func10, Try.ntmps10
    go_wp2
    refine wp_scope_fwd 0 (by rfl) ?_
    go_wp2
    go_step3
    refine ⟨rfl, ?_⟩
    go_wp2
    rw [Exit.noGoto_ret]
    go_ret3
    exact ⟨by rw [E.out]; rfl, Below.refl _ _⟩
  have d1 : ¬ 2048 < (s.size : Int) := by omega
  by_cases c2 : s.size = 0
  · have E := Lib.hid (show openV s = .tuple #[.int .i64 0, .string noS, .int .i64 2] by unfold openV openOf; rw [if_neg c1, if_pos c2]; rfl)
    have d2 : (s.toList == []) = true := by
      rw [ByteArray.toList_eq]
      have h2 : s.data.size = 0 := c2
      rw [Array.toList_eq_nil_iff.2 (Array.eq_empty_of_size_eq_zero h2)]; rfl
    have d3 : s.toList.isEmpty = true := by
      rw [ByteArray.toList_eq]
      have h2 : s.data.size = 0 := c2
      rw [Array.toList_eq_nil_iff.2 (Array.eq_empty_of_size_eq_zero h2)]; rfl
    clear c2 c1
    go_enter Try.func10, Try.ntmps10
    go_wp2
    refine wp_scope_fwd 0 (by rfl) ?_
    go_wp2
    go_step3
    refine ⟨rfl, ?_⟩
    go_wp2
    rw [Exit.noGoto_ret]
    go_ret3
    exact ⟨by rw [E.out]; rfl, Below.refl _ _⟩
  have d2 : s.toList.isEmpty = false := by
    rw [ByteArray.toList_eq]
    cases hl : s.data.toList with
    | nil => exact absurd (by rw [← Array.length_toList, hl]; rfl : s.data.size = 0) c2
    | cons x r => rfl
  have h0 : 0 < s.size := by omega
  have e0 := gB_eq s 0 h0
  have L0 : ((s[0]'h0).toNat : Int) < 256 := by have := gB_lt s 0; omega
  have L1 : (0 : Int) ≤ ((s[0]'h0).toNat : Int) := by omega
  by_cases c3 : gB s 0 ≠ 84
  · have E := Lib.hid (show openV s = .tuple #[.int .i64 0, .string noS, .int .i64 4] by unfold openV openOf; rw [if_neg c1, if_neg c2, if_pos c3]; rfl)
    have d3 : (((s[0]'h0).toNat : Int) != 84) = true := by rw [bne_iff_ne]; omega
    clear c3 c2 c1 e0
    go_enter Try.func10, Try.ntmps10
    go_wp2
    refine wp_scope_fwd 0 (by rfl) ?_
    go_wp2
    go_step3
    refine ⟨rfl, ?_⟩
    go_wp2
    rw [Exit.noGoto_ret]
    go_ret3
    exact ⟨by rw [E.out]; rfl, Below.refl _ _⟩
  have d3 : (((s[0]'h0).toNat : Int) != 84) = false := by rw [bne_eq_false_iff_eq]; omega
  by_cases c4 : s.size < 2
  · have E := Lib.hid (show openV s = .tuple #[.int .i64 0, .string noS, .int .i64 2] by unfold openV openOf; rw [if_neg c1, if_neg c2, if_neg c3, if_pos c4]; rfl)
    have d4 : (s.size : Int) < 2 := by omega
    clear c4 c3 c2 c1 e0
    go_enter Try.func10, Try.ntmps10
    go_wp2
    refine wp_scope_fwd 0 (by rfl) ?_
    go_wp2
    go_step3
    refine ⟨rfl, ?_⟩
    go_wp2
    rw [Exit.noGoto_ret]
    go_ret3
    exact ⟨by rw [E.out]; rfl, Below.refl _ _⟩
  have d4 : ¬ (s.size : Int) < 2 := by omega
  have h1 : 1 < s.size := by omega
  have e1 := gB_eq s 1 h1
  have M0 : ((s[1]'h1).toNat : Int) < 256 := by have := gB_lt s 1; omega
  have M1 : (0 : Int) ≤ ((s[1]'h1).toNat : Int) := by omega
  by_cases c5 : gB s 1 < 1 ∨ 9 < gB s 1
  · have E := Lib.hid (show openV s = .tuple #[.int .i64 0, .string noS, .int .i64 13] by unfold openV openOf; rw [if_neg c1, if_neg c2, if_neg c3, if_neg c4, if_pos c5]; rfl)
    have q1 := isKind_no ((s[1]'h1).toNat : Int) (by omega)
    clear c5 c3 c2 c1 e0 e1
    go_enter Try.func10, Try.ntmps10
    go_wp2
    refine wp_scope_fwd 0 (by rfl) ?_
    go_wp2_with (first
      | (go_at_call 12; refine (q1 _).mono ?_; rintro e w1 ⟨rfl, rfl⟩))
    go_step3
    refine ⟨rfl, ?_⟩
    go_wp2
    rw [Exit.noGoto_ret]
    go_ret3
    exact ⟨by rw [E.out]; rfl, Below.refl _ _⟩
  have q1 := isKind_yes ((s[1]'h1).toNat : Int) (by omega) (by omega)
  have p2 := fun w => Take_any s 2 w (by omega) (by omega) (by omega)
  have hsh := vtake_shape s 2
  obtain ⟨⟨n, x, z⟩, hv⟩ : ∃ x, vtakeOf s 2 = x := ⟨_, rfl⟩
  rw [hv] at p2 hsh
  simp only [takeV3] at p2 hsh
  by_cases c6 : z ≠ 0
  · have E := Lib.hid (show openV s = .tuple #[.int .i64 0, .string noS, .int .i64 z] by unfold openV openOf; rw [if_neg c1, if_neg c2, if_neg c3, if_neg c4, if_neg c5, if_pos (by rw [hv]; exact c6), hv]; rfl)
    have d7 : (z != 0) = true := by rw [bne_iff_ne]; exact c6
    clear hsh hv c6 c5 c3 c2 c1 e0 e1
    go_enter Try.func10, Try.ntmps10
    go_wp2
    refine wp_scope_fwd 0 (by rfl) ?_
    go_wp2_with (first
      | (go_at_call 12; refine (q1 _).mono ?_; rintro e w1 ⟨rfl, rfl⟩)
      | (go_at_call 18; refine (p2 _).mono ?_; rintro e w1 ⟨rfl, rfl⟩))
    go_step3
    refine ⟨rfl, ?_⟩
    go_wp2
    rw [Exit.noGoto_ret]
    go_ret3
    exact ⟨by rw [E.out]; rfl, Below.refl _ _⟩
  obtain rfl : z = 0 := by omega
  obtain ⟨b1, b2, b3, b4, b5, b6⟩ := vtake_at s 2 n x hv
  clear hsh b6
  by_cases c7 : (s.size : Int) - x - 2 < n
  · have E := Lib.hid (show openV s = .tuple #[.int .i64 0, .string noS, .int .i64 2] by unfold openV openOf; rw [if_neg c1, if_neg c2, if_neg c3, if_neg c4, if_neg c5, if_neg (by rw [hv]; exact c6), hv, if_pos c7]; rfl)
    clear hv c6 c5 c3 c2 c1 e0 e1
    go_enter Try.func10, Try.ntmps10
    go_wp2
    refine wp_scope_fwd 0 (by rfl) ?_
    go_wp2_with (first
      | (go_at_call 12; refine (q1 _).mono ?_; rintro e w1 ⟨rfl, rfl⟩)
      | (go_at_call 18; refine (p2 _).mono ?_; rintro e w1 ⟨rfl, rfl⟩))
    go_step3
    refine ⟨rfl, ?_⟩
    go_wp2
    rw [Exit.noGoto_ret]
    go_ret3
    exact ⟨by rw [E.out]; rfl, Below.refl _ _⟩
  by_cases c8 : n < (s.size : Int) - x - 2
  · have E := Lib.hid (show openV s = .tuple #[.int .i64 0, .string noS, .int .i64 4] by unfold openV openOf; rw [if_neg c1, if_neg c2, if_neg c3, if_neg c4, if_neg c5, if_neg (by rw [hv]; exact c6), hv, if_neg c7, if_pos c8]; rfl)
    clear hv c6 c5 c3 c2 c1 e0 e1
    go_enter Try.func10, Try.ntmps10
    go_wp2
    refine wp_scope_fwd 0 (by rfl) ?_
    go_wp2_with (first
      | (go_at_call 12; refine (q1 _).mono ?_; rintro e w1 ⟨rfl, rfl⟩)
      | (go_at_call 18; refine (p2 _).mono ?_; rintro e w1 ⟨rfl, rfl⟩))
    go_step3
    refine ⟨rfl, ?_⟩
    go_wp2
    rw [Exit.noGoto_ret]
    go_ret3
    exact ⟨by rw [E.out]; rfl, Below.refl _ _⟩
  have hg0 : gB s 0 = 84 := by omega
  have hfr := frame_iff s n x hg0 hv (by omega)
  obtain ⟨_, hps, hxn, hxl⟩ := body_of_parts s n x hg0 hv (by omega)
  have hsl := slice_kk (P := Try.prog) 9 (by kernel_rfl) s x (x + n) (by omega) (by omega) (by omega)
  have p3 := fun w => Strip_any s w (by omega)
  have hok := okS_iff s (by omega)
  by_cases c9 : s.extract (s.size - 2) s.size = endS (s.extract 0 (s.size - 2))
  · rw [decide_eq_true c9] at hok
    have hV : stripV s = .tuple #[.string (s.extract 0 (s.size - 2)), .bool true] := by unfold stripV; rw [if_pos hok]
    rw [hV] at p3
    have E := Lib.hid (show openV s = .tuple #[.int .i64 ((s[1]'h1).toNat : Int), .string (s.extract x.toNat (x + n).toNat), .int .i64 0] by unfold openV openOf; rw [if_neg c1, if_neg c2, if_neg c3, if_neg c4, if_neg c5, if_neg (by rw [hv]; exact c6), hv, if_neg c7, if_neg c8, if_pos c9, ← e1]; first | done | rfl)
    clear hok hV c9 hfr hv c6 c5 c3 c2 c1 e0 e1 hg0 hps hxn hxl
    have f1 : x + n ≤ (s.size : Int) := by omega
    have f2 : 0 ≤ x + n := by omega
    go_enter Try.func10, Try.ntmps10
    go_wp2
    refine wp_scope_fwd 0 (by rfl) ?_
    go_wp2_with (first
      | (go_at_call 12; refine (q1 _).mono ?_; rintro e w1 ⟨rfl, rfl⟩)
      | (go_at_call 18; refine (p2 _).mono ?_; rintro e w1 ⟨rfl, rfl⟩)
      | (go_at_call 19; refine (p3 _).mono ?_; rintro e w2 ⟨rfl, b7⟩))
    have sw : IntKind.i64.wrap (x + n) = x + n := IntWalk.i64_in _ (by omega)
    go_region
    go_wp2
    rw [jump_ret]
    go_ret3
    exact ⟨by rw [E.out]; rfl, by first | exact b7 | exact below_drew1 b7 | exact below_drewN b7 _⟩
  · rw [decide_eq_false c9] at hok
    have hV : stripV s = .tuple #[.string noS, .bool false] := by unfold stripV; rw [if_neg (by rw [hok]; simp)]; rfl
    rw [hV] at p3
    have E := Lib.hid (show openV s = .tuple #[.int .i64 0, .string noS, .int .i64 5] by unfold openV openOf; rw [if_neg c1, if_neg c2, if_neg c3, if_neg c4, if_neg c5, if_neg (by rw [hv]; exact c6), hv, if_neg c7, if_neg c8, if_neg c9]; rfl)
    clear hok hV c9 hfr hv c6 c5 c3 c2 c1 e0 e1 hg0 hps hxn hxl
    go_enter Try.func10, Try.ntmps10
    go_wp2
    refine wp_scope_fwd 0 (by rfl) ?_
    go_wp2_with (first
      | (go_at_call 12; refine (q1 _).mono ?_; rintro e w1 ⟨rfl, rfl⟩)
      | (go_at_call 18; refine (p2 _).mono ?_; rintro e w1 ⟨rfl, rfl⟩)
      | (go_at_call 19; refine (p3 _).mono ?_; rintro e w2 ⟨rfl, b7⟩))
    go_step3
    refine ⟨rfl, ?_⟩
    go_wp2
    rw [Exit.noGoto_ret]
    go_ret3
    exact ⟨by rw [E.out]; rfl, b7⟩
set_option maxRecDepth 100000 in
set_option maxHeartbeats 3200000 in
theorem rOpen_any (s : ByteArray) (w : World) (hs : s.size ≤ 9000) : Calls Try.prog 11 #[.string s] w fun e w' => e = .returned (openV s) ∧ Below w.heap.size w w' := by
  by_cases c1 : 2048 < s.size
  · have E := Lib.hid (show openV s = .tuple #[.int .i64 0, .string noS, .int .i64 3] by unfold openV openOf; rw [if_pos c1]; rfl)
    have d1 : 2048 < (s.size : Int) := by omega
    go_enter Try.func11, Try.ntmps11
    go_wp2
    go_ret3
    exact ⟨by rw [E.out]; rfl, Below.refl _ _⟩
  have d1 : ¬ 2048 < (s.size : Int) := by omega
  by_cases c2 : s.size = 0
  · have E := Lib.hid (show openV s = .tuple #[.int .i64 0, .string noS, .int .i64 2] by unfold openV openOf; rw [if_neg c1, if_pos c2]; rfl)
    have d2 : (s.size : Int) < 1 := by omega
    clear c2 c1
    go_enter Try.func11, Try.ntmps11
    go_wp2
    go_ret3
    exact ⟨by rw [E.out]; rfl, Below.refl _ _⟩
  have d2 : ¬ (s.size : Int) < 1 := by omega
  have h0 : 0 < s.size := by omega
  have e0 := gB_eq s 0 h0
  have L0 : ((s[0]'h0).toNat : Int) < 256 := by have := gB_lt s 0; omega
  have L1 : (0 : Int) ≤ ((s[0]'h0).toNat : Int) := by omega
  by_cases c3 : gB s 0 ≠ 84
  · have E := Lib.hid (show openV s = .tuple #[.int .i64 0, .string noS, .int .i64 4] by unfold openV openOf; rw [if_neg c1, if_neg c2, if_pos c3]; rfl)
    have d3 : (((s[0]'h0).toNat : Int) != 84) = true := by rw [bne_iff_ne]; omega
    clear c3 c2 c1 e0
    go_enter Try.func11, Try.ntmps11
    go_wp2
    go_ret3
    exact ⟨by rw [E.out]; rfl, Below.refl _ _⟩
  have d3 : (((s[0]'h0).toNat : Int) != 84) = false := by rw [bne_eq_false_iff_eq]; omega
  by_cases c4 : s.size < 2
  · have E := Lib.hid (show openV s = .tuple #[.int .i64 0, .string noS, .int .i64 2] by unfold openV openOf; rw [if_neg c1, if_neg c2, if_neg c3, if_pos c4]; rfl)
    have d4 : (s.size : Int) < 2 := by omega
    clear c4 c3 c2 c1 e0
    go_enter Try.func11, Try.ntmps11
    go_wp2
    go_ret3
    exact ⟨by rw [E.out]; rfl, Below.refl _ _⟩
  have d4 : ¬ (s.size : Int) < 2 := by omega
  have h1 : 1 < s.size := by omega
  have e1 := gB_eq s 1 h1
  have M0 : ((s[1]'h1).toNat : Int) < 256 := by have := gB_lt s 1; omega
  have M1 : (0 : Int) ≤ ((s[1]'h1).toNat : Int) := by omega
  by_cases c5 : gB s 1 < 1 ∨ 9 < gB s 1
  · have E := Lib.hid (show openV s = .tuple #[.int .i64 0, .string noS, .int .i64 13] by unfold openV openOf; rw [if_neg c1, if_neg c2, if_neg c3, if_neg c4, if_pos c5]; rfl)
    rcases c5 with c5 | c5
    · have d5 : decide (((s[1]'h1).toNat : Int) < 1) = true := by simp; omega
      clear c5 c3 c2 c1 e0 e1
      go_enter Try.func11, Try.ntmps11
      go_wp2
      go_ret3
      exact ⟨by rw [E.out]; rfl, Below.refl _ _⟩
    · have d5 : decide (((s[1]'h1).toNat : Int) < 1) = false := by simp; omega
      have d6 : decide ((9 : Int) < ((s[1]'h1).toNat : Int)) = true := by simp; omega
      clear c5 c3 c2 c1 e0 e1
      go_enter Try.func11, Try.ntmps11
      go_wp2
      go_ret3
      exact ⟨by rw [E.out]; rfl, Below.refl _ _⟩
  have d5 : decide (((s[1]'h1).toNat : Int) < 1) = false := by simp; omega
  have d6 : decide ((9 : Int) < ((s[1]'h1).toNat : Int)) = false := by simp; omega
  have p2 := fun w => rTake_any s 2 w (by omega) (by omega) (by omega)
  have hsh := vtake_shape s 2
  obtain ⟨⟨n, x, z⟩, hv⟩ : ∃ x, vtakeOf s 2 = x := ⟨_, rfl⟩
  rw [hv] at p2 hsh
  simp only [takeV3] at p2 hsh
  by_cases c6 : z ≠ 0
  · have E := Lib.hid (show openV s = .tuple #[.int .i64 0, .string noS, .int .i64 z] by unfold openV openOf; rw [if_neg c1, if_neg c2, if_neg c3, if_neg c4, if_neg c5, if_pos (by rw [hv]; exact c6), hv]; rfl)
    have d7 : (z != 0) = true := by rw [bne_iff_ne]; exact c6
    clear hsh hv c6 c5 c3 c2 c1 e0 e1
    go_enter Try.func11, Try.ntmps11
    go_wp2_with (first
      | (go_at_call 20; refine (p2 _).mono ?_; rintro e w1 ⟨rfl, b1⟩))
    go_ret3
    exact ⟨by rw [E.out]; rfl, b1⟩
  obtain rfl : z = 0 := by omega
  obtain ⟨b1, b2, b3, b4, b5, b6⟩ := vtake_at s 2 n x hv
  clear hsh b6
  by_cases c7 : (s.size : Int) - x - 2 < n
  · have E := Lib.hid (show openV s = .tuple #[.int .i64 0, .string noS, .int .i64 2] by unfold openV openOf; rw [if_neg c1, if_neg c2, if_neg c3, if_neg c4, if_neg c5, if_neg (by rw [hv]; exact c6), hv, if_pos c7]; rfl)
    clear hv c6 c5 c3 c2 c1 e0 e1
    have d8 : (s.size : Int) - x < n + 2 := by omega
    go_enter Try.func11, Try.ntmps11
    go_wp2_with (first
      | (go_at_call 20; refine (p2 _).mono ?_; rintro e w1 ⟨rfl, b1⟩))
    go_ret3
    exact ⟨by rw [E.out]; rfl, by assumption⟩
  by_cases c8 : n < (s.size : Int) - x - 2
  · have E := Lib.hid (show openV s = .tuple #[.int .i64 0, .string noS, .int .i64 4] by unfold openV openOf; rw [if_neg c1, if_neg c2, if_neg c3, if_neg c4, if_neg c5, if_neg (by rw [hv]; exact c6), hv, if_neg c7, if_pos c8]; rfl)
    clear hv c6 c5 c3 c2 c1 e0 e1
    have d8 : ¬ (s.size : Int) - x < n + 2 := by omega
    have d9 : n + 2 < (s.size : Int) - x := by omega
    clear c7 c8
    go_enter Try.func11, Try.ntmps11
    go_wp2_with (first
      | (go_at_call 20; refine (p2 _).mono ?_; rintro e w1 ⟨rfl, b1⟩))
    go_ret3
    exact ⟨by rw [E.out]; rfl, by assumption⟩
  have hg0 : gB s 0 = 84 := by omega
  have hfr := frame_iff s n x hg0 hv (by omega)
  obtain ⟨_, hps, hxn, hxl⟩ := body_of_parts s n x hg0 hv (by omega)
  have hsl := slice_kk (P := Try.prog) 9 (by kernel_rfl) s x (x + n) (by omega) (by omega) (by omega)
  have hpz : (s.extract x.toNat (x + n).toNat).size ≤ 9000 := by omega
  have p3 := fun w => rMake_any ((s[1]'h1).toNat : Int) (s.extract x.toNat (x + n).toNat) w hpz (by omega) (by omega)
  rw [e1] at hfr
  have ht := eqB_iff (frameS ((s[1]'h1).toNat : Int) (s.extract x.toNat (x + n).toNat)) s
  have d8 : ¬ (s.size : Int) - x < n + 2 := by omega
  have d9 : ¬ n + 2 < (s.size : Int) - x := by omega
  have f1 : x + n ≤ (s.size : Int) := by omega
  have f2 : 0 ≤ x + n := by omega
  by_cases c9 : s.extract (s.size - 2) s.size = endS (s.extract 0 (s.size - 2))
  · rw [decide_eq_true (hfr.2 c9)] at ht
    have E := Lib.hid (show openV s = .tuple #[.int .i64 ((s[1]'h1).toNat : Int), .string (s.extract x.toNat (x + n).toNat), .int .i64 0] by unfold openV openOf; rw [if_neg c1, if_neg c2, if_neg c3, if_neg c4, if_neg c5, if_neg (by rw [hv]; exact c6), hv, if_neg c7, if_neg c8, if_pos c9, ← e1]; first | done | rfl)
    clear c9 hfr hv c8 c7 c6 c5 c3 c2 c1 e0 e1 hg0 hps hxn hxl
    go_enter Try.func11, Try.ntmps11
    go_wp2_with (first
      | (go_at_call 20; refine (p2 _).mono ?_; rintro e w1 ⟨rfl, b1⟩)
      | (go_at_call 9; refine (p3 _).mono ?_; rintro e w2 ⟨rfl, b7⟩))
    go_ret3
    exact ⟨by rw [E.out]; rfl, bthen b1 b7⟩
  · rw [decide_eq_false (fun h => c9 (hfr.1 h))] at ht
    have E := Lib.hid (show openV s = .tuple #[.int .i64 0, .string noS, .int .i64 5] by unfold openV openOf; rw [if_neg c1, if_neg c2, if_neg c3, if_neg c4, if_neg c5, if_neg (by rw [hv]; exact c6), hv, if_neg c7, if_neg c8, if_neg c9]; rfl)
    clear c9 hfr hv c8 c7 c6 c5 c3 c2 c1 e0 e1 hg0 hps hxn hxl
    go_enter Try.func11, Try.ntmps11
    go_wp2_with (first
      | (go_at_call 20; refine (p2 _).mono ?_; rintro e w1 ⟨rfl, b1⟩)
      | (go_at_call 9; refine (p3 _).mono ?_; rintro e w2 ⟨rfl, b7⟩))
    go_ret3
    exact ⟨by rw [E.out]; rfl, bthen b1 b7⟩
end Go.Proofs.Ytdjcbhkcciabpaa
