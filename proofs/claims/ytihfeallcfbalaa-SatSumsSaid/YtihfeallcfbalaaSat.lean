/-
  The contracts of package sat and of the document's answer for layer 1: each call returns the number named here and leaves the world alone. No conditions.
-/
import Derived.Test.YtihfeallcfbalaaBase
import Derived.Test.YtihfeallcfbalaaSatMath
namespace Go.Proofs.Ytihfeallcfbalaa
open Go.ChangeShapes Go.WideShapes Go.ChangeAt Go.RowKit

theorem Clamp_any (n : Int) (w : World) : Calls Try.prog 6 #[.int .i64 n] w fun e w' => e = .returned (.int .i64 (clampI n)) ∧ w = w' := by
  by_cases h1 : 999 < n
  · have e1 : clampI n = 999 := clampI_hi h1
    have E := Lib.hid e1; clear e1
    go_enter Try.func6, Try.ntmps6
    go_wp2
    all_goals (go_ret; exact ⟨by rw [E.out]; rfl, rfl⟩)
  · by_cases h2 : n < -999
    · have e1 : clampI n = -999 := clampI_lo h2
      have E := Lib.hid e1; clear e1
      go_enter Try.func6, Try.ntmps6
      go_wp2
      all_goals (go_ret; exact ⟨by rw [E.out]; rfl, rfl⟩)
    · have e1 : clampI n = n := clampI_in (by omega) (by omega)
      have E := Lib.hid e1; clear e1
      by_cases h3 : n = -999
      · subst h3
        go_enter Try.func6, Try.ntmps6
        go_wp2
        all_goals (go_ret; exact ⟨by rw [E.out]; rfl, rfl⟩)
      · have h4 : -999 < n := by omega
        go_enter Try.func6, Try.ntmps6
        go_wp2
        all_goals (go_ret; exact ⟨by rw [E.out]; rfl, rfl⟩)
theorem Add_any (a b : Int) (w : World) : Calls Try.prog 8 #[.int .i64 a, .int .i64 b] w fun e w' => e = .returned (.int .i64 (addI a b)) ∧ w = w' := by
  have ba := clampI_bd a
  have bb := clampI_bd b
  obtain ⟨a1, a2⟩ := ba
  obtain ⟨b1, b2⟩ := bb
  go_enter Try.func8, Try.ntmps8
  go_wp2_with (go_at_call 6; refine (Clamp_any _ _).mono ?_; rintro e w' ⟨rfl, rfl⟩)
  go_ret
  exact ⟨rfl, rfl⟩
theorem Sub_any (a b : Int) (w : World) : Calls Try.prog 10 #[.int .i64 a, .int .i64 b] w fun e w' => e = .returned (.int .i64 (subI a b)) ∧ w = w' := by
  have ba := clampI_bd a
  have bb := clampI_bd b
  obtain ⟨a1, a2⟩ := ba
  obtain ⟨b1, b2⟩ := bb
  go_enter Try.func10, Try.ntmps10
  go_wp2_with (go_at_call 6; refine (Clamp_any _ _).mono ?_; rintro e w' ⟨rfl, rfl⟩)
  go_ret
  exact ⟨rfl, rfl⟩
theorem Mul_any (a b : Int) (w : World) : Calls Try.prog 11 #[.int .i64 a, .int .i64 b] w fun e w' => e = .returned (.int .i64 (mulI a b)) ∧ w = w' := by
  have ba := clampI_bd a
  have bb := clampI_bd b
  obtain ⟨a1, a2⟩ := ba
  obtain ⟨b1, b2⟩ := bb
  obtain ⟨c1, c2⟩ := mul_bd a1 a2 b1 b2
  go_enter Try.func11, Try.ntmps11
  go_wp2_with (go_at_call 6; refine (Clamp_any _ _).mono ?_; rintro e w' ⟨rfl, rfl⟩)
  go_ret
  exact ⟨rfl, rfl⟩
theorem Neg_any (a : Int) (w : World) : Calls Try.prog 13 #[.int .i64 a] w fun e w' => e = .returned (.int .i64 (negI a)) ∧ w = w' := by
  have ba := clampI_bd a
  obtain ⟨a1, a2⟩ := ba
  go_enter Try.func13, Try.ntmps13
  go_wp2_with (go_at_call 6; refine (Clamp_any _ _).mono ?_; rintro e w' ⟨rfl, rfl⟩)
  go_ret
  exact ⟨rfl, rfl⟩
theorem rClamp_any (n : Int) (w : World) : Calls Try.prog 7 #[.int .i64 n] w fun e w' => e = .returned (.int .i64 (clampI n)) ∧ w = w' := by
  by_cases h1 : 999 < n
  · have E := Lib.hid (clampI_hi h1)
    go_enter Try.func7, Try.ntmps7
    go_wp2
    go_ret; exact ⟨by rw [E.out]; rfl, rfl⟩
  · by_cases h2 : n < -999
    · have E := Lib.hid (clampI_lo h2)
      go_enter Try.func7, Try.ntmps7
      go_wp2
      go_ret; exact ⟨by rw [E.out]; rfl, rfl⟩
    · have E := Lib.hid (clampI_in (n := n) (by omega) (by omega))
      go_enter Try.func7, Try.ntmps7
      go_wp2
      go_ret; exact ⟨by rw [E.out]; rfl, rfl⟩
theorem rAdd_any (a b : Int) (w : World) : Calls Try.prog 9 #[.int .i64 a, .int .i64 b] w fun e w' => e = .returned (.int .i64 (addI a b)) ∧ w = w' := by
  have ba := clampI_bd a
  have bb := clampI_bd b
  obtain ⟨a1, a2⟩ := ba
  obtain ⟨b1, b2⟩ := bb
  go_enter Try.func9, Try.ntmps9
  go_wp2_with (go_at_call 7; refine (rClamp_any _ _).mono ?_; rintro e w' ⟨rfl, rfl⟩)
  go_ret
  exact ⟨rfl, rfl⟩
theorem Double_any (n t : Int) (w : World) (wt : (Lit.int .i64 t).wf = true) : Calls Try.prog 14 #[.int .i64 n, .int .i64 t] w fun e w' => e = .returned (.int .i64 (dblI t.toNat (clampI n))) ∧ w = w' := by
  have bt := bounds_i64 wt
  clear wt
  obtain ⟨t1, t2⟩ := bt
  go_enter Try.func14, Try.ntmps14
  go_wp2_with (go_at_call 6; refine (Clamp_any _ _).mono ?_; rintro e w' ⟨rfl, rfl⟩)
  go_loop [0, 1] (fun m u => ∃ k : Nat, ∃ r : Int, m = .int .i64 (dblI k (clampI n)) ∧ u = .int .i64 r ∧ r ≤ t ∧ -9223372036854775808 ≤ r ∧ (r = t - k) ∧ (0 < k → 0 ≤ r)) (fun _ u => (intOf u).toNat)
  case atStart => exact ⟨0, t, rfl, rfl, by omega, by omega, by omega, by omega⟩
  case round =>
    obtain ⟨k, r, rfl, rfl, h1, h2, h3, h4⟩ := hrel
    have bd := dblI_bd k n
    obtain ⟨d1, d2⟩ := bd
    have H3 := Lib.hid h3; clear h3
    by_cases hr : 0 < r
    · by_cases hs : addI (dblI k (clampI n)) (dblI k (clampI n)) = dblI k (clampI n)
      · have HS := Lib.hid hs
        have hb : (addI (dblI k (clampI n)) (dblI k (clampI n)) == dblI k (clampI n)) = true := by simpa using hs
        clear hs
        go_wp2_with (go_at_call 8; refine (Add_any _ _ _).mono ?_; rintro e w' ⟨rfl, rfl⟩)
        go_ret
        refine ⟨?_, rfl⟩
        have := dblI_stays (clampI n) k (t.toNat - k) HS.out
        rw [show k + (t.toNat - k) = t.toNat from by have := H3.out; omega] at this
        rw [this]; rfl
      · have hb : (addI (dblI k (clampI n)) (dblI k (clampI n)) == dblI k (clampI n)) = false := by simpa using hs
        clear hs
        go_wp2_with (go_at_call 8; refine (Add_any _ _ _).mono ?_; rintro e w' ⟨rfl, rfl⟩)
        go_round
        case rel => exact ⟨k + 1, r - 1, rfl, rfl, by omega, by omega, by have := H3.out; omega, by omega⟩
        case measure => simp [intOf]; omega
    · go_wp2
      go_ret
      refine ⟨?_, rfl⟩
      rw [show t.toNat = k from by have := H3.out; omega]; rfl
theorem rDouble_any (n t : Int) (w : World) (wt : (Lit.int .i64 t).wf = true) : Calls Try.prog 15 #[.int .i64 n, .int .i64 t] w fun e w' => e = .returned (.int .i64 (dblI t.toNat (clampI n))) ∧ w = w' := by
  have bt := bounds_i64 wt
  clear wt
  obtain ⟨t1, t2⟩ := bt
  go_enter Try.func15, Try.ntmps15
  go_wp2_with (go_at_call 7; refine (rClamp_any _ _).mono ?_; rintro e w' ⟨rfl, rfl⟩)
  go_loop [0, 5] (fun m i => ∃ k : Nat, m = .int .i64 (dblI k (clampI n)) ∧ i = .int .i64 k ∧ k ≤ 10 ∧ ((k : Int) ≤ t ∨ k = 0)) (fun _ i => 10 - (intOf i).toNat)
  case atStart => exact ⟨0, rfl, rfl, by omega, by omega⟩
  case round =>
    obtain ⟨k, rfl, rfl, h1, h2⟩ := hrel
    have bd := dblI_bd k n
    obtain ⟨d1, d2⟩ := bd
    by_cases hr : (k : Int) < t
    · by_cases hk : k < 10
      · go_wp2_with (go_at_call 9; refine (rAdd_any _ _ _).mono ?_; rintro e w' ⟨rfl, rfl⟩)
        go_round
        case rel => exact ⟨k + 1, rfl, by go_num, by omega, by omega⟩
        case measure => simp [intOf]; omega
      · go_wp2
        go_ret
        refine ⟨?_, rfl⟩
        rw [← dblI_min n t.toNat, show min t.toNat 10 = k from by omega]; rfl
    · have hd : decide ((k : Int) < t) = false := by simpa using hr
      go_wp2
      go_ret
      refine ⟨?_, rfl⟩
      rw [show t.toNat = k from by omega]; rfl
theorem nmul_bd {x : Int} {k y : Nat} (h1 : -999 ≤ x) (h2 : x ≤ 999) (hk : k ≤ y) (hy : y ≤ 999) : -998001 ≤ (k : Int) * x ∧ (k : Int) * x ≤ 998001 :=
  mul_bd (by omega) (by omega) h1 h2
theorem rMul_ways (a b x : Int) (y : Nat) (w : World) (x1 : -999 ≤ x) (x2 : x ≤ 999) (y2 : y ≤ 999) (HE : Hid (mulI a b = clampI ((y : Int) * x)))
    (hc : (0 < y ∧ Hid (clampI a = -x) ∧ Hid (clampI b = -(y : Int))) ∨ (Hid (clampI a = x) ∧ Hid (clampI b = (y : Int)))) :
    Calls Try.prog 12 #[.int .i64 a, .int .i64 b] w fun e w' => e = .returned (.int .i64 (mulI a b)) ∧ w = w' := by
    rcases hc with ⟨hy, EA, EB⟩ | ⟨EA, EB⟩
    all_goals
      go_enter Try.func12, Try.ntmps12
      go_wp2_with fail
      refine (rClamp_any _ _).mono ?_; rintro e w' ⟨rfl, rfl⟩
      rw [EA.out]
      go_wp2_with fail
      refine (rClamp_any _ _).mono ?_; rintro e w' ⟨rfl, rfl⟩
      rw [EB.out]
      go_wp2_with fail
      go_loop [7, 8] (fun m i => ∃ k : Nat, m = .int .i64 ((k : Int) * x) ∧ i = .int .i64 k ∧ k ≤ y) (fun _ i => y - (intOf i).toNat)
      case atStart => exact ⟨0, by simp, rfl, by omega⟩
      case round =>
        obtain ⟨k, rfl, rfl, h1⟩ := hrel
        by_cases hk : k < y
        · obtain ⟨m1, m2⟩ := nmul_bd (k := k) x1 x2 h1 y2
          have hs : ((k + 1 : Nat) : Int) * x = (k : Int) * x + x := by rw [Int.natCast_add, Int.add_mul]; simp
          have HS := Lib.hid hs; clear hs
          go_wp2_with fail
          go_round
          case rel => exact ⟨k + 1, by rw [HS.out], by go_num, by omega⟩
          case measure => simp [intOf]; omega
        · obtain rfl : k = y := by omega
          go_wp2_with fail
          refine (rClamp_any _ _).mono ?_; rintro e w' ⟨rfl, rfl⟩
          go_wp2_with fail
          go_ret
          refine ⟨?_, rfl⟩
          rw [HE.out]; rfl
theorem rMul_any (a b : Int) (w : World) : Calls Try.prog 12 #[.int .i64 a, .int .i64 b] w fun e w' => e = .returned (.int .i64 (mulI a b)) ∧ w = w' := by
  have core : ∀ (x : Int) (y : Nat), -999 ≤ x → x ≤ 999 → y ≤ 999 → (clampI b < 0 ∧ clampI a = -x ∧ clampI b = -(y : Int) ∨ 0 ≤ clampI b ∧ clampI a = x ∧ clampI b = (y : Int)) → Calls Try.prog 12 #[.int .i64 a, .int .i64 b] w fun e w' => e = .returned (.int .i64 (mulI a b)) ∧ w = w' := by
    intro x y x1 x2 y2 hc
    have HE : Hid (mulI a b = clampI ((y : Int) * x)) := by
      refine Lib.hid ?_
      rcases hc with ⟨_, e1, e2⟩ | ⟨_, e1, e2⟩
      · unfold mulI; rw [e1, e2, Int.neg_mul_neg, Int.mul_comm]
      · unfold mulI; rw [e1, e2, Int.mul_comm]
    rcases hc with ⟨hneg, e1, e2⟩ | ⟨hneg, e1, e2⟩
    · have EA := Lib.hid e1
      have EB := Lib.hid e2
      have hy : 0 < y := by omega
      clear e1 e2 hneg
      exact rMul_ways a b x y w x1 x2 y2 HE (.inl ⟨hy, EA, EB⟩)
    · have EA := Lib.hid e1
      have EB := Lib.hid e2
      clear e1 e2 hneg
      exact rMul_ways a b x y w x1 x2 y2 HE (.inr ⟨EA, EB⟩)
  have ba := clampI_bd a
  have bb := clampI_bd b
  by_cases h : clampI b < 0
  · exact core (-clampI a) (-clampI b).toNat (by omega) (by omega) (by omega) (.inl ⟨h, by omega, by omega⟩)
  · exact core (clampI a) (clampI b).toNat (by omega) (by omega) (by omega) (.inr ⟨by omega, rfl, by omega⟩)
theorem Sum_cells (b off : Nat) (len cap : Nat) (zs : List Int) (w : World) (hl : len ≤ zs.length) (hm : len ≤ 1000)
    (hc : ∀ i, i < zs.length → w.cell? ⟨b, off + i, none⟩ = some (.int .i64 (zs.getD i 0))) :
    Calls Try.prog 17 #[.slice (some ⟨b, off, none⟩) len cap] w fun e w' => e = .returned (.int .i64 (sumI 0 (zs.take len))) ∧ w = w' := by
  go_enter Try.func17, Try.ntmps17
  go_wp2_with fail
  go_loop [3, 8] (fun m i => ∃ k : Nat, m = .int .i64 (sumI 0 (zs.take k)) ∧ i = .int .i64 k ∧ k ≤ len) (fun _ i => len - (intOf i).toNat)
  case atStart => exact ⟨0, rfl, rfl, by omega⟩
  case round =>
    obtain ⟨k, rfl, rfl, h1⟩ := hrel
    by_cases hk : k < len
    · have hcell := hc k (by omega)
      have hs : sumI 0 (zs.take (k + 1)) = addI (sumI 0 (zs.take k)) (zs.getD k 0) := by
        rw [List.take_succ_eq_append_getElem (by omega), sumI_snoc, List.getD_eq_getElem?_getD, List.getElem?_eq_getElem (by omega)]; rfl
      have HS := Lib.hid hs; clear hs
      go_wp2_with fail
      refine (Add_any _ _ _).mono ?_; rintro e w' ⟨rfl, rfl⟩
      go_wp2_with fail
      go_round
      case rel => exact ⟨k + 1, by rw [HS.out]; simp, by go_num, by omega⟩
      case measure => simp [intOf]; omega
    · obtain rfl : k = len := by omega
      go_wp2_with fail
      go_ret
      exact ⟨rfl, rfl⟩
theorem rSum_cells (b off : Nat) (len cap : Nat) (zs : List Int) (w : World) (hl : len ≤ zs.length) (hm : len ≤ 1000)
    (hc : ∀ i, i < zs.length → w.cell? ⟨b, off + i, none⟩ = some (.int .i64 (zs.getD i 0))) :
    Calls Try.prog 18 #[.slice (some ⟨b, off, none⟩) len cap] w fun e w' => e = .returned (.int .i64 (sumI 0 (zs.take len))) ∧ w = w' := by
  go_enter Try.func18, Try.ntmps18
  go_wp2_with fail
  go_loop [3, 4] (fun m i => ∃ k : Nat, m = .int .i64 (sumI 0 (zs.take k)) ∧ i = .int .i64 k ∧ k ≤ len) (fun _ i => len - (intOf i).toNat)
  case atStart => exact ⟨0, rfl, rfl, by omega⟩
  case round =>
    obtain ⟨k, rfl, rfl, h1⟩ := hrel
    by_cases hk : k < len
    · have hcell := hc k (by omega)
      have hs : sumI 0 (zs.take (k + 1)) = addI (sumI 0 (zs.take k)) (zs.getD k 0) := by
        rw [List.take_succ_eq_append_getElem (by omega), sumI_snoc, List.getD_eq_getElem?_getD, List.getElem?_eq_getElem (by omega)]; rfl
      have HS := Lib.hid hs; clear hs
      go_wp2_with fail
      refine (rAdd_any _ _ _).mono ?_; rintro e w' ⟨rfl, rfl⟩
      go_wp2_with fail
      go_round
      case rel => exact ⟨k + 1, by rw [HS.out]; simp, by go_num, by omega⟩
      case measure => simp [intOf]; omega
    · obtain rfl : k = len := by omega
      go_wp2_with fail
      go_ret
      exact ⟨rfl, rfl⟩
theorem Sum_empty (a : Option Addr) (cap : Nat) (w : World) : Calls Try.prog 17 #[.slice a 0 cap] w fun e w' => e = .returned (.int .i64 0) ∧ w = w' := by
  go_enter Try.func17, Try.ntmps17
  go_wp2_with fail
  refine wp_loop_rounds 1 ?_; rw [rounds_succ]
  go_wp2_with fail
  go_ret
  exact ⟨rfl, rfl⟩
theorem rSum_empty (a : Option Addr) (cap : Nat) (w : World) : Calls Try.prog 18 #[.slice a 0 cap] w fun e w' => e = .returned (.int .i64 0) ∧ w = w' := by
  go_enter Try.func18, Try.ntmps18
  go_wp2_with fail
  refine wp_loop_rounds 1 ?_; rw [rounds_succ]
  go_wp2_with fail
  go_ret
  exact ⟨rfl, rfl⟩
theorem lives01 (w : World) : Calls Try.prog 16 #[] w fun e w' => e = .returned (.bool true) ∧ Below w.heap.size w w' := by
  have ha : addI 900 200 = 999 := rfl
  have HA := Lib.hid ha; clear ha
  go_enter Try.func16, Try.ntmps16
  go_wp2_with fail
  refine (Add_any _ _ _).mono ?_; rintro e w' ⟨rfl, rfl⟩
  rw [HA.out]
  go_wp2_with fail
  refine (Sum_cells w.heap.size 0 3 3 [900, 200, -100] _ (by decide) (by omega) ?_).mono ?_
  · intro i hi
    have h3 : i = 0 ∨ i = 1 ∨ i = 2 := by simp at hi; omega
    rcases h3 with rfl | rfl | rfl <;> go_simp
  rintro e w' ⟨rfl, rfl⟩
  have hs : sumI 0 (List.take 3 [900, 200, -100]) = 899 := rfl
  rw [hs]
  go_wp2_with fail
  go_ret
  exact ⟨rfl, (Below.refl _ _).alloc (Nat.le_refl _) _⟩
theorem sub_add (a b : Int) : addI a (-clampI b) = subI a b := by
  have := clampI_bd b
  unfold addI subI; rw [clampI_in (n := -clampI b) (by omega) (by omega)]; rfl
end Go.Proofs.Ytihfeallcfbalaa
