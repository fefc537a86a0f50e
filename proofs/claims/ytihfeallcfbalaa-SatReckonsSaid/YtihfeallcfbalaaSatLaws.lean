/-
  The laws of layer 1: each returns true for every input and writes nothing that was there. No conditions.
-/
import Derived.Test.YtihfeallcfbalaaSat
namespace Go.Proofs.Ytihfeallcfbalaa
open Go.ChangeShapes Go.WideShapes Go.ChangeAt Go.RowKit
set_option linter.unusedVariables false
theorem walk_SatReckons (a0 : Int) (a1 : Int) (w : World) (w0 : (Lit.int .i64 a0).wf = true) (w1 : (Lit.int .i64 a1).wf = true) :
    Calls Try.prog 3 #[.int .i64 a0, .int .i64 a1] w fun e w' => e = .returned (.bool true) ∧ Below w.heap.size w w' := by
  have HS : Hid (addI a0 (-clampI a1) = subI a0 a1) := Lib.hid (sub_add a0 a1)
  have hb := clampI_bd a1
  obtain ⟨h1, h2⟩ := hb
  have hc := clampI_bd a0
  obtain ⟨h3, h4⟩ := hc
  have hn : negI a0 = -clampI a0 := rfl
  go_enter Try.func3, Try.ntmps3
  go_wp2_with (first
    | (go_at_call 6; refine (Clamp_any _ _).mono ?_; rintro e w' ⟨rfl, rfl⟩)
    | (go_at_call 7; refine (rClamp_any _ _).mono ?_; rintro e w' ⟨rfl, rfl⟩)
    | (go_at_call 8; refine (Add_any _ _ _).mono ?_; rintro e w' ⟨rfl, rfl⟩)
    | (go_at_call 10; refine (Sub_any _ _ _).mono ?_; rintro e w' ⟨rfl, rfl⟩)
    | (go_at_call 9; refine (rAdd_any _ _ _).mono ?_; rintro e w' ⟨rfl, rfl⟩; try rw [HS.out])
    | (go_at_call 11; refine (Mul_any _ _ _).mono ?_; rintro e w' ⟨rfl, rfl⟩)
    | (go_at_call 12; refine (rMul_any _ _ _).mono ?_; rintro e w' ⟨rfl, rfl⟩)
    | (go_at_call 13; refine (Neg_any _ _).mono ?_; rintro e w' ⟨rfl, rfl⟩)
    | (go_at_call 14; refine (Double_any _ _ _ w1).mono ?_; rintro e w' ⟨rfl, rfl⟩)
    | (go_at_call 15; refine (rDouble_any _ _ _ w1).mono ?_; rintro e w' ⟨rfl, rfl⟩)
    | (go_at_call 16; refine (lives01 _).mono ?_; rintro e w' ⟨rfl, hb⟩))
  go_ret
  exact ⟨rfl, by assumption⟩
theorem walk_SatSums (a0 : Option Addr) (len0 cap0 : Nat) (z0 : List Int) (w : World) (w0 : IsRow .i64 w a0 len0 cap0 z0) :
    Calls Try.prog 4 #[.slice a0 len0 cap0] w fun e w' => e = .returned (.bool true) ∧ Below w.heap.size w w' := by
  have h0 : len0 = 0 ∨ ∃ b off, a0 = some ⟨b, off, none⟩ ∧ 0 < len0 ∧ len0 ≤ cap0 ∧ cap0 ≤ maxLen ∧ z0.length = cap0 ∧ ∀ i, i < z0.length → w.cell? ⟨b, off + i, none⟩ = some (.int .i64 (z0.getD i 0)) := by
    rcases w0 with ⟨rfl, rfl, rfl, rfl⟩ | ⟨x, rfl, h1, h2, h3, h4, -⟩
    · exact .inl rfl
    · by_cases h : len0 = 0
      · exact .inl h
      · obtain ⟨b, off, rfl, hc⟩ := ints_at h4 (by omega)
        exact .inr ⟨b, off, rfl, by omega, h1, h2, h3, hc⟩
  clear w0
  rcases h0 with rfl | ⟨b, off, rfl, hp, h1, h2, h3, h4⟩
  · go_enter Try.func4, Try.ntmps4
    go_wp2_with (first
      | (go_at_call 17; refine (Sum_empty _ _ _).mono ?_; rintro e w' ⟨rfl, rfl⟩)
      | (go_at_call 18; refine (rSum_empty _ _ _).mono ?_; rintro e w' ⟨rfl, rfl⟩)
      | (go_at_call 16; refine (lives01 _).mono ?_; rintro e w' ⟨rfl, hb⟩))
    go_ret
    exact ⟨rfl, by assumption⟩
  · unfold maxLen at h2
    by_cases hl : 1000 < len0
    · clear h4
      go_enter Try.func4, Try.ntmps4
      go_wp2_with (go_at_call 16; refine (lives01 _).mono ?_; rintro e w' ⟨rfl, hb⟩)
      go_ret
      exact ⟨rfl, by assumption⟩
    · have hS := Sum_cells b off len0 cap0 z0 w (by omega) (by omega) h4
      have hR := rSum_cells b off len0 cap0 z0 w (by omega) (by omega) h4
      clear h4
      have HS := Lib.hid hS
      have HR := Lib.hid hR
      have H3 := Lib.hid h3
      clear hS hR h3
      go_enter Try.func4, Try.ntmps4
      go_wp2_with (first
        | (go_at_call 17; refine (HS.out).mono ?_; rintro e w' ⟨rfl, rfl⟩)
        | (go_at_call 18; refine (HR.out).mono ?_; rintro e w' ⟨rfl, rfl⟩)
        | (go_at_call 16; refine (lives01 _).mono ?_; rintro e w' ⟨rfl, hb⟩))
      go_ret
      exact ⟨rfl, by assumption⟩
theorem addI_comm (a b : Int) : addI a b = addI b a := by unfold addI; rw [Int.add_comm]
theorem mulI_comm (a b : Int) : mulI a b = mulI b a := by unfold mulI; rw [Int.mul_comm]
theorem subI_neg (a b : Int) : addI a (negI b) = subI a b := sub_add a b
theorem clampI_neg (a : Int) : clampI (-a) = -clampI a := by
  unfold clampI; by_cases h : 999 < a
  · rw [if_pos h, if_neg (by omega), if_pos (by omega)]
  · rw [if_neg h]; by_cases g : a < -999
    · rw [if_pos g, if_pos (by omega)]; rfl
    · rw [if_neg g, if_neg (by omega), if_neg (by omega)]
theorem subI_turn (a b : Int) : negI (subI b a) = subI a b := by
  have e : clampI a - clampI b = -(clampI b - clampI a) := by omega
  have h : clampI (subI b a) = subI b a := by unfold subI; have := clampI_bd (clampI b - clampI a); exact clampI_in this.1 this.2
  show -clampI (subI b a) = _
  rw [h]; unfold subI; rw [e, clampI_neg]
theorem clampI_mono {a b : Int} (h : a ≤ b) : clampI a ≤ clampI b := by
  unfold clampI; (repeat' split) <;> omega
theorem addI_mono {a b : Int} (c : Int) (h : a ≤ b) : addI a c ≤ addI b c := by
  unfold addI; exact clampI_mono (by have := clampI_mono h; omega)
theorem mulI_bd (a b : Int) : -999 ≤ mulI a b ∧ mulI a b ≤ 999 := clampI_bd _
theorem walk_SatTurns (a0 : Int) (a1 : Int) (a2 : Int) (w : World) (w0 : (Lit.int .i64 a0).wf = true) (w1 : (Lit.int .i64 a1).wf = true) (w2 : (Lit.int .i64 a2).wf = true) :
    Calls Try.prog 5 #[.int .i64 a0, .int .i64 a1, .int .i64 a2] w fun e w' => e = .returned (.bool true) ∧ Below w.heap.size w w' := by
  have HA := Lib.hid (addI_comm a1 a0)
  have HM := Lib.hid (mulI_comm a1 a0)
  have HN := Lib.hid (subI_neg a0 a1)
  have HT := Lib.hid (subI_turn a0 a1)
  obtain ⟨m1, m2⟩ := mulI_bd a0 a1
  obtain ⟨s1, s2⟩ := addI_bd a0 a1
  by_cases hle : a0 ≤ a1
  · have hmono := addI_mono a2 hle
    go_enter Try.func5, Try.ntmps5
    go_wp2_with (first
      | (go_at_call 8; refine (Add_any _ _ _).mono ?_; rintro e w' ⟨rfl, rfl⟩; (try rw [HA.out]); (try rw [HN.out]))
      | (go_at_call 10; refine (Sub_any _ _ _).mono ?_; rintro e w' ⟨rfl, rfl⟩)
      | (go_at_call 11; refine (Mul_any _ _ _).mono ?_; rintro e w' ⟨rfl, rfl⟩; (try rw [HM.out]))
      | (go_at_call 13; refine (Neg_any _ _).mono ?_; rintro e w' ⟨rfl, rfl⟩; (try rw [HT.out]))
      | (go_at_call 16; refine (lives01 _).mono ?_; rintro e w' ⟨rfl, hb⟩))
    go_ret
    exact ⟨rfl, by assumption⟩
  · have hd : decide (a0 ≤ a1) = false := by simpa using hle
    go_enter Try.func5, Try.ntmps5
    go_wp2_with (first
      | (go_at_call 8; refine (Add_any _ _ _).mono ?_; rintro e w' ⟨rfl, rfl⟩; (try rw [HA.out]); (try rw [HN.out]))
      | (go_at_call 10; refine (Sub_any _ _ _).mono ?_; rintro e w' ⟨rfl, rfl⟩)
      | (go_at_call 11; refine (Mul_any _ _ _).mono ?_; rintro e w' ⟨rfl, rfl⟩; (try rw [HM.out]))
      | (go_at_call 13; refine (Neg_any _ _).mono ?_; rintro e w' ⟨rfl, rfl⟩; (try rw [HT.out]))
      | (go_at_call 16; refine (lives01 _).mono ?_; rintro e w' ⟨rfl, hb⟩))
    go_ret
    exact ⟨rfl, by assumption⟩
end Go.Proofs.Ytihfeallcfbalaa
