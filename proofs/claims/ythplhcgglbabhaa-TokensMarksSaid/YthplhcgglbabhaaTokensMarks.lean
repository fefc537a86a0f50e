/-
  TokensMarks: true for every input, and it writes nothing that was there. No conditions.
-/
import Derived.Test.YthplhcgglbabhaaTokLaws
namespace Go.Proofs.Ythplhcgglbabhaa
open Go.ChangeShapes Go.WideShapes Go.ChangeAt Go.RowKit
set_option linter.unusedVariables false
set_option linter.unusedSimpArgs false
set_option maxHeartbeats 1600000 in
theorem walk_TokensMarks (s : ByteArray) (w : World) (ws : s.size ≤ maxLen) :
    Calls Try.prog 4 #[.string s] w fun e w' => e = .returned (.bool true) ∧ Below w.heap.size w w' := by
  unfold maxLen at ws
  go_enter Try.func4, Try.ntmps4
  go_wp2_with (first
    | (go_at_call 10; refine (tkMarks _).mono ?_; rintro e w1 ⟨g1, rfl, _, hW1, b1⟩; have W1 := Lib.hid hW1; have B1 := Lib.hid b1; clear hW1 b1)
    | (go_at_call 11; refine (rtMarks _).mono ?_; rintro e w2 ⟨g2, rfl, _, hW2, b2⟩; have W2 := Lib.hid hW2; have V1 := Lib.hid (W1.out.below b2 W1.out.inside); have B2 := Lib.hid (bthen B1.out b2); clear hW2 b2))
  go_loopw [5] (fun i wr => ∃ k q : Nat, i = .int .i64 (k : Int) ∧ k ≤ 14 ∧ wr = w2.drewN q) (fun i _ => 14 - (intOf i).toNat)
  case atStart => exact ⟨0, 0, rfl, by omega, rfl⟩
  case round =>
    obtain ⟨k, q, rfl, hk, rfl⟩ := hrel
    by_cases hkl : k < 14
    · have h1 : w2.cell? ⟨g1, k, none⟩ = some (.string (strOfNums (mkL[k]'hkl))) := by
        rw [V1.out.read k, ← mkCs_at k hkl]; simp
      have h2 : w2.cell? ⟨g2, k, none⟩ = some (.string (strOfNums (mkL[k]'hkl))) := by
        rw [W2.out.read k, ← mkCs_at k hkl]; simp
      generalize strOfNums (mkL[k]'hkl) = m at *
      have lk : (k : Int) < 14 := by omega
      have lk0 : decide ((k : Int) < 0) = false := by simp
      clear hkl
      go_wp2_with fail
      go_quiet (fail)
      go_wp2
      go_roundw
      case rel => exact ⟨k + 1, _, by go_num, by omega, rfl⟩
      case measure => simp [intOf]; omega
    · obtain rfl : k = 14 := by omega
      clear hk hkl
      have C2 := Lib.hid (below_drewN B2.out q)
      by_cases hz : (s.size : Int) < 1
      · go_wp2_with (go_at_call 6; refine (lives09 _).mono ?_; rintro e w5 ⟨rfl, b5⟩)
        go_ret
        exact ⟨rfl, bthen C2.out b5⟩
      · by_cases hz2 : 200 < (s.size : Int)
        · go_wp2_with (go_at_call 6; refine (lives09 _).mono ?_; rintro e w5 ⟨rfl, b5⟩)
          go_ret
          exact ⟨rfl, bthen C2.out b5⟩
        · go_wp2
          go_loop [6, 7] (fun t i => ∃ (k : Nat) (T : ByteArray), t = .string T ∧ i = .int .i64 (k : Int) ∧ k ≤ 20 ∧ 2 ^ k ≤ T.size ∧ T.size ≤ 131072) (fun _ i => 20 - (intOf i).toNat)
          case atStart => exact ⟨0, s, rfl, rfl, by omega, by simp; omega, by omega⟩
          case round =>
            obtain ⟨k, T, rfl, rfl, hk, hp, hT⟩ := hrel
            have HP := Lib.hid hp
            clear hp
            by_cases hlong : 65536 < (T.size : Int)
            · have hlong' : ¬ (T.size : Int) ≤ 65536 := by omega
              have hv : scanV T = ([], 3, 1, 1) := by unfold scanV; rw [if_pos (by omega)]
              have HV := Lib.hid hv
              clear hv
              have hk20 : (k : Int) < 20 := by
                rcases Nat.lt_or_ge k 20 with h | h
                · omega
                · exfalso
                  have := HP.out
                  rw [show k = 20 from by omega] at this
                  omega
              go_wp2_with (first
                | (go_at_call 7; refine (tkScan T _ (by omega)).mono ?_; rintro e w6 ⟨v, rfl, o6, b6⟩; rw [HV.out]; have C6 := Lib.hid (bthen C2.out b6); clear o6 b6; simp only [faultV])
                | (go_at_call 6; refine (lives09 _).mono ?_; rintro e w7 ⟨rfl, b7⟩; have C7 := Lib.hid ((C6.out.alloc C6.out.size (.cells #[.int .i64 3, .int .i64 1, .int .i64 1] 26)).trans (b7.mono (by have := C6.out.size; simp; omega))); clear b7))
              go_ret
              exact ⟨rfl, C7.out⟩
            · have hk20 : (k : Int) < 20 := by
                rcases Nat.lt_or_ge k 20 with h | h
                · omega
                · exfalso
                  have := HP.out
                  rw [show k = 20 from by omega] at this
                  omega
              go_wp2
              go_round
              case rel => exact ⟨k + 1, T ++ T, rfl, by go_num, by omega, by rw [ByteArray.size_append, Nat.pow_succ]; have := HP.out; omega, by rw [ByteArray.size_append]; omega⟩
              case measure => simp [intOf]; omega
end Go.Proofs.Ythplhcgglbabhaa
