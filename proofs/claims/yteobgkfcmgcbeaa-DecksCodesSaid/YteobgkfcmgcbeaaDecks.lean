/-
  Package decks: letter, ending, Code, isLetters, numbers, Uncode. Conditions: short lists and texts.
-/
import Derived.Test.YteobgkfcmgcbeaaDecksU
namespace Go.Proofs.Yteobgkfcmgcbeaa
open Go.ChangeShapes Go.WideShapes Go.ChangeAt Go.RowKit
set_option linter.unusedVariables false
set_option linter.unusedSimpArgs false
set_option maxRecDepth 20000
set_option maxHeartbeats 3200000
theorem pLetter (n : Int) (w : World) (h0 : 0 ≤ n) (h1 : n ≤ 15) : Calls Try.prog 13 #[.int .i64 n] w fun e w' => e = .returned (.int .u8 (97 + n)) ∧ w = w' := by
  go_enter Try.func13, Try.ntmps13
  go_wp2
  go_ret
  exact ⟨rfl, rfl⟩
theorem pEnding (s : ByteArray) (w : World) (hs : s.size ≤ 100000) : Calls Try.prog 12 #[.string s] w fun e w' => e = .returned (.string (strOfNums (sumC s))) ∧ Below w.heap.size w w' := by
  have p1 := fun w => Of_any s w hs
  have E : Hid (sumC s = [97 + (sumK s s.size).1 % 16, 97 + (sumK s s.size).2 % 16]) := Lib.hid rfl
  obtain ⟨a1, a2, b1, b2⟩ := sumK_bd s s.size
  generalize (sumK s s.size).1 = X at *
  generalize (sumK s s.size).2 = Y at *
  obtain ⟨p, hp⟩ : ∃ p, X.tmod 16 = p := ⟨_, rfl⟩
  obtain ⟨q, hq⟩ : ∃ q, Y.tmod 16 = q := ⟨_, rfl⟩
  have ep : X % 16 = p := by rw [← hp, Int.tmod_eq_emod_of_nonneg a1]
  have eq : Y % 16 = q := by rw [← hq, Int.tmod_eq_emod_of_nonneg b1]
  have p0 : 0 ≤ p := by omega
  have p1' : p ≤ 15 := by omega
  have q0 : 0 ≤ q := by omega
  have q1 : q ≤ 15 := by omega
  have E2 := E.out
  rw [ep, eq] at E2
  have E := Lib.hid E2
  have hw := bytes2 (97 + p) (97 + q)
  have l1 := fun w => pLetter p w p0 p1'
  have l2 := fun w => pLetter q w q0 q1
  clear E2 ep eq
  go_enter Try.func12, Try.ntmps12
  go_wp2_with (first
    | (go_at_call 16; refine (p1 _).mono ?_; rintro e w1 ⟨rfl, rfl⟩)
    | (go_at_call 13; ((with_reducible refine (l1 _).mono ?_); rintro e w1 ⟨rfl, rfl⟩))
    | (go_at_call 13; ((with_reducible refine (l2 _).mono ?_); rintro e w1 ⟨rfl, rfl⟩)))
  go_ret
  exact ⟨by rw [E.out]; rfl, (Below.refl _ _).alloc (Nat.le_refl _) _⟩
theorem pLetters (s : ByteArray) (w : World) (hs : s.size ≤ 100000) : Calls Try.prog 10 #[.string s] w fun e w' => e = .returned (.bool (!badsC s s.size)) ∧ w = w' := by
  go_enter Try.func10, Try.ntmps10
  go_wp2
  go_loop [6] (fun i => ∃ k : Nat, i = .int .i64 k ∧ k ≤ s.size ∧ badsC s k = false) (fun i => s.size - (intOf i).toNat)
  case atStart => exact ⟨0, by go_num, by omega, rfl⟩
  case round =>
    obtain ⟨k, rfl, h1, hbad⟩ := hrel
    have HB := Lib.hid hbad
    clear hbad
    by_cases hk : k < s.size
    · have e0 := gB_eq s k hk
      have hN : ∀ j, k + 1 ≤ j → badC s k = true → badsC s j = true := fun j hj hb => by
        cases e : badsC s j with
        | true => rfl
        | false =>
          have := badsC_iff.1 e k (by omega)
          unfold badC at hb
          simp at hb
          omega
      by_cases c1 : (s[k]'hk).toNat < 97
      · have d1 : ((s[k]'hk).toNat : Int) < 97 := by omega
        have HE := Lib.hid (hN s.size (by omega) (by unfold badC; simp; omega))
        clear hN e0 c1
        go_wp2
        go_ret
        exact ⟨by rw [HE.out]; rfl, rfl⟩
      · by_cases c2 : 112 < (s[k]'hk).toNat
        · have d1 : ¬ ((s[k]'hk).toNat : Int) < 97 := by omega
          have d2 : ((s[k]'hk).toNat : Int) ≥ 113 := by omega
          have HE := Lib.hid (hN s.size (by omega) (by unfold badC; simp; omega))
          clear hN e0 c1 c2
          go_wp2
          go_ret
          exact ⟨by rw [HE.out]; rfl, rfl⟩
        · have d1 : ¬ ((s[k]'hk).toNat : Int) < 97 := by omega
          have d2 : ¬ ((s[k]'hk).toNat : Int) ≥ 113 := by omega
          have HE : Hid (badsC s (k + 1) = false) := Lib.hid (by unfold badsC badC; rw [HB.out]; simp; omega)
          clear hN e0 c1 c2
          go_wp2
          go_round
          case rel => exact ⟨k + 1, by go_num, by omega, HE.out⟩
          case measure => simp [intOf]; omega
    · obtain rfl : k = s.size := by omega
      go_wp2
      go_ret
      exact ⟨by rw [HB.out]; rfl, rfl⟩
end Go.Proofs.Yteobgkfcmgcbeaa
