/-
  Package decks: Uncode. Conditions: short texts.
-/
import Derived.Test.YteobgkfcmgcbeaaDecksQ
namespace Go.Proofs.Yteobgkfcmgcbeaa
open Go.ChangeShapes Go.WideShapes Go.ChangeAt Go.RowKit
set_option linter.unusedVariables false
set_option linter.unusedSimpArgs false
set_option maxRecDepth 20000
set_option maxHeartbeats 3200000
theorem numsC_cut {s : ByteArray} {n : Nat} (hn : n ≤ s.size) : ∀ {k : Nat}, 2 * k ≤ n → numsC (s.extract 0 n) k = numsC s k
  | 0, _ => rfl
  | k + 1, h => by
    unfold numsC
    rw [numsC_cut hn (by omega)]
    unfold numC
    rw [gB_extract s 0 n _ (by omega) hn, gB_extract s 0 n _ (by omega) hn, Nat.zero_add, Nat.zero_add]
theorem badsC_cut {s : ByteArray} {n : Nat} (hn : n ≤ s.size) (h : badsC s s.size = false) : badsC (s.extract 0 n) n = false := badsC_iff.2 fun i hi => by
  rw [gB_extract s 0 n i (by omega) hn, Nat.zero_add]
  exact badsC_iff.1 h i (by omega)
theorem numsC_get? {s : ByteArray} : ∀ {K j : Nat}, j < K → (numsC s K)[j]? = some (numC s j)
  | 0, j, h => by omega
  | K + 1, j, h => by
    have hl := numsC_len s K
    rw [show numsC s (K + 1) = numsC s K ++ [numC s K] from rfl]
    rcases Nat.lt_or_ge j K with h' | h'
    · rw [List.getElem?_append_left (by omega)]
      exact numsC_get? h'
    · obtain rfl : j = K := by omega
      rw [List.getElem?_append_right (by omega), hl, Nat.sub_self]
      rfl
theorem numsC_get {s : ByteArray} {K j : Nat} (h : j < (numsC s K).length) : (numsC s K)[j] = numC s j := by
  have := numsC_get? (s := s) (K := K) (j := j) (by rw [← numsC_len s K]; exact h)
  rw [List.getElem?_eq_getElem h] at this
  injection this
/-- A call's world with the row of its numbers. -/
def UcS (w : World) (v : Value) (l : List Int) (x : World) : Prop := Below w.heap.size w x ∧ x.ownsRow w.heap.size 3 1 v l.length (ints l)
theorem UcS.call {w x y : World} {v : Value} {l : List Int} (h : UcS w v l x) (b : Below x.heap.size x y) : UcS w v l y := ⟨h.1.trans (b.mono h.1.size), own_below h.2 b⟩
theorem UcS.drew {w x : World} {v : Value} {l : List Int} (h : UcS w v l x) : UcS w v l x.drew := h.call (below_drew1 (Below.refl _ _))
theorem pUncode (s : ByteArray) (w : World) (hs : s.size ≤ 1000) : Calls Try.prog 5 #[.string s] w (UncPost s .i64 w) := by
  have B0 := Below.refl w.heap.size w
  by_cases h2 : s.size < 2
  · have E := Lib.hid (unc_short h2)
    go_enter Try.func5, Try.ntmps5
    go_wp2_with fail
    go_ret2
    exact UncPost.nil E.out B0
  · obtain ⟨m, hm⟩ : ∃ m : Int, (s.size : Int).tmod 2 = m := ⟨_, rfl⟩
    have l2 : ¬ (s.size : Int) < 2 := by omega
    by_cases hev : s.size % 2 = 0
    · have hbm : (m != 0) = false := by
        rw [← hm, Int.tmod_eq_emod_of_nonneg (by omega)]
        have : (s.size : Int) % 2 = 0 := by omega
        rw [this]; rfl
      obtain ⟨c, hc⟩ : ∃ c, badsC s s.size = c := ⟨_, rfl⟩
      have pl := fun w => pLetters s w (by omega)
      rw [hc] at pl
      cases c with
      | true =>
        have E := Lib.hid (unc_form h2 (.inr hc))
        clear h2 hev hc
        go_enter Try.func5, Try.ntmps5
        go_wp2_with (go_at_call 10; refine (pl _).mono ?_; rintro e w1 ⟨rfl, rfl⟩)
        go_ret2
        exact UncPost.nil E.out B0
      | false =>
        obtain ⟨n, hn⟩ : ∃ n, s.size = n + 2 := ⟨s.size - 2, by omega⟩
        have hF : ¬ (s.size % 2 ≠ 0 ∨ badsC s s.size = true) := by rw [hc]; simp [hev]
        have eB := unc_big h2 hF
        have eO := unc_ok h2 hF
        have eS := unc_sum h2 hF
        have sI := sum_iff (s := s) (by omega) hev hc
        rw [show s.size - 2 = n from by omega] at eB eO eS sI
        have EB := Lib.hid eB
        have EO := Lib.hid eO
        have ES := Lib.hid eS
        have SI := Lib.hid sI
        have hz1 := size_extract s 0 n (by omega)
        have hz3 := size_extract s n s.size (Nat.le_refl _)
        have hzx : (s.extract 0 n).size = n := by omega
        have pn := fun w => pNumbers (s.extract 0 n) w (by omega) (by omega) (by rw [hzx]; exact badsC_cut (by omega) hc)
        rw [hzx, numsC_cut (by omega) (by omega)] at pn
        have pe := fun w => pEnding (s.extract 0 n) w (by omega)
        have hze : (strOfNums (sumC (s.extract 0 n))).size = 2 := strOfNums_size _
        have HL := Lib.hid (numsC_len s (n / 2))
        have hK : Hid (∀ j, bigC (numsC s j) = true → j ≤ n / 2 → bigC (numsC s (n / 2)) = true) := Lib.hid fun j h hj => bigC_mono h hj
        have HNX : Hid (∀ j (hj : j < (numsC s (n / 2)).length), bigC (numsC s (j + 1)) = (bigC (numsC s j) || decide (127 < (numsC s (n / 2))[j]))) := Lib.hid fun j hj => by rw [bigC_next, numsC_get hj]
        have hn2 : (s.size : Int) - 2 = (n : Int) := by omega
        have hn3 : (n : Int) ≤ (s.size : Int) := by omega
        have hn4 : (0 : Int) ≤ (n : Int) := by omega
        have hd : decide ((n : Int) < 0) = false := by simp
        have l3 : n / 2 ≤ 500 := by omega
        clear eB eO eS sI hF hev hc h2 hz1 hz3
        have HZ := Lib.hid hzx
        have HNN := Lib.hid hn
        clear hzx hn
        generalize n / 2 = K at *
        generalize hcode : strOfNums (sumC (s.extract 0 n)) = X at *
        go_enter Try.func5, Try.ntmps5
        go_wp2_with (first
          | (go_at_call 10; refine (pl _).mono ?_; rintro e w1 ⟨rfl, rfl⟩)
          | (go_at_call 11; refine (pn _).mono ?_; rintro e w1 ⟨v, rfl, hv, b1⟩; have HO := Lib.hid hv; clear hv; obtain ⟨A, cp, rfl, hnn, hR⟩ := own_reads HO.out; have HR := Lib.hid hR; clear hR))
        have z9 := b1.size
        go_loop [29] (fun i => ∃ k : Nat, i = .int .i64 k ∧ k ≤ K ∧ bigC (numsC s k) = false) (fun i => K - (intOf i).toNat)
        case atStart => exact ⟨0, by go_num, by omega, rfl⟩
        case round =>
          obtain ⟨k, rfl, hk, hbig⟩ := hrel
          have HG := Lib.hid hbig
          clear hbig
          by_cases hlt : k < K
          · have hk1 : k < (numsC s K).length := by rw [HL.out]; exact hlt
            obtain ⟨x, rfl⟩ := reads_some HR.out (.inr ⟨k, by rw [ints_len]; exact hk1⟩)
            have hnx := HNX.out k hk1
            have HC : w1.cell? (x.add k) = some (.int .i64 ((numsC s K)[k]'hk1)) := by
              rw [reads_at HR.out (by rw [ints_len]; exact hk1)]
              simp [ints, hk1]
            obtain ⟨v, hv⟩ : ∃ v, (numsC s K)[k]'hk1 = v := ⟨_, rfl⟩
            rw [hv] at hnx HC
            rw [HG.out, Bool.false_or] at hnx
            have lk : (k : Int) < (K : Int) := by omega
            clear hv hk1
            by_cases hb : 127 < v
            · have E := Lib.hid (EB.out (hK.out (k + 1) (by rw [hnx]; simp [hb]) (by omega)))
              clear hnx
              go_wp2_with fail
              go_ret2
              exact UncPost.nil E.out b1
            · have HG2 := Lib.hid (hnx.trans (show _ = false by simp [hb]))
              clear hnx
              go_wp2_with fail
              go_round
              case rel => exact ⟨k + 1, by go_num, by omega, HG2.out⟩
              case measure => simp [intOf]; omega
          · obtain rfl : k = K := by omega
            have lk : ¬ (k : Int) < (k : Int) := by omega
            have hi := SI.out HG.out
            have hne := eqB_iff (s.extract n s.size) X
            have U0 := Lib.hid (show UcS w (.slice A k cp) (numsC s k) w1 from ⟨b1, by rw [HL.out]; exact HO.out⟩)
            by_cases hD : s.extract n s.size = X
            · rw [decide_eq_true hD] at hne
              have hb3 := bne_str _ _ _ hne
              have E := Lib.hid (EO.out HG.out (hi.2 hD))
              clear hD hi
              go_wp2_with fail
              go_region_held3 (UcS w (.slice A k cp) (numsC s k)) (first
                | assumption
                | exact U0.out.drew
                | exact UcS.call (by assumption) b2) (first
                | (go_at_call 12; (with_reducible refine (pe _).mono ?_); rintro e w2 ⟨rfl, b2⟩))
              all_goals
                have HU := Lib.hid (show UcS w (.slice A k cp) (numsC s k) _ by assumption)
                go_wp2
                go_ret2
                exact UncPost.some E.out HU.out.2 HU.out.1
            · rw [decide_eq_false hD] at hne
              have hb3 := bne_str _ _ _ hne
              have E := Lib.hid (ES.out HG.out (fun h => hD (hi.1 h)))
              clear hD hi
              go_wp2_with fail
              go_region_held3 (UcS w (.slice A k cp) (numsC s k)) (first
                | assumption
                | exact U0.out.drew
                | exact UcS.call (by assumption) b2) (first
                | (go_at_call 12; (with_reducible refine (pe _).mono ?_); rintro e w2 ⟨rfl, b2⟩))
              all_goals
                have HU := Lib.hid (show UcS w (.slice A k cp) (numsC s k) _ by assumption)
                go_wp2
                go_ret2
                exact UncPost.nil E.out HU.out.1
    · have hbm : (m != 0) = true := by
        rw [← hm, Int.tmod_eq_emod_of_nonneg (by omega)]
        have : ¬ (s.size : Int) % 2 = 0 := by omega
        simp [this]
      have E := Lib.hid (unc_form h2 (.inl hev))
      clear h2 hev
      go_enter Try.func5, Try.ntmps5
      go_wp2_with fail
      go_ret2
      exact UncPost.nil E.out B0
end Go.Proofs.Yteobgkfcmgcbeaa
