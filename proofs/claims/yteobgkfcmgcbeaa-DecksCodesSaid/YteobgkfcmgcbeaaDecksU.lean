/-
  The document's Uncode. Conditions: short texts.
-/
import Derived.Test.YteobgkfcmgcbeaaDecksRef
import Derived.Test.YteobgkfcmgcbeaaPush
namespace Go.Proofs.Yteobgkfcmgcbeaa
open Go.ChangeShapes Go.WideShapes Go.ChangeAt Go.RowKit
set_option linter.unusedVariables false
set_option linter.unusedSimpArgs false
set_option maxRecDepth 20000
set_option maxHeartbeats 3200000
theorem und_intsD : Try.prog.underlying 22 = some (.slice 3) := by kernel_rfl
theorem info_intD : (Try.prog.info? 3).map (fun i => (i.zero, i.size, i.bytes)) = some (some (.int .i64 0), 1, 8) := by kernel_rfl
theorem bigC_next (s : ByteArray) (k : Nat) : bigC (numsC s (k + 1)) = (bigC (numsC s k) || decide (127 < numC s k)) := by
  unfold bigC
  show (numsC s k ++ [numC s k]).any _ = _
  rw [List.any_append]
  simp
theorem bigC_mono {s : ByteArray} {j : Nat} (h : bigC (numsC s j) = true) : ∀ {k : Nat}, j ≤ k → bigC (numsC s k) = true := by
  intro k hk
  induction k with
  | zero => obtain rfl : j = 0 := by omega
            exact h
  | succ k ih =>
    rcases Nat.lt_or_ge k j with h' | h'
    · obtain rfl : j = k + 1 := by omega
      exact h
    · rw [bigC_next, ih h']; rfl
theorem badsC_none {s : ByteArray} (h : badsC s s.size = false) {i : Nat} (hi : i < s.size) : 97 ≤ (gB s i : Int) ∧ (gB s i : Int) ≤ 112 := by
  have := badsC_iff.1 h i hi; omega
/-- What Uncode leaves: its numbers as a row of the call's own, its error. -/
def UncPost (s : ByteArray) (k : IntKind) (w : World) (e : Ending) (w' : World) : Prop :=
  ∃ v, e = .returned (.tuple #[v, .int k (uncS s).2]) ∧ w'.ownsRow w.heap.size 3 1 v (uncS s).1.length (ints (uncS s).1) ∧ Below w.heap.size w w'
theorem UncPost.nil {s : ByteArray} {k : IntKind} {w w' : World} {x : Int} (h : uncS s = ([], x)) (hb : Below w.heap.size w w') : UncPost s k w (.returned (.tuple #[.slice none 0 0, .int k x])) w' := by
  unfold UncPost
  rw [h]
  exact ⟨_, rfl, World.ownsRow_nil _ _ _ _, hb⟩
theorem UncPost.some {s : ByteArray} {k : IntKind} {w w' : World} {l : List Int} {v : Value} (h : uncS s = (l, 0)) (hv : w'.ownsRow w.heap.size 3 1 v l.length (ints l)) (hb : Below w.heap.size w w') : UncPost s k w (.returned (.tuple #[v, .int k 0])) w' := by
  unfold UncPost
  rw [h]
  exact ⟨_, rfl, hv, hb⟩
theorem unc_short {s : ByteArray} (h : s.size < 2) : uncS s = ([], 2) := by unfold uncS; rw [if_pos h]
theorem unc_form {s : ByteArray} (h : ¬ s.size < 2) (h2 : s.size % 2 ≠ 0 ∨ badsC s s.size = true) : uncS s = ([], 4) := by unfold uncS; rw [if_neg h, if_pos h2]
theorem unc_big {s : ByteArray} (h : ¬ s.size < 2) (h2 : ¬ (s.size % 2 ≠ 0 ∨ badsC s s.size = true)) (h3 : bigC (numsC s ((s.size - 2) / 2)) = true) : uncS s = ([], 12) := by unfold uncS; rw [if_neg h, if_neg h2, if_pos h3]
theorem unc_sum {s : ByteArray} (h : ¬ s.size < 2) (h2 : ¬ (s.size % 2 ≠ 0 ∨ badsC s s.size = true)) (h3 : bigC (numsC s ((s.size - 2) / 2)) = false) (h4 : deckS (numsC s ((s.size - 2) / 2)) ≠ s) : uncS s = ([], 5) := by
  unfold uncS; rw [if_neg h, if_neg h2, if_neg (by rw [h3]; exact Bool.false_ne_true), if_neg h4]
theorem unc_ok {s : ByteArray} (h : ¬ s.size < 2) (h2 : ¬ (s.size % 2 ≠ 0 ∨ badsC s s.size = true)) (h3 : bigC (numsC s ((s.size - 2) / 2)) = false) (h4 : deckS (numsC s ((s.size - 2) / 2)) = s) : uncS s = (numsC s ((s.size - 2) / 2), 0) := by
  unfold uncS; rw [if_neg h, if_neg h2, if_neg (by rw [h3]; exact Bool.false_ne_true), if_pos h4]
theorem rUncode (s : ByteArray) (w : World) (hs : s.size ≤ 1000) : Calls Try.prog 6 #[.string s] w (UncPost s .i64 w) := by
  have B0 := Below.refl w.heap.size w
  by_cases h2 : s.size < 2
  · have E := Lib.hid (unc_short h2)
    go_enter Try.func6, Try.ntmps6
    go_wp2_with fail
    go_ret2
    exact UncPost.nil E.out B0
  · obtain ⟨b, hb⟩ : ∃ b, (decide (¬ s.size % 2 = 0)) = b := ⟨_, rfl⟩
    obtain ⟨m, hm⟩ : ∃ m : Int, (s.size : Int).tmod 2 = m := ⟨_, rfl⟩
    have hbm : (m != 0) = b := by
      rw [← hb, ← hm, Int.tmod_eq_emod_of_nonneg (by omega)]
      by_cases h : s.size % 2 = 0
      · have : (s.size : Int) % 2 = 0 := by omega
        rw [this]; simp [h]
      · have : ¬ (s.size : Int) % 2 = 0 := by omega
        simp [h, this]
    have H2 := Lib.hid h2
    have HB := Lib.hid hb
    have l2 : ¬ (s.size : Int) < 2 := by omega
    clear hb h2
    go_enter Try.func6, Try.ntmps6
    go_wp2_with fail
    go_loop [4, 5] (fun x i => ∃ k : Nat, x = .bool (b || badsC s k) ∧ i = .int .i64 k ∧ k ≤ s.size) (fun _ i => s.size - (intOf i).toNat)
    case atStart => exact ⟨0, by unfold badsC; rw [Bool.or_false], by go_num, by omega⟩
    case round =>
      obtain ⟨k, rfl, rfl, h1⟩ := hrel
      by_cases hk : k < s.size
      · have e0 := gB_eq s k hk
        obtain ⟨c, hc⟩ : ∃ c, badsC s k = c := ⟨_, rfl⟩
        have HN : Hid (badsC s (k + 1) = (c || badC s k)) := Lib.hid (by rw [← hc]; rfl)
        rw [hc]
        by_cases c1 : (s[k]'hk).toNat < 97
        · have d1 : ((s[k]'hk).toNat : Int) < 97 := by omega
          have HK : Hid (badC s k = true) := Lib.hid (by unfold badC; simp; omega)
          clear hc e0 c1
          cases b <;> cases c
          all_goals
            go_wp2
            go_round
            case rel => exact ⟨k + 1, by rw [HN.out, HK.out]; rfl, by go_num, by omega⟩
            case measure => simp [intOf]; omega
        · by_cases c2 : 112 < (s[k]'hk).toNat
          · have d1 : ¬ ((s[k]'hk).toNat : Int) < 97 := by omega
            have d2 : 112 < ((s[k]'hk).toNat : Int) := by omega
            have HK : Hid (badC s k = true) := Lib.hid (by unfold badC; simp; omega)
            clear hc e0 c1 c2
            cases b <;> cases c
            all_goals
              go_wp2
              go_round
              case rel => exact ⟨k + 1, by rw [HN.out, HK.out]; rfl, by go_num, by omega⟩
              case measure => simp [intOf]; omega
          · have d1 : ¬ ((s[k]'hk).toNat : Int) < 97 := by omega
            have d2 : ¬ 112 < ((s[k]'hk).toNat : Int) := by omega
            have HK : Hid (badC s k = false) := Lib.hid (by unfold badC; simp; omega)
            clear hc e0 c1 c2
            cases b <;> cases c
            all_goals
              go_wp2
              go_round
              case rel => exact ⟨k + 1, by rw [HN.out, HK.out]; rfl, by go_num, by omega⟩
              case measure => simp [intOf]; omega
      · obtain rfl : k = s.size := by omega
        cases hx : (b || badsC s s.size) with
        | true =>
          have E := Lib.hid (unc_form H2.out (by
            have := HB.out
            rcases Bool.or_eq_true _ _ ▸ hx with h | h
            · rw [h] at this; exact .inl (by simpa using this)
            · exact .inr h))
          clear hx
          go_wp2
          go_ret2
          exact UncPost.nil E.out B0
        | false =>
          have hx' := Bool.or_eq_false_iff.1 hx
          have hev : s.size % 2 = 0 := by have := HB.out; rw [hx'.1] at this; simpa using this
          have hnb := hx'.2
          have HF : Hid (¬ (s.size % 2 ≠ 0 ∨ badsC s s.size = true)) := Lib.hid (by rw [hnb]; simp [hev])
          have HV := Lib.hid hev
          have HNB := Lib.hid hnb
          clear hx hx' hev hnb
          go_wp2_with fail
          go_loopw [6, 7] (fun l i wr => ∃ k o : Nat, o = 2 * k ∧ i = .int .i64 o ∧ o + 2 ≤ s.size ∧ wr.ownsRow w.heap.size 3 1 l k (ints (numsC s k)) ∧ bigC (numsC s k) = false ∧ Below w.heap.size w wr) (fun _ i _ => s.size - (intOf i).toNat)
          case atStart => exact ⟨0, 0, rfl, by go_num, by have := H2.out; omega, World.ownsRow_nil _ _ _ _, rfl, B0⟩
          case round =>
            obtain ⟨k, o, hk, rfl, ho2, ho, hbig, hB⟩ := hrel
            have HO := Lib.hid ho
            have HG := Lib.hid hbig
            have HB' := Lib.hid hB
            have HK := Lib.hid hk
            have z9 := hB.size
            have z8 : k ≤ 500 := by omega
            clear ho hbig hB hk
            by_cases hlt : o + 2 < s.size
            · have h1 : o < s.size := by omega
              have h3 : o + 1 < s.size := by omega
              have e1 := gB_eq s o h1
              have e2 := gB_eq s (o + 1) h3
              have c1 := badsC_none HNB.out h1
              have c2 := badsC_none HNB.out h3
              rw [e1] at c1
              rw [e2] at c2
              have hn : numC s k = 16 * (((s[o]'h1).toNat : Int) - 97) + ((s[o + 1]'h3).toNat : Int) - 97 := by
                unfold numC
                rw [← HK.out, e1, e2]
              have hnx := bigC_next s k
              have hap : numsC s (k + 1) = numsC s k ++ [numC s k] := rfl
              rw [hn] at hnx hap
              obtain ⟨a, ha⟩ : ∃ a : Int, ((s[o]'h1).toNat : Int) = a := ⟨_, rfl⟩
              obtain ⟨b2, hb2⟩ : ∃ b2 : Int, ((s[o + 1]'h3).toNat : Int) = b2 := ⟨_, rfl⟩
              rw [ha] at c1 hnx hap
              rw [hb2] at c2 hnx hap
              clear hn e1 e2
              have HNX := Lib.hid hnx
              have HAP := Lib.hid hap
              clear hnx hap
              have w1 : IntKind.i64.wrap (o + 1) = (o : Int) + 1 := IntWalk.i64_in _ (by omega)
              have w2 : IntKind.i64.wrap (a - 97) = a - 97 := IntWalk.i64_in _ (by omega)
              have w3 : IntKind.i64.wrap (16 * (a - 97)) = 16 * (a - 97) := IntWalk.i64_in _ (by omega)
              have w4 : IntKind.i64.wrap (16 * (a - 97) + b2) = 16 * (a - 97) + b2 := IntWalk.i64_in _ (by omega)
              have w5 : IntKind.i64.wrap (16 * (a - 97) + b2 - 97) = 16 * (a - 97) + b2 - 97 := IntWalk.i64_in _ (by omega)
              have lt2 : (o : Int) + 2 < (s.size : Int) := by omega
              go_wp2_with fail
              go_quiet (fail)
              obtain ⟨v, hv⟩ : ∃ v, 16 * (a - 97) + b2 - 97 = v := ⟨_, rfl⟩
              have HNX := HNX.out
              have HAP := HAP.out
              rw [hv] at HNX HAP ⊢
              by_cases hc : 127 < v
              · have E := Lib.hid (unc_big H2.out HF.out (bigC_mono (j := k + 1) (by rw [HNX, HG.out]; simp [hc]) (by have := HK.out; have := HV.out; omega)))
                clear HNX HAP hv w1 w2 w3 w4 w5 ha hb2
                go_wp2
                go_ret2
                exact UncPost.nil E.out (below_drewN HB'.out _)
              · have HG2 := Lib.hid (HNX.trans (show _ = false by rw [HG.out]; simp [hc]))
                have HAP := Lib.hid HAP
                have HO2 := Lib.hid (own_below HO.out (below_drewN (Below.refl _ wr) 1))
                clear HNX hv w1 w2 w3 w4 w5 ha hb2
                go_wp2_with (at_builtin; refine wpList_push (.tmp 58) (.tmp 60) 22 3 8 (.int .i64 0) und_intsD info_intD rfl (by decide) rfl rfl w.heap.size _ _ _ _ rfl (own_below HO.out (below_drewN (Below.refl _ wr) _)) rfl rfl (by omega) (by simp; omega) ?_; intro v2 w2 o2 g2 at2; have b3 := below_push (below_drewN HB'.out _) (own_below HO.out (below_drewN (Below.refl _ wr) _)) g2 (Nat.le_refl _) (by simp; omega); have hz2 := g2.size)
                go_roundw
                case rel => exact ⟨k + 1, o + 2, by have := HK.out; omega, by go_num, by have := HK.out; have := HV.out; omega, by rw [HAP.out]; simpa [ints] using o2, HG2.out, b3⟩
                case measure => simp [intOf]; omega
            · have hkk : (s.size - 2) / 2 = k := by have := HK.out; have := HV.out; omega
              have eU := unc_ok H2.out HF.out
              have eS := unc_sum H2.out HF.out
              rw [hkk] at eU eS
              have eU := Lib.hid (eU HG.out)
              have eS := Lib.hid (eS HG.out)
              obtain ⟨A, cp, rfl, hnn, hR⟩ := own_reads HO.out
              have lk : ¬ (o : Int) + 2 < (s.size : Int) := by omega
              have hc := rCode (numsC s k) A k cp wr hR (numsC_len s k) (by omega)
              have HC := Lib.hid hc
              have hne := eqB_iff (deckS (numsC s k)) s
              generalize deckS (numsC s k) = D at *
              clear hc hR hkk hnn
              by_cases hD : D = s
              · rw [decide_eq_true hD] at hne
                have hb3 := bne_str _ _ _ hne
                have eU := Lib.hid (eU.out hD)
                clear hD eS
                go_wp2_with (go_at_call 8; refine HC.out.mono ?_; rintro e w1 ⟨rfl, b1⟩)
                go_ret2
                exact UncPost.some eU.out (by rw [numsC_len]; exact own_below HO.out b1) (HB'.out.trans (b1.mono z9))
              · rw [decide_eq_false hD] at hne
                have hb3 := bne_str _ _ _ hne
                have eS := Lib.hid (eS.out hD)
                clear hD eU
                go_wp2_with (go_at_call 8; refine HC.out.mono ?_; rintro e w1 ⟨rfl, b1⟩)
                go_ret2
                exact UncPost.nil eS.out (HB'.out.trans (b1.mono z9))
end Go.Proofs.Yteobgkfcmgcbeaa
