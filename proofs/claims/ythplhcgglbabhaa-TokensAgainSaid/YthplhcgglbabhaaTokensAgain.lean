/-
  TokensAgain: true for every input, and it writes nothing that was there. No conditions.
-/
import Derived.Test.YthplhcgglbabhaaTokLaws
import Derived.Test.YthplhcgglbabhaaTokAgain
namespace Go.Proofs.Ythplhcgglbabhaa
open Go.ChangeShapes Go.WideShapes Go.ChangeAt Go.RowKit
set_option linter.unusedVariables false
set_option linter.unusedSimpArgs false
/-- What the first scan tells. -/
theorem scan_facts (s : ByteArray) (h64 : s.size ≤ 65536) (L : List TokV) (E : Int) (l c : Nat) (hv : scanV s = (L, E, l, c)) :
    (E ≠ 0 ∧ L = [] ∧ 1 ≤ l ∧ 1 ≤ c) ∨ (E = 0 ∧ l = 0 ∧ c = 0 ∧ Tr s 0 L) := by
  obtain ⟨L', E', p, hs⟩ : ∃ L' E' p, scanA s 0 [] = (L', E', p) := ⟨_, _, _, rfl⟩
  have hf := scan_tr s s.size 0 [] L' E' p (by omega) (by omega) (Bd.zero s) hs
  rw [scanV_of s h64 hs] at hv
  by_cases hE : E' = 0
  · rw [if_pos hE] at hv
    injection hv with e1 e2
    injection e2 with e2 e3
    injection e3 with e3 e4
    obtain ⟨L2, h2, h3⟩ := hf.1 hE
    refine .inr ⟨e2.symm, e3.symm, e4.symm, ?_⟩
    rw [← e1, h2]; exact h3
  · rw [if_neg hE] at hv
    injection hv with e1 e2
    injection e2 with e2 e3
    injection e3 with e3 e4
    have hp := place_pos s (hf.2 hE).2
    refine .inl ⟨by rw [← e2]; exact hE, e1.symm, ?_, ?_⟩
    · rw [← e3]; exact hp.1
    · rw [← e4]; exact hp.2
theorem again_facts (s : ByteArray) (h64 : s.size ≤ 3000) (L : List TokV) (h : Tr s 0 L) : ∃ M, scanV (strOfNums (wrL L)) = (M, 0, 0, 0) ∧ SimT L M ∧ (wrL L).length ≤ 6001 := by
  have hsz := h.size
  have h10 := h.sh.no10
  have hb : bL (strOfNums (wrL L)) = wrL L := bL_str _ (fun x hx => ⟨(h10 x hx).1, (h10 x hx).2.1⟩)
  have hz : (strOfNums (wrL L)).size = (wrL L).length := strOfNums_size _
  obtain ⟨M, p, hM, hS⟩ := again (strOfNums (wrL L)) (fun i hi c => by
    have hg := bL_get (strOfNums (wrL L)) i hi
    rw [hb, c] at hg
    exact (h10 _ (List.mem_of_getElem? hg)).2.2 rfl) L h.sh 0 [] (Bd.zero _) (by unfold restL; rw [hb, List.drop_zero])
  refine ⟨M, ?_, hS, by omega⟩
  rw [scanV_of _ (by omega) hM, if_pos rfl]; rfl
theorem own5_read {w : World} {base : Nat} {e : TypeId} {A : Option Addr} {n c m : Nat} {xs : List Value} (h : w.ownsRow base e 5 (.slice A n c) m xs) : Reads w A xs := by
  obtain ⟨A', c', hv, _, hr⟩ := own5_reads h
  injection hv with e1 _ _
  rw [e1]; exact hr
theorem wr_part (L : List TokV) (k : Nat) : (wrL (L.take k)).length ≤ (wrL L).length := by
  have : wrL L = wrL (L.take k) ++ wrL (L.drop k) := by
    unfold wrL; rw [← List.flatMap_append, List.take_append_drop]
  rw [this, List.length_append]; omega
theorem wr_next (L : List TokV) (k : Nat) (h : k < L.length) : strOfNums (wrL (L.take (k + 1))) = if (L[k]'h).k = 3 then strOfNums (wrL (L.take k)) ++ ⟨#[34]⟩ ++ (L[k]'h).t ++ ⟨#[34, 32]⟩ else strOfNums (wrL (L.take k)) ++ (L[k]'h).t ++ ⟨#[32]⟩ := by
  rw [List.take_succ_eq_append_getElem h, wrL_snoc]
  unfold txt
  have e1 : (⟨#[34]⟩ : ByteArray) = strOfNums [34] := rfl
  have e2 : (⟨#[34, 32]⟩ : ByteArray) = strOfNums [34, 32] := rfl
  have e3 : (⟨#[32]⟩ : ByteArray) = strOfNums [32] := rfl
  have e4 : (L[k]'h).t = strOfNums (bL (L[k]'h).t) := (str_bL _).symm
  split
  · conv => rhs; rw [e4]
    rw [e1, e2, str_append, str_append, str_append]; simp
  · conv => rhs; rw [e4]
    rw [e3, str_append, str_append]; simp
theorem wr_size (L : List TokV) (k : Nat) : (strOfNums (wrL (L.take k))).size ≤ (wrL L).length := by
  have : (strOfNums (wrL (L.take k))).size = (wrL (L.take k)).length := strOfNums_size _
  rw [this]; exact wr_part L k
set_option maxHeartbeats 6400000 in
set_option maxRecDepth 100000 in
theorem walk_TokensAgain (s : ByteArray) (w : World) (ws : s.size ≤ maxLen) :
    Calls Try.prog 5 #[.string s] w fun e w' => e = .returned (.bool true) ∧ Below w.heap.size w w' := by
  unfold maxLen at ws
  by_cases hz : 3000 < s.size
  · have l0 : 3000 < (s.size : Int) := by omega
    go_enter Try.func5, Try.ntmps5
    go_wp2_with (go_at_call 6; refine (lives09 _).mono ?_; rintro e w1 ⟨rfl, hb1⟩)
    go_ret
    exact ⟨rfl, hb1⟩
  · have l0 : (s.size : Int) ≤ 3000 := by omega
    have l0d : decide (3000 < (s.size : Int)) = false := by simp; omega
    obtain ⟨L, E, l, c, hv⟩ : ∃ L E l c, scanV s = (L, E, l, c) := ⟨_, _, _, _, rfl⟩
    have hf := scan_facts s (by omega) L E l c hv
    have HV := Lib.hid hv
    clear hv
    rcases hf with ⟨hE, hL, hl, hc⟩ | ⟨rfl, rfl, rfl, hT⟩
    · subst hL
      have q0 : (E != 0) = true := by simpa using hE
      have q1 : (0 : Int) < (l : Int) := by omega
      have q2 : (0 : Int) < (c : Int) := by omega
      clear hE
      go_enter Try.func5, Try.ntmps5
      go_wp2_with (first
        | (go_at_call 7; refine (tkScan s _ (by omega)).mono ?_; rintro e w1 ⟨v, rfl, o1, b1⟩; rw [HV.out] at o1 ⊢; obtain ⟨A1, c1, rfl, hl1, _⟩ := own5_reads o1; have B1 := Lib.hid b1; clear o1 b1; simp only [faultV])
        | (go_at_call 6; refine (lives09 _).mono ?_; rintro e w5 ⟨rfl, b5⟩; have B5 := Lib.hid ((B1.out.alloc B1.out.size (.cells #[.int .i64 E, .int .i64 (l : Int), .int .i64 (c : Int)] 26)).trans (b5.mono (by have := B1.out.size; simp; omega))); clear b5))
      go_ret
      exact ⟨rfl, B5.out⟩
    · obtain ⟨M, hM, hS, h6⟩ := again_facts s (by omega) L hT
      have HM := Lib.hid hM
      have HT := Lib.hid hT
      have HS := Lib.hid hS
      clear hM hT hS
      go_enter Try.func5, Try.ntmps5
      go_wp2_with (go_at_call 7; refine (tkScan s _ (by omega)).mono ?_; rintro e w1 ⟨v, rfl, o1, b1⟩; rw [HV.out] at o1 ⊢; obtain ⟨A1, c1, rfl, hl1, _⟩ := own5_reads o1; have O1 := Lib.hid o1; have B1 := Lib.hid b1; clear o1 b1; simp only [faultV])
      have r1 := own5_read (O1.out.alloc (.cells #[.int .i64 0, .int .i64 0, .int .i64 0] 26))
      have R1 := Lib.hid r1
      have BW := Lib.hid (B1.out.alloc B1.out.size (.cells #[.int .i64 0, .int .i64 0, .int .i64 0] 26))
      clear r1
      go_loopw [5, 6] (fun t i wr => ∃ k q : Nat, i = .int .i64 (k : Int) ∧ k ≤ L.length ∧ t = .string (strOfNums (wrL (L.take k))) ∧ wr = (w1.alloc (.cells #[.int .i64 0, .int .i64 0, .int .i64 0] 26)).drewN q) (fun _ i _ => L.length - (intOf i).toNat)
      case atStart => exact ⟨0, 0, rfl, by omega, rfl, rfl⟩
      case round =>
        obtain ⟨k, q, rfl, hk, rfl, rfl⟩ := hrel
        by_cases hkl : k < L.length
        · obtain ⟨x, rfl, hx, a0, a1, a2, a3, a4⟩ := R1.out.tok hkl
          have hnx := wr_next L k hkl
          have hws := wr_size L k
          have lk : (k : Int) < (L.length : Int) := by omega
          have lk0 : (0 : Int) ≤ (k : Int) := by omega
          have hkn : ((k : Int)).toNat = k := by omega
          have htz : (L[k]'hkl).t.size ≤ 6001 := by
            have h1 := wr_size L (k + 1)
            rw [hnx] at h1
            split at h1
            · simp only [ByteArray.size_append] at h1; omega
            · simp only [ByteArray.size_append] at h1; omega
          have hTz : (strOfNums (wrL (L.take k))).size ≤ 6001 := by omega
          by_cases hk0 : k = 0
          · have g0 : decide (0 < k) = false := by simp; omega
            have g1 : decide ((0 : Int) < (k : Int)) = false := by simp; omega
            generalize L[k] = t at *
            generalize strOfNums (wrL (L.take k)) = T at *
            have HK0 := Lib.hid hk0
            have HKL := Lib.hid hkl
            clear hk0 hkl hws
            by_cases h3 : t.k = 3
            · have q3 : (t.k == 3) = true := by rw [h3]; rfl
              rw [if_pos h3] at hnx
              have HNX := Lib.hid hnx
              clear hnx h3
              go_wp2_with fail
              go_quiet (fail)
              go_wp2
              go_roundw
              case rel => exact ⟨k + 1, _, by go_num, by have := HKL.out; omega, by rw [HNX.out], rfl⟩
              case measure => have := HKL.out; simp [intOf]; omega
            · have q3 : (t.k == 3) = false := by rw [beq_eq_false_iff_ne]; exact h3
              rw [if_neg h3] at hnx
              have HNX := Lib.hid hnx
              clear hnx h3
              go_wp2_with fail
              go_quiet (fail)
              go_wp2
              go_roundw
              case rel => exact ⟨k + 1, _, by go_num, by have := HKL.out; omega, by rw [HNX.out], rfl⟩
              case measure => have := HKL.out; simp [intOf]; omega
          · obtain ⟨m, hm⟩ : ∃ m, k = m + 1 := ⟨k - 1, by omega⟩
            have hml : m < L.length := by omega
            obtain ⟨y, hy, _, b0, b1, b2, b3, b4⟩ := R1.out.tok hml
            injection hy with hy
            subst hy
            have hbf : (L[m]'hml).line < (L[k]'hkl).line ∨ (L[m]'hml).line = (L[k]'hkl).line ∧ (L[m]'hml).col < (L[k]'hkl).col := by
              have h := HT.out.before (m := m) (by omega)
              simp only [← hm] at h
              exact h
            have g0 : decide (0 < k) = true := by simp; omega
            have g1 : decide ((0 : Int) < (k : Int)) = true := by simp; omega
            have hw0 : IntKind.i64.wrap ((k : Int) - 1) = (m : Int) := by rw [IntWalk.i64_in _ (by omega)]; omega
            have hmk : ((m : Int)).toNat = m := by omega
            have lm : (m : Int) < (L.length : Int) := by omega
            have lm0 : (0 : Int) ≤ (m : Int) := by omega
            have hdec : ((decide (((L[k]'hkl).line : Int) < ((L[m]'hml).line : Int)) = false) ∧ (((L[k]'hkl).line : Int) == ((L[m]'hml).line : Int)) = false) ∨
                ((decide (((L[k]'hkl).line : Int) < ((L[m]'hml).line : Int)) = false) ∧ (((L[k]'hkl).line : Int) == ((L[m]'hml).line : Int)) = true ∧ decide (((L[k]'hkl).col : Int) ≤ ((L[m]'hml).col : Int)) = false) := by
              rcases hbf with h | ⟨h, h'⟩
              · exact .inl ⟨by simp; omega, by rw [beq_eq_false_iff_ne]; omega⟩
              · exact .inr ⟨by simp; omega, by rw [beq_iff_eq]; omega, by simp; omega⟩
            have hdecN : (decide ((L[k]'hkl).line < (L[m]'hml).line) = false) := by simp; omega
            have hdecC : (L[m]'hml).line = (L[k]'hkl).line → decide ((L[k]'hkl).col ≤ (L[m]'hml).col) = false := by intro h; simp; omega
            generalize L[k] = t at *
            generalize L[m] = u at *
            generalize strOfNums (wrL (L.take k)) = T at *
            have HK0 := Lib.hid (And.intro hk0 hm)
            have HKL := Lib.hid hkl
            clear hk0 hkl hws hm hml hbf
            rcases hdec with ⟨d1, d2⟩ | ⟨d1, d2, d3⟩
            · clear hdecC
              by_cases h3 : t.k = 3
              · have q3 : (t.k == 3) = true := by rw [h3]; rfl
                rw [if_pos h3] at hnx
                have HNX := Lib.hid hnx
                clear hnx h3
                go_wp2_with fail
                go_quiet (fail)
                go_wp2
                go_roundw
                case rel => exact ⟨k + 1, _, by go_num, by have := HKL.out; omega, by rw [HNX.out], rfl⟩
                case measure => have := HKL.out; simp [intOf]; omega
              · have q3 : (t.k == 3) = false := by rw [beq_eq_false_iff_ne]; exact h3
                rw [if_neg h3] at hnx
                have HNX := Lib.hid hnx
                clear hnx h3
                go_wp2_with fail
                go_quiet (fail)
                go_wp2
                go_roundw
                case rel => exact ⟨k + 1, _, by go_num, by have := HKL.out; omega, by rw [HNX.out], rfl⟩
                case measure => have := HKL.out; simp [intOf]; omega
            · have d4 := hdecC (by rw [beq_iff_eq] at d2; omega)
              clear hdecC
              by_cases h3 : t.k = 3
              · have q3 : (t.k == 3) = true := by rw [h3]; rfl
                rw [if_pos h3] at hnx
                have HNX := Lib.hid hnx
                clear hnx h3
                go_wp2_with fail
                go_quiet (fail)
                go_wp2
                go_roundw
                case rel => exact ⟨k + 1, _, by go_num, by have := HKL.out; omega, by rw [HNX.out], rfl⟩
                case measure => have := HKL.out; simp [intOf]; omega
              · have q3 : (t.k == 3) = false := by rw [beq_eq_false_iff_ne]; exact h3
                rw [if_neg h3] at hnx
                have HNX := Lib.hid hnx
                clear hnx h3
                go_wp2_with fail
                go_quiet (fail)
                go_wp2
                go_roundw
                case rel => exact ⟨k + 1, _, by go_num, by have := HKL.out; omega, by rw [HNX.out], rfl⟩
                case measure => have := HKL.out; simp [intOf]; omega
        · obtain rfl : k = L.length := by omega
          have hsz := wr_size L L.length
          rw [List.take_length] at hsz ⊢
          have hSL := HS.out.1
          have hlen : ((M.length : Int) != (L.length : Int)) = false := by rw [bne_eq_false_iff_eq]; omega
          generalize strOfNums (wrL L) = T at *
          have HSL := Lib.hid hSL
          clear hSL hkl hk
          have RQ := Lib.hid (R1.out.below (below_drewN (Below.refl _ _) q))
          have BQ := Lib.hid (below_drewN BW.out q)
          go_wp2_with (go_at_call 7; refine (tkScan T _ (by omega)).mono ?_; rintro e w3 ⟨v, rfl, o3, b3⟩; rw [HM.out] at o3 ⊢; obtain ⟨A3, c3, rfl, hl3, _⟩ := own5_reads o3; have O3 := Lib.hid (own5_read (o3.alloc (.cells #[.int .i64 0, .int .i64 0, .int .i64 0] 26))); have R3 := Lib.hid ((RQ.out.below b3).alloc (.cells #[.int .i64 0, .int .i64 0, .int .i64 0] 26)); have B3 := Lib.hid (bthen BQ.out b3); clear o3 b3; simp only [faultV])
          have BW3 := Lib.hid (B3.out.alloc B3.out.size (.cells #[.int .i64 0, .int .i64 0, .int .i64 0] 26))
          go_loopw [9] (fun i wr => ∃ k q : Nat, i = .int .i64 (k : Int) ∧ k ≤ L.length ∧ wr = (w3.alloc (.cells #[.int .i64 0, .int .i64 0, .int .i64 0] 26)).drewN q) (fun i _ => L.length - (intOf i).toNat)
          case atStart => exact ⟨0, 0, rfl, by omega, rfl⟩
          case round =>
            obtain ⟨k, q3, rfl, hk, rfl⟩ := hrel
            by_cases hkl : k < L.length
            · have hkm : k < M.length := by have := HSL.out; omega
              obtain ⟨x, rfl, hx, a0, a1, a2, a3, a4⟩ := R3.out.tok hkl
              obtain ⟨y, rfl, hy, b0, b1, b2, b3, b4⟩ := O3.out.tok hkm
              obtain ⟨s1, s2, s3, s4⟩ := HS.out.2 k hkl hkm
              rw [s1] at b0
              rw [s2] at b1
              rw [s3] at b2
              rw [s4] at b3
              have b3' : (w3.alloc (.cells #[.int .i64 0, .int .i64 0, .int .i64 0] 26)).cell? ⟨(y.add (k * 5)).block, (y.add (k * 5)).off + 3, none⟩ = some (.int .i64 1) := b3
              clear s1 s2 s3 s4 b3 b4
              have lk : (k : Int) < (L.length : Int) := by omega
              have lm : (k : Int) < (M.length : Int) := by omega
              have lk0 : (0 : Int) ≤ (k : Int) := by omega
              have hkn : ((k : Int)).toNat = k := by omega
              generalize L[k] = t at *
              have HKL := Lib.hid hkl
              clear hkl hkm
              go_wp2_with fail
              go_quiet (fail)
              go_wp2
              go_roundw
              case rel => exact ⟨k + 1, _, by go_num, by have := HKL.out; omega, rfl⟩
              case measure => have := HKL.out; simp [intOf]; omega
            · obtain rfl : k = L.length := by omega
              have BQ3 := Lib.hid (below_drewN BW3.out q3)
              go_wp2_with (go_at_call 6; refine (lives09 _).mono ?_; rintro e w5 ⟨rfl, b5⟩)
              go_ret
              exact ⟨rfl, bthen BQ3.out b5⟩
end Go.Proofs.Ythplhcgglbabhaa
