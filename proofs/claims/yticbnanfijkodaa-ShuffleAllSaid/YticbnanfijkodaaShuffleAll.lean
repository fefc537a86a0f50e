/-
  The law ShuffleAll. No conditions.
-/
import Derived.Test.YticbnanfijkodaaShufW
import Derived.Test.YticbnanfijkodaaShuffleDoes
namespace Go.Proofs.Yticbnanfijkodaa
open Go.ChangeShapes Go.WideShapes Go.ChangeAt Go.RowKit
set_option linter.unusedVariables false
set_option linter.unusedSimpArgs false
set_option maxRecDepth 20000
set_option maxHeartbeats 3200000
theorem drawK_bd (l to : List Int) : ∀ k, k ≤ l.length → ∀ x ∈ (drawK l to k).2, 0 ≤ x ∧ x ≤ (l.length : Int)
  | 0, _, x, h => by simp [drawK] at h
  | k + 1, hk, x, h => by
    rw [drawK_snd, List.mem_append, List.mem_singleton] at h
    rcases h with h | h
    · exact drawK_bd l to k (by omega) x h
    · have := (leastN_spec (drawK l to k).1 (to.getD (l.length - 1 - k) 0) (l.length - 1 - k)).1
      omega
theorem walk_ShuffleAll (a0 : Option Addr) (len0 cap0 : Nat) (z0 : List Int) (a1 : Option Addr) (len1 cap1 : Nat) (z1 : List Int) (w : World) (w0 : IsRow .i64 w a0 len0 cap0 z0) (w1 : IsRow .i64 w a1 len1 cap1 z1) :
    Calls Try.prog 5 #[.slice a0 len0 cap0, .slice a1 len1 cap1] w fun e w' => e = .returned (.bool true) ∧ Below w.heap.size w w' := by
  obtain ⟨hr0, hl0, hb0⟩ := isRow_reads w0
  obtain ⟨hr1, hl1, hb1⟩ := isRow_reads w1
  obtain ⟨_, hn0⟩ := isRow_cap w0
  obtain ⟨hc1, _⟩ := isRow_cap w1
  generalize z0.take len0 = y0 at hr0 hl0 hb0
  generalize z1.take len1 = y1 at hr1 hl1 hb1
  clear w0 w1
  have HR0 := Lib.hid hr0
  have HL0 := Lib.hid hl0
  have KL : Hid (∀ z, Calls Try.prog 6 #[] z fun e w' => e = .returned (.bool true) ∧ Below z.heap.size z w') := Lib.hid lives21
  have B0 : Hid (Below w.heap.size w w) := Lib.hid (Below.refl _ _)
  by_cases h1 : 60 < len0
  · clear hr0 hl0 hb0 hr1 hl1 hb1 hn0 hc1
    go_enter Try.func5, Try.ntmps5
    go_wp2_with (go_at_call 6; (with_reducible refine (KL.out _).mono ?_); rintro e w1 ⟨rfl, hb1⟩)
    go_ret
    exact ⟨rfl, hb1⟩
  · by_cases h2 : 60 < len1
    · clear hr0 hl0 hb0 hr1 hl1 hb1 hn0 hc1
      go_enter Try.func5, Try.ntmps5
      go_wp2_with (go_at_call 6; (with_reducible refine (KL.out _).mono ?_); rintro e w1 ⟨rfl, hb1⟩)
      go_ret
      exact ⟨rfl, hb1⟩
    · have hp := shufL_perm y0 y1
      have hal : alikeB y0 (shufL y0 y1) = true := alike_iff.2 hp.symm
      have hdo : drawsOf y0 (shufL y0 y1) = drawL y0 (shufL y0 y1) := by unfold drawsOf; rw [if_pos hal]
      have hback : shufL y0 (drawL y0 (shufL y0 y1)) = shufL y0 y1 := draws_back hp.symm
      have hSl : (shufL y0 y1).length = len0 := by rw [shufL_len, hl0]
      have hdl : (drawL y0 (shufL y0 y1)).length = len0 - 1 := by unfold drawL; rw [(drawK_len _ _ _).2, hl0]
      have hdb : ∀ n ∈ drawL y0 (shufL y0 y1), -9223372036854775808 ≤ n ∧ n ≤ 9223372036854775807 := fun x hx => by
        have := drawK_bd y0 (shufL y0 y1) (y0.length - 1) (by omega) x hx
        omega
      have K1 : Hid (∀ z, Below w.heap.size w z → Calls Try.prog 7 #[.slice a0 len0 cap0, .slice a1 len1 cap1] z fun e w' => ∃ v, e = .returned v ∧ w'.ownsRow z.heap.size 3 1 v len0 (ints (shufL y0 y1)) ∧ Below z.heap.size z w') := Lib.hid fun z hz => pShuffle y0 y1 len0 len1 cap0 cap1 a0 a1 z (hr0.below hz) (hr1.below hz) hl0 hl1 hc1 (by omega) (by omega) hb1
      have K2 : Hid (∀ z A c, Below w.heap.size w z → Reads z A (ints (shufL y0 y1)) → Calls Try.prog 12 #[.slice a0 len0 cap0, .slice A len0 c] z fun e w' => ∃ V, e = .returned (.tuple #[V, .bool true]) ∧ w'.ownsRow z.heap.size 3 1 V (len0 - 1) (ints (drawL y0 (shufL y0 y1))) ∧ Below z.heap.size z w') := Lib.hid (by
        intro z A c hz hA
        have h := pDraws y0 (shufL y0 y1) len0 len0 cap0 c a0 A z (hr0.below hz) hA hl0 hSl (by omega) (by omega)
        rw [hal, hdo, hdl] at h
        exact h)
      have K3 : Hid (∀ z A c, Below w.heap.size w z → Reads z A (ints (shufL y0 y1)) → Calls Try.prog 14 #[.slice a0 len0 cap0, .slice A len0 c] z fun e w' => e = .returned (.bool true) ∧ Below z.heap.size z w') := Lib.hid (by
        intro z A c hz hA
        have h := rAlike_any y0 (shufL y0 y1) len0 len0 cap0 c a0 A z (hr0.below hz) hA hl0 hSl (by omega) (by omega)
        rw [hal] at h
        exact h)
      have K4 : Hid (∀ z A c, Below w.heap.size w z → Reads z A (ints (drawL y0 (shufL y0 y1))) → len0 - 1 ≤ c → Calls Try.prog 7 #[.slice a0 len0 cap0, .slice A (len0 - 1) c] z fun e w' => ∃ v, e = .returned v ∧ w'.ownsRow z.heap.size 3 1 v len0 (ints (shufL y0 y1)) ∧ Below z.heap.size z w') := Lib.hid (by
        intro z A c hz hA hc
        have h := pShuffle y0 (drawL y0 (shufL y0 y1)) len0 (len0 - 1) cap0 c a0 A z (hr0.below hz) hA hl0 hdl hc (by omega) (by omega) hdb
        rw [hback] at h
        exact h)
      have HS := Lib.hid hSl
      obtain ⟨S, hS⟩ : ∃ S, shufL y0 y1 = S := ⟨_, rfl⟩
      rw [hS] at K1 K2 K3 K4 HS
      obtain ⟨D, hD⟩ : ∃ D, drawL y0 S = D := ⟨_, rfl⟩
      rw [hD] at K2 K4
      clear hp hal hdo hback hSl hdl hdb hr0 hl0 hb0 hr1 hl1 hb1 hn0 hc1 hS hD
      by_cases h0 : len0 = 0
      · subst h0
        have h60 : 0 ≤ 1000000 := by omega
        simp only [Nat.zero_sub] at K2 K4
        go_enter Try.func5, Try.ntmps5
        go_wp2_with (first
          | (go_at_call 7; (with_reducible refine (K1.out _ B0.out).mono ?_); rintro e w1 ⟨v1, rfl, o1, b1⟩; obtain ⟨A1, c1, rfl, _, r1⟩ := own_reads o1; have R1 := Lib.hid r1; have B1 := Lib.hid b1; clear o1 b1 r1)
          | (go_at_call 12; (with_reducible refine (K2.out _ _ _ B1.out R1.out).mono ?_); rintro e w2 ⟨v2, rfl, o2, b2⟩; obtain ⟨A2, c2, rfl, q2, _, k2⟩ := own_form o2; have Q2 := Lib.hid q2; have R2 := Lib.hid k2.reads; have R1 := Lib.hid (R1.out.below b2); have B2 := Lib.hid (bthen B1.out b2); clear o2 b2 k2 q2)
          | (go_at_call 14; (with_reducible refine (K3.out _ _ _ B2.out R1.out).mono ?_); rintro e w3 ⟨rfl, b3⟩; have R1 := Lib.hid (R1.out.below b3); have R2 := Lib.hid (R2.out.below b3); have B3 := Lib.hid (bthen B2.out b3); clear b3)
          | (go_at_call 7; (with_reducible refine (K4.out _ _ _ B3.out R2.out Q2.out).mono ?_); rintro e w4 ⟨v4, rfl, o4, b4⟩; obtain ⟨A4, c4, rfl, _, r4⟩ := own_reads o4; have B4 := Lib.hid (bthen B3.out b4); have KS := Lib.hid (Same_true S 0 A4 A1 c4 c1 _ r4 (R1.out.below b4) HS.out h60); clear o4 b4 r4)
          | (go_at_call 8; (with_reducible refine KS.out.mono ?_); rintro e w5 ⟨rfl, b5⟩; have B5 := Lib.hid (bthen B4.out b5); clear b5)
          | (go_at_call 6; (with_reducible refine (KL.out _).mono ?_); rintro e w6 ⟨rfl, b6⟩; have B6 := Lib.hid (bthen B5.out b6); clear b6))
        go_ret
        exact ⟨rfl, B6.out⟩
      · obtain ⟨m, rfl⟩ : ∃ m, len0 = m + 1 := ⟨len0 - 1, by omega⟩
        have h60 : m + 1 ≤ 1000000 := by omega
        have hm0 : (0 : Int) < (m : Int) + 1 := by omega
        rw [Nat.add_sub_cancel] at K2 K4
        go_enter Try.func5, Try.ntmps5
        go_wp2_with (first
          | (go_at_call 7; (with_reducible refine (K1.out _ B0.out).mono ?_); rintro e w1 ⟨v1, rfl, o1, b1⟩; obtain ⟨A1, c1, rfl, _, r1⟩ := own_reads o1; have R1 := Lib.hid r1; have B1 := Lib.hid b1; clear o1 b1 r1)
          | (go_at_call 12; (with_reducible refine (K2.out _ _ _ B1.out R1.out).mono ?_); rintro e w2 ⟨v2, rfl, o2, b2⟩; obtain ⟨A2, c2, rfl, q2, _, k2⟩ := own_form o2; have Q2 := Lib.hid q2; have R2 := Lib.hid k2.reads; have R1 := Lib.hid (R1.out.below b2); have B2 := Lib.hid (bthen B1.out b2); clear o2 b2 k2 q2)
          | (go_at_call 14; (with_reducible refine (K3.out _ _ _ B2.out R1.out).mono ?_); rintro e w3 ⟨rfl, b3⟩; have R1 := Lib.hid (R1.out.below b3); have R2 := Lib.hid (R2.out.below b3); have B3 := Lib.hid (bthen B2.out b3); clear b3)
          | (go_at_call 7; (with_reducible refine (K4.out _ _ _ B3.out R2.out Q2.out).mono ?_); rintro e w4 ⟨v4, rfl, o4, b4⟩; obtain ⟨A4, c4, rfl, _, r4⟩ := own_reads o4; have B4 := Lib.hid (bthen B3.out b4); have KS := Lib.hid (Same_true S (m + 1) A4 A1 c4 c1 _ r4 (R1.out.below b4) HS.out h60); clear o4 b4 r4)
          | (go_at_call 8; (with_reducible refine KS.out.mono ?_); rintro e w5 ⟨rfl, b5⟩; have B5 := Lib.hid (bthen B4.out b5); clear b5)
          | (go_at_call 6; (with_reducible refine (KL.out _).mono ?_); rintro e w6 ⟨rfl, b6⟩; have B6 := Lib.hid (bthen B5.out b6); clear b6))
        go_ret
        exact ⟨rfl, B6.out⟩
end Go.Proofs.Yticbnanfijkodaa
