/-
  The law ShuffleDoes. No conditions.
-/
import Derived.Test.YticbnanfijkodaaShufW
import Derived.BigQuiet
namespace Go.Proofs.Yticbnanfijkodaa
open Go.ChangeShapes Go.WideShapes Go.ChangeAt Go.RowKit
set_option linter.unusedVariables false
set_option linter.unusedSimpArgs false
set_option maxRecDepth 20000
set_option maxHeartbeats 3200000
theorem Same_true (x : List Int) (n : Nat) (A B : Option Addr) (c d : Nat) (w : World) (hx : Reads w A (ints x)) (hy : Reads w B (ints x)) (hn : x.length = n) (hl : n ≤ 1000000) :
    Calls Try.prog 8 #[.slice A n c, .slice B n d] w fun e w' => e = .returned (.bool true) ∧ Below w.heap.size w w' := by
  have h := Same_any x x n n A B c d w hx hy hn hn (by omega) (by omega)
  rw [decide_eq_true rfl] at h
  exact h
theorem shufL_len (l ds : List Int) : (shufL l ds).length = l.length := (shufL_perm l ds).length_eq
theorem walk_ShuffleDoes (a0 : Option Addr) (len0 cap0 : Nat) (z0 : List Int) (a1 : Option Addr) (len1 cap1 : Nat) (z1 : List Int) (a2 : Int) (w : World) (w0 : IsRow .i64 w a0 len0 cap0 z0) (w1 : IsRow .i64 w a1 len1 cap1 z1) (w2 : (Lit.int .i64 a2).wf = true) :
    Calls Try.prog 3 #[.slice a0 len0 cap0, .slice a1 len1 cap1, .int .i64 a2] w fun e w' => e = .returned (.bool true) ∧ Below w.heap.size w w' := by
  obtain ⟨m1, m2⟩ := bounds_i64 w2
  obtain ⟨hr0, hl0, hb0⟩ := isRow_reads w0
  obtain ⟨hr1, hl1, hb1⟩ := isRow_reads w1
  obtain ⟨_, hn0⟩ := isRow_cap w0
  obtain ⟨hc1, _⟩ := isRow_cap w1
  generalize z0.take len0 = y0 at hr0 hl0 hb0
  generalize z1.take len1 = y1 at hr1 hl1 hb1
  clear w0 w1 w2
  have HR0 := Lib.hid hr0
  have HL0 := Lib.hid hl0
  have HN0 := Lib.hid hn0
  have HB0 := Lib.hid hb0
  have KL : Hid (∀ z, Calls Try.prog 6 #[] z fun e w' => e = .returned (.bool true) ∧ Below z.heap.size z w') := Lib.hid lives21
  by_cases h1 : 100 < len0
  · clear hr0 hl0 hb0 hr1 hl1 hb1 hn0 hc1
    go_enter Try.func3, Try.ntmps3
    go_wp2_with (go_at_call 6; (with_reducible refine (KL.out _).mono ?_); rintro e w1 ⟨rfl, hb1⟩)
    go_ret
    exact ⟨rfl, hb1⟩
  · by_cases h2 : 100 < len1
    · clear hr0 hl0 hb0 hr1 hl1 hb1 hn0 hc1
      go_enter Try.func3, Try.ntmps3
      go_wp2_with (go_at_call 6; (with_reducible refine (KL.out _).mono ?_); rintro e w1 ⟨rfl, hb1⟩)
      go_ret
      exact ⟨rfl, hb1⟩
    · have K1 : Hid (∀ z, Below w.heap.size w z → Calls Try.prog 7 #[.slice a0 len0 cap0, .slice a1 len1 cap1] z fun e w' => ∃ v, e = .returned v ∧ w'.ownsRow z.heap.size 3 1 v len0 (ints (shufL y0 y1)) ∧ Below z.heap.size z w') := Lib.hid fun z hz => pShuffle y0 y1 len0 len1 cap0 cap1 a0 a1 z (hr0.below hz) (hr1.below hz) hl0 hl1 hc1 (by omega) (by omega) hb1
      have K2 : Hid (∀ z A c, Reads z A (ints y0) → Below w.heap.size w z → Calls Try.prog 9 #[.slice A len0 c, .slice a1 len1 cap1] z fun e w' => ∃ A' c', e = .returned (.slice A' len0 c') ∧ Reads w' A' (ints (shufL y0 y1)) ∧ Below z.heap.size z w') := Lib.hid fun z A c hA hz => rShuffle_any y0 y1 len0 len1 c cap1 A a1 z hA (hr1.below hz) hl0 hl1 (by omega) (by omega) hb1
      have HS : Hid ((shufL y0 y1).length = len0) := Lib.hid (by rw [shufL_len, hl0])
      have h100 : len0 ≤ 1000000 := by omega
      obtain ⟨S, hS⟩ : ∃ S, shufL y0 y1 = S := ⟨_, rfl⟩
      rw [hS] at K1 K2 HS
      clear hr0 hl0 hb0 hr1 hl1 hb1 hn0 hc1 hS
      go_enter Try.func3, Try.ntmps3
      go_wp2_with (first
        | (at_builtin; refine wpList_copy w (.tmp 19) (.tmp 20) a0 len0 cap0 y0 HR0.out HL0.out h100 HN0.out rfl rfl rfl rfl ?_; intro v1 w1 o1 b1; obtain ⟨A1, c1, rfl, _, r1⟩ := own_reads o1; have R1 := Lib.hid r1; have B1 := Lib.hid b1; clear o1 b1 r1)
        | (go_at_call 7; (with_reducible refine (K1.out _ B1.out).mono ?_); rintro e w3 ⟨v3, rfl, o3, b3⟩; obtain ⟨A3, c3, rfl, _, r3⟩ := own_reads o3; have R3 := Lib.hid r3; have R1 := Lib.hid (R1.out.below b3); have B3 := Lib.hid (bthen B1.out b3); clear o3 b3 r3)
        | (go_at_call 9; (with_reducible refine (K2.out _ _ _ R1.out B3.out).mono ?_); rintro e w4 ⟨A4, c4, rfl, r4, b4⟩; have R1 := Lib.hid (R1.out.below b4); have B4 := Lib.hid (bthen B3.out b4); have KS := Lib.hid (Same_true S len0 A3 A4 c3 c4 _ (R3.out.below b4) r4 HS.out h100); clear b4 r4)
        | (go_at_call 8; (with_reducible refine KS.out.mono ?_); rintro e w5 ⟨rfl, b5⟩; have R1 := Lib.hid (R1.out.below b5); have B5 := Lib.hid (bthen B4.out b5); have KT := Lib.hid (Same_true y0 len0 a0 A1 cap0 c1 _ (HR0.out.below B5.out) R1.out HL0.out h100); clear b5 KS)
        | (go_at_call 8; (with_reducible refine KT.out.mono ?_); rintro e w6 ⟨rfl, b6⟩; have B6 := Lib.hid (bthen B5.out b6); clear b6))
      go_loopw [9] (fun i wr => ∃ k : Nat, i = .int .i64 k ∧ k ≤ len0 ∧ Below w.heap.size w wr) (fun i _ => len0 - (intOf i).toNat)
      case atStart => exact ⟨0, rfl, by omega, B6.out⟩
      case round =>
        obtain ⟨k, rfl, hk, hb⟩ := hrel
        have HB := Lib.hid hb
        by_cases hkl : k < len0
        · obtain ⟨g, off, rfl, hg, hc⟩ := reads_lit (HR0.out.below hb) (by rw [HL0.out]; omega)
          have c1 := hc k (by rw [HL0.out]; exact hkl)
          have hbd := getD_bd HB0.out k
          obtain ⟨y, hy⟩ : ∃ y, y0.getD k 0 = y := ⟨_, rfl⟩
          rw [hy] at c1 hbd
          have KA := Lib.hid (fun N => pAround_any y a2 (wr.drewN N) hbd.1 hbd.2 m2)
          have KB := Lib.hid (fun N => rAround_any y a2 (wr.drewN N) hbd.1 hbd.2 m2)
          obtain ⟨r, hr⟩ : ∃ r, aroundZ y a2 = r := ⟨_, rfl⟩
          rw [hr] at KA KB
          have lk : (k : Int) < (len0 : Int) := by omega
          have hrr : (r != r) = false := by simp
          clear hc hb hy hbd hr
          go_wp2_with fail
          go_quiet (first
            | (go_at_call 10; with_reducible exact Calls.quiet_of_same (KA.out _))
            | (go_at_call 11; with_reducible exact Calls.quiet_of_same (KB.out _)))
          go_wp2
          go_roundw
          case rel => exact ⟨k + 1, by go_num, by omega, below_drewN HB.out _⟩
          case measure => simp [intOf]; omega
        · have lk : ¬ (k : Int) < (len0 : Int) := by omega
          clear hb
          go_wp2_with (go_at_call 6; (with_reducible refine (KL.out _).mono ?_); rintro e w7 ⟨rfl, b7⟩; have B7 := Lib.hid (bthen HB.out b7); clear b7)
          go_ret
          exact ⟨rfl, B7.out⟩
end Go.Proofs.Yticbnanfijkodaa
