/-
  Layer 21: the document's answer: Shuffle. Conditions: lists that can be read, at most 1000000 numbers.
-/
import Derived.Test.YticbnanfijkodaaShufS
import Derived.Test.YticbnanfijkodaaShufT
namespace Go.Proofs.Yticbnanfijkodaa
open Go.ChangeShapes Go.WideShapes Go.ChangeAt Go.RowKit
set_option linter.unusedVariables false
set_option linter.unusedSimpArgs false
set_option maxRecDepth 20000
set_option maxHeartbeats 3200000
theorem shufK_next (l ds : List Int) (k : Nat) (h : k + 1 < l.length) : ∃ b : Nat, b < l.length ∧ aroundZ (ds.getD k 0) ((l.length : Int) - 1 - k + 1) = b ∧ shufK l ds (k + 1) = swp (shufK l ds k) (l.length - 1 - k) b := by
  have e : (((l.length - 1 - k : Nat) : Int) + 1) = (l.length : Int) - 1 - k + 1 := by omega
  have hb := aroundZ_bd (n := ds.getD k 0) (most := (l.length : Int) - 1 - k + 1) (by omega)
  refine ⟨(aroundZ (ds.getD k 0) ((l.length : Int) - 1 - k + 1)).toNat, by omega, by omega, ?_⟩
  show swp _ _ (aroundZ (ds.getD k 0) (((l.length - 1 - k : Nat) : Int) + 1)).toNat = _
  rw [e]
theorem getD_bd {ds : List Int} (h : ∀ n ∈ ds, -9223372036854775808 ≤ n ∧ n ≤ 9223372036854775807) (k : Nat) : -9223372036854775808 ≤ ds.getD k 0 ∧ ds.getD k 0 ≤ 9223372036854775807 := by
  rw [List.getD_eq_getElem?_getD]
  cases e : ds[k]? with
  | none => simp
  | some v => exact h v (List.mem_of_getElem? e)
theorem rShuffle_any (l ds : List Int) (n m c d : Nat) (A D : Option Addr) (w : World) (hx : Reads w A (ints l)) (hy : Reads w D (ints ds)) (hn : l.length = n) (hm : ds.length = m) (hl : n ≤ 1000000) (hl2 : m ≤ 1000000) (hbd : ∀ n ∈ ds, -9223372036854775808 ≤ n ∧ n ≤ 9223372036854775807) :
    Calls Try.prog 9 #[.slice A n c, .slice D m d] w fun e w' => ∃ A' c', e = .returned (.slice A' n c') ∧ Reads w' A' (ints (shufL l ds)) ∧ Below w.heap.size w w' := by
  have HN := Lib.hid hn
  have HM := Lib.hid hm
  have HY := Lib.hid hy
  have HBD := Lib.hid hbd
  clear hn hm hy hbd
  have HX := Lib.hid hx
  clear hx
  go_enter Try.func9, Try.ntmps9
  go_wp2
  go_loopw [0, 5] (fun V j wr => ∃ (k : Nat) (A' : Option Addr) (c' : Nat), j = .int .i64 k ∧ V = .slice A' n c' ∧ (k + 1 ≤ n ∨ k = 0) ∧ Reads wr A' (ints (shufK l ds k)) ∧ Below w.heap.size w wr) (fun _ j _ => n - (intOf j).toNat)
  case atStart => exact ⟨0, A, c, rfl, rfl, by omega, HX.out, Below.refl _ _⟩
  case round =>
    obtain ⟨k, A', c', rfl, rfl, hk, hr, hb⟩ := hrel
    have HB := Lib.hid hb
    have HR := Lib.hid hr
    by_cases hkn : k + 1 < n
    · obtain ⟨b, hb1, hb2, hb3⟩ := shufK_next l ds k (by rw [HN.out]; exact hkn)
      rw [HN.out] at hb1 hb2 hb3
      have HS := Lib.hid hb3
      have hd := getD_bd HBD.out k
      obtain ⟨y, hy⟩ : ∃ y, ds.getD k 0 = y := ⟨_, rfl⟩
      rw [hy] at hb2 hd
      have KA : Hid (∀ z, Calls Try.prog 11 #[.int .i64 y, .int .i64 ((n : Int) - 1 - k + 1)] z fun e w' => e = .returned (.int .i64 b) ∧ w' = z) := Lib.hid (by
        intro z
        have h := rAround_any y ((n : Int) - 1 - k + 1) z hd.1 hd.2 (by omega)
        rw [hb2] at h
        exact h)
      have KS : Hid (∀ z, Below wr.heap.size wr z → Calls Try.prog 18 #[.slice A' n c', .int .i64 ((n : Int) - 1 - k), .int .i64 b] z fun e w' => ∃ v, e = .returned v ∧ w'.ownsRow z.heap.size 3 1 v n (ints (swp (shufK l ds k) (n - 1 - k) b)) ∧ Below z.heap.size z w') := Lib.hid (by
        intro z hz
        have h := rSwap_any (shufK l ds k) n c' (n - 1 - k) b A' z (HR.out.below hz) (by rw [shufK_len, HN.out]) hl (by omega) hb1
        rw [show ((n - 1 - k : Nat) : Int) = (n : Int) - 1 - k by omega] at h
        exact h)
      have HB2 : Hid (Below wr.heap.size wr wr) := Lib.hid (Below.refl _ _)
      clear hb hr hb2 hb3
      have lk : (k : Int) + 1 < (n : Int) := by omega
      by_cases hkm : k < m
      · obtain ⟨g, off, rfl, hg, hc⟩ := reads_lit (HY.out.below HB.out) (by rw [HM.out]; omega)
        have c1 := hc k (by rw [HM.out]; exact hkm)
        rw [hy] at c1
        have lkm : (k : Int) < (m : Int) := by omega
        clear hc hy
        go_wp2_with (first
          | (go_at_call 11; (with_reducible refine (KA.out _).mono ?_); rintro e w1 ⟨rfl, rfl⟩)
          | (go_at_call 18; (with_reducible refine (KS.out _ HB2.out).mono ?_); rintro e w2 ⟨v2, rfl, o2, b2⟩; obtain ⟨A2, c2, rfl, _, r2⟩ := own_reads o2; have R2 := Lib.hid r2; have B2 := Lib.hid (bthen HB.out b2); clear o2 b2 r2))
        go_roundw
        case rel => exact ⟨k + 1, A2, c2, by go_num, rfl, by omega, by rw [HS.out]; exact R2.out, B2.out⟩
        case measure => simp [intOf]; omega
      · obtain rfl : y = 0 := by
          rw [← hy, List.getD_eq_getElem?_getD, List.getElem?_eq_none (by rw [HM.out]; omega)]
          rfl
        have lkm : ¬ (k : Int) < (m : Int) := by omega
        clear hy
        go_wp2_with (first
          | (go_at_call 11; (with_reducible refine (KA.out _).mono ?_); rintro e w1 ⟨rfl, rfl⟩)
          | (go_at_call 18; (with_reducible refine (KS.out _ HB2.out).mono ?_); rintro e w2 ⟨v2, rfl, o2, b2⟩; obtain ⟨A2, c2, rfl, _, r2⟩ := own_reads o2; have R2 := Lib.hid r2; have B2 := Lib.hid (bthen HB.out b2); clear o2 b2 r2))
        go_roundw
        case rel => exact ⟨k + 1, A2, c2, by go_num, rfl, by omega, by rw [HS.out]; exact R2.out, B2.out⟩
        case measure => simp [intOf]; omega
    · have lk : ¬ (k : Int) + 1 < (n : Int) := by omega
      have e : shufK l ds k = shufL l ds := by
        unfold shufL
        rw [HN.out]
        congr 1
        omega
      have HE := Lib.hid e
      clear e hb hr
      go_wp2
      go_ret
      first | exact ⟨_, _, rfl, by rw [← HE.out]; exact HR.out, HB.out⟩ | exact ⟨A', ⟨c', rfl⟩, by rw [← HE.out]; exact HR.out, HB.out⟩
end Go.Proofs.Yticbnanfijkodaa
