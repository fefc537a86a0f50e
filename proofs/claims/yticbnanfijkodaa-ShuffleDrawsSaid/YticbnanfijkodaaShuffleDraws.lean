/-
  The law ShuffleDraws. No conditions.
-/
import Derived.Test.YticbnanfijkodaaShufW
import Derived.Test.YticbnanfijkodaaShuffleDoes
namespace Go.Proofs.Yticbnanfijkodaa
open Go.ChangeShapes Go.WideShapes Go.ChangeAt Go.RowKit
set_option linter.unusedVariables false
set_option linter.unusedSimpArgs false
set_option maxRecDepth 20000
set_option maxHeartbeats 3200000
theorem drawsOf_len (l to : List Int) : (drawsOf l to).length ≤ l.length := by
  unfold drawsOf
  split
  · unfold drawL
    rw [(drawK_len l to _).2]
    omega
  · simp
theorem walk_ShuffleDraws (a0 : Option Addr) (len0 cap0 : Nat) (z0 : List Int) (a1 : Option Addr) (len1 cap1 : Nat) (z1 : List Int) (w : World) (w0 : IsRow .i64 w a0 len0 cap0 z0) (w1 : IsRow .i64 w a1 len1 cap1 z1) :
    Calls Try.prog 4 #[.slice a0 len0 cap0, .slice a1 len1 cap1] w fun e w' => e = .returned (.bool true) ∧ Below w.heap.size w w' := by
  obtain ⟨hr0, hl0, hb0⟩ := isRow_reads w0
  obtain ⟨hr1, hl1, hb1⟩ := isRow_reads w1
  obtain ⟨_, hn0⟩ := isRow_cap w0
  obtain ⟨hc1, _⟩ := isRow_cap w1
  generalize z0.take len0 = y0 at hr0 hl0 hb0
  generalize z1.take len1 = y1 at hr1 hl1 hb1
  clear w0 w1
  have HR0 := Lib.hid hr0
  have HL0 := Lib.hid hl0
  have KL : Hid (∀ z, Calls Try.prog 6 #[] z fun e w' => e = .returned (.bool true) ∧ Below z.heap.size z w') := Lib.hid lives21
  have B0 : Hid (Below w.heap.size w w) := Lib.hid (Below.refl _ _)
  by_cases h1 : 60 < len0
  · clear hr0 hl0 hb0 hr1 hl1 hb1 hn0 hc1
    go_enter Try.func4, Try.ntmps4
    go_wp2_with (go_at_call 6; (with_reducible refine (KL.out _).mono ?_); rintro e w1 ⟨rfl, hb1⟩)
    go_ret
    exact ⟨rfl, hb1⟩
  · by_cases h2 : 60 < len1
    · clear hr0 hl0 hb0 hr1 hl1 hb1 hn0 hc1
      go_enter Try.func4, Try.ntmps4
      go_wp2_with (go_at_call 6; (with_reducible refine (KL.out _).mono ?_); rintro e w1 ⟨rfl, hb1⟩)
      go_ret
      exact ⟨rfl, hb1⟩
    · have K1 : Hid (∀ z, Below w.heap.size w z → Calls Try.prog 12 #[.slice a0 len0 cap0, .slice a1 len1 cap1] z fun e w' => ∃ V, e = .returned (.tuple #[V, .bool (alikeB y0 y1)]) ∧ w'.ownsRow z.heap.size 3 1 V (drawsOf y0 y1).length (ints (drawsOf y0 y1)) ∧ Below z.heap.size z w') := Lib.hid fun z hz => pDraws y0 y1 len0 len1 cap0 cap1 a0 a1 z (hr0.below hz) (hr1.below hz) hl0 hl1 (by omega) (by omega)
      have K2 : Hid (∀ z, Below w.heap.size w z → Calls Try.prog 13 #[.slice a0 len0 cap0, .slice a1 len1 cap1] z fun e w' => ∃ V, e = .returned (.tuple #[V, .bool (alikeB y0 y1)]) ∧ w'.ownsRow z.heap.size 3 1 V (drawsOf y0 y1).length (ints (drawsOf y0 y1)) ∧ Below z.heap.size z w') := Lib.hid fun z hz => rDraws_any y0 y1 len0 len1 cap0 cap1 a0 a1 z (hr0.below hz) (hr1.below hz) hl0 hl1 (by omega) (by omega)
      have hd := drawsOf_len y0 y1
      obtain ⟨D, hD⟩ : ∃ D, drawsOf y0 y1 = D := ⟨_, rfl⟩
      obtain ⟨b, hb⟩ : ∃ b, alikeB y0 y1 = b := ⟨_, rfl⟩
      rw [hD] at hd
      rw [hD, hb] at K1 K2
      obtain ⟨m, hm⟩ : ∃ m, D.length = m := ⟨_, rfl⟩
      rw [hm] at K1 K2 hd
      have hm2 : m ≤ 1000000 := by omega
      have HM := Lib.hid hm
      have hbb : (b == b) = true := by simp
      clear hr0 hl0 hb0 hr1 hl1 hb1 hn0 hc1 hD hb hd hm
      go_enter Try.func4, Try.ntmps4
      go_wp2_with (first
        | (go_at_call 12; (with_reducible refine (K1.out _ B0.out).mono ?_); rintro e w1 ⟨v1, rfl, o1, b1⟩; obtain ⟨A1, c1, rfl, _, r1⟩ := own_reads o1; have R1 := Lib.hid r1; have B1 := Lib.hid b1; clear o1 b1 r1)
        | (go_at_call 13; (with_reducible refine (K2.out _ B1.out).mono ?_); rintro e w2 ⟨v2, rfl, o2, b2⟩; obtain ⟨A2, c2, rfl, _, r2⟩ := own_reads o2; have B2 := Lib.hid (bthen B1.out b2); have KS := Lib.hid (Same_true D m A1 A2 c1 c2 _ (R1.out.below b2) r2 HM.out hm2); clear o2 b2 r2)
        | (go_at_call 8; (with_reducible refine KS.out.mono ?_); rintro e w3 ⟨rfl, b3⟩; have B3 := Lib.hid (bthen B2.out b3); clear b3)
        | (go_at_call 6; (with_reducible refine (KL.out _).mono ?_); rintro e w4 ⟨rfl, b4⟩; have B4 := Lib.hid (bthen B3.out b4); clear b4))
      go_ret
      exact ⟨rfl, B4.out⟩
end Go.Proofs.Yticbnanfijkodaa
