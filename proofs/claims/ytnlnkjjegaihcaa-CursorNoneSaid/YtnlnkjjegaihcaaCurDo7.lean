/-
  The law's step for cursors, kind 7: a call, done to both. Condition: the cursor and the document's stand at the same token of a text.
-/
import Derived.Test.YtnlnkjjegaihcaaCurDoW
namespace Go.Proofs.Ytnlnkjjegaihcaa
open Go.ChangeShapes Go.WideShapes Go.ChangeAt Go.RowKit
set_option linter.unusedVariables false
set_option linter.unusedSimpArgs false
set_option maxRecDepth 100000 in
set_option maxHeartbeats 6400000 in
theorem does_7 (w : World) (p r K s M : Nat) (L : List TokV) (n a d : Nat) (t : ByteArray) (k : Int) (hk : k < 0 ∨ 6 < k) (h : CurAt w p r K L a d) (hq : RowAt w s M L) (hsp : s ≠ p) (hn : n = L.length) :
    Calls Try.prog 9 #[.pointer (some ⟨p, 0, none⟩), qA s M n a d, .agg #[.int .i64 k, .string t]] w (DoPost w p r K s M L n) := by
  have D0 := Lib.hid (DoW.start h hq hsp #[.slice (some ⟨s, 0, none⟩) n M, .int .i64 (a : Int), .int .i64 (d : Int)] #[.int .i64 k, .string t])
  have ha := h.inn
  have pin := h.whole.inside
  have rin := h.rin
  have hQ := fun w => qUp w s M n a d h.deep
  have hC := fun w h => cUp w p r K L a d h
  have o0 : (k == 0) = false := by rw [beq_eq_false_iff_ne]; omega
  have o1 : (k == 1) = false := by rw [beq_eq_false_iff_ne]; omega
  have o2 : (k == 2) = false := by rw [beq_eq_false_iff_ne]; omega
  have o3 : (k == 3) = false := by rw [beq_eq_false_iff_ne]; omega
  have o4 : (k == 4) = false := by rw [beq_eq_false_iff_ne]; omega
  have o5 : (k == 5) = false := by rw [beq_eq_false_iff_ne]; omega
  have o6 : (k == 6) = false := by rw [beq_eq_false_iff_ne]; omega
  clear h hq hn ha hk
  generalize d - 1 = g at *
  unfold qA at hQ ⊢
  have HQ := Lib.hid hQ
  have HC := Lib.hid hC
  clear hQ hC
  go_enter Try.func9, Try.ntmps9
  go_wp2_with (first
    | (go_at_call 20; refine (HC.out _ D0.out.mv.at_).mono ?_; rintro e w1 ⟨rfl, m1⟩; have D1 := Lib.hid (D0.out.step m1); obtain ⟨a0, a1, a2, v0, v1, v2⟩ := whole3 D1.out.k0; obtain ⟨h0, h1, x0, x1⟩ := whole2 D1.out.k1; obtain ⟨g0, g1, g2, z0, z1, z2⟩ := whole3 D1.out.k2; have hz := D1.out.k2.inside; have hz0 := D1.out.k0.inside; have hz1 := D1.out.k1.inside; clear m1)
    | (go_at_call 33; refine (HQ.out _).mono ?_; rintro e w2 ⟨rfl, b2⟩; have D3 := Lib.hid (D1.out.next b2); obtain ⟨a0, a1, a2, v0, v1, v2⟩ := whole3 D3.out.k0; obtain ⟨h0, h1, x0, x1⟩ := whole2 D3.out.k1; obtain ⟨g0, g1, g2, z0, z1, z2⟩ := whole3 D3.out.k2; have hz := D3.out.k2.inside; have hz0 := D3.out.k0.inside; have hz1 := D3.out.k1.inside; clear b2))
  have hF := whole3 (Whole.set3 D3.out.k2 (.slice (some ⟨s, 0, none⟩) n M) (.int .i64 (a : Int)) (.int .i64 (g : Int)))
  refine bodyPost_ret (v := .tuple #[qA s M n a g, .bool true]) (by simp [results, Try.results9, go_sem, hF, qA]) rfl ⟨a, g, rfl, ?_⟩
  exact D3.out.mv.on (keeps3 _ _ _ _ _) (by omega) pin rin
end Go.Proofs.Ytnlnkjjegaihcaa
