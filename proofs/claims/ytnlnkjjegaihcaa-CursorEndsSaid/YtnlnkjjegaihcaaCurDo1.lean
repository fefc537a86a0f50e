/-
  The law's step for cursors, kind 1: a call, done to both. Condition: the cursor and the document's stand at the same token of a text.
-/
import Derived.Test.YtnlnkjjegaihcaaCurDoW
namespace Go.Proofs.Ytnlnkjjegaihcaa
open Go.ChangeShapes Go.WideShapes Go.ChangeAt Go.RowKit
set_option linter.unusedVariables false
set_option linter.unusedSimpArgs false
set_option maxRecDepth 100000 in
set_option maxHeartbeats 6400000 in
theorem does_1 (w : World) (p r K s M : Nat) (L : List TokV) (n a d : Nat) (t : ByteArray) (h : CurAt w p r K L a d) (hq : RowAt w s M L) (hsp : s ≠ p) (hn : n = L.length) :
    Calls Try.prog 9 #[.pointer (some ⟨p, 0, none⟩), qA s M n a d, .agg #[.int .i64 1, .string t]] w (DoPost w p r K s M L n) := by
  have D0 := Lib.hid (DoW.start h hq hsp #[.slice (some ⟨s, 0, none⟩) n M, .int .i64 (a : Int), .int .i64 (d : Int)] #[.int .i64 1, .string t])
  have ha := h.inn
  have pin := h.whole.inside
  have rin := h.rin
  have hIs := fun w h => qIs w s M L n a d t hn h ha
  have hWant := fun w h => qWant w s M L n a d t hn h ha
  have hTake := fun w h => cTake w p r K L a d t h
  clear h hq hn ha
  generalize isT (curT L a) t = B at *
  generalize wantA L a t = b at *
  generalize wantF L a t = f at *
  obtain ⟨f1, f2, f3⟩ := f
  unfold qA at hIs hWant ⊢
  have HI := Lib.hid hIs
  have HW := Lib.hid hWant
  have HT := Lib.hid hTake
  clear hIs hWant hTake
  go_enter Try.func9, Try.ntmps9
  go_wp2_with (first
    | (go_at_call 14; refine (HI.out _ D0.out.row).mono ?_; rintro e w1 ⟨rfl, b1⟩; have D1 := Lib.hid (D0.out.next b1); obtain ⟨a0, a1, a2, v0, v1, v2⟩ := whole3 D1.out.k0; obtain ⟨h0, h1, x0, x1⟩ := whole2 D1.out.k1; obtain ⟨g0, g1, g2, z0, z1, z2⟩ := whole3 D1.out.k2; have hz := D1.out.k2.inside; have hz0 := D1.out.k0.inside; have hz1 := D1.out.k1.inside; clear b1)
    | (go_at_call 28; refine (HW.out _ D1.out.row).mono ?_; rintro e w2 ⟨rfl, b2⟩; have D2 := Lib.hid (D1.out.next b2); obtain ⟨a0, a1, a2, v0, v1, v2⟩ := whole3 D2.out.k0; obtain ⟨h0, h1, x0, x1⟩ := whole2 D2.out.k1; obtain ⟨g0, g1, g2, z0, z1, z2⟩ := whole3 D2.out.k2; have hz := D2.out.k2.inside; have hz0 := D2.out.k0.inside; have hz1 := D2.out.k1.inside; clear b2; simp only [faultV]))
  go_region_with (go_at_call 22; refine (HT.out _ ((D2.out.next (new_block w2 (.cells #[.slice (some ⟨s, 0, none⟩) n M, .int .i64 (b : Int), .int .i64 (d : Int)] 32))).next (new_block _ (.cells #[.int .i64 f1, .int .i64 (f2 : Int), .int .i64 (f3 : Int)] 27))).drew.mv.at_).mono ?_; rintro e w3 ⟨rfl, m3⟩; have D3 := Lib.hid (((D2.out.next (new_block w2 (.cells #[.slice (some ⟨s, 0, none⟩) n M, .int .i64 (b : Int), .int .i64 (d : Int)] 32))).next (new_block _ (.cells #[.int .i64 f1, .int .i64 (f2 : Int), .int .i64 (f3 : Int)] 27))).drew.step m3); have hn0 : ¬ (w2.heap.size = p) := (by have := D2.out.k2.inside; have := D2.out.pin; omega); have hn1 : ¬ ((w2.alloc (.cells #[.slice (some ⟨s, 0, none⟩) n M, .int .i64 (b : Int), .int .i64 (d : Int)] 32)).heap.size = p) := (by have := D2.out.k2.inside; have := D2.out.pin; simp; omega); obtain ⟨c0, c1, c2, y0, y1, y2⟩ := whole3 (m3.keeps.whole ((Whole.made w2 32 #[.slice (some ⟨s, 0, none⟩) n M, .int .i64 (b : Int), .int .i64 (d : Int)]).alloc (.cells #[.int .i64 f1, .int .i64 (f2 : Int), .int .i64 (f3 : Int)] 27)).drew hn0); have hf3 := whole3 (m3.keeps.whole (Whole.made (w2.alloc (.cells #[.slice (some ⟨s, 0, none⟩) n M, .int .i64 (b : Int), .int .i64 (d : Int)] 32)) 27 #[.int .i64 f1, .int .i64 (f2 : Int), .int .i64 (f3 : Int)]).drew hn1); have e1 : (w2.alloc (.cells #[.slice (some ⟨s, 0, none⟩) n M, .int .i64 (b : Int), .int .i64 (d : Int)] 32)).heap.size = w2.heap.size + 1 := (by simp); rw [e1] at hf3; clear e1; obtain ⟨q0, q1, q2, s0, s1, s2⟩ := hf3; obtain ⟨a0, a1, a2, v0, v1, v2⟩ := whole3 D3.out.k0; obtain ⟨h0, h1, x0, x1⟩ := whole2 D3.out.k1; obtain ⟨g0, g1, g2, z0, z1, z2⟩ := whole3 D3.out.k2; have hz := D3.out.k2.inside; have hz0 := D3.out.k0.inside; have hz1 := D3.out.k1.inside; clear m3)
  all_goals
    go_wp2
    have hF := whole3 (Whole.set3 D3.out.k2 (.slice (some ⟨s, 0, none⟩) n M) (.int .i64 (b : Int)) (.int .i64 (d : Int)))
    refine bodyPost_ret (v := .tuple #[qA s M n b d, .bool true]) (by simp [results, Try.results9, go_sem, hF, qA]) rfl ⟨b, d, rfl, ?_⟩
    exact D3.out.mv.on (keeps3 _ _ _ _ _) (by omega) pin rin
end Go.Proofs.Ytnlnkjjegaihcaa
