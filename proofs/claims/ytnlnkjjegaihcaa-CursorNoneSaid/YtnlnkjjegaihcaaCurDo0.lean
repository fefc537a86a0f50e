/-
  The law's step for cursors, kind 0: a call, done to both. Condition: the cursor and the document's stand at the same token of a text.
-/
import Derived.Test.YtnlnkjjegaihcaaCurDoW
namespace Go.Proofs.Ytnlnkjjegaihcaa
open Go.ChangeShapes Go.WideShapes Go.ChangeAt Go.RowKit
set_option linter.unusedVariables false
set_option linter.unusedSimpArgs false
set_option maxRecDepth 100000 in
set_option maxHeartbeats 6400000 in
theorem does_0 (w : World) (p r K s M : Nat) (L : List TokV) (n a d : Nat) (t : ByteArray) (h : CurAt w p r K L a d) (hq : RowAt w s M L) (hsp : s ≠ p) (hn : n = L.length) :
    Calls Try.prog 9 #[.pointer (some ⟨p, 0, none⟩), qA s M n a d, .agg #[.int .i64 0, .string t]] w (DoPost w p r K s M L n) := by
  have D0 := Lib.hid (DoW.start h hq hsp #[.slice (some ⟨s, 0, none⟩) n M, .int .i64 (a : Int), .int .i64 (d : Int)] #[.int .i64 0, .string t])
  have ha := h.inn
  have pin := h.whole.inside
  have rin := h.rin
  have hOn := fun w h => qOn w s M L n a d hn h ha
  have hHere := fun w h => qHere w s M L n a d hn h ha
  have hNext := fun w h => cNext w p r K L a d h
  clear h hq hn ha
  generalize curT L a = v at *
  generalize onA L a = b at *
  unfold qA at hOn hHere ⊢
  have HO := Lib.hid hOn
  have HH := Lib.hid hHere
  have HN := Lib.hid hNext
  clear hOn hHere hNext
  go_enter Try.func9, Try.ntmps9
  go_wp2_with fail
  go_region_with (first
    | (go_at_call 27; refine (HO.out _ D0.out.drew.row).mono ?_; rintro e w3 ⟨rfl, b3⟩; have D3 := Lib.hid (D0.out.drew.next b3); obtain ⟨a0, a1, a2, v0, v1, v2⟩ := whole3 D3.out.k0; clear b3)
    | (go_at_call 21; refine (HN.out _ D3.out.mv.at_).mono ?_; rintro e w4 ⟨rfl, m4⟩; have D4 := Lib.hid (D3.out.step m4); obtain ⟨a0, a1, a2, v0, v1, v2⟩ := whole3 D4.out.k0; clear m4; simp only [tokA])
    | (go_at_call 11; refine (HH.out _ D4.out.row).mono ?_; rintro e w5 ⟨rfl, b5⟩; have D5 := Lib.hid (D4.out.next b5); obtain ⟨g0, g1, g2, z0, z1, z2⟩ := whole3 D5.out.k2; clear b5; simp only [tokA]))
  all_goals
    go_wp2
    have hF := whole3 (Whole.set3 D5.out.k2 (.slice (some ⟨s, 0, none⟩) n M) (.int .i64 (b : Int)) (.int .i64 (d : Int)))
    refine bodyPost_ret (v := .tuple #[qA s M n b d, .bool true]) (by simp [results, Try.results9, go_sem, hF, qA]) rfl ⟨b, d, rfl, ?_⟩
    exact D5.out.mv.on (keeps3 _ _ _ _ _) (by omega) pin rin
end Go.Proofs.Ytnlnkjjegaihcaa
