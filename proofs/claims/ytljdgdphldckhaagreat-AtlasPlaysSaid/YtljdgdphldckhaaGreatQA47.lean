/-
  Texts UnpRow. No conditions but those that each theorem names.
-/
import Derived.Test.YtljdgdphldckhaaGreatQA34
import Derived.Test.YtljdgdphldckhaaGreatQA46
set_option maxRecDepth 20000
set_option maxHeartbeats 12800000
namespace Go.Proofs.YtljdgdphldckhaaGreat
open Go
set_option linter.unusedSimpArgs false
set_option linter.unusedVariables false
theorem good_row {v : TokV} (h : GoodT v) : (v.k = 2 → 0 ≤ v.n ∧ v.n ≤ 99) ∧ (v.k = 3 → NameOK v.t) := by
 obtain ⟨l, g1, g2, g3, g4, g5, g6, g7⟩ := h
 refine ⟨fun _ => by rw [g5]; exact numOf_bd l, fun hk => ?_⟩
 have hk3 : (Yb l).1 = 3 := by rw [← g2]; exact hk
 cases l with
 | nil => simp [Yb] at g1
 | cons c r =>
   have key : (Yb (c :: r)).1 = 3 → c = 34 ∧ tw (Xe 34) r < r.length ∧ nameB (strOfNums (r.take (tw (Xe 34) r))) = true ∧ Yb (c :: r) = (3, 1, tw (Xe 34) r + 1, tw (Xe 34) r + 2) := by
     refine Ju c r (fun x => x.1 = 3 → c = 34 ∧ tw (Xe 34) r < r.length ∧ nameB (strOfNums (r.take (tw (Xe 34) r))) = true ∧ x = (3, 1, tw (Xe 34) r + 1, tw (Xe 34) r + 2)) ?_ ?_ ?_ ?_ ?_ ?_ ?_ ?_
     · intro _ hh; simp at hh
     · intro _ _ _ hh; simp at hh
     · intro _ _ hh; simp at hh
     · intro _ hh; simp at hh
     · intro h1 h2 h3 _; exact ⟨h1, h2, h3, rfl⟩
     · intro _ _ hh; simp at hh
     · intro _ _ _ _ _ hh; simp at hh
     · intro _ _ _ _ _ hh; simp at hh
   obtain ⟨k1, k2, k3, k4⟩ := key hk3
   rw [k4] at g3 g4
   have e1 : ((c :: r).take (tw (Xe 34) r + 1)).drop 1 = r.take (tw (Xe 34) r) := by rw [List.take_succ_cons, List.drop_succ_cons, List.drop_zero]
   dsimp only at g3 g4
   rw [e1] at g4
   unfold txt at g3
   rw [if_pos hk, List.take_succ_cons, k1] at g3
   have g3' := (List.cons.inj g3).2
   have e2 : bL v.t = r.take (tw (Xe 34) r) := by
     have hlen := congrArg List.length g3'
     rw [List.length_append, List.length_take, List.length_cons, List.length_nil] at hlen
     have hz : (bL v.t).length = tw (Xe 34) r := by omega
     have := congrArg (List.take (tw (Xe 34) r)) g3'
     rw [List.take_append_of_le_length (by omega), List.take_of_length_le (by omega), List.take_take, Nat.min_eq_left (by omega)] at this
     exact this
   refine ⟨by rw [g4]; exact k3, fun x hx => ?_⟩
   have hb := bL_bd v.t x hx
   rw [e2] at hx
   have := tw_take (Xe 34) r x hx
   rw [Zan] at this
   exact ⟨hb.1, hb.2, this⟩
theorem Sh.row {L : List TokV} (h : Sh L) : ∀ a, ((Ye L a).k = 2 → 0 ≤ (Ye L a).n ∧ (Ye L a).n ≤ 99) ∧ ((Ye L a).k = 3 → NameOK (Ye L a).t) := by
 have z : ∀ v : TokV, v.k = 0 → (v.k = 2 → 0 ≤ v.n ∧ v.n ≤ 99) ∧ (v.k = 3 → NameOK v.t) := fun v hv => ⟨fun h => by omega, fun h => by omega⟩
 induction h with
 | fin v hk ht hn =>
   intro a
   cases a with
   | zero => rw [curT_zero]; exact z v hk
   | succ a => exact z _ (by simp [Ye, zTok])
 | tok v L hg hL ih =>
   intro a
   cases a with
   | zero => rw [curT_zero]; exact good_row hg
   | succ a => rw [curT_succ]; exact ih a
theorem Sh.ok {L : List TokV} (h : Sh L) : Zab L := ⟨fun a => (h.row a).1, fun a => (h.row a).2⟩
end Go.Proofs.YtljdgdphldckhaaGreat
