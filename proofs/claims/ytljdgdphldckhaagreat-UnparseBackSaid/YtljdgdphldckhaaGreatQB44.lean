/-
  Texts UnpLen3. No conditions but those that each theorem names.
-/
import Derived.Test.YtljdgdphldckhaaGreatQB43
namespace Go.Proofs.YtljdgdphldckhaaGreat
open Go
set_option linter.unusedSimpArgs false
set_option linter.unusedVariables false
theorem tokL_to (l : List Int) : (Zz l).2.2.1 ≤ (Zz l).2.2.2 := by
 cases l with
 | nil => exact Nat.le_refl _
 | cons c r =>
   refine Jz c r (fun x => x.2.2.1 ≤ x.2.2.2) ?_ ?_ ?_ ?_ ?_ ?_ ?_ ?_ <;> intros <;> simp
theorem Tr.weight {s : ByteArray} {a : Nat} {L : List TokV} (h : Tr s a L) : wtL L + 10 * a ≤ 10 * s.size + 9 := by
 induction h with
 | fin a ha =>
   have e : wtL [endV s a] = 9 := rfl
   rw [e]; omega
 | skip a b L hab _ ih => omega
 | tok a L ha hk _ _ ih =>
   have h1 := Zam s ha (by omega)
   have h2 := tokL_to (Zj s a)
   have e : wtL (tokV s a :: L) = (tokV s a).t.size + 9 + wtL L := by simp [wtL, wt]
   have h3 : (tokV s a).t.size ≤ (Zz (Zj s a)).2.2.2 := by
     show (s.extract _ _).size ≤ _
     rw [ByteArray.size_extract]
     omega
   rw [e]; omega
theorem text_weight (s : ByteArray) (hs : s.size ≤ 65536) : WS (Vy s) (Zag s) ≤ 10 * s.size + 9 := by
 obtain ⟨L, E, p, hc⟩ : ∃ L E p, Ug s 0 [] = (L, E, p) := ⟨_, _, _, rfl⟩
 have hf := scan_tr s s.size 0 [] L E p (by omega) (by omega) (Bd.zero s) hc
 unfold Zag Vy
 rw [scanV_of s hs hc]
 by_cases hE : E = 0
 · obtain ⟨L2, h2, h3⟩ := hf.1 hE
   have e : L = L2 := h2
   subst e
   rw [if_pos hE]
   have := h3.weight
   show wtL (List.drop 0 L) ≤ _
   rw [List.drop_zero]
   omega
 · rw [if_neg hE, if_neg hE]
   exact Nat.zero_le _
theorem parse_len (nk : Int) (s : ByteArray) (hs : s.size ≤ 65536) : lenFi (parseF nk s).1 ≤ 10 * s.size + 9 := by
 unfold parseF
 dsimp only
 by_cases hg : (Vz (Vy s) (fileO nk s).2).good = true
 · rw [if_pos hg]
   have h2 := over_good hg
   unfold fileO at h2 ⊢
   rcases text_ok s hs with ⟨F, e1, e2⟩ | ⟨e1, hr⟩
   · rw [e1, show textN s = (textN s - 1) + 1 from by unfold textN; omega, file_off] at h2
     cases h2
   · have := (p_file (nk := nk) hr (textN s) (Zag s) (by have := text_rem s; unfold textN; omega) h2).2
     have := text_weight s hs
     omega
 · rw [if_neg hg]
   exact Nat.zero_le _
end Go.Proofs.YtljdgdphldckhaaGreat
