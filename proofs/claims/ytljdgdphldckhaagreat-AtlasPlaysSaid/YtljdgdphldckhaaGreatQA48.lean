/-
  Texts UnpPar. No conditions but those that each theorem names.
-/
import Derived.Test.YtljdgdphldckhaaGreatQA47
set_option maxRecDepth 20000
set_option maxHeartbeats 12800000
namespace Go.Proofs.YtljdgdphldckhaaGreat
open Go
set_option linter.unusedSimpArgs false
set_option linter.unusedVariables false
theorem text_ok (s : ByteArray) (hs : s.size ≤ 65536) : (∃ F, textS s = .bad F ∧ Zae s = []) ∨ (textS s = .ok 0 0 ∧ Zab (Zae s)) := by
 obtain ⟨L, E, p, hc⟩ : ∃ L E p, Ue s 0 [] = (L, E, p) := ⟨_, _, _, rfl⟩
 have hf := scan_tr s s.size 0 [] L E p (by omega) (by omega) (Bd.zero s) hc
 unfold textS Zae
 rw [scanV_of s hs hc]
 by_cases hE : E = 0
 · obtain ⟨L2, h2, h3⟩ := hf.1 hE
   have e : L = L2 := h2
   subst e
   right
   rw [if_pos hE]
   exact ⟨rfl, h3.sh.ok⟩
 · left
   rw [if_neg hE]
   exact ⟨_, if_neg hE, rfl⟩
theorem over_good {L : List TokV} {st : St} (h : (overS L st).good = true) : st.good = true := by
 cases st with
 | ok a d => rfl
 | bad F => exact h
theorem file_off (nk : Int) (L : List TokV) (n : Nat) (F : Int × Nat × Nat) : Vc nk L (n + 1) (.bad F) = (⟨[], []⟩, .bad F) := by
 rw [Vc]
 rfl
theorem parse_val (nk : Int) (s : ByteArray) (hs : s.size ≤ 65536) : VFi (parseF nk s).1 := by
 unfold parseF
 dsimp only
 by_cases hg : (overS (Zae s) (fileO nk s).2).good = true
 · rw [if_pos hg]
   have h2 := over_good hg
   unfold fileO at h2 ⊢
   rcases text_ok s hs with ⟨F, e1, e2⟩ | ⟨e1, hr⟩
   · rw [e1, show textN s = (textN s - 1) + 1 from by unfold textN; omega, file_off] at h2
     cases h2
   · exact (file_val hr (textN s) (textS s) (by have := text_rem s; unfold textN; omega) h2 ⟨0, e1⟩).2
 · rw [if_neg hg]
   exact ⟨(fun c hc => by cases hc), fun p hp => by cases hp⟩
end Go.Proofs.YtljdgdphldckhaaGreat
