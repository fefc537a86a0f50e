/-
  Texts UnpBack. No conditions but those that each theorem names.
-/
import Derived.Test.YtljdgdphldckhaaGreatQB36
import Derived.Test.YtljdgdphldckhaaGreatQB40
namespace Go.Proofs.YtljdgdphldckhaaGreat
open Go
set_option linter.unusedSimpArgs false
set_option linter.unusedVariables false
theorem like_fits : ∀ {M : List TokV} {T : List PT} (P E : List TokV), Like M T → Zay (P ++ (M ++ E)) P.length T
 | [], [], P, E, _ => trivial
 | v :: M, p :: T, P, E, h => by
   refine ⟨?_, ?_⟩
   · have e : Zp (P ++ (v :: M ++ E)) P.length = v := by unfold Zp; simp
     rw [e]; exact h.1
   · have := like_fits (P ++ [v]) E h.2
     rw [List.length_append, List.length_singleton, List.append_assoc] at this
     exact this
theorem scan_text {X : List Int} {T : List PT} (h : Scn true X T) (hs : (strOfNums X).size ≤ 65536) : ∃ L, scanV (strOfNums X) = (L, 0, 0, 0) ∧ Zay L 0 T ∧ L.length = T.length + 1 ∧ (Zp L T.length).k = 0 := by
 have hr : Zj (strOfNums X) 0 = X ++ [] := by unfold Zj; rw [bL_str X h.1, List.drop_zero, List.append_nil]
 obtain ⟨M, e, l⟩ := h.2 (strOfNums X) 0 [] [] hr (.inl rfl)
 have hz : (strOfNums X).size = X.length := strOfNums_size X
 rw [List.nil_append, Nat.zero_add, scanA_end _ M (by omega)] at e
 refine ⟨M ++ [endV (strOfNums X) X.length], ?_, ?_, ?_, ?_⟩
 · unfold scanV
   rw [if_neg (by omega), e, if_pos rfl]
 · exact like_fits [] _ l
 · rw [List.length_append, l.len]; rfl
 · rw [← l.len]
   have : Zp (M ++ [endV (strOfNums X) X.length]) M.length = endV (strOfNums X) X.length := by unfold Zp; simp
   rw [this]; rfl
theorem parse_text {f : Fi} (hv : VFi f) (hs : (strOfNums (lFi f)).size ≤ 65536) (nk : Int) : ∃ g, parseF nk (strOfNums (lFi f)) = (g, okF) ∧ FiSim false f g := by
 obtain ⟨L, e, hf, hlen, h0⟩ := scan_text (sc_fi hv) hs
 have e1 : Vy (strOfNums (lFi f)) = L := by unfold Vy; rw [e]
 have e2 : Zag (strOfNums (lFi f)) = .ok 0 0 := by unfold Zag; rw [e]; rfl
 obtain ⟨g, eg, sg⟩ := file_fit (nk := nk) hv (n := textN (strOfNums (lFi f))) hf (by unfold textN; rw [e1]; omega) (by rw [Nat.zero_add]; exact h0)
 refine ⟨g, ?_, sg⟩
 have eo : fileO nk (strOfNums (lFi f)) = (g, .ok (0 + (tFi f).length) 0) := by unfold fileO; rw [e1, e2]; exact eg
 unfold parseF
 rw [eo, e1]
 have h0' : (Zp L (0 + (tFi f).length)).k = 0 := by rw [Nat.zero_add]; exact h0
 have ev : Vz L (.ok (0 + (tFi f).length) 0) = .ok (0 + (tFi f).length) 0 := by
   show (if (Zp L (0 + (tFi f).length)).k = 0 then St.ok (0 + (tFi f).length) 0 else _) = _
   rw [if_pos h0']
 dsimp only
 rw [ev]
 rfl
end Go.Proofs.YtljdgdphldckhaaGreat
