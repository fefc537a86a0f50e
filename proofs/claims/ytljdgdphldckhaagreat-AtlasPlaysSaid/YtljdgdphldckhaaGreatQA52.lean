/-
  Texts AtlasPlaysE. No conditions but those that each theorem names.
-/
import Derived.Test.YtljdgdphldckhaaGreatQA50
import Derived.Test.YtljdgdphldckhaaGreatQA51
set_option maxRecDepth 20000
set_option maxHeartbeats 12800000
namespace Go.Proofs.YtljdgdphldckhaaGreat
open Go.Great Go.ChangeShapes Go.WideShapes Go.ChangeAt Go.RowKit
set_option linter.unusedVariables false
set_option linter.unusedSimpArgs false
def apN : List ByteArray := [⟨#[79, 108, 100, 32, 77, 105, 108, 108]⟩, ⟨#[71, 114, 101, 101, 110, 32, 72, 105, 108, 108]⟩, ⟨#[66, 108, 97, 99, 107, 32, 77, 97, 114, 115, 104]⟩, ⟨#[77, 97, 114, 107, 101, 116]⟩, ⟨#[87, 101, 108, 108]⟩, ⟨#[70, 111, 114, 103, 101]⟩, ⟨#[82, 117, 105, 110]⟩, ⟨#[78, 97, 114, 114, 111, 119, 32, 80, 97, 115, 115]⟩, ⟨#[87, 97, 116, 99, 104, 116, 111, 119, 101, 114]⟩, ⟨#[82, 111, 112, 101, 32, 66, 114, 105, 100, 103, 101]⟩, ⟨#[84, 97, 118, 101, 114, 110]⟩, ⟨#[67, 104, 97, 112, 101, 108]⟩, ⟨#[81, 117, 97, 114, 114, 121]⟩, ⟨#[84, 97, 114, 32, 80, 105, 116]⟩, ⟨#[77, 105, 114, 114, 111, 114, 32, 76, 97, 107, 101]⟩, ⟨#[65, 114, 101, 110, 97]⟩, ⟨#[78, 117, 114, 115, 101, 114, 121]⟩, ⟨#[67, 114, 111, 115, 115, 114, 111, 97, 100, 115]⟩, ⟨#[68, 114, 97, 103, 111, 110, 32, 72, 111, 97, 114, 100]⟩, ⟨#[81, 117, 105, 99, 107, 115, 97, 110, 100]⟩, ⟨#[76, 105, 98, 114, 97, 114, 121]⟩, ⟨#[71, 97, 108, 108, 111, 119, 115]⟩, ⟨#[84, 105, 100, 101, 32, 80, 111, 111, 108]⟩, ⟨#[83, 117, 109, 109, 105, 116]⟩]
theorem apg0 : goodPR aSL apN 0 4 = true := by kernel_rfl
theorem apg1 : goodPR aSL apN 4 4 = true := by kernel_rfl
theorem apg2 : goodPR aSL apN 8 4 = true := by kernel_rfl
theorem apg3 : goodPR aSL apN 12 4 = true := by kernel_rfl
theorem apg4 : goodPR aSL apN 16 4 = true := by kernel_rfl
theorem apg5 : goodPR aSL apN 20 4 = true := by kernel_rfl
def apcK (k : Nat) : Pl := plOf1 (aSL.getD k ⟨#[]⟩)
theorem apN_ne : (apN.zipIdx.all fun a => apN.zipIdx.all fun b => a.2 == b.2 || !(a.1.toList == b.1.toList)) = true := by kernel_rfl
theorem apgood {k : Nat} (hk : k < 24) : goodP (aSL.getD k ⟨#[]⟩) (apN.getD k ⟨#[]⟩) = true := by
 rcases (show (0 ≤ k ∧ k < 0 + 4) ∨ (4 ≤ k ∧ k < 4 + 4) ∨ (8 ≤ k ∧ k < 8 + 4) ∨ (12 ≤ k ∧ k < 12 + 4) ∨ (16 ≤ k ∧ k < 16 + 4) ∨ (20 ≤ k ∧ k < 20 + 4) by omega) with h | h | h | h | h | h
 · exact goodPR_at apg0 h.1 h.2
 · exact goodPR_at apg1 h.1 h.2
 · exact goodPR_at apg2 h.1 h.2
 · exact goodPR_at apg3 h.1 h.2
 · exact goodPR_at apg4 h.1 h.2
 · exact goodPR_at apg5 h.1 h.2
theorem apcK_ok {k : Nat} (hk : k < 24) : PlaceOK (aSL.getD k ⟨#[]⟩) (apcK k) := (goodP_of (apgood hk)).1
theorem apname_ne {k m : Nat} (hk : k < 24) (hm : m < 24) (h : m ≠ k) : ((apcK m).name.toList == (apcK k).name.toList) = false := by
 have hn := apN_ne
 rw [List.all_eq_true] at hn
 have hlen : apN.length = 24 := by kernel_rfl
 have at_ : ∀ j, j < 24 → ((apcK j).name, j) ∈ apN.zipIdx := fun j hj => by
   have hj2 : j < apN.length := by rw [hlen]; exact hj
   have e : (apcK j).name = apN.getD j ⟨#[]⟩ := (goodP_of (apgood hj)).2
   rw [List.mem_zipIdx_iff_getElem?, e]
   show apN[j]? = some (apN.getD j ⟨#[]⟩)
   simp [List.getD, hj2]
 have h1 := hn _ (at_ m hm)
 rw [List.all_eq_true] at h1
 have h2 := h1 _ (at_ k hk)
 simp only [Bool.or_eq_true, beq_iff_eq, Bool.not_eq_true'] at h2
 exact h2.resolve_left h
end Go.Proofs.YtljdgdphldckhaaGreat
