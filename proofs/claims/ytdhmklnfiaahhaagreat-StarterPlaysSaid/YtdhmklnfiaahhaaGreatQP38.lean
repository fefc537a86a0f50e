/-
  Texts StarterPlaysE. No conditions but those that each theorem names.
-/
import Derived.Test.YtdhmklnfiaahhaaGreatQP36
import Derived.Test.YtdhmklnfiaahhaaGreatQP37
namespace Go.Proofs.YtdhmklnfiaahhaaGreat
open Go.Great Go.ChangeShapes Go.WideShapes Go.ChangeAt Go.RowKit
set_option maxRecDepth 20000
set_option maxHeartbeats 12800000
set_option linter.unusedVariables false
set_option linter.unusedSimpArgs false
def spN : List ByteArray := [⟨#[65, 115, 104, 32, 73, 109, 112]⟩, ⟨#[82, 101, 101, 100, 32, 70, 114, 111, 103]⟩, ⟨#[84, 105, 110, 32, 83, 113, 117, 105, 114, 101]⟩, ⟨#[68, 117, 115, 116, 32, 67, 97, 116]⟩, ⟨#[76, 97, 109, 112, 32, 77, 111, 116, 104]⟩, ⟨#[80, 101, 98, 98, 108, 101, 32, 66, 111, 121]⟩, ⟨#[84, 104, 111, 114, 110, 32, 66, 117, 115, 104]⟩, ⟨#[82, 105, 118, 101, 114, 32, 79, 120]⟩, ⟨#[69, 109, 98, 101, 114, 32, 70, 111, 120]⟩, ⟨#[83, 97, 108, 116, 32, 77, 111, 110, 107]⟩, ⟨#[71, 114, 101, 121, 32, 79, 119, 108]⟩, ⟨#[66, 111, 103, 32, 87, 105, 116, 99, 104]⟩, ⟨#[87, 97, 108, 108, 32, 71, 117, 97, 114, 100]⟩, ⟨#[70, 101, 114, 114, 121, 32, 77, 97, 110]⟩, ⟨#[66, 101, 108, 108, 32, 82, 105, 110, 103, 101, 114]⟩, ⟨#[67, 114, 111, 119, 32, 84, 104, 105, 101, 102]⟩, ⟨#[87, 111, 111, 108, 32, 76, 97, 109, 98]⟩, ⟨#[67, 97, 114, 116, 32, 72, 111, 114, 115, 101]⟩, ⟨#[79, 97, 107, 32, 72, 101, 97, 114, 116]⟩, ⟨#[73, 114, 111, 110, 32, 66, 111, 97, 114]⟩, ⟨#[67, 104, 111, 105, 114, 32, 76, 101, 97, 100]⟩, ⟨#[70, 114, 111, 115, 116, 32, 69, 108, 107]⟩, ⟨#[84, 119, 105, 110, 32, 72, 101, 114, 111, 110]⟩, ⟨#[72, 97, 114, 98, 111, 114, 32, 67, 111, 111, 107]⟩, ⟨#[78, 105, 103, 104, 116, 32, 84, 97, 105, 108, 111, 114]⟩, ⟨#[81, 117, 97, 114, 114, 121, 32, 77, 117, 108, 101]⟩, ⟨#[83, 116, 111, 110, 101, 32, 74, 117, 100, 103, 101]⟩, ⟨#[79, 108, 100, 32, 82, 97, 110, 103, 101, 114]⟩, ⟨#[73, 110, 107, 32, 83, 113, 117, 105, 100]⟩, ⟨#[77, 105, 114, 114, 111, 114, 32, 72, 97, 103]⟩, ⟨#[77, 97, 114, 115, 104, 32, 68, 114, 97, 107, 101]⟩, ⟨#[71, 97, 116, 101, 32, 75, 101, 101, 112, 101, 114]⟩, ⟨#[87, 97, 114, 32, 68, 114, 117, 109]⟩, ⟨#[71, 114, 97, 118, 101, 32, 68, 105, 103, 103, 101, 114]⟩, ⟨#[83, 116, 111, 114, 109, 32, 67, 114, 97, 110, 101]⟩, ⟨#[71, 108, 97, 115, 115, 32, 75, 110, 105, 103, 104, 116]⟩, ⟨#[66, 114, 101, 97, 100, 32, 81, 117, 101, 101, 110]⟩, ⟨#[72, 111, 108, 108, 111, 119, 32, 84, 114, 101, 101]⟩, ⟨#[76, 111, 110, 103, 32, 83, 112, 101, 97, 114]⟩, ⟨#[67, 108, 111, 117, 100, 32, 87, 104, 97, 108, 101]⟩, ⟨#[83, 101, 97, 32, 87, 111, 108, 102]⟩, ⟨#[82, 101, 100, 32, 68, 114, 97, 103, 111, 110]⟩, ⟨#[72, 105, 103, 104, 32, 80, 114, 105, 101, 115, 116]⟩, ⟨#[83, 105, 101, 103, 101, 32, 82, 97, 109]⟩, ⟨#[66, 97, 110, 107, 32, 67, 108, 101, 114, 107]⟩, ⟨#[87, 105, 108, 100, 32, 72, 117, 110, 116]⟩]
theorem spg0 : Ul sL spN 0 4 = true := by kernel_rfl
theorem spg1 : Ul sL spN 4 4 = true := by kernel_rfl
theorem spg2 : Ul sL spN 8 4 = true := by kernel_rfl
theorem spg3 : Ul sL spN 12 4 = true := by kernel_rfl
theorem spg4 : Ul sL spN 16 4 = true := by kernel_rfl
theorem spg5 : Ul sL spN 20 4 = true := by kernel_rfl
theorem spg6 : Ul sL spN 24 4 = true := by kernel_rfl
theorem spg7 : Ul sL spN 28 4 = true := by kernel_rfl
theorem spg8 : Ul sL spN 32 4 = true := by kernel_rfl
theorem spg9 : Ul sL spN 36 4 = true := by kernel_rfl
theorem spg10 : Ul sL spN 40 4 = true := by kernel_rfl
theorem spg11 : Ul sL spN 44 2 = true := by kernel_rfl
def spcK (k : Nat) : Ca := cardOf (sL.getD k ⟨#[]⟩)
theorem spN_ne : (spN.zipIdx.all fun a => spN.zipIdx.all fun b => a.2 == b.2 || !(a.1.toList == b.1.toList)) = true := by kernel_rfl
theorem spgood {k : Nat} (hk : k < 46) : goodB (sL.getD k ⟨#[]⟩) (spN.getD k ⟨#[]⟩) = true := by
 rcases (show (0 ≤ k ∧ k < 0 + 4) ∨ (4 ≤ k ∧ k < 4 + 4) ∨ (8 ≤ k ∧ k < 8 + 4) ∨ (12 ≤ k ∧ k < 12 + 4) ∨ (16 ≤ k ∧ k < 16 + 4) ∨ (20 ≤ k ∧ k < 20 + 4) ∨ (24 ≤ k ∧ k < 24 + 4) ∨ (28 ≤ k ∧ k < 28 + 4) ∨ (32 ≤ k ∧ k < 32 + 4) ∨ (36 ≤ k ∧ k < 36 + 4) ∨ (40 ≤ k ∧ k < 40 + 4) ∨ (44 ≤ k ∧ k < 44 + 2) by omega) with h | h | h | h | h | h | h | h | h | h | h | h
 · exact Xn spg0 h.1 h.2
 · exact Xn spg1 h.1 h.2
 · exact Xn spg2 h.1 h.2
 · exact Xn spg3 h.1 h.2
 · exact Xn spg4 h.1 h.2
 · exact Xn spg5 h.1 h.2
 · exact Xn spg6 h.1 h.2
 · exact Xn spg7 h.1 h.2
 · exact Xn spg8 h.1 h.2
 · exact Xn spg9 h.1 h.2
 · exact Xn spg10 h.1 h.2
 · exact Xn spg11 h.1 h.2
theorem spcK_ok {k : Nat} (hk : k < 46) : CardOK (sL.getD k ⟨#[]⟩) (spcK k) := (good_of (spgood hk)).1
theorem spname_ne {k m : Nat} (hk : k < 46) (hm : m < 46) (h : m ≠ k) : ((spcK m).name.toList == (spcK k).name.toList) = false := by
 have hn := spN_ne
 rw [List.all_eq_true] at hn
 have hlen : spN.length = 46 := by kernel_rfl
 have at_ : ∀ j, j < 46 → ((spcK j).name, j) ∈ spN.zipIdx := fun j hj => by
   have hj2 : j < spN.length := by rw [hlen]; exact hj
   have e : (spcK j).name = spN.getD j ⟨#[]⟩ := (good_of (spgood hj)).2
   rw [List.mem_zipIdx_iff_getElem?, e]
   show spN[j]? = some (spN.getD j ⟨#[]⟩)
   simp [List.getD, hj2]
 have h1 := hn _ (at_ m hm)
 rw [List.all_eq_true] at h1
 have h2 := h1 _ (at_ k hk)
 simp only [Bool.or_eq_true, beq_iff_eq, Bool.not_eq_true'] at h2
 exact h2.resolve_left h
end Go.Proofs.YtdhmklnfiaahhaaGreat
