/-
  Texts ExpansionPlaysE. No conditions but those that each theorem names.
-/
import Derived.Test.YtdhmklnfiaahhaaGreatQP36
import Derived.Test.YtdhmklnfiaahhaaGreatQP40
namespace Go.Proofs.YtdhmklnfiaahhaaGreat
open Go.Great Go.ChangeShapes Go.WideShapes Go.ChangeAt Go.RowKit
set_option maxRecDepth 20000
set_option maxHeartbeats 12800000
set_option linter.unusedVariables false
set_option linter.unusedSimpArgs false
def xpN : List ByteArray := [⟨#[83, 117, 110, 32, 71, 105, 97, 110, 116]⟩, ⟨#[77, 111, 111, 110, 32, 71, 105, 97, 110, 116]⟩, ⟨#[68, 101, 101, 112, 32, 75, 114, 97, 107, 101, 110]⟩, ⟨#[84, 105, 109, 101, 32, 83, 109, 105, 116, 104]⟩, ⟨#[80, 108, 97, 103, 117, 101, 32, 67, 97, 114, 116]⟩, ⟨#[76, 97, 115, 116, 32, 72, 101, 114, 97, 108, 100]⟩, ⟨#[66, 111, 110, 101, 32, 75, 105, 110, 103]⟩, ⟨#[83, 107, 121, 32, 65, 110, 99, 104, 111, 114]⟩, ⟨#[87, 111, 114, 108, 100, 32, 83, 110, 97, 107, 101]⟩, ⟨#[71, 114, 97, 110, 100, 32, 77, 97, 115, 113, 117, 101]⟩, ⟨#[81, 117, 105, 101, 116, 32, 81, 117, 101, 101, 110]⟩, ⟨#[69, 108, 100, 101, 114, 32, 83, 116, 97, 103]⟩, ⟨#[84, 119, 105, 103, 32, 68, 111, 108, 108]⟩, ⟨#[82, 117, 115, 116, 32, 75, 101, 121]⟩, ⟨#[67, 97, 110, 100, 108, 101, 32, 69, 110, 100]⟩, ⟨#[80, 97, 112, 101, 114, 32, 66, 111, 97, 116]⟩, ⟨#[83, 116, 114, 97, 119, 32, 83, 112, 121]⟩, ⟨#[87, 97, 115, 112, 32, 83, 119, 97, 114, 109]⟩, ⟨#[67, 111, 112, 112, 101, 114, 32, 66, 105, 114, 100]⟩, ⟨#[76, 105, 116, 116, 108, 101, 32, 83, 109, 105, 116, 104]⟩, ⟨#[70, 101, 110, 99, 101, 32, 80, 111, 115, 116]⟩, ⟨#[77, 117, 100, 32, 67, 104, 105, 108, 100]⟩, ⟨#[70, 111, 103, 32, 66, 97, 110, 107]⟩, ⟨#[83, 116, 105, 108, 116, 32, 87, 97, 108, 107, 101, 114]⟩, ⟨#[82, 111, 112, 101, 32, 68, 97, 110, 99, 101, 114]⟩, ⟨#[66, 114, 97, 115, 115, 32, 77, 111, 110, 107, 101, 121]⟩, ⟨#[83, 99, 97, 108, 101, 32, 87, 101, 105, 103, 104, 101, 114]⟩, ⟨#[71, 111, 108, 100, 32, 70, 105, 110, 100, 101, 114]⟩, ⟨#[83, 105, 108, 116, 32, 67, 114, 97, 98]⟩, ⟨#[72, 97, 108, 102, 45, 69, 108, 102]⟩, ⟨#[79, 39, 68, 101, 97, 39, 115, 32, 80, 97, 99, 107]⟩, ⟨#[195, 133, 110, 103, 115, 116, 114, 195, 182, 109]⟩, ⟨#[87, 104, 105, 112, 32, 76, 111, 114, 100]⟩, ⟨#[83, 110, 111, 119, 32, 72, 97, 114, 101]⟩, ⟨#[76, 101, 100, 103, 101, 114, 32, 71, 104, 111, 115, 116]⟩, ⟨#[82, 97, 105, 110, 32, 67, 97, 108, 108, 101, 114]⟩, ⟨#[66, 97, 114, 110, 32, 79, 119, 108]⟩, ⟨#[67, 111, 105, 110, 32, 80, 114, 105, 110, 99, 101]⟩, ⟨#[86, 105, 110, 101, 32, 77, 111, 116, 104, 101, 114]⟩, ⟨#[73, 99, 101, 32, 66, 114, 105, 100, 103, 101]⟩, ⟨#[83, 97, 108, 116, 32, 84, 105, 116, 97, 110]⟩, ⟨#[80, 97, 108, 101, 32, 72, 117, 110, 116, 101, 114]⟩, ⟨#[77, 97, 103, 109, 97, 32, 84, 111, 97, 100]⟩, ⟨#[67, 111, 117, 110, 99, 105, 108]⟩]
theorem xpg0 : Ul xSL xpN 0 4 = true := by kernel_rfl
theorem xpg1 : Ul xSL xpN 4 4 = true := by kernel_rfl
theorem xpg2 : Ul xSL xpN 8 4 = true := by kernel_rfl
theorem xpg3 : Ul xSL xpN 12 4 = true := by kernel_rfl
theorem xpg4 : Ul xSL xpN 16 4 = true := by kernel_rfl
theorem xpg5 : Ul xSL xpN 20 4 = true := by kernel_rfl
theorem xpg6 : Ul xSL xpN 24 4 = true := by kernel_rfl
theorem xpg7 : Ul xSL xpN 28 4 = true := by kernel_rfl
theorem xpg8 : Ul xSL xpN 32 4 = true := by kernel_rfl
theorem xpg9 : Ul xSL xpN 36 4 = true := by kernel_rfl
theorem xpg10 : Ul xSL xpN 40 4 = true := by kernel_rfl
def xpcK (k : Nat) : Ca := cardOf (xSL.getD k ⟨#[]⟩)
theorem xpN_ne : (xpN.zipIdx.all fun a => xpN.zipIdx.all fun b => a.2 == b.2 || !(a.1.toList == b.1.toList)) = true := by kernel_rfl
theorem xpgood {k : Nat} (hk : k < 44) : goodB (xSL.getD k ⟨#[]⟩) (xpN.getD k ⟨#[]⟩) = true := by
 rcases (show (0 ≤ k ∧ k < 0 + 4) ∨ (4 ≤ k ∧ k < 4 + 4) ∨ (8 ≤ k ∧ k < 8 + 4) ∨ (12 ≤ k ∧ k < 12 + 4) ∨ (16 ≤ k ∧ k < 16 + 4) ∨ (20 ≤ k ∧ k < 20 + 4) ∨ (24 ≤ k ∧ k < 24 + 4) ∨ (28 ≤ k ∧ k < 28 + 4) ∨ (32 ≤ k ∧ k < 32 + 4) ∨ (36 ≤ k ∧ k < 36 + 4) ∨ (40 ≤ k ∧ k < 40 + 4) by omega) with h | h | h | h | h | h | h | h | h | h | h
 · exact Xn xpg0 h.1 h.2
 · exact Xn xpg1 h.1 h.2
 · exact Xn xpg2 h.1 h.2
 · exact Xn xpg3 h.1 h.2
 · exact Xn xpg4 h.1 h.2
 · exact Xn xpg5 h.1 h.2
 · exact Xn xpg6 h.1 h.2
 · exact Xn xpg7 h.1 h.2
 · exact Xn xpg8 h.1 h.2
 · exact Xn xpg9 h.1 h.2
 · exact Xn xpg10 h.1 h.2
theorem xpcK_ok {k : Nat} (hk : k < 44) : CardOK (xSL.getD k ⟨#[]⟩) (xpcK k) := (good_of (xpgood hk)).1
theorem xpname_ne {k m : Nat} (hk : k < 44) (hm : m < 44) (h : m ≠ k) : ((xpcK m).name.toList == (xpcK k).name.toList) = false := by
 have hn := xpN_ne
 rw [List.all_eq_true] at hn
 have hlen : xpN.length = 44 := by kernel_rfl
 have at_ : ∀ j, j < 44 → ((xpcK j).name, j) ∈ xpN.zipIdx := fun j hj => by
   have hj2 : j < xpN.length := by rw [hlen]; exact hj
   have e : (xpcK j).name = xpN.getD j ⟨#[]⟩ := (good_of (xpgood hj)).2
   rw [List.mem_zipIdx_iff_getElem?, e]
   show xpN[j]? = some (xpN.getD j ⟨#[]⟩)
   simp [List.getD, hj2]
 have h1 := hn _ (at_ m hm)
 rw [List.all_eq_true] at h1
 have h2 := h1 _ (at_ k hk)
 simp only [Bool.or_eq_true, beq_iff_eq, Bool.not_eq_true'] at h2
 exact h2.resolve_left h
end Go.Proofs.YtdhmklnfiaahhaaGreat
