/-
  Texts UnpTok. No conditions but those that each theorem names.
-/
import Derived.Test.YtljdgdphldckhaaGreatQA9
set_option maxRecDepth 20000
set_option maxHeartbeats 12800000
namespace Go.Proofs.YtljdgdphldckhaaGreat
open Go
set_option linter.unusedSimpArgs false
set_option linter.unusedVariables false
structure PT where
 k : Int
 t : ByteArray
 n : Int
def PT.v (p : PT) : TokV := ⟨p.k, p.t, p.n, 0, 0, 0⟩
theorem n1 : (1 : Int) ≠ 0 := by decide
theorem n4 : (4 : Int) ≠ 0 := by decide
def wd (ws : List ByteArray) (k : Int) : ByteArray := ws[k.toNat - 1]?.getD ⟨#[]⟩
def pw (ws : List ByteArray) (k : Int) : PT := ⟨1, wd ws k, 0⟩
section
variable {L : List TokV}
end
def NameOK (s : ByteArray) : Prop := nameB s = true ∧ (∀ x ∈ bL s, 0 ≤ x ∧ x < 256 ∧ x ≠ 34)
def VFl (f : Fl) : Prop :=
 ((f.kind = 1 ∨ f.kind = 2) ∧ (1 ≤ f.op ∧ f.op ≤ 6) ∧ (-99 ≤ f.n ∧ f.n ≤ 99) ∧ f.name = ⟨#[]⟩) ∨ (f.kind = 3 ∧ f.op = 0 ∧ f.n = 0 ∧ NameOK f.name) ∨
   ((f.kind = 4 ∨ f.kind = 5) ∧ f.op = 0 ∧ f.n = 0 ∧ f.name = ⟨#[]⟩)
def VSe (s : Se) : Prop :=
 ((s.kind = 1 ∨ s.kind = 2) ∧ s.side = 0 ∧ s.wh = 0 ∧ s.lane = 0 ∧ s.fs = [] ∧ s.pick = 0) ∨
   (s.kind = 3 ∧ (1 ≤ s.side ∧ s.side ≤ 3) ∧ (1 ≤ s.wh ∧ s.wh ≤ 4) ∧ (0 ≤ s.lane ∧ s.lane ≤ 99) ∧ (s.wh ≠ 3 → s.lane = 0) ∧ (∀ f ∈ s.fs, VFl f) ∧ (1 ≤ s.pick ∧ s.pick ≤ 5))
section
variable {L : List TokV} {nk : Int}
def VTo (k l : Int) : Prop := ((1 ≤ k ∧ k ≤ 3) ∧ l = 0) ∨ (k = 4 ∧ 0 ≤ l ∧ l ≤ 99)
end
end Go.Proofs.YtljdgdphldckhaaGreat
