/-
  Texts UnpEx. No conditions but those that each theorem names.
-/
import Derived.Test.YtljdgdphldckhaaGreatQA12
set_option maxRecDepth 20000
set_option maxHeartbeats 12800000
namespace Go.Proofs.YtljdgdphldckhaaGreat
open Go
set_option linter.unusedSimpArgs false
set_option linter.unusedVariables false
def Ex.isBin : Ex → Bool
 | .leaf .. => false
 | .bin .. => true
def Ex.isSum : Ex → Bool
 | .leaf .. => false
 | .bin o _ _ => decide (o < 3)
def must (right : Bool) (op : Int) (x : Ex) : Bool := (decide (op = 3) && x.isSum) || (right && x.isBin && (x.isSum || decide (op = 3)))
theorem isSum_bin : ∀ {x : Ex}, x.isSum = true → x.isBin = true
 | .leaf .., h => h
 | .bin .., _ => rfl
theorem must_sum {op : Int} (h3 : op ≠ 3) (l r : Ex) : must false op l = false ∧ must true op r = r.isSum := by
 constructor
 · unfold must; simp [h3]
 · unfold must; simp [h3]
   exact isSum_bin
theorem must_times (l r : Ex) : must false 3 l = l.isSum ∧ must true 3 r = r.isBin := by
 constructor
 · unfold must; simp
 · unfold must; simp
   exact isSum_bin
def VLeaf (kind n : Int) (sel : Se) (side tk tl : Int) : Prop :=
 (kind = 1 ∧ (-99 ≤ n ∧ n ≤ 99) ∧ sel = zSe ∧ side = 0 ∧ tk = 0 ∧ tl = 0) ∨ ((kind = 2 ∨ kind = 3) ∧ n = 0 ∧ VSe sel ∧ side = 0 ∧ tk = 0 ∧ tl = 0) ∨
   (kind = 4 ∧ n = 0 ∧ sel = zSe ∧ side = 0 ∧ tk = 0 ∧ tl = 0) ∨ (kind = 5 ∧ n = 0 ∧ sel = zSe ∧ (1 ≤ side ∧ side ≤ 3) ∧ tk = 0 ∧ tl = 0) ∨
   (kind = 6 ∧ n = 0 ∧ sel = zSe ∧ (1 ≤ side ∧ side ≤ 3) ∧ VTo tk tl)
def VEx : Ex → Prop
 | .leaf kind n sel side tk tl => VLeaf kind n sel side tk tl
 | .bin op l r => (1 ≤ op ∧ op ≤ 3) ∧ VEx l ∧ VEx r
def kD (b : Bool) (n : Nat) : Nat := if b = true then n + 1 else n
def pD : Ex → Nat
 | .leaf .. => 0
 | .bin op l r => max (kD (must false op l) (pD l)) (kD (must true op r) (pD r))
section
variable {L : List TokV} {nk : Int}
end
end Go.Proofs.YtljdgdphldckhaaGreat
