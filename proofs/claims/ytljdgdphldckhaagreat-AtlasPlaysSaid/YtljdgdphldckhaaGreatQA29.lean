/-
  Texts UnpAct. No conditions but those that each theorem names.
-/
import Derived.Test.YtljdgdphldckhaaGreatQA26
set_option maxRecDepth 20000
set_option maxHeartbeats 12800000
namespace Go.Proofs.YtljdgdphldckhaaGreat
open Go
set_option linter.unusedSimpArgs false
set_option linter.unusedVariables false
def VPlain (d : Nat) (h : AH) : Prop :=
 ((h.kind = 1 ∨ h.kind = 2 ∨ h.kind = 12) ∧ h = { AH.zero h.kind h.line h.col with sel := h.sel, num := h.num } ∧ VSe h.sel ∧ VEx h.num ∧ pD h.num + d ≤ 8) ∨
 ((h.kind = 3 ∨ h.kind = 5 ∨ h.kind = 14) ∧ h = { AH.zero h.kind h.line h.col with sel := h.sel } ∧ VSe h.sel) ∨
 (h.kind = 4 ∧ h = { AH.zero h.kind h.line h.col with sel := h.sel, tk := h.tk, tl := h.tl } ∧ VSe h.sel ∧ VTo h.tk h.tl) ∨
 (h.kind = 6 ∧ h = { AH.zero h.kind h.line h.col with name := h.name, side := h.side, tk := h.tk, tl := h.tl, num := h.num } ∧ NameOK h.name ∧ (1 ≤ h.side ∧ h.side ≤ 3) ∧ VTo h.tk h.tl ∧ VEx h.num ∧ pD h.num + d ≤ 8) ∨
 ((h.kind = 7 ∨ h.kind = 9) ∧ h = { AH.zero h.kind h.line h.col with side := h.side, num := h.num } ∧ (1 ≤ h.side ∧ h.side ≤ 3) ∧ VEx h.num ∧ pD h.num + d ≤ 8) ∨
 (h.kind = 8 ∧ h = { AH.zero h.kind h.line h.col with side := h.side, how := h.how } ∧ (1 ≤ h.side ∧ h.side ≤ 3) ∧ (1 ≤ h.how ∧ h.how ≤ 4)) ∨
 ((h.kind = 13 ∨ h.kind = 15) ∧ h = { AH.zero h.kind h.line h.col with side := h.side, tk := h.tk, tl := h.tl } ∧ (1 ≤ h.side ∧ h.side ≤ 3) ∧ VTo h.tk h.tl)
def VCond (d : Nat) (h : AH) : Prop := h = { AH.zero 10 h.line h.col with cop := h.cop, cl := h.cl, cr := h.cr } ∧ (1 ≤ h.cop ∧ h.cop ≤ 6) ∧ (VEx h.cl ∧ pD h.cl + d ≤ 8) ∧ (VEx h.cr ∧ pD h.cr + d ≤ 8)
def VEach (h : AH) : Prop := h = { AH.zero 11 h.line h.col with sel := h.sel } ∧ VSe h.sel
def VActs : Nat → Acs → Prop
 | _, .nil => True
 | d, .cons h t e r => ((d < 8 ∧ VCond d h ∧ VActs (d + 1) t ∧ VActs (d + 1) e) ∨ (d < 8 ∧ VEach h ∧ VActs (d + 1) t ∧ e = .nil) ∨ (VPlain d h ∧ t = .nil ∧ e = .nil)) ∧ VActs d r
def Acs.isNil : Acs → Bool
 | .nil => true
 | .cons .. => false
theorem VCond.kind {d : Nat} {h : AH} (v : VCond d h) : h.kind = 10 := (congrArg AH.kind v.1 :)
theorem VEach.kind {h : AH} (v : VEach h) : h.kind = 11 := (congrArg AH.kind v.1 :)
theorem VPlain.kind {d : Nat} {h : AH} (v : VPlain d h) : 1 ≤ h.kind ∧ h.kind ≤ 15 ∧ h.kind ≠ 10 ∧ h.kind ≠ 11 := by
 rcases v with ⟨k, _⟩ | ⟨k, _⟩ | ⟨k, _⟩ | ⟨k, _⟩ | ⟨k, _⟩ | ⟨k, _⟩ | ⟨k, _⟩ <;> omega
theorem acts_kind {d : Nat} {h : AH} {t e r : Acs} (v : VActs d (.cons h t e r)) : 1 ≤ h.kind ∧ h.kind ≤ 15 := by
 rcases v.1 with ⟨_, v, _⟩ | ⟨_, v, _⟩ | ⟨v, _⟩
 · rw [v.kind]; exact ⟨by decide, by decide⟩
 · rw [v.kind]; exact ⟨by decide, by decide⟩
 · exact ⟨v.kind.1, v.kind.2.1⟩
section
variable {L : List TokV} {nk : Int}
theorem AHSim.any (h : AH) (l c : Int) : AHSim false h { h with line := l, col := c } := ⟨rfl, fun hh => by cases hh⟩
theorem AcsSim.isNil {pl : Bool} {x y : Acs} (h : AcsSim pl x y) : x.isNil = y.isNil := by
 cases x with
 | nil => cases y with
   | nil => rfl
   | cons h' t' e' r' => exact h.elim
 | cons h' t' e' r' => cases y with
   | nil => exact h.elim
   | cons h' t' e' r' => rfl
end
def VRu (r : Ru) : Prop := (1 ≤ r.when_ ∧ r.when_ ≤ 6) ∧ (0 ≤ r.stratum ∧ r.stratum ≤ 99) ∧ (r.when_ ≠ 5 → r.stratum = 0) ∧ VActs 0 r.acts
def VCa (c : Ca) : Prop := NameOK c.name ∧ (0 ≤ c.cost ∧ c.cost ≤ 99) ∧ (-99 ≤ c.power ∧ c.power ≤ 99) ∧ ∀ r ∈ c.rules, VRu r
def VPl (p : Pl) : Prop := NameOK p.name ∧ ∀ r ∈ p.rules, VRu r
def VFi (f : Fi) : Prop := (∀ c ∈ f.cards, VCa c) ∧ ∀ p ∈ f.places, VPl p
section
variable {L : List TokV} {nk : Int}
end
end Go.Proofs.YtljdgdphldckhaaGreat
