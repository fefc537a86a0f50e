/-
  Texts SynB1. No conditions but those that each theorem names.
-/
import Derived.Test.YtgfkimknnbpmnaaGreatQB22
namespace Go.Proofs.YtgfkimknnbpmnaaGreat
open Go.ChangeShapes Go.WideShapes Go.ChangeAt Go.RowKit
set_option linter.unusedVariables false
set_option linter.unusedSimpArgs false
theorem acts_all : ∀ n m : Nat, m ≤ n → ActsOK m ∧ BlockOK m ∧ ActOK m := by
 intro n
 induction n with
 | zero =>
   intro m hm
   obtain rfl : m = 0 := by omega
   exact ⟨fun w q c r K L st h hn _ => absurd hn (by omega), fun w q c r K L st h hn _ => absurd hn (by omega), fun w q c r K L st k h _ _ hn _ => absurd hn (by omega)⟩
 | succ n ih =>
   intro m hm
   by_cases e : m ≤ n
   · exact ih m e
   · obtain rfl : m = n + 1 := by omega
     exact ⟨xacts (n + 1) fun k hk => (ih k (by omega)).2.2, xblock n (ih n (Nat.le_refl _)).1, xact n (ih n (Nat.le_refl _)).2.1⟩
theorem xactss (w : World) (q c r K : Nat) (L : List TokV) (st : St) (n : Nat) (h : PAt w q c r K L st) (hn : 8 * Ya L st + 8 ≤ n) (hLn : Ya L st ≤ 68719476736) :
   Calls Tryz.prog 29 #[.pointer (some ⟨q, 0, none⟩)] w (RowPost w q c r K L (Xy 5 L n st).2 (Xy 5 L n st).1.len (Xy 5 L n st).1.ds) := (acts_all n n (Nat.le_refl _)).1 w q c r K L st h hn hLn
def Ru.ds (x : Ru) : Ds := .int x.when_ (.int x.stratum (.int x.line (.int x.col (.row x.acts.len x.acts.ds .nil))))
def rusDs : List Ru → Ds
 | [] => .nil
 | x :: r => x.ds.app (rusDs r)
end Go.Proofs.YtgfkimknnbpmnaaGreat
