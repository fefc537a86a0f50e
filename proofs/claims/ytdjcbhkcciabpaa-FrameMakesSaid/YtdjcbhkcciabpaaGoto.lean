/-
  A goto to a label further on: the run goes on behind the label. No program, no conditions.
-/
import Derived.ScopeJumps
import Derived.WalkMore
namespace Go.Proofs.Ytdjcbhkcciabpaa
open Go
theorem wp_scope_fwd {P : Program} {a : Act} {w : World} {Q : Exit → Act → World → Prop} {c rest : Code} (l : Nat) (hf : findLabel c l = some rest)
    (h : c.wp P (Exit.jump l (fun a w => rest.wp P (Exit.noGoto Q) a w) Q) a w) : (Code.scope c).wp P Q a w := by
  refine wp_scope_jumps l _ (fun _ _ => 0) hf h (fun a w hJ => wp_mono hJ ?_)
  intro e a w hq
  cases e <;> first | exact hq | exact absurd hq (by intro h; exact h)
theorem jump_ret {l : Nat} {J : Act → World → Prop} {Q : Exit → Act → World → Prop} {a : Act} {w : World} : Exit.jump l J Q .ret a w = Q .ret a w := rfl
theorem jump_goto {l : Nat} {J : Act → World → Prop} {Q : Exit → Act → World → Prop} {a : Act} {w : World} (h : J a w) : Exit.jump l J Q (.goto l) a w := ⟨rfl, h⟩
end Go.Proofs.Ytdjcbhkcciabpaa
