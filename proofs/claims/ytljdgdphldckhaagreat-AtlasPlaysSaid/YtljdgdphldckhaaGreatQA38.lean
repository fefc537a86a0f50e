/-
  Texts Yield. No conditions but those that each theorem names.
-/
import Derived.StillTailTactics
import Derived.Deep.RegionHeld3
import Derived.Test.YtljdgdphldckhaaGreatQA16
set_option maxRecDepth 20000
set_option maxHeartbeats 12800000
namespace Go.Proofs.YtljdgdphldckhaaGreat
open Go.ChangeShapes Go.WideShapes Go.ChangeAt Go.RowKit
set_option linter.unusedVariables false
set_option linter.unusedSimpArgs false
section
variable {P : Program} {ops : Array Oper} {S : World → Prop} {o : Oper} {a : Act}
theorem yield_move {x : Operand} {v : Value} (g : o.guard = none) (ho : o.op = .move x) (e : a.eval x = v) : YieldsIf P ops S o v a :=
 .inl ⟨(by unfold Region.wanted; rw [g]), fun w _ => by unfold execOp; rw [ho]; simp [e, Sem.run_pure]⟩
theorem Vv {T : TypeId} {x : Operand} {b k : Nat} {ys : List Value} (g : o.guard = none) (ho : o.op = .load T x) (hx : a.eval x = .pointer (some ⟨b, k, none⟩)) (hS : ∀ w, S w → w.rangeAt b k ys)
   (hu : (P.underlying T).map TypeDesc.isRow = some true) (hi : (P.info? T).map (·.size) = some ys.length) : YieldsIf P ops S o (.agg ys.toArray) a := by
 obtain ⟨d, hu, hr⟩ := Option.map_eq_some_iff.1 hu
 exact yieldsIf_load_mid ((by unfold Region.wanted; rw [g])) T x ho b k hx ys d hS hu hr hi
end
end Go.Proofs.YtljdgdphldckhaaGreat
