/-
  What an operation of a drawn region yields in each world that may stand. No program, no conditions.
-/
import Derived.Test.YtkalpclckgbedaaMem
import Derived.Test.YtkalpclckgbedaaReads
import Derived.Test.YtkalpclckgbedaaBase
import Derived.StillTailTactics
import Derived.Deep.RegionHeld3
namespace Go.Proofs.Ytkalpclckgbedaa
open Go.ChangeShapes Go.WideShapes Go.ChangeAt Go.RowKit
set_option linter.unusedVariables false
set_option linter.unusedSimpArgs false
theorem whole6 {w : World} {g : Nat} {t : TypeId} {a b c d e f : Value} (h : Whole w g t #[a, b, c, d, e, f]) : w.cell? ⟨g, 0, none⟩ = some a ∧ w.cell? ⟨g, 1, none⟩ = some b ∧ w.cell? ⟨g, 2, none⟩ = some c ∧ w.cell? ⟨g, 3, none⟩ = some d ∧ w.cell? ⟨g, 4, none⟩ = some e ∧ w.cell? ⟨g, 5, none⟩ = some f :=
  ⟨by rw [h.read]; rfl, by rw [h.read]; rfl, by rw [h.read]; rfl, by rw [h.read]; rfl, by rw [h.read]; rfl, by rw [h.read]; rfl⟩
/-- What stands while a step runs whose box lies at the start's end, its result behind it. -/
theorem wanted_plain {o : Oper} {xs : Nat → Option Bool} (h : o.guard = none) : Region.wanted o xs = true := by unfold Region.wanted; rw [h]
section
variable {P : Program} {ops : Array Oper} {S : World → Prop} {o : Oper} {a : Act}
theorem yield_move {x : Operand} {v : Value} (g : o.guard = none) (ho : o.op = .move x) (e : a.eval x = v) : YieldsIf P ops S o v a :=
  .inl ⟨(by unfold Region.wanted; rw [g]), fun w _ => by unfold execOp; rw [ho]; simp [e, Sem.run_pure]⟩
theorem yield_index {t e : TypeId} {x y : Operand} {b n c k sz : Nat} (g : o.guard = none) (ho : o.op = .indexAddr t x y) (hx : a.eval x = .slice (some ⟨b, 0, none⟩) n c) (hy : a.eval y = .int .i64 (k : Int)) (hk : k < n)
    (hu : P.underlying t = some (.slice e)) (hs : (P.info? e).map (·.size) = some sz) : YieldsIf P ops S o (.pointer (some ⟨b, k * sz, none⟩)) a :=
  .inl ⟨(by unfold Region.wanted; rw [g]), fun w _ => by
    obtain ⟨i, hi, hz⟩ := Option.map_eq_some_iff.1 hs
    unfold execOp
    rw [ho]
    have h0 : (0 : Int) ≤ (k : Int) := by omega
    have h1 : (k : Int) < (n : Int) := by omega
    have h2 : ((k : Int)).toNat = k := by omega
    simp [hx, hy, Instr.indexAt, asIntOf, run_underlying hu, sizeOf, typeInfo, hi, hz, h1, Addr.add_lit, Sem.run_bind, Sem.run_pure]
    intro hle
    omega⟩
theorem yield_load {T : TypeId} {x : Operand} {b k : Nat} {ys : List Value} (g : o.guard = none) (ho : o.op = .load T x) (hx : a.eval x = .pointer (some ⟨b, k, none⟩)) (hS : ∀ w, S w → w.rangeAt b k ys)
    (hu : (P.underlying T).map TypeDesc.isRow = some true) (hi : (P.info? T).map (·.size) = some ys.length) : YieldsIf P ops S o (.agg ys.toArray) a := by
  obtain ⟨d, hu, hr⟩ := Option.map_eq_some_iff.1 hu
  exact yieldsIf_load_mid ((by unfold Region.wanted; rw [g])) T x ho b k hx ys d hS hu hr hi
end
theorem range_below {w y : World} {b k : Nat} {ys : List Value} (h : w.rangeAt b k ys) (hb : b < w.heap.size) (hy : Below w.heap.size w y) : y.rangeAt b k ys := fun j v hv => by
  have := h j v hv
  rw [← this]
  exact hy.cell (p := ⟨b, k + j, none⟩) hb
end Go.Proofs.Ytkalpclckgbedaa
