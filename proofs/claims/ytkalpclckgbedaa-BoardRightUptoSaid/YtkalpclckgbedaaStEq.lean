/-
  Two cards, two results compared. No conditions.
-/
import Derived.Test.YtkalpclckgbedaaSt
import Derived.Laws.StructEq
import Derived.BigQuiet
import Derived.Deep.QuietTactic
namespace Go.Proofs.Ytkalpclckgbedaa
open Go.ChangeShapes Go.WideShapes Go.ChangeAt Go.RowKit
set_option linter.unusedVariables false
set_option linter.unusedSimpArgs false
set_option maxRecDepth 20000
set_option maxHeartbeats 1600000
def insB (x y : Ins) : Bool := x.id == y.id && (x.card == y.card && (x.name.toList == y.name.toList && (x.cost == y.cost && (x.power == y.power && (x.plus == y.plus && x.owner == y.owner)))))
theorem insB_iff {x y : Ins} : insB x y = true ↔ x = y := by
  unfold insB
  obtain ⟨a1, a2, a3, a4, a5, a6, a7⟩ := x
  obtain ⟨b1, b2, b3, b4, b5, b6, b7⟩ := y
  have hb : a3.toList = b3.toList ↔ a3 = b3 := ⟨fun h => by
    rw [ByteArray.toList_eq, ByteArray.toList_eq] at h
    obtain ⟨⟨d⟩⟩ := a3
    obtain ⟨⟨e⟩⟩ := b3
    simp only at h
    rw [h], fun h => by rw [h]⟩
  simp only [Bool.and_eq_true, beq_iff_eq, Ins.mk.injEq, hb]
def Ins.val (x : Ins) : Value := .agg #[.int .i64 x.id, .int .i64 x.card, .string x.name, .int .i64 x.cost, .int .i64 x.power, .int .i64 x.plus, .int .i64 x.owner]
theorem same_ins (x y : Ins) (w : World) : (Op.equalIn 10000 50 (.agg #[.int .i64 x.id, .int .i64 x.card, .string x.name, .int .i64 x.cost, .int .i64 x.power, .int .i64 x.plus, .int .i64 x.owner]) (.agg #[.int .i64 y.id, .int .i64 y.card, .string y.name, .int .i64 y.cost, .int .i64 y.power, .int .i64 y.plus, .int .i64 y.owner])).run Try.prog w = .ok (insB x y) w := by
  have h1 : Try.prog.stoodInHeld 50 = false := by kernel_rfl
  have h2 : Try.prog.underlying 50 = some (.struct (Try.prog.fieldsOf 50)) := by kernel_rfl
  rw [run_equalIn_struct w 9999 _ _ _ h2 h1]
  have hf : Try.prog.fieldsOf 50 = (match some (Try.prog.underlying 50) with | some (some (.struct fs)) => fs | _ => #[]) := by kernel_rfl
  rw [Try.underlying50] at hf
  simp only at hf
  rw [hf]
  have p0 : ∀ (w : World) (v0 v1 v2 v3 v4 v5 v6 : Value), (part 3 #[v0, v1, v2, v3, v4, v5, v6] 0).run Try.prog w = .ok v0 w := fun _ _ _ _ _ _ _ _ => by kernel_rfl
  have p1 : ∀ (w : World) (v0 v1 v2 v3 v4 v5 v6 : Value), (part 3 #[v0, v1, v2, v3, v4, v5, v6] 1).run Try.prog w = .ok v1 w := fun _ _ _ _ _ _ _ _ => by kernel_rfl
  have p2 : ∀ (w : World) (v0 v1 v2 v3 v4 v5 v6 : Value), (part 9 #[v0, v1, v2, v3, v4, v5, v6] 2).run Try.prog w = .ok v2 w := fun _ _ _ _ _ _ _ _ => by kernel_rfl
  have p3 : ∀ (w : World) (v0 v1 v2 v3 v4 v5 v6 : Value), (part 3 #[v0, v1, v2, v3, v4, v5, v6] 3).run Try.prog w = .ok v3 w := fun _ _ _ _ _ _ _ _ => by kernel_rfl
  have p4 : ∀ (w : World) (v0 v1 v2 v3 v4 v5 v6 : Value), (part 3 #[v0, v1, v2, v3, v4, v5, v6] 4).run Try.prog w = .ok v4 w := fun _ _ _ _ _ _ _ _ => by kernel_rfl
  have p5 : ∀ (w : World) (v0 v1 v2 v3 v4 v5 v6 : Value), (part 3 #[v0, v1, v2, v3, v4, v5, v6] 5).run Try.prog w = .ok v5 w := fun _ _ _ _ _ _ _ _ => by kernel_rfl
  have p6 : ∀ (w : World) (v0 v1 v2 v3 v4 v5 v6 : Value), (part 3 #[v0, v1, v2, v3, v4, v5, v6] 6).run Try.prog w = .ok v6 w := fun _ _ _ _ _ _ _ _ => by kernel_rfl
  have ei : ∀ (w : World) (a b : Int), (Op.equalIn 9999 3 (.int .i64 a) (.int .i64 b)).run Try.prog w = .ok (a == b) w := fun w a b => run_equalIn_int w 9998 3 .i64 .i64 a b Try.underlying3
  have es : ∀ (w : World) (a b : ByteArray), (Op.equalIn 9999 9 (.string a) (.string b)).run Try.prog w = .ok (a.toList == b.toList) w := fun w a b => run_equalIn_string w 9998 9 a b Try.underlying9
  obtain ⟨xi, xc, xn, xk, xp, xl, xo⟩ := x
  obtain ⟨yi, yc, yn, yk, yp, yl, yo⟩ := y
  simp only [Op.eqFields, insB]
  cases h0 : (xi == yi) <;> cases h3 : (xc == yc) <;> cases h4 : (xn.toList == yn.toList) <;> cases h5 : (xk == yk) <;> cases h6 : (xp == yp) <;> cases h7 : (xl == yl) <;> cases h8 : (xo == yo) <;>
    simp [Sem.run_bind, p0, p1, p2, p3, p4, p5, p6, ei, es, h0, h3, h4, h5, h6, h7, h8, Result.andThen]
theorem eql_ins (x y : Ins) (w : World) : (binOp .eql 50 (.agg #[.int .i64 x.id, .int .i64 x.card, .string x.name, .int .i64 x.cost, .int .i64 x.power, .int .i64 x.plus, .int .i64 x.owner]) (.agg #[.int .i64 y.id, .int .i64 y.card, .string y.name, .int .i64 y.cost, .int .i64 y.power, .int .i64 y.plus, .int .i64 y.owner])).run Try.prog w = .ok (.bool (insB x y)) w := by
  rw [run_eql_struct, same_ins]
  rfl
theorem neq_ins (x y : Ins) (w : World) : (binOp .neq 50 (.agg #[.int .i64 x.id, .int .i64 x.card, .string x.name, .int .i64 x.cost, .int .i64 x.power, .int .i64 x.plus, .int .i64 x.owner]) (.agg #[.int .i64 y.id, .int .i64 y.card, .string y.name, .int .i64 y.cost, .int .i64 y.power, .int .i64 y.plus, .int .i64 y.owner])).run Try.prog w = .ok (.bool (!insB x y)) w := by
  rw [run_neq_struct, same_ins]
  rfl
def resB (a b c x y z : Int) : Bool := a == x && (b == y && c == z)
theorem neq_res (a b c x y z : Int) (w : World) : (binOp .neq 31 (.agg #[.int .i64 a, .int .i64 b, .int .i64 c]) (.agg #[.int .i64 x, .int .i64 y, .int .i64 z])).run Try.prog w = .ok (.bool (!resB a b c x y z)) w := by
  have h1 : Try.prog.stoodInHeld 31 = false := by kernel_rfl
  have h2 : Try.prog.underlying 31 = some (.struct (Try.prog.fieldsOf 31)) := by kernel_rfl
  rw [run_neq_struct, run_equalIn_struct w 9999 _ _ _ h2 h1]
  have hf : Try.prog.fieldsOf 31 = (match some (Try.prog.underlying 31) with | some (some (.struct fs)) => fs | _ => #[]) := by kernel_rfl
  rw [Try.underlying31] at hf
  simp only at hf
  rw [hf]
  have p0 : ∀ (w : World) (v0 v1 v2 : Value), (part 3 #[v0, v1, v2] 0).run Try.prog w = .ok v0 w := fun _ _ _ _ => by kernel_rfl
  have p1 : ∀ (w : World) (v0 v1 v2 : Value), (part 3 #[v0, v1, v2] 1).run Try.prog w = .ok v1 w := fun _ _ _ _ => by kernel_rfl
  have p2 : ∀ (w : World) (v0 v1 v2 : Value), (part 3 #[v0, v1, v2] 2).run Try.prog w = .ok v2 w := fun _ _ _ _ => by kernel_rfl
  have ei : ∀ (w : World) (a b : Int), (Op.equalIn 9999 3 (.int .i64 a) (.int .i64 b)).run Try.prog w = .ok (a == b) w := fun w a b => run_equalIn_int w 9998 3 .i64 .i64 a b Try.underlying3
  simp only [Op.eqFields, resB]
  cases h0 : (a == x) <;> cases h3 : (b == y) <;> cases h4 : (c == z) <;>
    simp [Sem.run_bind, p0, p1, p2, ei, h0, h3, h4, Result.andThen]
end Go.Proofs.Ytkalpclckgbedaa
