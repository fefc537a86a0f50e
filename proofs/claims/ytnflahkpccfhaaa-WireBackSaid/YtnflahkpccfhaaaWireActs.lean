/-
  What comes in as a slice of acts: the cells of each. No conditions.
-/
import Derived.Test.YtnflahkpccfhaaaTwo
import Derived.Test.YtnflahkpccfhaaaRows
import Derived.WalkKit
import Derived.OpenShut
import Derived.ShutString
import Derived.Deep.Slices
import Derived.ProofKit
import Derived.ChangeOld
import Derived.WideShapes
namespace Go.Proofs.Ytnflahkpccfhaaa
open Go.ChangeShapes Go.WideShapes Go.ChangeAt Go.RowKit Go.Deep
set_option linter.unusedVariables false
structure AV where
  k : Int
  n : Int
  a : Int
  b : Int
  s : ByteArray
instance : Inhabited AV := ⟨⟨0, 0, 0, 0, ByteArray.empty⟩⟩
def AV.cells (x : AV) : Array Value := #[.int .i64 x.k, .int .i64 x.n, .int .i64 x.a, .int .i64 x.b, .string x.s]
def AV.wf (x : AV) : Prop := (Lit.int .i64 x.k).wf = true ∧ (Lit.int .i64 x.n).wf = true ∧ (Lit.int .i64 x.a).wf = true ∧ (Lit.int .i64 x.b).wf = true ∧ x.s.size ≤ maxLen
/-- The slice at A holds len acts. -/
def Acts (w : World) (A : Option Addr) (len : Nat) (f : Nat → AV) : Prop :=
  ∀ i, i < len → ∃ x, A = some x ∧ x.block < w.heap.size ∧ (∀ j, j < 5 → w.cell? ((x.add (i * 5)).add j) = (f i).cells[j]?) ∧ (f i).wf
theorem open_acts {H : Type} {enc : TypeId × Value → H} {base : Nat} {w : World} {v : Value} {d : DataW H} {p : List MemPlace} (ok : Value.okWide Try.prog w .any base 22 v)
    (h : DataW.Trod enc Try.prog w 0 (fun _ => true) true 22 v d p) : ∃ A len cap f, v = .slice A len cap ∧ Acts w A len f := by
  obtain ⟨A, len, cap, rfl⟩ := okWide_slice Try.underlying22 ok
  obtain ⟨fuel, hf⟩ := h
  have c5 : Try.prog.cellsOf 28 = 5 := by kernel_rfl
  rcases open_slice Try.underlying22 hf with ⟨hcs, _⟩ | ⟨a, l, c, m, n, D, Pl, hcs, _, hl, hm, hmm, _, hx⟩
  · simp [Value.cells] at hcs
    obtain ⟨rfl, rfl, rfl⟩ := hcs
    exact ⟨none, 0, 0, fun _ => ⟨0, 0, 0, 0, ByteArray.empty⟩, rfl, fun i hi => by omega⟩
  · simp [Value.cells] at hcs
    obtain ⟨rfl, rfl, rfl⟩ := hcs
    have key : ∀ i, i < len → ∃ y : AV, (a.block < w.heap.size ∧ (∀ j, j < 5 → w.cell? ((a.add (i * 5)).add j) = y.cells[j]?) ∧ y.wf) := by
      intro i hi
      obtain ⟨cs, h1, h2⟩ := hx i (by rw [hmm]; simp; omega)
      rw [c5] at h1
      obtain ⟨_, hlen, hcell⟩ := World.cells?_some h1
      obtain ⟨xs, n', _, _, _, hxl, hfld⟩ := DataW.trod_struct Try.underlying28 h2
      match cs, hlen with
      | [v0, v1, v2, v3, v4], _ =>
        have e5 : xs.length = 5 := hxl
        have g0 : xs[0]? = some (xs[0]'(by omega)) := List.getElem?_eq_getElem _
        have g1 : xs[1]? = some (xs[1]'(by omega)) := List.getElem?_eq_getElem _
        have g2 : xs[2]? = some (xs[2]'(by omega)) := List.getElem?_eq_getElem _
        have g3 : xs[3]? = some (xs[3]'(by omega)) := List.getElem?_eq_getElem _
        have g4 : xs[4]? = some (xs[4]'(by omega)) := List.getElem?_eq_getElem _
        have f0 := (hfld 0 _ rfl).trans g0
        have f1 := (hfld 1 _ rfl).trans g1
        have f2 := (hfld 2 _ rfl).trans g2
        have f3 := (hfld 3 _ rfl).trans g3
        have f4 := (hfld 4 _ rfl).trans g4
        obtain ⟨n0, q0, _, w0⟩ := DataW.trod_int Try.underlying3 f0
        obtain ⟨n1, q1, _, w1⟩ := DataW.trod_int Try.underlying3 f1
        obtain ⟨n2, q2, _, w2⟩ := DataW.trod_int Try.underlying3 f2
        obtain ⟨n3, q3, _, w3⟩ := DataW.trod_int Try.underlying3 f3
        obtain ⟨s4, q4, _, w4⟩ := DataW.trod_string Try.underlying9 f4
        have ci : Try.prog.cellsOf 3 = 1 := by kernel_rfl
        have cst : Try.prog.cellsOf 9 = 1 := by kernel_rfl
        change List.take (Try.prog.cellsOf 3) (List.drop 0 _) = _ at q0
        rw [ci] at q0
        change List.take (Try.prog.cellsOf 3) (List.drop 1 _) = _ at q1
        rw [ci] at q1
        change List.take (Try.prog.cellsOf 3) (List.drop 2 _) = _ at q2
        rw [ci] at q2
        change List.take (Try.prog.cellsOf 3) (List.drop 3 _) = _ at q3
        rw [ci] at q3
        change List.take (Try.prog.cellsOf 9) (List.drop 4 _) = _ at q4
        rw [cst] at q4
        obtain rfl : v0 = .int .i64 n0 := by injection q0
        obtain rfl : v1 = .int .i64 n1 := by injection q1
        obtain rfl : v2 = .int .i64 n2 := by injection q2
        obtain rfl : v3 = .int .i64 n3 := by injection q3
        obtain rfl : v4 = .string s4 := by injection q4
        refine ⟨⟨n0, n1, n2, n3, s4⟩, ?_, fun j hj => ?_, w0, w1, w2, w3, w4⟩
        · have := World.block_lt_of_cell? w ((a.add (i * 5)).add 0) (hcell 0 (by omega))
          unfold Addr.add at this
          split at this <;> (try split at this) <;> exact this
        · rw [hcell j hj]; simp [AV.cells]
    obtain ⟨f, hf2⟩ := choose_lt key
    exact ⟨some a, len, cap, f, rfl, fun i hi => ⟨a, rfl, hf2 i hi⟩⟩
theorem add_block (x : Addr) (n : Nat) : (x.add n).block = x.block := by unfold Addr.add; split <;> rfl
theorem Acts.get {w : World} {A : Option Addr} {len : Nat} {f : Nat → AV} (h : Acts w A len f) {i : Nat} (hi : i < len) {w' : World} (hb : Below w.heap.size w w') :
    ∃ x, A = some x ∧ x.block < w.heap.size ∧ w'.cell? (x.add (i * 5)) = some (.int .i64 (f i).k) ∧ w'.cell? ⟨(x.add (i * 5)).block, (x.add (i * 5)).off + 1, none⟩ = some (.int .i64 (f i).n) ∧
      w'.cell? ⟨(x.add (i * 5)).block, (x.add (i * 5)).off + 2, none⟩ = some (.int .i64 (f i).a) ∧ w'.cell? ⟨(x.add (i * 5)).block, (x.add (i * 5)).off + 3, none⟩ = some (.int .i64 (f i).b) ∧
      w'.cell? ⟨(x.add (i * 5)).block, (x.add (i * 5)).off + 4, none⟩ = some (.string (f i).s) ∧ (f i).wf := by
  obtain ⟨x, hA, hx, hc, hw⟩ := h i hi
  have key : ∀ j, j < 5 → w'.cell? ((x.add (i * 5)).add j) = (f i).cells[j]? := fun j hj => by
    rw [hb.cell (p := (x.add (i * 5)).add j) (by rw [add_block, add_block]; exact hx)]
    exact hc j hj
  exact ⟨x, hA, hx, key 0 (by omega), key 1 (by omega), key 2 (by omega), key 3 (by omega), key 4 (by omega), hw⟩
theorem whole5 {w : World} {g : Nat} {t : TypeId} {a b c d e : Value} (h : Whole w g t #[a, b, c, d, e]) : w.cell? ⟨g, 0, none⟩ = some a ∧ w.cell? ⟨g, 1, none⟩ = some b ∧ w.cell? ⟨g, 2, none⟩ = some c ∧ w.cell? ⟨g, 3, none⟩ = some d ∧ w.cell? ⟨g, 4, none⟩ = some e :=
  ⟨by rw [h.read]; rfl, by rw [h.read]; rfl, by rw [h.read]; rfl, by rw [h.read]; rfl, by rw [h.read]; rfl⟩
end Go.Proofs.Ytnflahkpccfhaaa
