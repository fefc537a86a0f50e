/-
  Texts PrgRows. No conditions but those that each theorem names.
-/
import Derived.Test.YtjacgcjjdebbbaaGreatRows
import Derived.WalkKit
import Derived.OpenShut
import Derived.ShutString
import Derived.Deep.Slices
import Derived.ProofKit
import Derived.ChangeOld
import Derived.WideShapes
import Derived.Test.YtjacgcjjdebbbaaGreatQD1
import Derived.Test.YtjacgcjjdebbbaaGreatQD2
namespace Go.Proofs.YtjacgcjjdebbbaaGreat
open Go.ChangeShapes Go.WideShapes Go.ChangeAt Go.RowKit Go.Deep
set_option linter.unusedVariables false
def IV.cells (x : IV) : Array Value := #[.int .i64 x.op, .int .i64 x.a, .int .i64 x.b, .int .i64 x.c]
def IV.wf (x : IV) : Prop := (Lit.int .i64 x.op).wf = true ∧ (Lit.int .i64 x.a).wf = true ∧ (Lit.int .i64 x.b).wf = true ∧ (Lit.int .i64 x.c).wf = true
def Vx (w : World) (A : Option Addr) (len : Nat) (f : Nat → IV) : Prop :=
 ∀ i, i < len → ∃ x, A = some x ∧ x.block < w.heap.size ∧ (∀ j, j < 4 → w.cell? ((x.add (i * 4)).add j) = (f i).cells[j]?) ∧ (f i).wf
set_option maxRecDepth 20000 in
theorem open_inss {H : Type} {enc : TypeId × Value → H} {base : Nat} {w : World} {v : Value} {d : DataW H} {p : List MemPlace} (ok : Value.okWide Tryz.prog w .any base 22 v)
   (h : DataW.Trod enc Tryz.prog w 0 (fun _ => true) true 22 v d p) : ∃ A len cap f, v = .slice A len cap ∧ Vx w A len f := by
 obtain ⟨A, len, cap, rfl⟩ := okWide_slice Tryz.underlying22 ok
 obtain ⟨fuel, hf⟩ := h
 have c4 : Tryz.prog.cellsOf 93 = 4 := by kernel_rfl
 rcases open_slice Tryz.underlying22 hf with ⟨hcs, _⟩ | ⟨a, l, c, m, n, D, Pl, hcs, _, hl, hm, hmm, _, hx⟩
 · simp [Value.cells] at hcs
   obtain ⟨rfl, rfl, rfl⟩ := hcs
   exact ⟨none, 0, 0, fun _ => ⟨0, 0, 0, 0⟩, rfl, fun i hi => by omega⟩
 · simp [Value.cells] at hcs
   obtain ⟨rfl, rfl, rfl⟩ := hcs
   have key : ∀ i, i < len → ∃ y : IV, (a.block < w.heap.size ∧ (∀ j, j < 4 → w.cell? ((a.add (i * 4)).add j) = y.cells[j]?) ∧ y.wf) := by
     intro i hi
     obtain ⟨cs, h1, h2⟩ := hx i (by rw [hmm]; simp; omega)
     rw [c4] at h1
     obtain ⟨_, hlen, hcell⟩ := World.cells?_some h1
     obtain ⟨xs, n', _, _, _, hxl, hfld⟩ := DataW.trod_struct Tryz.underlying93 h2
     match cs, hlen with
     | [v0, v1, v2, v3], _ =>
       have e4 : xs.length = 4 := hxl
       have g0 : xs[0]? = some (xs[0]'(by omega)) := List.getElem?_eq_getElem _
       have g1 : xs[1]? = some (xs[1]'(by omega)) := List.getElem?_eq_getElem _
       have g2 : xs[2]? = some (xs[2]'(by omega)) := List.getElem?_eq_getElem _
       have g3 : xs[3]? = some (xs[3]'(by omega)) := List.getElem?_eq_getElem _
       have f0 := (hfld 0 _ rfl).trans g0
       have f1 := (hfld 1 _ rfl).trans g1
       have f2 := (hfld 2 _ rfl).trans g2
       have f3 := (hfld 3 _ rfl).trans g3
       obtain ⟨n0, q0, _, w0⟩ := DataW.trod_int Tryz.underlying3 f0
       obtain ⟨n1, q1, _, w1⟩ := DataW.trod_int Tryz.underlying3 f1
       obtain ⟨n2, q2, _, w2⟩ := DataW.trod_int Tryz.underlying3 f2
       obtain ⟨n3, q3, _, w3⟩ := DataW.trod_int Tryz.underlying3 f3
       have ci : Tryz.prog.cellsOf 3 = 1 := by kernel_rfl
       change List.take (Tryz.prog.cellsOf 3) (List.drop 0 _) = _ at q0
       rw [ci] at q0
       change List.take (Tryz.prog.cellsOf 3) (List.drop 1 _) = _ at q1
       rw [ci] at q1
       change List.take (Tryz.prog.cellsOf 3) (List.drop 2 _) = _ at q2
       rw [ci] at q2
       change List.take (Tryz.prog.cellsOf 3) (List.drop 3 _) = _ at q3
       rw [ci] at q3
       obtain rfl : v0 = .int .i64 n0 := by injection q0
       obtain rfl : v1 = .int .i64 n1 := by injection q1
       obtain rfl : v2 = .int .i64 n2 := by injection q2
       obtain rfl : v3 = .int .i64 n3 := by injection q3
       refine ⟨⟨n0, n1, n2, n3⟩, ?_, fun j hj => ?_, w0, w1, w2, w3⟩
       · have := World.block_lt_of_cell? w ((a.add (i * 4)).add 0) (hcell 0 (by omega))
         unfold Addr.add at this
         split at this <;> (try split at this) <;> exact this
       · rw [hcell j hj]; simp [IV.cells]
   obtain ⟨f, hf2⟩ := choose_lt key
   exact ⟨some a, len, cap, f, rfl, fun i hi => ⟨a, rfl, hf2 i hi⟩⟩
theorem Wr (x : Addr) (n : Nat) : (x.add n).block = x.block := by unfold Addr.add; split <;> rfl
theorem Vx.get {w : World} {A : Option Addr} {len : Nat} {f : Nat → IV} (h : Vx w A len f) {i : Nat} (hi : i < len) {w' : World} (hb : Below w.heap.size w w') :
   ∃ x, A = some x ∧ x.block < w.heap.size ∧ w'.cell? (x.add (i * 4)) = some (.int .i64 (f i).op) ∧ w'.cell? ⟨(x.add (i * 4)).block, (x.add (i * 4)).off + 1, none⟩ = some (.int .i64 (f i).a) ∧
     w'.cell? ⟨(x.add (i * 4)).block, (x.add (i * 4)).off + 2, none⟩ = some (.int .i64 (f i).b) ∧ w'.cell? ⟨(x.add (i * 4)).block, (x.add (i * 4)).off + 3, none⟩ = some (.int .i64 (f i).c) ∧ (f i).wf := by
 obtain ⟨x, hA, hx, hc, hw⟩ := h i hi
 have key : ∀ j, j < 4 → w'.cell? ((x.add (i * 4)).add j) = (f i).cells[j]? := fun j hj => by
   rw [hb.cell (p := (x.add (i * 4)).add j) (by rw [Wr, Wr]; exact hx)]
   exact hc j hj
 exact ⟨x, hA, hx, key 0 (by omega), key 1 (by omega), key 2 (by omega), key 3 (by omega), hw⟩
theorem Vx.below {w : World} {A : Option Addr} {len : Nat} {f : Nat → IV} (h : Vx w A len f) {w' : World} (hb : Below w.heap.size w w') : Vx w' A len f := by
 intro i hi
 obtain ⟨x, hA, hx, hc, hw⟩ := h i hi
 exact ⟨x, hA, Nat.lt_of_lt_of_le hx hb.size, fun j hj => by rw [hb.cell (p := (x.add (i * 4)).add j) (by rw [Wr, Wr]; exact hx)]; exact hc j hj, hw⟩
theorem Vx.keeps {S : Nat → Prop} {w : World} {A : Option Addr} {len : Nat} {f : Nat → IV} (h : Vx w A len f) {w' : World} (hb : Zg S w w') (hs : ∀ x, A = some x → ¬ S x.block) : Vx w' A len f := by
 intro i hi
 obtain ⟨x, hA, hx, hc, hw⟩ := h i hi
 refine ⟨x, hA, Nat.lt_of_lt_of_le hx hb.size, fun j hj => ?_, hw⟩
 rw [← hc j hj]
 have e := hb.block x.block hx (hs x hA)
 have eb : ((x.add (i * 4)).add j).block = x.block := by rw [Wr, Wr]
 simp only [World.cell?]
 rw [eb, e]
end Go.Proofs.YtjacgcjjdebbbaaGreat
