/-
  A block whose cells are all known: how it is read, written and kept. No program, no conditions.
-/
import Derived.Below
import Derived.Laws.OwnMore
import Derived.Laws.Rows
namespace Go.Proofs.Ytkalpclckgbedaa
open Go Go.RowKit
/-- Block g is made of just the cells cs, of elements of type t; none is frozen. -/
def Whole (w : World) (g : Nat) (t : TypeId) (cs : Array Value) : Prop := w.heap[g]? = some (.cells cs t (0, 0))
theorem Whole.inside {w : World} {g : Nat} {t : TypeId} {cs : Array Value} (h : Whole w g t cs) : g < w.heap.size := by
  apply Nat.lt_of_not_le
  intro c
  have e : w.heap[g]? = none := Array.getElem?_eq_none c
  unfold Whole at h
  rw [e] at h
  cases h
theorem Whole.read {w : World} {g : Nat} {t : TypeId} {cs : Array Value} (h : Whole w g t cs) (i : Nat) : w.cell? ⟨g, i, none⟩ = cs[i]? := cell_of_row w g i cs t (0, 0) h
theorem Whole.thawed {w : World} {g : Nat} {t : TypeId} {cs : Array Value} (h : Whole w g t cs) (i : Nat) : w.frozen? ⟨g, i, none⟩ = false := by
  have e : w.heap[g]? = some (.cells cs t (0, 0)) := h
  simp [World.frozen?, e]
theorem Whole.made (w : World) (t : TypeId) (cs : Array Value) : Whole (w.alloc (.cells cs t)) w.heap.size t cs := heap_alloc_new w _
theorem Whole.alloc {w : World} {g : Nat} {t : TypeId} {cs : Array Value} (h : Whole w g t cs) (o : Obj) : Whole (w.alloc o) g t cs := by
  unfold Whole
  rw [Below.heap_alloc w o g h.inside]
  exact h
theorem Whole.write {w : World} {g : Nat} {t : TypeId} {cs : Array Value} (h : Whole w g t cs) (i : Nat) (u : Value) : Whole (w.setCell ⟨g, i, none⟩ u) g t (cs.setIfInBounds i u) :=
  heap_setCell_same w g i cs t u h
theorem Whole.aside {w : World} {g : Nat} {t : TypeId} {cs : Array Value} (h : Whole w g t cs) {p : Addr} (hp : g ≠ p.block) (u : Value) : Whole (w.setCell p u) g t cs := by
  unfold Whole
  rw [Below.heap_setCell w p u g hp]
  exact h
theorem Whole.below {w w' : World} {B g : Nat} {t : TypeId} {cs : Array Value} (h : Whole w g t cs) (hb : Below B w w') (hg : g < B) : Whole w' g t cs := by
  unfold Whole
  rw [hb.block g hg]
  exact h
/-- A row of bytes of a block, from place f on, as numbers. -/
def TailIs (cs : Array Value) (f : Nat) (l : List Int) : Prop := f + l.length = cs.size ∧ ∀ j, j < l.length → cs[f + j]? = some (.int .u8 (l.getD j 0))
theorem TailIs.next {cs : Array Value} {f : Nat} {l : List Int} (h : TailIs cs (f + 1) l) (x : Int) : TailIs (cs.setIfInBounds f (.int .u8 x)) f (x :: l) := by
  obtain ⟨h1, h2⟩ := h
  refine ⟨by rw [Array.size_setIfInBounds, List.length_cons]; omega, fun j hj => ?_⟩
  rw [List.length_cons] at hj
  rw [Array.getElem?_setIfInBounds]
  cases j with
  | zero => rw [if_pos (by omega), if_pos (by omega)]; rfl
  | succ j =>
    rw [if_neg (by omega), show f + (j + 1) = f + 1 + j from by omega, h2 j (by omega)]
    rfl
theorem TailIs.cells {w : World} {g : Nat} {t : TypeId} {cs : Array Value} {f : Nat} {l : List Int} (h : TailIs cs f l) (hw : Whole w g t cs) : ∀ j, j < l.length → w.cell? ⟨g, f + j, none⟩ = some (.int .u8 (l.getD j 0)) := fun j hj => by
  rw [hw.read]; exact h.2 j hj
end Go.Proofs.Ytkalpclckgbedaa
