/-
  A world with one object more, but for draws. No statement.
-/
import Derived.Test.YteobgkfcmgcbeaaBase
import Derived.Test.YteobgkfcmgcbeaaOwn
import Derived.Test.YteobgkfcmgcbeaaKeeps
import Derived.Test.YteobgkfcmgcbeaaTwo
import Derived.Deep.Draws
import Derived.Deep.OwnRows
import Derived.Maps.AppendAt
namespace Go.Proofs.Yteobgkfcmgcbeaa
open Go Go.RowKit
theorem own_heap {w w' : World} {base : Nat} {e : TypeId} {size : Nat} {v : Value} {n : Nat} {xs : List Value} (h : w.ownsRow base e size v n xs) (he : w'.heap = w.heap) : w'.ownsRow base e size v n xs := by
  unfold World.ownsRow at *
  rw [he]
  exact h
/-- Y is wr with the object o laid at its end, but for draws. -/
structure Laid (Y wr : World) (o : Obj) : Prop where
  heap : Y.heap = (wr.alloc o).heap
  os : Y.os = wr.os
  tape : Y.tape = wr.tape
  output : Y.output = wr.output
theorem Laid.keeps {S : Nat → Prop} {a Y wr : World} {o : Obj} (l : Laid Y wr o) (h : Keeps S a wr) : Keeps S a Y := by
  have k := h.alloc o
  exact ⟨l.os.trans h.os, l.tape.trans h.tape, l.output.trans h.output, by rw [l.heap]; exact k.size, fun b h1 h2 => by rw [l.heap]; exact k.block b h1 h2⟩
theorem Laid.whole {Y wr : World} {o : Obj} (l : Laid Y wr o) {g : Nat} {t : TypeId} {cs : Array Value} (h : Whole wr g t cs) : Whole Y g t cs := by
  unfold Whole; rw [l.heap]; exact h.alloc o
theorem Laid.own {Y wr : World} {o : Obj} (l : Laid Y wr o) {base : Nat} {e : TypeId} {size : Nat} {v : Value} {n : Nat} {xs : List Value} (h : wr.ownsRow base e size v n xs) : Y.ownsRow base e size v n xs := own_heap (h.alloc o) l.heap
theorem Laid.size {Y wr : World} {o : Obj} (l : Laid Y wr o) : Y.heap.size = wr.heap.size + 1 := by rw [l.heap]; simp
theorem Laid.far {Y wr w3 : World} {o : Obj} (l : Laid Y wr o) {row : Option Nat} (hg : Y.grownBy w3 row) {p : Addr} (hp : p.block < wr.heap.size) (hn : some p.block ≠ row) : w3.cell? p = wr.cell? p ∧ w3.frozen? p = wr.frozen? p := by
  have h1 := hg.block p.block (by rw [l.size]; omega) hn
  have h2 : Y.heap[p.block]? = wr.heap[p.block]? := by rw [l.heap]; exact Below.heap_alloc wr o p.block hp
  exact ⟨World.cell?_of_block (h1.trans h2), World.frozen?_of_block (h1.trans h2)⟩
theorem Keeps.drewN {S : Nat → Prop} {a b : World} (h : Keeps S a b) (q : Nat) : Keeps S a (b.drewN q) := ⟨h.os, h.tape, h.output, h.size, h.block⟩
theorem Laid.ge {Y wr : World} {o : Obj} (l : Laid Y wr o) {n : Nat} (h : n ≤ wr.heap.size) : n ≤ Y.heap.size := by rw [l.size]; omega
theorem Laid.below {Y wr w : World} {o : Obj} (l : Laid Y wr o) {B : Nat} (h : Below B w wr) (hB : B ≤ wr.heap.size) : Below B w Y :=
  ⟨l.os.trans h.os, l.tape.trans h.tape, l.output.trans h.output, by rw [l.size]; have := h.size; omega, fun k hk => by rw [l.heap, Below.heap_alloc wr o k (by omega)]; exact h.block k hk⟩
theorem Laid.grown {Y wr w' : World} {o : Obj} (l : Laid Y wr o) {row : Option Nat} (hg : Y.grownBy w' row) : wr.grownBy w' row :=
  ⟨hg.os.trans l.os, hg.tape.trans l.tape, hg.output.trans l.output, Nat.le_trans (by rw [l.size]; omega) hg.size, fun k hk hn => (hg.block k (by rw [l.size]; omega) hn).trans (by rw [l.heap]; exact Below.heap_alloc wr o k hk)⟩
theorem Whole.drew {w : World} {g : Nat} {t : TypeId} {cs : Array Value} (h : Whole w g t cs) : Whole w.drew g t cs := h
theorem Whole.drewN {w : World} {g : Nat} {t : TypeId} {cs : Array Value} (h : Whole w g t cs) (n : Nat) : Whole (w.drewN n) g t cs := h
end Go.Proofs.Yteobgkfcmgcbeaa
