/-
  Rows of cells that a call made or was handed: how they are read (Cells), how one is added at the end of a row of the call's own (wpList_push), and that rows of different blocks do not disturb each other (Apart). No program, no conditions.
-/
import Derived.Below
import Derived.Laws.OwnMore
import Derived.Maps.AppendAt
import Derived.OwnWalk
import Derived.Deep.QuietTactic
namespace Go.Proofs.Ytkalpclckgbedaa
open Go Go.RowKit
/-- The slice at A reads as the cells cs; it lies below block B. -/
def Cells (w : World) (B : Nat) (A : Option Addr) (cs : List Value) : Prop :=
  cs = [] ∨ ∃ g off, A = some ⟨g, off, none⟩ ∧ g < B ∧ ∀ j, j < cs.length → w.cell? ⟨g, off + j, none⟩ = cs[j]?
theorem Cells.same {w w' : World} {B : Nat} {A : Option Addr} {cs : List Value} (h : Cells w B A cs) (hs : ∀ k, k < B → w'.heap[k]? = w.heap[k]?) : Cells w' B A cs := by
  rcases h with h | ⟨g, off, rfl, hg, hc⟩
  · exact .inl h
  · exact .inr ⟨g, off, rfl, hg, fun j hj => (World.cell?_of_block (w := w) (a := ⟨g, off + j, none⟩) (hs g hg)).trans (hc j hj)⟩
theorem Cells.below {w w' : World} {B : Nat} {A : Option Addr} {cs : List Value} (h : Cells w B A cs) (hb : Below B w w') : Cells w' B A cs := h.same hb.block
theorem Cells.mono {w : World} {B B' : Nat} {A : Option Addr} {cs : List Value} (h : Cells w B A cs) (hB : B ≤ B') : Cells w B' A cs := by
  rcases h with h | ⟨g, off, rfl, hg, hc⟩
  · exact .inl h
  · exact .inr ⟨g, off, rfl, by omega, hc⟩
theorem Cells.alloc {w : World} {B : Nat} {A : Option Addr} {cs : List Value} (h : Cells w B A cs) (hB : B ≤ w.heap.size) (o : Obj) : Cells (w.alloc o) B A cs :=
  h.same fun k hk => Below.heap_alloc w o k (by omega)
theorem Cells.at_ {w : World} {B : Nat} {A : Option Addr} {cs : List Value} (h : Cells w B A cs) (hn : 0 < cs.length) : ∃ g off, A = some ⟨g, off, none⟩ ∧ g < B ∧ ∀ j, j < cs.length → w.cell? ⟨g, off + j, none⟩ = cs[j]? := by
  rcases h with h | h
  · rw [h] at hn; simp at hn
  · exact h
/-- A row of the call's own, as a slice value. -/
theorem own_form {w : World} {base : Nat} {e : TypeId} {size : Nat} {v : Value} {n : Nat} {xs : List Value} (h : w.ownsRow base e size v n xs) :
    ∃ A c, v = .slice A n c ∧ n ≤ c ∧ c ≤ maxLen ∧ Cells w w.heap.size A xs := by
  obtain ⟨h1, h2⟩ := id h
  rcases h2 with ⟨rfl, rfl⟩ | ⟨g, cap, cur, rfl, hb, hh, hn, hm, hs, ht⟩
  · exact ⟨none, 0, rfl, by omega, by unfold maxLen; omega, .inl (List.eq_nil_of_length_eq_zero (by simpa using h1))⟩
  · refine ⟨_, cap, rfl, hn, hm, .inr ⟨g, 0, rfl, (h.lt g rfl).2, fun j hj => ?_⟩⟩
    rw [Nat.zero_add]
    exact World.ownsRow.cellAt h j (by omega)
/-- Two slices that do not lie in one block. -/
def Apart (a b : Value) : Prop := ∀ k, a.ownBlock = some k → b.ownBlock ≠ some k
theorem Apart.symm {a b : Value} (h : Apart a b) : Apart b a := fun k hb ha => h k ha hb
theorem Apart.nil (b : Value) : Apart (.slice none 0 0) b := fun k h => by simp [Value.ownBlock] at h
theorem Apart.grown {a v v' : Value} {w : World} {base : Nat} {e : TypeId} {size n : Nat} {xs : List Value} {H : Nat} (h : Apart a v) (ha : w.ownsRow base e size a n xs) (hH : w.heap.size ≤ H)
    (hat : v'.ownBlock = v.ownBlock ∨ v'.ownBlock = some H) : Apart a v' := by
  intro k hk
  rcases hat with e | e
  · rw [e]; exact h k hk
  · rw [e]
    have := (ha.lt k hk).2
    intro c; injection c with c; omega
theorem Apart.kept {a v : Value} {w w' : World} {base : Nat} {e : TypeId} {size n : Nat} {xs : List Value} (h : Apart a v) (ha : w.ownsRow base e size a n xs) (hg : w.grownBy w' v.ownBlock) : w'.ownsRow base e size a n xs := by
  refine ha.kept hg ?_
  cases hk : a.ownBlock with
  | none => exact .inl rfl
  | some k => exact .inr (fun c => h k hk c.symm)
theorem own_mono {w : World} {base base' : Nat} {e : TypeId} {size : Nat} {v : Value} {n : Nat} {xs : List Value} (h : w.ownsRow base e size v n xs) (hb : base' ≤ base) : w.ownsRow base' e size v n xs := by
  obtain ⟨h1, h2⟩ := h
  refine ⟨h1, ?_⟩
  rcases h2 with h2 | ⟨g, cap, cur, hv, hg, r⟩
  · exact .inl h2
  · exact .inr ⟨g, cap, cur, hv, by omega, r⟩
/-- What is owned from B on stays owned while only new blocks from B' on are made and nothing that was there is written. -/
theorem own_below {w w' : World} {base : Nat} {e : TypeId} {size : Nat} {v : Value} {n : Nat} {xs : List Value} (h : w.ownsRow base e size v n xs) (hb : Below w.heap.size w w') : w'.ownsRow base e size v n xs := by
  obtain ⟨h1, h2⟩ := id h
  refine ⟨h1, ?_⟩
  rcases h2 with h2 | ⟨g, cap, cur, hv, hg, hh, r⟩
  · exact .inl h2
  · refine .inr ⟨g, cap, cur, hv, hg, ?_, r⟩
    rw [hb.block g ((h.lt g (by rw [hv]; rfl)).2)]
    exact hh
/-- append(s, x) of one value: it was laid into a new block, from which it is taken. -/
theorem wpList_push {P : Program} {w : World} {ops : Array Oper} {rest : List Oper} {o : Oper} {a : Act} {Q : Exit → Act → World → Prop} (s x : Operand) (t e : TypeId) (bytes : Nat) (z : Value)
    (ht : P.underlying t = some (.slice e)) (hinfo : (P.info? e).map (fun i => (i.zero, i.size, i.bytes)) = some (some z, 1, bytes)) (hzs : z.cells.size = 1) (hby : bytes ≤ 64)
    (hgd : o.guard = none) (ho : o.op = .call { callee := .builtin .append, args := #[s, x], argTypes := #[t, t] })
    (base : Nat) (v : Value) (n : Nat) (xs : List Value) (u : Value) (hs : a.eval s = v) (hown : w.ownsRow base e 1 v n xs) (hx : a.eval x = .slice (some ⟨w.heap.size, 0, none⟩) 1 1) (h1 : u.oneCell' = true)
    (hn : n ≤ 1099511627776) (hbase : base ≤ w.heap.size)
    (h : ∀ v' w', w'.ownsRow base e 1 v' (n + 1) (xs ++ [u]) → w.grownBy w' v.ownBlock → (v'.ownBlock = v.ownBlock ∨ v'.ownBlock = some (w.heap.size + 1)) → wpList P ops Q rest (a.put o.dst v') w') :
    wpList P ops Q (o :: rest) a (w.alloc (.cells #[u] e)) := by
  obtain ⟨i, hi, hz, hsize, hbytes⟩ := info_parts hinfo
  refine wpList_append_own_at (w.alloc (.cells #[u] e)) hgd s x t ho base e i z 1 bytes ht hi hz hsize hbytes hzs (by decide) v n xs hs (hown.alloc _) ⟨w.heap.size, 0, none⟩ 1 1 [u] hx rfl (cell_one_new _ _ _)
    (by intro y hy; rw [List.mem_singleton] at hy; rw [hy]; exact h1) (by unfold maxLen; omega) ?_ (by simp; omega) ?_
  · have : (n + 1) * bytes ≤ (n + 1) * 64 := Nat.mul_le_mul_left _ hby
    omega
  · intro v' w' ho' hg _ hat
    refine h v' w' ho' ((World.grownBy_alloc w _ _).trans hg) ?_
    rcases hat with e | e
    · exact .inl e
    · refine .inr (by simpa using e)
/-- What a push leaves of all that was there before the call began. -/
theorem below_push {B : Nat} {w0 w w' : World} {v : Value} {base : Nat} {e : TypeId} {size n : Nat} {xs : List Value} (h : Below B w0 w) (hown : w.ownsRow base e size v n xs) (hg : w.grownBy w' v.ownBlock) (hB : B ≤ base) (hs : B ≤ w.heap.size) : Below B w0 w' :=
  h.grown hg hs (fun k hk => by have := hown.lt k hk; omega)
/-- One call after another: nothing that was there before the first was written. -/
theorem bthen {w b c : World} (h : Below w.heap.size w b) (k : Below b.heap.size b c) : Below w.heap.size w c := h.trans (k.mono h.size)
/-- Nothing that was there has been written: a draw, some draws, a new block. -/
theorem below_drew1 {B : Nat} {a w : World} (h : Below B a w) : Below B a w.drew := ⟨h.os, h.tape, h.output, h.size, h.block⟩
theorem below_drewN {B : Nat} {a w : World} (h : Below B a w) (n : Nat) : Below B a (w.drewN n) := ⟨h.os, h.tape, h.output, h.size, h.block⟩
theorem below_more {w x : World} (h : Below w.heap.size w x) (o : Obj) : Below w.heap.size w (x.alloc o) := h.alloc h.size o
end Go.Proofs.Ytkalpclckgbedaa
