/-
  The laws of layer 9: rows of tokens read, the example, TokensScan, TokensMarks. No conditions.
-/
import Derived.Test.YtnlnkjjegaihcaaTokRScan
import Derived.Deep.QuietTactic
import Derived.BigQuiet
namespace Go.Proofs.Ytnlnkjjegaihcaa
open Go.ChangeShapes Go.WideShapes Go.ChangeAt Go.RowKit
set_option linter.unusedVariables false
set_option linter.unusedSimpArgs false
theorem add_block' (x : Addr) (n : Nat) : (x.add n).block = x.block := by unfold Addr.add; split <;> rfl
theorem add_add' (x : Addr) (n m : Nat) : (x.add n).add m = x.add (n + m) := by
  unfold Addr.add
  by_cases h : n = 0
  · subst h; simp
  · by_cases h2 : m = 0
    · subst h2; simp
    · simp [h, h2, Nat.add_assoc]
theorem tokCs_at (L : List TokV) : ∀ (i j : Nat) (h : i < L.length), j < 5 → (tokCs L)[i * 5 + j]? = (L[i]'h).cells[j]? := by
  induction L with
  | nil => intro i j h; simp at h
  | cons v L ih =>
    intro i j h hj
    have e : tokCs (v :: L) = v.cells ++ tokCs L := rfl
    have hl : v.cells.length = 5 := rfl
    rw [e]
    cases i with
    | zero => rw [Nat.zero_mul, Nat.zero_add, List.getElem?_append_left (by omega)]; rfl
    | succ i =>
      rw [List.getElem?_append_right (by omega), hl, show (i + 1) * 5 + j - 5 = i * 5 + j from by omega]
      exact ih i j (by simpa using h) hj
/-- A row of tokens, read at one place. -/
theorem Reads.tok {w : World} {A : Option Addr} {L : List TokV} (h : Reads w A (tokCs L)) {i : Nat} (hi : i < L.length) :
    ∃ x, A = some x ∧ x.block < w.heap.size ∧ w.cell? (x.add (i * 5)) = some (.int .i64 (L[i]'hi).k) ∧ w.cell? ⟨(x.add (i * 5)).block, (x.add (i * 5)).off + 1, none⟩ = some (.string (L[i]'hi).t) ∧
      w.cell? ⟨(x.add (i * 5)).block, (x.add (i * 5)).off + 2, none⟩ = some (.int .i64 (L[i]'hi).n) ∧ w.cell? ⟨(x.add (i * 5)).block, (x.add (i * 5)).off + 3, none⟩ = some (.int .i64 ((L[i]'hi).line : Int)) ∧
      w.cell? ⟨(x.add (i * 5)).block, (x.add (i * 5)).off + 4, none⟩ = some (.int .i64 ((L[i]'hi).col : Int)) := by
  have hl := tokCs_len L
  obtain ⟨x, hA, hx, hc⟩ := h.at_ (by omega)
  have key : ∀ j, j < 5 → w.cell? ((x.add (i * 5)).add j) = (L[i]'hi).cells[j]? := fun j hj => by
    rw [add_add', hc _ (by omega), tokCs_at L i j hi hj]
  exact ⟨x, hA, hx, key 0 (by omega), key 1 (by omega), key 2 (by omega), key 3 (by omega), key 4 (by omega)⟩
theorem own5_reads {w : World} {base : Nat} {e : TypeId} {v : Value} {xs : List Value} {n : Nat} (h : w.ownsRow base e 5 v n xs) : ∃ A c, v = .slice A n c ∧ n ≤ 9223372036854775807 ∧ Reads w A xs := by
  obtain ⟨A, c, hv, hn, hm, hc⟩ := own_form h
  exact ⟨A, c, hv, by unfold maxLen at hm; omega, hc.reads⟩
theorem own5_at {w : World} {base : Nat} {e : TypeId} {v : Value} {xs : List Value} {n : Nat} (h : w.ownsRow base e 5 v n xs) (hn : 0 < n) : ∃ g c, v = .slice (some ⟨g, 0, none⟩) n c ∧ g < w.heap.size ∧ ∀ j, j < xs.length → w.cell? ⟨g, j, none⟩ = xs[j]? := by
  obtain ⟨hl, h0 | ⟨g, cap, cur, rfl, hb, hg, h1, h2, h3, h4⟩⟩ := h
  · omega
  · have hw : Whole w g e cur := hg
    refine ⟨g, cap, rfl, hw.inside, fun j hj => ?_⟩
    rw [hw.read j, ← h4, List.getElem?_take_of_lt (by omega), Array.getElem?_toList]
/-- The chapter's example. -/
def egS : ByteArray := ⟨#[108, 97, 110, 101, 32, 50, 59, 32, 35, 32, 115, 111]⟩
theorem eg_scan : scanV egS = ([⟨1, ⟨#[108, 97, 110, 101]⟩, 0, 1, 1, 0⟩, ⟨2, ⟨#[50]⟩, 2, 1, 6, 5⟩, ⟨4, ⟨#[59]⟩, 0, 1, 7, 6⟩, ⟨0, ⟨#[]⟩, 0, 1, 13, 12⟩], 0, 0, 0) := by kernel_rfl
end Go.Proofs.Ytnlnkjjegaihcaa
