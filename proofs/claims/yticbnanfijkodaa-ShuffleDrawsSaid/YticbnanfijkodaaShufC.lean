/-
  Layer 21: the library's Clone, Sort, Index and Equal on rows of the call's own; what the draws' closure hands out. Conditions: lists that can be read, at most 1000000 numbers.
-/
import Derived.Test.YticbnanfijkodaaShufShelf
import Derived.Test.YticbnanfijkodaaShufR
import Derived.Test.YticbnanfijkodaaShufB
import Derived.Lib.OwnBridge
namespace Go.Proofs.Yticbnanfijkodaa
open Go.ChangeShapes Go.WideShapes Go.ChangeAt Go.RowKit Go.Sort
set_option linter.unusedVariables false
set_option linter.unusedSimpArgs false
set_option maxRecDepth 20000
theorem cloneI (x : List Int) (n c : Nat) (A : Option Addr) (w : World) (hx : Reads w A (ints x)) (hn : x.length = n) (hl : n ≤ 1000000) :
    Calls Try.prog 16 #[.slice A n c] w fun e w' => ∃ v, e = .returned v ∧ w'.ownsRow w.heap.size 3 1 v n (ints x) ∧ Below w.heap.size w w' := by
  by_cases h0 : n = 0
  · subst h0
    obtain rfl : x = [] := List.length_eq_zero_iff.1 hn
    cases A with
    | none =>
      have h := Any.slices_Clone_int_nil cloneIL 0 c w
      change Calls Try.prog 16 _ _ _ at h
      refine h.mono ?_
      rintro e w' ⟨rfl, rfl⟩
      exact ⟨_, rfl, World.ownsRow_nil _ _ _ _, Below.refl _ _⟩
    | some a =>
      have h := Any.slices_Clone_int_zero cloneIL a c w
      change Calls Try.prog 16 _ _ _ at h
      refine h.mono ?_
      rintro e w' ⟨v, rfl, h1, _, h2⟩
      exact ⟨_, rfl, h1, h2⟩
  · obtain ⟨g, off, rfl, hg, hc⟩ := reads_lit hx (by omega)
    have h := Any.slices_Clone_int cloneIL g off n c x w (by omega) (by omega) hc
    change Calls Try.prog 16 _ _ _ at h
    refine h.mono ?_
    rintro e w' ⟨v, rfl, h1, _, h2⟩
    rw [List.take_of_length_le (by omega)] at h1
    exact ⟨_, rfl, h1, h2⟩
theorem keeps_sorted {α : Type} [Inhabited α] (enc : α → Value) {w : World} {g q : Nat} {d : Array α} {os : Array Obj} : Keeps (fun k => k = g) w (grow (putRow enc (Sort.ahead w q) g 0 d) os) := by
  refine ⟨rfl, rfl, rfl, by rw [size_grow, size_putRow]; exact Nat.le_add_right _ _, ?_⟩
  intro k hk hne
  rw [heap_grow_old _ _ (by rw [size_putRow]; exact hk)]
  unfold putRow mapBlock
  simp only [Array.getElem?_modify]
  rw [if_neg (fun e => hne e.symm)]
  rfl
theorem sortI (x : List Int) (n base : Nat) (v : Value) (w : World) (h : w.ownsRow base 3 1 v n (ints x)) (hl : n ≤ 1000000) :
    Calls Try.prog 22 #[v] w fun e w' => e = .returned (.tuple #[]) ∧ w'.ownsRow base 3 1 v n (ints (x.mergeSort fun a b => decide (a ≤ b))) ∧ Keeps (fun k => v.ownBlock = some k) w w' := by
  have hlen : x.length = n := by have := h.1; simpa [ints] using this
  by_cases h0 : n = 0
  · subst h0
    obtain rfl : x = [] := List.length_eq_zero_iff.1 hlen
    obtain ⟨A, c, rfl, _, _, _⟩ := own_form h
    have h2 := Any.slices_Sort_int_none sortIL A c w
    change Calls Try.prog 22 _ _ _ at h2
    refine h2.mono ?_
    rintro e w' ⟨rfl, rfl⟩
    exact ⟨rfl, by simpa using h, Keeps.refl _ _⟩
  · obtain ⟨g, c, rfl, hb, hg, h1, h2, _, hH⟩ := Lib.holds_of_ownsRow (enc := Value.int .i64) h (by
      rcases h.2 with ⟨_, e⟩ | ⟨g, c, cur, rfl, _⟩
      · exact absurd e h0
      · intro e; cases e)
    have h3 := Any.slices_Sort_int sortIL g 0 c x w hH hg (by omega)
    change Calls Try.prog 22 _ _ _ at h3
    rw [hlen] at h3
    refine h3.mono ?_
    rintro e w' ⟨rfl, q, os, rfl⟩
    have h4 := Lib.ownsRow_putRow (q := q) (k := n) (ys := x.mergeSort fun a b => decide (a ≤ b)) h (by rw [List.length_mergeSort]; exact hlen) (Nat.le_refl _)
    rw [List.take_of_length_le (by rw [List.length_mergeSort]; omega)] at h4
    have h5 : Keeps (fun _ => False) (putRow (Value.int .i64) (Sort.ahead w q) g 0 (x.mergeSort fun a b => decide (a ≤ b)).toArray) (grow (putRow (Value.int .i64) (Sort.ahead w q) g 0 (x.mergeSort fun a b => decide (a ≤ b)).toArray) os) :=
      ⟨rfl, rfl, rfl, by rw [size_grow]; exact Nat.le_add_right _ _, fun k hk _ => heap_grow_old _ _ hk⟩
    exact ⟨rfl, h5.owns h4 (fun _ _ c => c), (keeps_sorted _).mono fun k hk => by rw [hk]; rfl⟩
theorem equalI (x y : List Int) (n m c d : Nat) (A B : Option Addr) (w : World) (hx : Reads w A (ints x)) (hy : Reads w B (ints y)) (hn : x.length = n) (hm : y.length = m) (hl : n ≤ 1000000) (hl2 : m ≤ 1000000) :
    Calls Try.prog 23 #[.slice A n c, .slice B m d] w fun e w' => e = .returned (.bool (decide (x = y))) ∧ Below w.heap.size w w' := by
  by_cases hnm : n = m
  · subst hnm
    by_cases h0 : n = 0
    · subst h0
      obtain rfl : x = [] := List.length_eq_zero_iff.1 hn
      obtain rfl : y = [] := List.length_eq_zero_iff.1 hm
      have h := Any.slices_Equal_int_empty equalIL A B c 0 d w (by omega)
      change Calls Try.prog 23 _ _ _ at h
      refine h.mono ?_
      rintro e w' ⟨rfl, rfl⟩
      exact ⟨rfl, Below.refl _ _⟩
    · obtain ⟨g, off, rfl, hg, hc⟩ := reads_lit hx (by omega)
      obtain ⟨g2, off2, rfl, hg2, hc2⟩ := reads_lit hy (by omega)
      have h := Any.slices_Equal_int equalIL g off n c g2 off2 n d x y w (by omega) (by omega) (by omega) (by omega) hc hc2
      change Calls Try.prog 23 _ _ _ at h
      refine h.mono ?_
      rintro e w' ⟨rfl, q, rfl⟩
      rw [List.take_of_length_le (by omega), List.take_of_length_le (by omega)]
      exact ⟨rB (by by_cases q : x = y <;> simp [q]), below_drewN (Below.refl _ _) q⟩
  · have h := Any.slices_Equal_int_lens equalIL A B n c m d w hnm
    change Calls Try.prog 23 _ _ _ at h
    refine h.mono ?_
    rintro e w' ⟨rfl, rfl⟩
    exact ⟨rB (by simp; intro q; exact hnm (by rw [← hn, ← hm, q])), Below.refl _ _⟩
theorem indexI (x : List Int) (v : Int) (n c k : Nat) (A : Option Addr) (w : World) (hx : Reads w A (ints x)) (hn : x.length = n) (hl : n ≤ 1000000) (hk : k < n) (hv : x.getD k 0 = v) (hne : ∀ j, j < k → x.getD j 0 ≠ v) :
    Calls Try.prog 20 #[.slice A n c, .int .i64 v] w fun e w' => e = .returned (.int .i64 k) ∧ w' = w := by
  obtain ⟨g, off, rfl, hg, hc⟩ := reads_lit hx (by omega)
  have h := Any.slices_Index_int indexIL g off n c x v w (by omega) (by omega) hc
  change Calls Try.prog 20 _ _ _ at h
  rw [Lib.idxOf_hit x n k v hk (by omega) hv hne] at h
  exact h
end Go.Proofs.Yticbnanfijkodaa
