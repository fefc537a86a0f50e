/-
  The library's Sort and Compact on a row of numbers of the call's own; a sorted row without like neighbours has no two alike. Conditions: at most 1000000 numbers.
-/
import Derived.Test.YtkalpclckgbedaaRows
import Derived.Test.YtkalpclckgbedaaDigList
import Derived.Test.YtkalpclckgbedaaKeeps
import Derived.Shelf.Sort.Plain
import Derived.Shelf.Slices.In.SortNone
import Derived.Shelf.Slices.CompactI
import Derived.Shelf.Lay
import Derived.Ground.NamesProg
import Derived.Ground.Names2Prog
import Derived.Lib.OwnBridge
namespace Go.Proofs.Ytkalpclckgbedaa
open Go.Shelf
shelf_lay Lays.n189 Nm 189 at Try as sortIL
shelf_lay Lays2.n20 Nm2 20 at Try as compactIL
end Go.Proofs.Ytkalpclckgbedaa
namespace Go.Proofs.Ytkalpclckgbedaa
open Go.ChangeShapes Go.WideShapes Go.ChangeAt Go.RowKit Go.Sort
set_option linter.unusedVariables false
set_option linter.unusedSimpArgs false
set_option maxRecDepth 20000
theorem keeps_sorted {α : Type} [Inhabited α] (enc : α → Value) {w : World} {g q : Nat} {d : Array α} {os : Array Obj} : Keeps (fun k => k = g) w (grow (putRow enc (Sort.ahead w q) g 0 d) os) := by
  refine ⟨rfl, rfl, rfl, by rw [size_grow, size_putRow]; exact Nat.le_add_right _ _, ?_⟩
  intro k hk hne
  rw [heap_grow_old _ _ (by rw [size_putRow]; exact hk)]
  unfold putRow mapBlock
  simp only [Array.getElem?_modify]
  rw [if_neg (fun e => hne e.symm)]
  rfl
theorem sortI (x : List Int) (n base : Nat) (v : Value) (w : World) (h : w.ownsRow base 3 1 v n (ints x)) (hl : n ≤ 1000000) :
    Calls Try.prog 50 #[v] w fun e w' => e = .returned (.tuple #[]) ∧ w'.ownsRow base 3 1 v n (ints (x.mergeSort fun a b => decide (a ≤ b))) ∧ Keeps (fun k => v.ownBlock = some k) w w' := by
  have hlen : x.length = n := by have := h.1; simpa [ints] using this
  by_cases h0 : n = 0
  · subst h0
    obtain rfl : x = [] := List.length_eq_zero_iff.1 hlen
    obtain ⟨A, c, rfl, _, _, _⟩ := own_form h
    have h2 := Any.slices_Sort_int_none sortIL A c w
    change Calls Try.prog 50 _ _ _ at h2
    refine h2.mono ?_
    rintro e w' ⟨rfl, rfl⟩
    exact ⟨rfl, by simpa using h, Keeps.refl _ _⟩
  · obtain ⟨g, c, rfl, hb, hg, h1, h2, _, hH⟩ := Lib.holds_of_ownsRow (enc := Value.int .i64) h (by
      rcases h.2 with ⟨_, e⟩ | ⟨g, c, cur, rfl, _⟩
      · exact absurd e h0
      · intro e; cases e)
    have h3 := Any.slices_Sort_int sortIL g 0 c x w hH hg (by omega)
    change Calls Try.prog 50 _ _ _ at h3
    rw [hlen] at h3
    refine h3.mono ?_
    rintro e w' ⟨rfl, q, os, rfl⟩
    have h4 := Lib.ownsRow_putRow (q := q) (k := n) (ys := x.mergeSort fun a b => decide (a ≤ b)) h (by rw [List.length_mergeSort]; exact hlen) (Nat.le_refl _)
    rw [List.take_of_length_le (by rw [List.length_mergeSort]; omega)] at h4
    have h5 : Keeps (fun _ => False) (putRow (Value.int .i64) (Sort.ahead w q) g 0 (x.mergeSort fun a b => decide (a ≤ b)).toArray) (grow (putRow (Value.int .i64) (Sort.ahead w q) g 0 (x.mergeSort fun a b => decide (a ≤ b)).toArray) os) :=
      ⟨rfl, rfl, rfl, by rw [size_grow]; exact Nat.le_add_right _ _, fun k hk _ => heap_grow_old _ _ hk⟩
    exact ⟨rfl, h5.owns h4 (fun _ _ c => c), (keeps_sorted _).mono fun k hk => by rw [hk]; rfl⟩
theorem keeps_row {α : Type} [Inhabited α] (enc : α → Value) {w : World} {g q : Nat} {d : Array α} : Keeps (fun k => k = g) w (putRow enc (Sort.ahead w q) g 0 d) := by
  refine ⟨rfl, rfl, rfl, by rw [size_putRow]; exact Nat.le_refl _, ?_⟩
  intro k hk hne
  unfold putRow mapBlock
  simp only [Array.getElem?_modify]
  rw [if_neg (fun e => hne e.symm)]
  rfl
theorem compactI (x : List Int) (n base : Nat) (v : Value) (w : World) (h : w.ownsRow base 3 1 v n (ints x)) (hl : n ≤ 1000000) :
    Calls Try.prog 51 #[v] w fun e w' => ∃ A c, e = .returned (.slice A (Lib.compact x).length c) ∧ Keeps (fun k => v.ownBlock = some k) w w' := by
  have hlen : x.length = n := by have := h.1; simpa [ints] using this
  by_cases h0 : n = 0
  · subst h0
    obtain rfl : x = [] := List.length_eq_zero_iff.1 hlen
    obtain ⟨A, c, rfl, _, _, _⟩ := own_form h
    have h2 := Any.slices_Compact_int_empty compactIL A c w
    change Calls Try.prog 51 _ _ _ at h2
    refine h2.mono ?_
    rintro e w' ⟨rfl, rfl⟩
    exact ⟨A, c, rfl, Keeps.refl _ _⟩
  · obtain ⟨g, c, rfl, hb, hg, h1, h2, _, hH⟩ := Lib.holds_of_ownsRow (enc := Value.int .i64) h (by
      rcases h.2 with ⟨_, e⟩ | ⟨g, c, cur, rfl, _⟩
      · exact absurd e h0
      · intro e; cases e)
    have h3 := Any.slices_Compact_int compactIL g 0 c x w hH (by omega) (by omega)
    change Calls Try.prog 51 _ _ _ at h3
    rw [hlen] at h3
    refine h3.mono ?_
    rintro e w' ⟨rfl, q, rfl⟩
    refine ⟨_, c, rfl, ?_⟩
    exact Keeps.mono (keeps_row _) fun k hk => by have e : k = g := hk; rw [e]; rfl
theorem compact_nodup (x : List Int) : (Lib.compact (x.mergeSort fun a b => decide (a ≤ b))).length = x.length ↔ x.Nodup := by
  have hp : (x.mergeSort fun a b => decide (a ≤ b)).Perm x := List.mergeSort_perm _ _
  have hs : (x.mergeSort fun a b => decide (a ≤ b)).Pairwise (fun a b => decide (a ≤ b) = true) := List.pairwise_mergeSort (le := fun a b : Int => decide (a ≤ b)) (fun a b c h1 h2 => by simp at h1 h2 ⊢; omega) (fun a b => by simp; omega) x
  generalize (x.mergeSort fun a b => decide (a ≤ b)) = y at *
  rw [← hp.nodup_iff, ← hp.length_eq]
  have hs2 : ∀ i j (hi : i < y.length) (hj : j < y.length), i < j → y[i] ≤ y[j] := fun i j hi hj hij => by
    have := List.pairwise_iff_getElem.1 hs i j hi hj hij
    simpa using this
  have hk : ∀ j (hj : j < y.length) (h0 : 0 < j), Lib.keeps y.toArray j = true ↔ y[j] ≠ y[j - 1]'(by omega) := fun j hj h0 => by
    have e1 : y.toArray[j]! = y[j] := by simp [hj]
    have e2 : y.toArray[j - 1]! = y[j - 1]'(by omega) := by
      rw [getElem!_pos y.toArray (j - 1) (by simp; omega)]; rfl
    constructor
    · intro h e
      have := Lib.keeps_neg (d := y.toArray) h0 (by rw [e1, e2]; exact e)
      rw [this] at h; cases h
    · intro h
      exact Lib.keeps_pos (by rw [e1, e2]; exact h)
  have hlen : (Lib.compact y).length = y.length ↔ ∀ j, j < y.length → Lib.keeps y.toArray j = true := by
    unfold Lib.compact Lib.compactUpTo
    rw [List.length_map]
    constructor
    · intro h j hj
      have h2 : (List.range y.length).filter (Lib.keeps y.toArray) = List.range y.length := by
        apply List.Sublist.eq_of_length List.filter_sublist
        rw [h, List.length_range]
      have h3 : j ∈ (List.range y.length).filter (Lib.keeps y.toArray) := by rw [h2]; exact List.mem_range.2 hj
      exact (List.mem_filter.1 h3).2
    · intro h
      rw [List.filter_eq_self.2 (fun j hj => h j (List.mem_range.1 hj)), List.length_range]
  rw [hlen]
  constructor
  · intro h
    have step : ∀ d i (hi : i < y.length) (hj : i + d + 1 < y.length), y[i] < y[i + d + 1] := fun d i hi hj => by
      have h1 := (hk (i + d + 1) hj (by omega)).1 (h _ hj)
      have h2 : y[i + d + 1 - 1]'(by omega) ≤ y[i + d + 1] := hs2 _ _ (by omega) hj (by omega)
      have h3 : y[i] ≤ y[i + d + 1 - 1]'(by omega) := by
        by_cases e : d = 0
        · subst e; exact Int.le_of_eq (by congr 1)
        · exact hs2 i (i + d + 1 - 1) hi (by omega) (by omega)
      omega
    rw [List.Nodup, List.pairwise_iff_getElem]
    intro i j hi hj hij e
    obtain ⟨d, rfl⟩ : ∃ d, j = i + d + 1 := ⟨j - i - 1, by omega⟩
    have := step d i hi hj
    omega
  · intro h j hj
    by_cases h0 : j = 0
    · exact Lib.keeps_lt_one _ j (by omega)
    · refine (hk j hj (by omega)).2 fun e => ?_
      rw [List.Nodup, List.pairwise_iff_getElem] at h
      exact h (j - 1) j (by omega) hj (by omega) e.symm
end Go.Proofs.Ytkalpclckgbedaa
