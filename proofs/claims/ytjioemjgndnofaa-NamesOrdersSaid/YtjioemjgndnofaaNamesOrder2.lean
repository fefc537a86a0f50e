/-
  The sort of places by their names: the library's own contract at this program's comparison; names.Order. No statement.
-/
import Derived.Test.YtjioemjgndnofaaNamesOrder
import Derived.Deep.OwnRows
namespace Go.Proofs.Ytjioemjgndnofaa
open Go Go.RowKit Go.Lib Go.Sort
set_option linter.unusedVariables false
set_option linter.unusedSimpArgs false
def bsOf (L : List ByteArray) : List Bs := L.map ByteArray.toList
theorem bsOf_len (L : List ByteArray) : (bsOf L).length = L.length := by simp [bsOf]
def nmS (L : List ByteArray) (i : Nat) : ByteArray := L.getD i ByteArray.empty
theorem nmS_at (L : List ByteArray) (i : Nat) : nmAt (bsOf L) i = (nmS L i).toList := by
  unfold nmAt nmS bsOf
  rw [List.getD_eq_getElem?_getD, List.getD_eq_getElem?_getD, List.getElem?_map]
  cases L[i]? with
  | none => simp [ByteArray.toList_empty]
  | some x => rfl
theorem cmpP_lt (a b : ByteArray) (i j : Nat) : cmpP a b i j < 0 ↔ (a.toList < b.toList ∨ (a.toList = b.toList ∧ i < j)) := by
  obtain ⟨h1, h2⟩ := compareBytes_lt a.toList b.toList
  unfold cmpP
  by_cases h : Lib.compareBytes a.toList b.toList = 0
  · rw [if_pos h]
    have e := h2.1 h
    rw [e]
    have hn : ¬ b.toList < b.toList := bs_irr _
    rcases compareInt_cases i j with ⟨k, ke⟩ | ⟨k, ke⟩ | ⟨k, ke⟩ <;> rw [ke] <;> simp [hn] <;> omega
  · rw [if_neg h, h1]
    have hn : ¬ a.toList = b.toList := fun e => h (h2.2 e)
    simp [hn]
def cfF (L : List ByteArray) (n : Nat) (x y : Fin n) : Int := cmpP (nmS L x) (nmS L y) x y
theorem ltF (L : List ByteArray) (n : Nat) (x y : Fin n) : ltOf (cfF L n) x y = decide (before (bsOf L) x y) := by
  have h := cmpP_lt (nmS L x) (nmS L y) x y
  rw [← nmS_at, ← nmS_at] at h
  unfold ltOf cfF
  exact decide_eq_decide.2 h
theorem swoF (L : List ByteArray) (n : Nat) : SWO (ltOf (cfF L n)) where
  irrefl x := by rw [ltF]; simp [before_irr]
  trans x y z h1 h2 := by rw [ltF] at *; simp only [decide_eq_true_eq] at *; exact before_trans h1 h2
  ntrans x y z h1 h2 := by
    rw [ltF] at *
    simp only [decide_eq_false_iff_not] at *
    intro h
    by_cases e : (x : Nat) = y
    · rw [e] at h; exact h2 h
    · rcases before_tot (bsOf L) e with k | k
      · exact h1 k
      · by_cases e2 : (y : Nat) = z
        · rw [← e2] at h; exact h1 h
        · rcases before_tot (bsOf L) e2 with k2 | k2
          · exact h2 k2
          · exact before_irr _ _ (before_trans h (before_trans k2 k))
theorem totF (L : List ByteArray) (n : Nat) (x y : Fin n) (h1 : ltOf (cfF L n) x y = false) (h2 : ltOf (cfF L n) y x = false) : x = y := by
  rw [ltF] at *
  simp only [decide_eq_false_iff_not] at *
  by_cases e : (x : Nat) = y
  · exact Fin.ext e
  · rcases before_tot (bsOf L) e with k | k
    · exact absurd k h1
    · exact absurd k h2
theorem sortedF (L : List ByteArray) : ((List.finRange L.length).mergeSort fun x y => !ltOf (cfF L L.length) y x).map Fin.val = orderN (bsOf L) := by
  apply orderN_eq
  have e0 : (List.finRange L.length).map Fin.val = List.range L.length := by
    apply List.ext_getElem (by simp)
    intro i h1 h2
    simp
  constructor
  · rw [bsOf_len, ← e0]
    exact (List.mergeSort_perm _ _).map _
  · rw [List.pairwise_map]
    have hs := List.pairwise_mergeSort (le := fun x y => !ltOf (cfF L L.length) y x) (by
        intro a b c h1 h2
        simp only [Bool.not_eq_true'] at *
        exact (swoF L L.length).ntrans c b a h2 h1) (by
        intro a b
        cases h : ltOf (cfF L L.length) b a with
        | false => simp
        | true => simp [(swoF L L.length).asymmA h]) (List.finRange L.length)
    have hn : ((List.finRange L.length).mergeSort fun x y => !ltOf (cfF L L.length) y x).Nodup := (List.mergeSort_perm _ _).nodup_iff.2 (by
      have : ((List.finRange L.length).map Fin.val).Nodup := by rw [e0]; exact List.nodup_range
      exact List.Pairwise.of_map Fin.val (fun a b h e => h (by rw [e])) this)
    refine (hs.and hn).imp ?_
    intro a b ⟨h1, h2⟩
    simp only [Bool.not_eq_true'] at h1
    rw [ltF, decide_eq_false_iff_not] at h1
    have hne : (a : Nat) ≠ b := fun e => h2 (Fin.ext e)
    rcases before_tot (bsOf L) hne with k | k
    · exact k
    · exact absurd k h1
theorem below_putRow' {α : Type} [Inhabited α] (enc : α → Value) {B : Nat} {w0 w : World} {g q : Nat} {d : Array α} (h : Below B w0 w) (hg : B ≤ g) : Below B w0 (putRow enc (Sort.ahead w q) g 0 d) := by
  refine ⟨h.os, h.tape, h.output, ?_, ?_⟩
  · rw [size_putRow]; exact h.size
  · intro k hk
    rw [← h.block k hk]
    unfold putRow mapBlock
    simp only [Array.getElem?_modify]
    rw [if_neg (by omega)]
    rfl
theorem below_grow' {B : Nat} {w0 w : World} (h : Below B w0 w) (hB : B ≤ w.heap.size) (os : Array Obj) : Below B w0 (grow w os) := by
  refine ⟨h.os, h.tape, h.output, ?_, ?_⟩
  · rw [size_grow]; have := h.size; omega
  · intro k hk
    rw [← h.block k hk]
    unfold grow
    exact Array.getElem?_append_left (by omega)
/-- What a place's order lays: the places as numbers. -/
def natCells (O : List Nat) : List Value := O.map fun i : Nat => Value.int .i64 (i : Int)
def ordArr (n k : Nat) : Array Value := ((List.range n).map fun i => Value.int .i64 (if i < k then (i : Int) else 0)).toArray
theorem ordArr_zero (n : Nat) : madeCells #[.int .i64 0] n = ordArr n 0 := by
  apply Array.ext'
  rw [toList_madeCells_one]
  simp only [ordArr, Nat.not_lt_zero, if_false]
  rw [List.map_const', List.length_range]
theorem ordArr_get (n k i : Nat) (h : i < n) : (ordArr n k)[i]? = some (.int .i64 (if i < k then (i : Int) else 0)) := by
  simp [ordArr, h]
theorem ordArr_set {n k : Nat} (h : k < n) : (ordArr n k).setIfInBounds k (.int .i64 k) = ordArr n (k + 1) := by
  apply Array.ext_getElem?
  intro i
  rw [Array.getElem?_setIfInBounds]
  by_cases e : k = i
  · subst e
    rw [if_pos rfl, if_pos (by simp [ordArr, h]), ordArr_get n _ k h, if_pos (by omega)]
  · rw [if_neg e]
    by_cases hi : i < n
    · rw [ordArr_get n k i hi, ordArr_get n _ i hi]
      by_cases h1 : i < k
      · rw [if_pos h1, if_pos (by omega)]
      · rw [if_neg h1, if_neg (by omega)]
    · rw [Array.getElem?_eq_none (by simp [ordArr]; omega), Array.getElem?_eq_none (by simp [ordArr]; omega)]
theorem fin_get! {n : Nat} [Inhabited (Fin n)] (j : Nat) (h : j < n) : ((List.finRange n).toArray[j]! : Fin n).val = j := by
  rw [getElem!_pos _ _ (by simpa using h)]
  simp
set_option maxHeartbeats 1000000 in
/-- The sort, at this program's comparison. -/
theorem sort_any (c g : Nat) (x : Addr) (n cap : Nat) (L : List ByteArray) (W : World) (hn : L.length = n) (h0 : 0 < n) (hmax : n ≤ 1000000)
    (hbox : W.cell? ⟨c, 0, none⟩ = some (.slice (some x) n cap)) (hx : x.block < W.heap.size) (hL : ∀ i, i < n → W.cell? (x.add i) = some (.string (nmS L i)))
    (hcg : c ≠ g) (hxg : x.block ≠ g) (hw : Whole W g 3 (ordArr n n)) (hB : ∀ B, B ≤ g → B ≤ W.heap.size) :
    Calls Try.prog 20 #[.slice (some ⟨g, 0, none⟩) n n, .func (.func 21) #[] #[.pointer (some ⟨c, 0, none⟩)]] W fun e w' =>
      e = .returned (.tuple #[]) ∧ (∀ B, B ≤ g → Below B W w') ∧ Reads w' (some ⟨g, 0, none⟩) (natCells (orderN (bsOf L))) := by
  subst hn
  have hne : NeZero L.length := ⟨by omega⟩
  have hInh : Inhabited (Fin L.length) := ⟨⟨0, h0⟩⟩
  have hcb := World.block_lt_of_cell? _ _ hbox
  have hH : Holds (fun i : Fin L.length => Value.int .i64 (i.val : Int)) W g 0 (List.finRange L.length).toArray := by
    intro j hj
    have hj' : j < L.length := by simpa using hj
    refine ⟨?_, ?_⟩
    · rw [hw.read, Nat.zero_add, ordArr_get _ _ _ hj', if_pos hj']
      exact congrArg some (vI (by rw [fin_get! j hj']))
    · exact hw.thawed _
  have eg : ∀ args w, (callFunc 21 args).run Try.prog w = .ok (.enter 21 args) w := enters_of Try.func21 (by kernel_rfl) rfl
  have hcmp : CmpLays1 Try.prog 21 #[.pointer (some ⟨c, 0, none⟩)] (fun i : Fin L.length => Value.int .i64 (i.val : Int)) (cfF L L.length) g 0 (List.finRange L.length).toArray.size W := by
    intro m os dk hs i j
    have key : ∀ p : Addr, p.block < W.heap.size → p.block ≠ g → (sortWorld (fun i : Fin L.length => Value.int .i64 (i.val : Int)) W g 0 m dk os).cell? p = W.cell? p := by
      intro p hp hpg
      unfold sortWorld
      rw [cell?_grow _ _ _ (by rw [size_putRow]; exact hp), cell?_putRow_other _ _ _ _ _ _ (.inl hpg)]
      rfl
    have hsz : W.heap.size ≤ (sortWorld (fun i : Fin L.length => Value.int .i64 (i.val : Int)) W g 0 m dk os).heap.size := by
      unfold sortWorld
      rw [size_grow, size_putRow]
      show W.heap.size ≤ W.heap.size + _
      omega
    refine (closure_any c x L.length cap (nmS L i) (nmS L j) i j _ i.isLt j.isLt (by omega) (Nat.lt_of_lt_of_le hcb hsz) (by unfold maxLen; omega) ?_ ?_ ?_).mono ?_
    · rw [key _ hcb hcg]; exact hbox
    · rw [key _ (add_lt hx _) (by unfold Addr.add; split <;> exact hxg)]; exact hL _ i.isLt
    · rw [key _ (add_lt hx _) (by unfold Addr.add; split <;> exact hxg)]; exact hL _ j.isLt
    · intro e w' h
      exact h
  have h := Any.slices_SortFunc_total sortL (fun i : Fin L.length => Value.int .i64 (i.val : Int)) (fun _ => rfl) (cfF L L.length) (swoF L L.length) 21 #[.pointer (some ⟨c, 0, none⟩)] g 0 L.length (List.finRange L.length).toArray W eg hcmp hH hw.inside (by simp; omega) (totF L L.length)
  change Calls Try.prog 20 _ _ _ at h
  have es : (List.finRange L.length).toArray.size = L.length := by simp
  rw [es] at h
  refine h.mono ?_
  rintro e w' ⟨rfl, q, os, rfl⟩
  refine ⟨rfl, fun B hg => below_grow' (below_putRow' _ (Below.refl _ _) hg) (by rw [size_putRow]; exact hB B hg) _, ?_⟩
  have hs : ((List.finRange L.length).toArray.toList.mergeSort fun x y => !ltOf (cfF L L.length) y x).toArray.size = (List.finRange L.length).toArray.size := by simp
  have hh := SW.holds (⟨q, os, rfl⟩ : SW (fun i : Fin L.length => Value.int .i64 (i.val : Int)) W g 0 _ (sortWorld (fun i : Fin L.length => Value.int .i64 (i.val : Int)) W g 0 q ((List.finRange L.length).toArray.toList.mergeSort fun x y => !ltOf (cfF L L.length) y x).toArray os)) hw.inside hH hs
  refine .inr ⟨_, rfl, ?_, fun j hj => ?_⟩
  · unfold sortWorld; rw [size_grow, size_putRow]; have := hw.inside; show g < W.heap.size + _; omega
  · rw [Addr.add_lit]
    have hj2 : j < L.length := by simpa [natCells, orderN_len, bsOf_len] using hj
    have := (hh j (by rw [hs]; simpa using hj2)).1
    rw [this]
    unfold natCells
    rw [← sortedF, List.map_map, List.getElem?_map]
    rw [getElem!_pos _ _ (by rw [hs]; simpa using hj2)]
    simp only [List.getElem_toArray, Function.comp]
    rw [List.getElem?_eq_getElem (by simpa using hj2)]
    rfl
end Go.Proofs.Ytjioemjgndnofaa
