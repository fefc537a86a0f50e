/-
  When a state's numbers are possible, as propositions: the state's own, a lane's, a player's, a card's. No conditions.
-/
import Derived.Test.YtkalpclckgbedaaStRight
import Derived.Test.YtkalpclckgbedaaStAll
import Derived.Test.YtkalpclckgbedaaStPiles
namespace Go.Proofs.Ytkalpclckgbedaa
open Go.ChangeShapes Go.WideShapes Go.ChangeAt Go.RowKit
set_option linter.unusedVariables false
set_option linter.unusedSimpArgs false
def LaneOK (c : Sc) (L : Nat → List Ins) (i : Nat) : Prop := -1 ≤ c.place i ∧ ¬ (c.opn i = true ∧ c.place i < 0) ∧ (L (2 * i)).length ≤ 4 ∧ (L (2 * i + 1)).length ≤ 4
def PlayOK (c : Sc) (L : Nat → List Ins) (k : Nat) : Prop := betB (c.energy k) 0 9 = true ∧ betB (c.bonus k) (-9) 9 = true ∧ (L (6 + 3 * k + 1)).length ≤ 7
def numB (x : Ins) : Bool := decide (1 ≤ x.id) && (decide (-1 ≤ x.card) && (betB x.cost 0 9 && (betB x.power (-999) 999 && betB x.plus (-999) 999)))
def CardOK (next seat : Int) (x : Ins) : Prop := x.owner = seat ∧ x.id < next ∧ numB x = true
def seatOf (q : Nat) : Nat := if q < 6 then q % 2 else (q - 6) / 3
def RightOK (c : Sc) (L : Nat → List Ins) : Prop := headB c = true ∧ (∀ i, i < 3 → LaneOK c L i) ∧ (∀ k, k < 2 → PlayOK c L k) ∧ (∀ q, q < 12 → ∀ x ∈ L q, CardOK c.next (seatOf q : Nat) x) ∧ ((catL L 12).map (·.id)).Nodup
/-- The document's row of piles is the rows of the state in another order. -/
theorem piles_perm (L : Nat → List Ins) : (pilesL L 2).Perm (catL L 12) := by
  have e1 : pilesL L 2 = [L 6, L 7, L 8, L 0, L 2, L 4, L 9, L 10, L 11, L 1, L 3, L 5].flatten := by
    simp [pilesL, mineL, handL, sideL, List.append_assoc]
  have e2 : catL L 12 = [L 0, L 1, L 2, L 3, L 4, L 5, L 6, L 7, L 8, L 9, L 10, L 11].flatten := by
    simp [catL, List.append_assoc]
  rw [e1, e2]
  refine List.Perm.flatten ?_
  have h : ∀ (f : Nat → List Ins) (a b : List Nat), a.Perm b → (a.map f).Perm (b.map f) := fun f a b h => h.map f
  exact h L [6, 7, 8, 0, 2, 4, 9, 10, 11, 1, 3, 5] [0, 1, 2, 3, 4, 5, 6, 7, 8, 9, 10, 11] (by decide)
theorem piles_mem {L : Nat → List Ins} {P : Int → Ins → Prop} : (∀ j (h : j < (pilesL L 2).length), ∀ s : Int, (seatsL L 2)[j]? = some (.int .i64 s) → P s (pilesL L 2)[j]) ↔ ∀ q, q < 12 → ∀ x ∈ L q, P (seatOf q : Nat) x := by
  have e1 : pilesL L 2 = mineL L 0 ++ mineL L 1 := by simp [pilesL]
  have e2 : seatsL L 2 = List.replicate (mineL L 0).length (.int .i64 0) ++ List.replicate (mineL L 1).length (.int .i64 1) := by simp [seatsL]
  have m0 : mineL L 0 = L 6 ++ L 7 ++ L 8 ++ (L 0 ++ L 2 ++ L 4) := by simp [mineL, handL, sideL]
  have m1 : mineL L 1 = L 9 ++ L 10 ++ L 11 ++ (L 1 ++ L 3 ++ L 5) := by simp [mineL, handL, sideL]
  have key : (∀ j (h : j < (pilesL L 2).length), ∀ s : Int, (seatsL L 2)[j]? = some (.int .i64 s) → P s (pilesL L 2)[j]) ↔ (∀ x ∈ mineL L 0, P 0 x) ∧ ∀ x ∈ mineL L 1, P 1 x := by
    constructor
    · intro h
      constructor
      · intro x hx
        obtain ⟨j, hj, rfl⟩ := List.mem_iff_getElem.1 hx
        have hj2 : j < (pilesL L 2).length := by rw [e1, List.length_append]; omega
        have h2 := h j hj2 0 (by rw [e2, List.getElem?_append_left (by simpa using hj), List.getElem?_replicate_of_lt hj])
        have e : (pilesL L 2)[j] = (mineL L 0)[j] := by simp only [e1]; exact List.getElem_append_left hj
        rwa [e] at h2
      · intro x hx
        obtain ⟨j, hj, rfl⟩ := List.mem_iff_getElem.1 hx
        have hj2 : (mineL L 0).length + j < (pilesL L 2).length := by rw [e1, List.length_append]; omega
        have h2 := h _ hj2 1 (by rw [e2, List.getElem?_append_right (by simp), List.length_replicate, Nat.add_sub_cancel_left, List.getElem?_replicate_of_lt hj])
        have e : (pilesL L 2)[(mineL L 0).length + j] = (mineL L 1)[j] := by
          simp only [e1]
          rw [List.getElem_append_right (by omega)]
          congr 1
          omega
        rwa [e] at h2
    · rintro ⟨h0, h1⟩ j hj s hs
      rw [e2] at hs
      by_cases hl : j < (mineL L 0).length
      · rw [List.getElem?_append_left (by simpa using hl), List.getElem?_replicate_of_lt hl] at hs
        injection hs with hs
        injection hs with _ hs
        subst hs
        have e : (pilesL L 2)[j] = (mineL L 0)[j] := by simp only [e1]; exact List.getElem_append_left hl
        rw [e]
        exact h0 _ (List.getElem_mem _)
      · have hj2 : j - (mineL L 0).length < (mineL L 1).length := by
          have h3 := hj
          rw [e1, List.length_append] at h3
          omega
        rw [List.getElem?_append_right (by simp; omega), List.length_replicate, List.getElem?_replicate_of_lt hj2] at hs
        injection hs with hs
        injection hs with _ hs
        subst hs
        have e : (pilesL L 2)[j] = (mineL L 1)[j - (mineL L 0).length] := by
          simp only [e1]
          rw [List.getElem_append_right (by omega)]
        rw [e]
        exact h1 _ (List.getElem_mem _)
  rw [key, m0, m1]
  constructor
  · rintro ⟨h0, h1⟩ q hq x hx
    match q, hq with
    | 0, _ => exact h0 x (by simp [hx])
    | 1, _ => exact h1 x (by simp [hx])
    | 2, _ => exact h0 x (by simp [hx])
    | 3, _ => exact h1 x (by simp [hx])
    | 4, _ => exact h0 x (by simp [hx])
    | 5, _ => exact h1 x (by simp [hx])
    | 6, _ => exact h0 x (by simp [hx])
    | 7, _ => exact h0 x (by simp [hx])
    | 8, _ => exact h0 x (by simp [hx])
    | 9, _ => exact h1 x (by simp [hx])
    | 10, _ => exact h1 x (by simp [hx])
    | 11, _ => exact h1 x (by simp [hx])
  · intro h
    constructor
    · intro x hx
      simp only [List.mem_append] at hx
      rcases hx with ((hx | hx) | hx) | ((hx | hx) | hx)
      · exact h 6 (by omega) x hx
      · exact h 7 (by omega) x hx
      · exact h 8 (by omega) x hx
      · exact h 0 (by omega) x hx
      · exact h 2 (by omega) x hx
      · exact h 4 (by omega) x hx
    · intro x hx
      simp only [List.mem_append] at hx
      rcases hx with ((hx | hx) | hx) | ((hx | hx) | hx)
      · exact h 9 (by omega) x hx
      · exact h 10 (by omega) x hx
      · exact h 11 (by omega) x hx
      · exact h 1 (by omega) x hx
      · exact h 3 (by omega) x hx
      · exact h 5 (by omega) x hx
theorem nodup_step {l : List Int} {j : Nat} (hj : j < l.length) (h : (l.take j).Nodup) : (l.take (j + 1)).Nodup ↔ ∀ n (hn : n < j), l[n]'(by omega) ≠ l[j] := by
  rw [List.take_succ_eq_append_getElem hj, List.nodup_append]
  constructor
  · intro h2 n hn
    refine h2.2.2 _ ?_ _ (List.mem_singleton.2 rfl)
    rw [List.mem_iff_getElem]
    exact ⟨n, by rw [List.length_take]; omega, by simp⟩
  · intro h2
    refine ⟨h, by simp, ?_⟩
    intro a ha b hb
    rw [List.mem_singleton] at hb
    subst hb
    obtain ⟨n, hn, rfl⟩ := List.mem_iff_getElem.1 ha
    rw [List.length_take] at hn
    rw [List.getElem_take]
    exact h2 n (by omega)
end Go.Proofs.Ytkalpclckgbedaa
