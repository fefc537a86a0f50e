/-
  What BoardBack wants: a card that was nowhere and is put is found where it was put, and taken. No conditions.
-/
import Derived.Test.YtkalpclckgbedaaBrdO
namespace Go.Proofs.Ytkalpclckgbedaa
open Go.ChangeShapes Go.WideShapes Go.ChangeAt Go.RowKit
set_option linter.unusedVariables false
set_option linter.unusedSimpArgs false
theorem findI_none {id : Int} {l : List Ins} (h : findI l id = none) {j : Nat} (hj : j < l.length) : l[j].id ≠ id := by
  induction l generalizing j with
  | nil => cases hj
  | cons x l ih =>
    unfold findI at h
    by_cases e : x.id = id
    · rw [if_pos e] at h; cases h
    · rw [if_neg e] at h
      cases j with
      | zero => exact e
      | succ j =>
        refine ih ?_ (by simpa using hj)
        cases hf : findI l id with
        | none => rfl
        | some n => rw [hf] at h; cases h
theorem placeFrom_all {L : Nat → List Ins} {id : Int} : ∀ (f r : Nat), placeFrom L id r f = none → ∀ q, r ≤ q → q < r + f → findI (L q) id = none
  | 0, r, _, q, h1, h2 => by omega
  | f + 1, r, h, q, h1, h2 => by
    cases hf : findI (L r) id with
    | some n => rw [placeFrom_hit f hf] at h; cases h
    | none =>
      rw [placeFrom_miss f hf] at h
      by_cases e : q = r
      · rw [e]; exact hf
      · exact placeFrom_all f (r + 1) h q (by omega) (by omega)
theorem place_put {L : Nat → List Ins} {x : Ins} (h : placeO L x.id = none) {q : Nat} (hq : q < 6) : placeO (setRow L q (L q ++ [x])) x.id = some (q, (L q).length) := by
  have hall := placeFrom_all 6 0 h
  have h1 : findI (setRow L q (L q ++ [x]) (0 + q)) x.id = some (L q).length := by
    rw [Nat.zero_add, setRow_at]
    refine findI_hit (by simp) (by simp) fun j hj hjl => ?_
    rw [List.getElem_append_left hjl]
    exact findI_none (hall q (by omega) (by omega)) hjl
  have h2 := placeFrom_at (L := setRow L q (L q ++ [x])) q 0 (5 - q) (fun p _ hp => by
    rw [setRow_ne _ _ (by omega)]
    exact hall p (by omega) (by omega)) h1
  rw [Nat.zero_add, show q + (5 - q) + 1 = 6 by omega] at h2
  exact h2
theorem take_back {L : Nat → List Ins} {x : Ins} (h : placeO L x.id = none) {q : Nat} (hq : q < 6) : takeL (setRow L q (L q ++ [x])) x.id = L := by
  unfold takeL
  rw [place_put h hq]
  funext p
  show setRow (setRow L q (L q ++ [x])) q _ p = L p
  by_cases e : p = q
  · subst e
    rw [setRow_at, setRow_at]
    simp
  · rw [setRow_ne _ _ e, setRow_ne _ _ e]
theorem get_back {L : Nat → List Ins} {x : Ins} (h : placeO L x.id = none) {q : Nat} (hq : q < 6) : getI (setRow L q (L q ++ [x])) x.id = x := by
  unfold getI
  rw [place_put h hq]
  show (setRow L q (L q ++ [x]) q).getD (L q).length zeroIns = x
  rw [setRow_at, List.getD_eq_getElem?_getD, List.getElem?_append_right (Nat.le_refl _), Nat.sub_self]
  rfl
theorem room_back {L : Nat → List Ins} {x : Ins} {i k : Nat} (hi : i < 3) (hk : k < 2) (hl : (L (2 * i + k)).length < 4) :
    roomZ L (k : Int) (i : Int) = 4 - ((L (2 * i + k)).length : Int) ∧ roomZ (setRow L (2 * i + k) (L (2 * i + k) ++ [x])) (k : Int) (i : Int) = 4 - ((L (2 * i + k)).length : Int) - 1 := by
  have hb : ¬ ((k : Int) < 0 ∨ 1 < (k : Int) ∨ (i : Int) < 0 ∨ 2 < (i : Int)) := by omega
  constructor
  · unfold roomZ
    rw [if_neg hb, Int.toNat_natCast, Int.toNat_natCast, if_neg (by omega)]
  · unfold roomZ
    rw [if_neg hb, Int.toNat_natCast, Int.toNat_natCast, setRow_at, List.length_append, List.length_singleton, if_neg (by omega)]
    omega
end Go.Proofs.Ytkalpclckgbedaa
