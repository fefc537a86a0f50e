/-
  The library's functions strings.IndexByte and strings.HasPrefix, by the library's own contracts, in the words of lists of numbers. No statement.
-/
import Derived.Test.YtnlnkjjegaihcaaRows
import Derived.Test.YtnlnkjjegaihcaaTokL
import Derived.Shelf.Small.Strs
import Derived.Shelf.Strings.Prefix
import Derived.Shelf.Lay
import Derived.Ground.NamesProg
import Derived.WalkKit
import Derived.ProofKit
namespace Go.Proofs.Ytnlnkjjegaihcaa
open Go.Shelf
shelf_lay Lays.n137 Nm 137 at Try as indexByteL
shelf_lay Lays.n99 Nm 99 at Try as hasPrefixL
open Go.ChangeShapes Go.WideShapes Go.ChangeAt Go.RowKit
theorem bL_map (s : ByteArray) : bL s = s.data.toList.map fun c : UInt8 => (c.toNat : Int) := by
  apply List.ext_getElem?
  intro i
  by_cases h : i < s.size
  · rw [bL_get s i h, List.getElem?_map, gB_eq s i h]
    have : s.data.toList[i]? = some (s[i]'h) := by
      rw [Array.getElem?_toList]
      exact Array.getElem?_eq_getElem (by simpa using h)
    rw [this]; rfl
  · rw [List.getElem?_eq_none (by rw [bL_length]; omega), List.getElem?_eq_none (by rw [List.length_map, Array.length_toList]; exact Nat.le_of_not_lt h)]
/-- Where a byte stands first. -/
def idxOf (c : Int) (l : List Int) : Int := if tw (notC c) l = l.length then -1 else (tw (notC c) l : Int)
theorem indexByte_idx (c : UInt8) : ∀ l : List UInt8, Lib.indexByte l c = idxOf (c.toNat : Int) (l.map fun c : UInt8 => (c.toNat : Int))
  | [] => by simp [Lib.indexByte, idxOf, tw]
  | b :: l => by
    have ih := indexByte_idx c l
    unfold Lib.indexByte
    by_cases h : b = c
    · subst h
      rw [if_pos (by simp)]
      unfold idxOf
      rw [List.map_cons, tw_stop _ (by unfold notC; simp)]
      simp
    · have hn : notC (c.toNat : Int) (b.toNat : Int) = true := by
        rw [notC_iff]
        intro e
        exact h (UInt8.toNat_inj.1 (by omega))
      rw [if_neg (by simpa using h), ih]
      unfold idxOf
      rw [List.map_cons, tw_cons _ hn, List.length_cons]
      have := tw_le (notC (c.toNat : Int)) (l.map fun c : UInt8 => (c.toNat : Int))
      by_cases e : tw (notC (c.toNat : Int)) (l.map fun c : UInt8 => (c.toNat : Int)) = (l.map fun c : UInt8 => (c.toNat : Int)).length
      · rw [if_pos e, if_pos (by simp), if_pos (by omega)]
      · rw [if_neg e, if_neg (by simp), if_neg (by omega)]; try omega
theorem IndexByte_any (s : ByteArray) (c : Nat) (hc : c < 256) (w : World) : Calls Try.prog 61 #[.string s, .int .u8 (c : Int)] w fun e w' => e = .returned (.int .i64 (idxOf (c : Int) (bL s))) ∧ w = w' := by
  refine (Any.strings_IndexByte indexByteL s (c : Int) w).mono ?_
  rintro e w' ⟨rfl, rfl⟩
  refine ⟨?_, rfl⟩
  rw [indexByte_idx, bL_map]
  congr 3
  simp
  omega
theorem prefix_map (p l : List UInt8) : p.isPrefixOf l = (p.map fun c : UInt8 => (c.toNat : Int)).isPrefixOf (l.map fun c : UInt8 => (c.toNat : Int)) := by
  induction p generalizing l with
  | nil => simp
  | cons x p ih =>
    cases l with
    | nil => simp
    | cons y l =>
      simp only [List.map_cons, List.isPrefixOf, ih l]
      congr 1
      rw [Bool.eq_iff_iff]
      simp only [beq_iff_eq]
      constructor
      · rintro rfl; rfl
      · intro h; exact UInt8.toNat_inj.1 (by omega)
theorem HasPrefix_any (s p : ByteArray) (w : World) : Calls Try.prog 64 #[.string s, .string p] w fun e w' => e = .returned (.bool ((bL p).isPrefixOf (bL s))) ∧ w = w' := by
  refine (Any.strings_HasPrefix hasPrefixL s p w).mono ?_
  rintro e w' ⟨rfl, rfl⟩
  refine ⟨?_, rfl⟩
  rw [bL_map, bL_map, ← prefix_map]; rfl
/-- The marks, and how the longest is found. -/
def mkL : List (List Int) := [[123], [125], [40], [41], [59], [43], [45], [42], [61], [60], [62], [60, 61], [62, 61], [33, 61]]
def mkStep (l : List Int) (n : Nat) (m : List Int) : Nat := if n < m.length ∧ m.isPrefixOf l = true then m.length else n
theorem mk_fold (l : List Int) : mkL.foldl (mkStep l) 0 = markL l := by
  cases l with
  | nil => simp [mkL, mkStep, markL]
  | cons c r =>
    rw [markL_cons]
    have hd : ∀ d : Int, ([d] : List Int).isPrefixOf (c :: r) = decide (c = d) := by
      intro d
      rw [Bool.eq_iff_iff]; simp [List.isPrefixOf]; exact eq_comm
    have he : ∀ d e : Int, ([d, e] : List Int).isPrefixOf (c :: r) = (decide (c = d) && decide (r.head? = some e)) := by
      intro d e
      rw [Bool.eq_iff_iff]
      cases r with
      | nil => simp [List.isPrefixOf]
      | cons y r => simp [List.isPrefixOf]; rw [@eq_comm _ d, @eq_comm _ e]
    simp only [mkL, List.foldl_cons, List.foldl_nil, mkStep, hd, he, List.length_cons, List.length_nil, decide_eq_true_eq, Bool.and_eq_true]
    by_cases e61 : r.head? = some 61
    all_goals
      by_cases h123 : c = 123
      · subst h123; simp [e61]
      by_cases h125 : c = 125
      · subst h125; simp [e61]
      by_cases h40 : c = 40
      · subst h40; simp [e61]
      by_cases h41 : c = 41
      · subst h41; simp [e61]
      by_cases h59 : c = 59
      · subst h59; simp [e61]
      by_cases h43 : c = 43
      · subst h43; simp [e61]
      by_cases h45 : c = 45
      · subst h45; simp [e61]
      by_cases h42 : c = 42
      · subst h42; simp [e61]
      by_cases h61 : c = 61
      · subst h61; simp [e61]
      by_cases h60 : c = 60
      · subst h60; simp [e61]
      by_cases h62 : c = 62
      · subst h62; simp [e61]
      by_cases h33 : c = 33
      · subst h33; simp [e61]
      simp [h123, h125, h40, h41, h59, h43, h45, h42, h61, h60, h62, h33]
theorem mk_bd (l : List Int) (k : Nat) : (mkL.take k).foldl (mkStep l) 0 ≤ 2 := by
  have key : ∀ (m : List (List Int)) (n : Nat), n ≤ 2 → (∀ x ∈ m, x.length ≤ 2) → m.foldl (mkStep l) n ≤ 2 := by
    intro m
    induction m with
    | nil => intro n h _; exact h
    | cons x m ih =>
      intro n h hm
      rw [List.foldl_cons]
      refine ih _ ?_ (fun y hy => hm y (by simp [hy]))
      unfold mkStep
      split
      · exact hm x (by simp)
      · exact h
  refine key _ 0 (by decide) fun x hx => ?_
  have : ∀ x ∈ mkL, x.length ≤ 2 := by decide
  exact this x (List.mem_of_mem_take hx)
theorem mk_next (l : List Int) (k : Nat) (h : k < 14) : (mkL.take (k + 1)).foldl (mkStep l) 0 = mkStep l ((mkL.take k).foldl (mkStep l) 0) (mkL[k]'h) := by
  rw [List.take_succ_eq_append_getElem h, List.foldl_append]; rfl
/-- The marks as strings. -/
def mkS : List ByteArray := mkL.map strOfNums
def mkCs : List Value := mkS.map Value.string
theorem mk_by (k : Nat) (h : k < 14) : ∀ x ∈ mkL[k]'h, 0 ≤ x ∧ x < 256 := by
  have : ∀ y ∈ mkL, ∀ x ∈ y, 0 ≤ x ∧ x < 256 := by decide
  exact this _ (List.getElem_mem _)
theorem mkCs_at (k : Nat) (h : k < 14) : mkCs[k]? = some (.string (strOfNums (mkL[k]'h))) := by
  unfold mkCs mkS
  rw [List.getElem?_map, List.getElem?_map, List.getElem?_eq_getElem h]; rfl
theorem mk_len (k : Nat) (h : k < 14) : 1 ≤ (mkL[k]'h).length ∧ (mkL[k]'h).length ≤ 2 := by
  have : ∀ y ∈ mkL, 1 ≤ y.length ∧ y.length ≤ 2 := by decide
  exact this _ (List.getElem_mem _)
end Go.Proofs.Ytnlnkjjegaihcaa
