/-
  Layer 21: an exchange within a row of the call's own, the closure that hands out the draws, a copy. No conditions but that the lists can be read.
-/
import Derived.Test.YticbnanfijkodaaShufA
import Derived.Test.YticbnanfijkodaaBase
import Derived.Test.YticbnanfijkodaaKeeps
import Derived.Test.YticbnanfijkodaaOpenI
import Derived.BigRegion
namespace Go.Proofs.Yticbnanfijkodaa
open Go.ChangeShapes Go.WideShapes Go.ChangeAt Go.RowKit
set_option linter.unusedVariables false
set_option linter.unusedSimpArgs false
theorem own_write {w : World} {base n c g i : Nat} {T : TypeId} {xs : List Value} (h : w.ownsRow base T 1 (.slice (some ⟨g, 0, none⟩) n c) n xs) (hi : i < n) (u : Value) :
    (w.setCell ⟨g, i, none⟩ u).ownsRow base T 1 (.slice (some ⟨g, 0, none⟩) n c) n (xs.set i u) := by
  obtain ⟨hl, h⟩ := h
  rcases h with ⟨h, _⟩ | ⟨g', cap, cur, h, hb, hw, h1, h2, h3, h4⟩
  · cases h
  · injection h with h5 h6 h7
    injection h5 with h5
    injection h5 with h5
    subst h5 h7
    have hW : Whole w g T cur := hw
    refine ⟨by simpa using hl, .inr ⟨g, c, cur.setIfInBounds i u, rfl, hb, hW.write i u, h1, h2, by simpa using h3, ?_⟩⟩
    rw [← h4, Array.toList_setIfInBounds, List.take_set]
theorem own_at {w : World} {base n c g i : Nat} {T : TypeId} {x : List Int} (h : w.ownsRow base T 1 (.slice (some ⟨g, 0, none⟩) n c) n (ints x)) (hi : i < n) :
    w.cell? ⟨g, i, none⟩ = some (.int .i64 (x.getD i 0)) ∧ w.frozen? ⟨g, i, none⟩ = false := by
  obtain ⟨hl, h⟩ := h
  rcases h with ⟨h, _⟩ | ⟨g', cap, cur, h, hb, hw, h1, h2, h3, h4⟩
  · cases h
  · injection h with h5 h6 h7
    injection h5 with h5
    injection h5 with h5
    subst h5 h7
    have hW : Whole w g T cur := hw
    refine ⟨?_, hW.thawed i⟩
    have hx : i < x.length := by simp [ints] at hl; omega
    have e : (cur.toList.take (n * 1))[i]? = (ints x)[i]? := by rw [h4]
    rw [List.getElem?_take, if_pos (by omega), Array.getElem?_toList] at e
    rw [hW.read, e]
    simp [ints, hx]
theorem ints_set (x : List Int) (i : Nat) (u : Int) : (ints x).set i (.int .i64 u) = ints (x.set i u) := by
  unfold ints
  rw [List.map_set]
theorem pExch (g n c a b : Nat) (x : List Int) (base : Nat) (w : World) (h : w.ownsRow base 3 1 (.slice (some ⟨g, 0, none⟩) n c) n (ints x)) (ha : a < n) (hb : b < n) (hn : n ≤ 9223372036854775807) :
    Calls Try.prog 17 #[.slice (some ⟨g, 0, none⟩) n c, .int .i64 a, .int .i64 b] w fun e w' => e = .returned (.tuple #[]) ∧ w'.ownsRow base 3 1 (.slice (some ⟨g, 0, none⟩) n c) n (ints (swp x a b)) ∧ Keeps (fun k => k = g) w w' := by
  obtain ⟨ca, fa⟩ := own_at h ha
  obtain ⟨cb, fb⟩ := own_at h hb
  have hs : ∀ N : Nat, (((w.drewN N).setCell ⟨g, a, none⟩ (.int .i64 (x.getD b 0))).setCell ⟨g, b, none⟩ (.int .i64 (x.getD a 0))).ownsRow base 3 1 (.slice (some ⟨g, 0, none⟩) n c) n (ints (swp x a b)) ∧ Keeps (fun k => k = g) w (((w.drewN N).setCell ⟨g, a, none⟩ (.int .i64 (x.getD b 0))).setCell ⟨g, b, none⟩ (.int .i64 (x.getD a 0))) := by
    intro N
    have h0 : (w.drewN N).ownsRow base 3 1 (.slice (some ⟨g, 0, none⟩) n c) n (ints x) := h
    have h2 := own_write (own_write h0 ha (.int .i64 (x.getD b 0))) hb (.int .i64 (x.getD a 0))
    rw [ints_set, ints_set] at h2
    have k0 : Keeps (fun k => k = g) w (w.drewN N) := ⟨rfl, rfl, rfl, Nat.le_refl _, fun _ _ _ => rfl⟩
    have k1 := k0.setCell (p := ⟨g, a, none⟩) rfl (.int .i64 (x.getD b 0))
    exact ⟨h2, k1.setCell (p := ⟨g, b, none⟩) rfl (.int .i64 (x.getD a 0))⟩
  have h3 := own_write h ha (.int .i64 (x.getD b 0))
  rw [ints_set] at h3
  obtain ⟨c2, f2⟩ := own_at h3 hb
  have e2 : (x.set a (x.getD b 0)).getD b 0 = x.getD b 0 := by
    rw [List.getD_eq_getElem?_getD, List.getElem?_set]
    by_cases e : a = b
    · subst e
      have hx : a < x.length := by have := h.1; simp [ints] at this; omega
      simp [hx]
    · simp [e]
  rw [e2] at c2
  obtain ⟨xa, hxa⟩ : ∃ v, x.getD a 0 = v := ⟨_, rfl⟩
  obtain ⟨xb, hxb⟩ : ∃ v, x.getD b 0 = v := ⟨_, rfl⟩
  rw [hxa] at ca
  rw [hxb] at cb c2 f2
  simp only [hxa, hxb] at hs
  have HS := Lib.hid hs
  clear hs h hxa hxb h3 e2
  have ia : (a : Int) < (n : Int) := by omega
  have ib : (b : Int) < (n : Int) := by omega
  have ia0 : (0 : Int) ≤ (a : Int) := by omega
  have ib0 : (0 : Int) ≤ (b : Int) := by omega
  go_enter Try.func17, Try.ntmps17
  go_region
  all_goals (go_end0; exact ⟨rfl, HS.out _⟩)
end Go.Proofs.Yticbnanfijkodaa
