/-
  The texts of package atlas; its Lines, Line, Count, and the document's Lines; the statement AtlasLines. No conditions.
-/
import Derived.Test.YtljdgdphldckhaaLaid
import Derived.Test.YtljdgdphldckhaaRet
import Derived.Deep.RegionHeld3
import Derived.Deep.DeepCutAuto
namespace Go.Proofs.Ytljdgdphldckhaa
open Go Go.RowKit
set_option linter.unusedVariables false
set_option linter.unusedSimpArgs false
def aSL : List ByteArray := [
  ⟨#[112, 108, 97, 99, 101, 32, 34, 79, 108, 100, 32, 77, 105, 108, 108, 34, 32, 123, 32, 125]⟩,
  ⟨#[112, 108, 97, 99, 101, 32, 34, 71, 114, 101, 101, 110, 32, 72, 105, 108, 108, 34, 32, 123, 32, 97, 108, 119, 97, 121, 115, 32, 49, 32, 123, 32, 97, 117, 114, 97, 32, 40, 98, 111, 116, 104, 32, 104, 101, 114, 101, 32, 97, 108, 108, 41, 32, 49, 59, 32, 125, 32, 125]⟩,
  ⟨#[112, 108, 97, 99, 101, 32, 34, 66, 108, 97, 99, 107, 32, 77, 97, 114, 115, 104, 34, 32, 123, 32, 97, 108, 119, 97, 121, 115, 32, 49, 32, 123, 32, 97, 117, 114, 97, 32, 40, 98, 111, 116, 104, 32, 104, 101, 114, 101, 32, 97, 108, 108, 41, 32, 45, 49, 59, 32, 125, 32, 125]⟩,
  ⟨#[112, 108, 97, 99, 101, 32, 34, 77, 97, 114, 107, 101, 116, 34, 32, 123, 32, 114, 101, 118, 101, 97, 108, 32, 123, 32, 100, 114, 97, 119, 32, 98, 111, 116, 104, 32, 49, 59, 32, 125, 32, 125]⟩,
  ⟨#[112, 108, 97, 99, 101, 32, 34, 87, 101, 108, 108, 34, 32, 123, 32, 101, 110, 116, 101, 114, 32, 123, 32, 100, 114, 97, 119, 32, 109, 105, 110, 101, 32, 49, 59, 32, 125, 32, 125]⟩,
  ⟨#[112, 108, 97, 99, 101, 32, 34, 70, 111, 114, 103, 101, 34, 32, 123, 32, 101, 110, 116, 101, 114, 32, 123, 32, 112, 111, 119, 101, 114, 32, 105, 116, 32, 49, 59, 32, 125, 32, 125]⟩,
  ⟨#[112, 108, 97, 99, 101, 32, 34, 82, 117, 105, 110, 34, 32, 123, 32, 101, 110, 116, 101, 114, 32, 123, 32, 112, 111, 119, 101, 114, 32, 105, 116, 32, 45, 49, 59, 32, 125, 32, 125]⟩,
  ⟨#[112, 108, 97, 99, 101, 32, 34, 78, 97, 114, 114, 111, 119, 32, 80, 97, 115, 115, 34, 32, 123, 32, 97, 108, 119, 97, 121, 115, 32, 49, 32, 123, 32, 105, 102, 32, 99, 111, 117, 110, 116, 32, 40, 98, 111, 116, 104, 32, 104, 101, 114, 101, 32, 97, 108, 108, 41, 32, 62, 61, 32, 52, 32, 123, 32, 98, 97, 114, 32, 98, 111, 116, 104, 32, 104, 101, 114, 101, 59, 32, 125, 32, 125, 32, 125]⟩,
  ⟨#[112, 108, 97, 99, 101, 32, 34, 87, 97, 116, 99, 104, 116, 111, 119, 101, 114, 34, 32, 123, 32, 97, 108, 119, 97, 121, 115, 32, 49, 32, 123, 32, 115, 104, 105, 101, 108, 100, 32, 40, 98, 111, 116, 104, 32, 104, 101, 114, 101, 32, 97, 108, 108, 41, 59, 32, 125, 32, 125]⟩,
  ⟨#[112, 108, 97, 99, 101, 32, 34, 82, 111, 112, 101, 32, 66, 114, 105, 100, 103, 101, 34, 32, 123, 32, 101, 110, 100, 32, 123, 32, 109, 111, 118, 101, 32, 40, 98, 111, 116, 104, 32, 104, 101, 114, 101, 32, 119, 101, 97, 107, 101, 115, 116, 41, 32, 114, 105, 103, 104, 116, 59, 32, 125, 32, 125]⟩,
  ⟨#[112, 108, 97, 99, 101, 32, 34, 84, 97, 118, 101, 114, 110, 34, 32, 123, 32, 101, 110, 100, 32, 123, 32, 112, 111, 119, 101, 114, 32, 40, 98, 111, 116, 104, 32, 104, 101, 114, 101, 32, 99, 111, 115, 116, 32, 60, 61, 32, 50, 32, 97, 108, 108, 41, 32, 49, 59, 32, 125, 32, 125]⟩,
  ⟨#[112, 108, 97, 99, 101, 32, 34, 67, 104, 97, 112, 101, 108, 34, 32, 123, 32, 114, 101, 118, 101, 97, 108, 32, 123, 32, 115, 112, 97, 119, 110, 32, 34, 80, 105, 108, 103, 114, 105, 109, 34, 32, 98, 111, 116, 104, 32, 104, 101, 114, 101, 32, 50, 59, 32, 125, 32, 125]⟩,
  ⟨#[112, 108, 97, 99, 101, 32, 34, 81, 117, 97, 114, 114, 121, 34, 32, 123, 32, 101, 110, 116, 101, 114, 32, 123, 32, 101, 110, 101, 114, 103, 121, 32, 109, 105, 110, 101, 32, 49, 59, 32, 125, 32, 125]⟩,
  ⟨#[112, 108, 97, 99, 101, 32, 34, 84, 97, 114, 32, 80, 105, 116, 34, 32, 123, 32, 101, 110, 116, 101, 114, 32, 123, 32, 101, 110, 101, 114, 103, 121, 32, 109, 105, 110, 101, 32, 45, 49, 59, 32, 125, 32, 125]⟩,
  ⟨#[112, 108, 97, 99, 101, 32, 34, 77, 105, 114, 114, 111, 114, 32, 76, 97, 107, 101, 34, 32, 123, 32, 101, 110, 116, 101, 114, 32, 123, 32, 115, 112, 97, 119, 110, 32, 34, 69, 99, 104, 111, 34, 32, 116, 104, 101, 105, 114, 115, 32, 104, 101, 114, 101, 32, 49, 59, 32, 125, 32, 125]⟩,
  ⟨#[112, 108, 97, 99, 101, 32, 34, 65, 114, 101, 110, 97, 34, 32, 123, 32, 97, 108, 119, 97, 121, 115, 32, 50, 32, 123, 32, 97, 117, 114, 97, 32, 40, 98, 111, 116, 104, 32, 104, 101, 114, 101, 32, 115, 116, 114, 111, 110, 103, 101, 115, 116, 41, 32, 51, 59, 32, 125, 32, 125]⟩,
  ⟨#[112, 108, 97, 99, 101, 32, 34, 78, 117, 114, 115, 101, 114, 121, 34, 32, 123, 32, 97, 108, 119, 97, 121, 115, 32, 50, 32, 123, 32, 97, 117, 114, 97, 32, 40, 98, 111, 116, 104, 32, 104, 101, 114, 101, 32, 119, 101, 97, 107, 101, 115, 116, 41, 32, 51, 59, 32, 125, 32, 125]⟩,
  ⟨#[112, 108, 97, 99, 101, 32, 34, 67, 114, 111, 115, 115, 114, 111, 97, 100, 115, 34, 32, 123, 32, 101, 110, 116, 101, 114, 32, 123, 32, 109, 111, 118, 101, 32, 105, 116, 32, 108, 101, 102, 116, 59, 32, 125, 32, 125]⟩,
  ⟨#[112, 108, 97, 99, 101, 32, 34, 68, 114, 97, 103, 111, 110, 32, 72, 111, 97, 114, 100, 34, 32, 123, 32, 97, 108, 119, 97, 121, 115, 32, 49, 32, 123, 32, 105, 102, 32, 114, 111, 117, 110, 100, 32, 62, 61, 32, 54, 32, 123, 32, 100, 111, 117, 98, 108, 101, 32, 98, 111, 116, 104, 32, 104, 101, 114, 101, 59, 32, 125, 32, 125, 32, 125]⟩,
  ⟨#[112, 108, 97, 99, 101, 32, 34, 81, 117, 105, 99, 107, 115, 97, 110, 100, 34, 32, 123, 32, 101, 110, 100, 32, 123, 32, 112, 111, 119, 101, 114, 32, 40, 98, 111, 116, 104, 32, 104, 101, 114, 101, 32, 115, 116, 114, 111, 110, 103, 101, 115, 116, 41, 32, 45, 50, 59, 32, 125, 32, 125]⟩,
  ⟨#[112, 108, 97, 99, 101, 32, 34, 76, 105, 98, 114, 97, 114, 121, 34, 32, 123, 32, 114, 101, 118, 101, 97, 108, 32, 123, 32, 100, 114, 97, 119, 32, 98, 111, 116, 104, 32, 50, 59, 32, 125, 32, 125]⟩,
  ⟨#[112, 108, 97, 99, 101, 32, 34, 71, 97, 108, 108, 111, 119, 115, 34, 32, 123, 32, 101, 110, 100, 32, 123, 32, 105, 102, 32, 114, 111, 117, 110, 100, 32, 61, 32, 52, 32, 123, 32, 100, 101, 115, 116, 114, 111, 121, 32, 40, 98, 111, 116, 104, 32, 104, 101, 114, 101, 32, 119, 101, 97, 107, 101, 115, 116, 41, 59, 32, 125, 32, 125, 32, 125]⟩,
  ⟨#[112, 108, 97, 99, 101, 32, 34, 84, 105, 100, 101, 32, 80, 111, 111, 108, 34, 32, 123, 32, 101, 110, 100, 32, 123, 32, 114, 101, 116, 117, 114, 110, 32, 40, 98, 111, 116, 104, 32, 104, 101, 114, 101, 32, 99, 111, 115, 116, 32, 60, 61, 32, 49, 32, 102, 105, 114, 115, 116, 41, 59, 32, 125, 32, 125]⟩,
  ⟨#[112, 108, 97, 99, 101, 32, 34, 83, 117, 109, 109, 105, 116, 34, 32, 123, 32, 97, 108, 119, 97, 121, 115, 32, 51, 32, 123, 32, 97, 117, 114, 97, 32, 40, 98, 111, 116, 104, 32, 104, 101, 114, 101, 32, 99, 111, 115, 116, 32, 62, 61, 32, 53, 32, 97, 108, 108, 41, 32, 50, 59, 32, 125, 32, 125]⟩]
def aStrs24 (w : World) (g : Nat) : Prop := Whole w g 9 (aSL.map Value.string).toArray
theorem aSL_len : aSL.length = 24 := by kernel_rfl
theorem aStrs24.at_ {w : World} {g : Nat} (h : aStrs24 w g) {k : Nat} (hk : k < 24) : w.cell? ⟨g, k, none⟩ = some (.string (aSL.getD k ⟨#[]⟩)) := by
  rw [Whole.read h k]
  have : k < aSL.length := by rw [aSL_len]; exact hk
  simp [List.getD, this]
def aLinesPost (w : World) (e : Ending) (w' : World) : Prop := ∃ g, e = .returned (.slice (some ⟨g, 0, none⟩) 24 24) ∧ w.heap.size ≤ g ∧ aStrs24 w' g ∧ Below w.heap.size w w'
set_option maxRecDepth 40000 in
set_option maxHeartbeats 3200000 in
theorem aLinesP (w : World) : Calls Try.prog 4 #[] w (aLinesPost w) := by
  go_enter Try.func4, Try.ntmps4
  go_wp2
  go_ret
  exact ⟨w.heap.size, rfl, Nat.le_refl _, Whole.made w 9 (aSL.map Value.string).toArray, (Below.refl _ _).alloc (Nat.le_refl _) _⟩
set_option maxRecDepth 40000 in
set_option maxHeartbeats 3200000 in
theorem aLinesR (w : World) : Calls Try.prog 5 #[] w (aLinesPost w) := by
  go_enter Try.func5, Try.ntmps5
  go_wp2
  go_ret
  exact ⟨w.heap.size, rfl, Nat.le_refl _, Whole.made w 9 (aSL.map Value.string).toArray, (Below.refl _ _).alloc (Nat.le_refl _) _⟩
def aLineV (n : Int) : ByteArray := if 0 ≤ n ∧ n < 24 then aSL.getD n.toNat ⟨#[]⟩ else ⟨#[]⟩
theorem aLineP (n : Int) (w : World) : Calls Try.prog 6 #[.int .i64 n] w fun e w' => e = .returned (.string (aLineV n)) ∧ Below w.heap.size w w' := by
  have hv : aLineV n = if 0 ≤ n ∧ n < 24 then aSL.getD n.toNat ⟨#[]⟩ else ⟨#[]⟩ := rfl
  generalize aLineV n = V at *
  go_enter Try.func6, Try.ntmps6
  by_cases h0 : n < 0
  · go_wp2_with (go_at_call 4; refine (aLinesP _).mono ?_; rintro e w1 ⟨g, rfl, hg, hw, hb⟩)
    go_ret
    exact ⟨by rw [hv, if_neg (by omega)]; rfl, hb⟩
  · by_cases h1 : n < 24
    · obtain ⟨k, rfl⟩ : ∃ k : Nat, n = k := ⟨n.toNat, by omega⟩
      have hk : k < 24 := by omega
      rw [if_pos ⟨by omega, h1⟩, Int.toNat_natCast] at hv
      have hat := fun x g (h : aStrs24 x g) => h.at_ hk
      generalize aSL.getD k ⟨#[]⟩ = tt at *
      subst hv
      go_wp2_with (go_at_call 4; refine (aLinesP _).mono ?_; rintro e w1 ⟨g, rfl, hg, hw, hb⟩; have hc := hat _ _ hw)
      go_ret
      exact ⟨rfl, hb⟩
    · go_wp2_with (go_at_call 4; refine (aLinesP _).mono ?_; rintro e w1 ⟨g, rfl, hg, hw, hb⟩)
      go_ret
      exact ⟨by rw [hv, if_neg (by omega)]; rfl, hb⟩
theorem aCountP (w : World) : Calls Try.prog 8 #[] w fun e w' => e = .returned (.int .i64 24) ∧ Below w.heap.size w w' := by
  go_enter Try.func8, Try.ntmps8
  go_wp2_with (go_at_call 4; refine (aLinesP _).mono ?_; rintro e w1 ⟨g, rfl, hg, hw, hb⟩)
  go_ret
  exact ⟨rfl, hb⟩
theorem aLives16 (w : World) : Calls Try.prog 7 #[] w fun e w' => e = .returned (.bool true) ∧ Below w.heap.size w w' := by
  go_enter Try.func7, Try.ntmps7
  go_wp2_with (first
    | (go_at_call 8; refine (aCountP _).mono ?_; rintro e w1 ⟨rfl, b1⟩)
    | (go_at_call 4; refine (aLinesP _).mono ?_; rintro e w2 ⟨g, rfl, hg, hw, hb⟩))
  go_ret
  exact ⟨rfl, bthen b1 hb⟩
structure aSS (w : World) (g1 g2 : Nat) (x : World) : Prop where
  a : aStrs24 x g1
  b : aStrs24 x g2
  below : Below w.heap.size w x
  ne : g2 ≠ g1
  lo : w.heap.size ≤ g1
structure aSB (w : World) (g2 : Nat) (x : World) : Prop where
  b : aStrs24 x g2
  below : Below w.heap.size w x
theorem aSB.next {w x y : World} {g2 : Nat} (h : aSB w g2 x) (b : Below x.heap.size x y) : aSB w g2 y :=
  ⟨Whole.below h.b b (Whole.inside h.b), h.below.trans (b.mono h.below.size)⟩
theorem aSB.drew {w x : World} {g2 : Nat} (h : aSB w g2 x) : aSB w g2 x.drew := h.next ⟨rfl, rfl, rfl, Nat.le_refl _, fun _ _ => rfl⟩
theorem aSB.flat {w x : World} {g2 k : Nat} {tt : ByteArray} (h : aSB w g2 x) (hat : ∀ x g, aStrs24 x g → x.cell? ⟨g, k, none⟩ = some (.string tt)) : aSB w g2 x ∧ x.cell? ⟨g2, k, none⟩ = some (.string tt) := ⟨h, hat _ _ h.b⟩
theorem aSS.next {w x y : World} {g1 g2 : Nat} (h : aSS w g1 g2 x) (b : Below x.heap.size x y) : aSS w g1 g2 y :=
  ⟨Whole.below h.a b (Whole.inside h.a), Whole.below h.b b (Whole.inside h.b), h.below.trans (b.mono h.below.size), h.ne, h.lo⟩
theorem aSS.flat {w x : World} {g1 g2 k : Nat} {tt : ByteArray} (h : aSS w g1 g2 x) (hat : ∀ x g, aStrs24 x g → x.cell? ⟨g, k, none⟩ = some (.string tt)) :
    aSS w g1 g2 x ∧ x.cell? ⟨g1, k, none⟩ = some (.string tt) ∧ x.cell? ⟨g2, k, none⟩ = some (.string tt) := ⟨h, hat _ _ h.a, hat _ _ h.b⟩
theorem aSS.drew {w x : World} {g1 g2 : Nat} (h : aSS w g1 g2 x) : aSS w g1 g2 x.drew := h.next ⟨rfl, rfl, rfl, Nat.le_refl _, fun _ _ => rfl⟩
set_option maxRecDepth 40000 in
set_option maxHeartbeats 6400000 in
theorem walk_AtlasLines (n : Int) (w : World) (hn : (Lit.int .i64 n).wf = true) : Calls Try.prog 3 #[.int .i64 n] w fun e w' => e = .returned (.bool true) ∧ Below w.heap.size w w' := by
  have hl := fun w => aLineP n w
  have hv : aLineV n = if 0 ≤ n ∧ n < 24 then aSL.getD n.toNat ⟨#[]⟩ else ⟨#[]⟩ := rfl
  generalize aLineV n = V at *
  go_enter Try.func3, Try.ntmps3
  have arms : True := trivial
  by_cases h0 : n < 0
  · rw [if_neg (by omega)] at hv
    subst hv
    go_wp2_with (first
      | (go_at_call 4; refine (aLinesP _).mono ?_; rintro e w1 ⟨g, rfl, hg, hw, hb⟩)
      | (go_at_call 5; refine (aLinesR _).mono ?_; rintro e w2 ⟨g2, rfl, hg2, hw2, hb2⟩)
      | (go_at_call 6; refine (hl _).mono ?_; rintro e w3 ⟨rfl, hb3⟩)
      | (go_at_call 7; refine (aLives16 _).mono ?_; rintro e w4 ⟨rfl, hb4⟩))
    go_ret
    exact ⟨rfl, bthen (bthen (bthen hb hb2) hb3) hb4⟩
  · by_cases h1 : n < 24
    · obtain ⟨k, rfl⟩ : ∃ k : Nat, n = k := ⟨n.toNat, by omega⟩
      have hk : k < 24 := by omega
      rw [if_pos ⟨by omega, h1⟩, Int.toNat_natCast] at hv
      have hat := fun x g (h : aStrs24 x g) => h.at_ hk
      generalize aSL.getD k ⟨#[]⟩ = tt at *
      subst hv
      go_upto_region 6 with (first
        | (go_at_call 4; refine (aLinesP _).mono ?_; rintro e w1 ⟨g, rfl, hg, hw, hb⟩)
        | (go_at_call 5; refine (aLinesR _).mono ?_; rintro e w2 ⟨g2, rfl, hg2, hw2, hb2⟩))
      have T : aSS w g g2 w2 := ⟨Whole.below hw hb2 (Whole.inside hw), hw2, bthen hb hb2, by have := Whole.inside hw; omega, hg⟩
      have HT := Lib.hid T
      obtain ⟨_, c1, c2⟩ := T.flat hat
      clear hg hw hb hg2 hw2 hb2
      go_region_held3 (fun x => aSS w g g2 x ∧ x.cell? ⟨g, k, none⟩ = some (.string V) ∧ x.cell? ⟨g2, k, none⟩ = some (.string V)) (first
        | assumption
        | exact HT.out.flat hat
        | exact HT.out.drew.flat hat
        | exact (aSS.next (by first | assumption | exact And.left (by assumption)) b3).flat hat) (first
        | (go_at_call 6; refine (hl _).mono ?_; rintro e w3 ⟨rfl, b3⟩))
      all_goals
        have T3 : aSS w g g2 w3 := by first | assumption | exact And.left (by assumption)
        have c3 := hat _ _ T3.a
        have z3 : w3.frozen? ⟨g, k, none⟩ = false := Whole.thawed T3.a k
        have TB : aSB w g2 (w3.setCell ⟨g, k, none⟩ (.string ⟨#[115, 112, 111, 105, 108, 116]⟩)) := ⟨Whole.aside T3.b (p := ⟨g, k, none⟩) T3.ne _, T3.below.setCell (p := ⟨g, k, none⟩) T3.lo _⟩
        have HB := Lib.hid TB
        clear TB T3
        go_upto_region 8 with (fail)
        obtain ⟨_, c4⟩ := HB.out.flat hat
        go_region_with (first
          | (go_at_call 4; refine (aLinesP _).mono ?_; rintro e w5 ⟨g5, rfl, hg5, hw5, b5⟩; have c5 := hat _ _ hw5; have HB2 := Lib.hid (HB.out.drew.next b5); obtain ⟨_, c6⟩ := HB2.out.flat hat)
          | (go_at_call 7; refine (aLives16 _).mono ?_; rintro e w6 ⟨rfl, b6⟩; have HB3 := Lib.hid (HB2.out.next b6)))
        all_goals
          go_wp2
          go_ret
          exact ⟨rfl, HB3.out.below⟩
    · rw [if_neg (by omega)] at hv
      subst hv
      go_wp2_with (first
        | (go_at_call 4; refine (aLinesP _).mono ?_; rintro e w1 ⟨g, rfl, hg, hw, hb⟩)
        | (go_at_call 5; refine (aLinesR _).mono ?_; rintro e w2 ⟨g2, rfl, hg2, hw2, hb2⟩)
        | (go_at_call 6; refine (hl _).mono ?_; rintro e w3 ⟨rfl, hb3⟩)
        | (go_at_call 7; refine (aLives16 _).mono ?_; rintro e w4 ⟨rfl, hb4⟩))
      go_ret
      exact ⟨rfl, bthen (bthen (bthen hb hb2) hb3) hb4⟩
end Go.Proofs.Ytljdgdphldckhaa
