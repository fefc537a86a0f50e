/-
  CursorNone: true for every input, and it writes nothing that was there. No conditions.
-/
import Derived.Test.YtnlnkjjegaihcaaCurLaws
namespace Go.Proofs.Ytnlnkjjegaihcaa
open Go.ChangeShapes Go.WideShapes Go.ChangeAt Go.RowKit
set_option linter.unusedVariables false
set_option linter.unusedSimpArgs false
/-- Four faults ErrArg, in blocks of the call's own. -/
structure NoneW (w : World) (g1 g2 g3 : Nat) (x : World) : Prop where
  k0 : Whole x w.heap.size 27 #[.int .i64 1, .int .i64 0, .int .i64 0]
  k1 : Whole x g1 27 #[.int .i64 1, .int .i64 0, .int .i64 0]
  k2 : Whole x g2 27 #[.int .i64 1, .int .i64 0, .int .i64 0]
  k3 : Whole x g3 27 #[.int .i64 1, .int .i64 0, .int .i64 0]
  below : Below w.heap.size w x
theorem NoneW.next {w x y : World} {g1 g2 g3 : Nat} (h : NoneW w g1 g2 g3 x) (hb : Below x.heap.size x y) : NoneW w g1 g2 g3 y :=
  ⟨h.k0.below hb h.k0.inside, h.k1.below hb h.k1.inside, h.k2.below hb h.k2.inside, h.k3.below hb h.k3.inside, bthen h.below hb⟩
theorem NoneW.flat {w x : World} {g1 g2 g3 : Nat} (h : NoneW w g1 g2 g3 x) :
    NoneW w g1 g2 g3 x ∧ x.cell? ⟨w.heap.size, 0, none⟩ = some (.int .i64 1) ∧ x.cell? ⟨w.heap.size, 1, none⟩ = some (.int .i64 0) ∧ x.cell? ⟨w.heap.size, 2, none⟩ = some (.int .i64 0) ∧ x.cell? ⟨g1, 0, none⟩ = some (.int .i64 1) ∧ x.cell? ⟨g1, 1, none⟩ = some (.int .i64 0) ∧ x.cell? ⟨g1, 2, none⟩ = some (.int .i64 0) ∧ x.cell? ⟨g2, 0, none⟩ = some (.int .i64 1) ∧ x.cell? ⟨g2, 1, none⟩ = some (.int .i64 0) ∧ x.cell? ⟨g2, 2, none⟩ = some (.int .i64 0) ∧ x.cell? ⟨g3, 0, none⟩ = some (.int .i64 1) ∧ x.cell? ⟨g3, 1, none⟩ = some (.int .i64 0) ∧ x.cell? ⟨g3, 2, none⟩ = some (.int .i64 0) :=
  ⟨h, h.k0.read 0, h.k0.read 1, h.k0.read 2, h.k1.read 0, h.k1.read 1, h.k1.read 2, h.k2.read 0, h.k2.read 1, h.k2.read 2, h.k3.read 0, h.k3.read 1, h.k3.read 2⟩
theorem below_fault {w x : World} (g : Nat) (h : Whole w g 27 #[.int .i64 1, .int .i64 0, .int .i64 0]) (hb : Below w.heap.size w x) : Whole x g 27 #[.int .i64 1, .int .i64 0, .int .i64 0] := h.below hb h.inside
abbrev fO : Obj := .cells #[.int .i64 1, .int .i64 0, .int .i64 0] 27
set_option maxHeartbeats 3200000 in
set_option maxRecDepth 100000 in
theorem walk_CursorNone (s : ByteArray) (w : World) (ws : s.size ≤ maxLen) :
    Calls Try.prog 4 #[.string s] w fun e w' => e = .returned (.bool true) ∧ Below w.heap.size w w' := by
  have F0 := Lib.hid (Whole.made w 27 #[.int .i64 1, .int .i64 0, .int .i64 0])
  go_enter Try.func4, Try.ntmps4
  go_wp2_with (first
    | (go_at_call 17; refine (nInt _).mono ?_; rintro e w1 ⟨rfl, b1⟩; have B1 := Lib.hid b1; clear b1; simp only [faultV, argF])
    | (go_at_call 18; refine (nSigned _).mono ?_; rintro e w2 ⟨rfl, b2⟩; have B2 := Lib.hid b2; clear b2; simp only [faultV, argF])
    | (go_at_call 19; refine (nName _).mono ?_; rintro e w3 ⟨rfl, b3⟩; have B3 := Lib.hid b3; clear b3; simp only [faultV, argF])
    | (go_at_call 20; refine (nUp _).mono ?_; rintro e w0 ⟨rfl, rfl⟩
       have N3 : Hid (NoneW w w1.heap.size w2.heap.size w3.heap.size (w3.alloc fO)) := by
         have a1 := (Whole.made w1 27 #[.int .i64 1, .int .i64 0, .int .i64 0]).below B2.out (Whole.made w1 27 #[.int .i64 1, .int .i64 0, .int .i64 0]).inside
         have a2 := (Whole.made w2 27 #[.int .i64 1, .int .i64 0, .int .i64 0]).below B3.out (Whole.made w2 27 #[.int .i64 1, .int .i64 0, .int .i64 0]).inside
         have q1 := bthen (new_block w fO) B1.out
         have q2 := bthen (new_block w1 fO) B2.out
         have q3 := bthen (new_block w2 fO) B3.out
         exact Lib.hid ⟨(below_fault _ (below_fault _ (below_fault _ F0.out B1.out) q2) q3).alloc fO, (below_fault _ a1 q3).alloc fO, a2.alloc fO, Whole.made w3 _ _, bthen (bthen (bthen q1 q2) q3) (new_block w3 fO)⟩))
  dsimp only [List.append]
  go_region_held3 (fun x => NoneW w w1.heap.size w2.heap.size w3.heap.size x ∧ x.cell? ⟨w.heap.size, 0, none⟩ = some (.int .i64 1) ∧ x.cell? ⟨w.heap.size, 1, none⟩ = some (.int .i64 0) ∧ x.cell? ⟨w.heap.size, 2, none⟩ = some (.int .i64 0) ∧ x.cell? ⟨w1.heap.size, 0, none⟩ = some (.int .i64 1) ∧ x.cell? ⟨w1.heap.size, 1, none⟩ = some (.int .i64 0) ∧ x.cell? ⟨w1.heap.size, 2, none⟩ = some (.int .i64 0) ∧ x.cell? ⟨w2.heap.size, 0, none⟩ = some (.int .i64 1) ∧ x.cell? ⟨w2.heap.size, 1, none⟩ = some (.int .i64 0) ∧ x.cell? ⟨w2.heap.size, 2, none⟩ = some (.int .i64 0) ∧ x.cell? ⟨w3.heap.size, 0, none⟩ = some (.int .i64 1) ∧ x.cell? ⟨w3.heap.size, 1, none⟩ = some (.int .i64 0) ∧ x.cell? ⟨w3.heap.size, 2, none⟩ = some (.int .i64 0)) (first
    | assumption
    | exact (N3.out.next (below_drew1 (Below.refl _ _))).flat
    | exact (NoneW.next (by first | assumption | exact And.left (by assumption)) b4).flat) (first
    | (go_at_call 10; (with_reducible refine (nPeek _).mono ?_); rintro e w4 ⟨rfl, b4⟩; simp only [tokA, zTok])
    | (go_at_call 21; (with_reducible refine (nNext _).mono ?_); rintro e w4 ⟨rfl, b4⟩; simp only [tokA, zTok])
    | (go_at_call 13; (with_reducible refine (nIs _ _).mono ?_); rintro e w4 ⟨rfl, b4⟩)
    | (go_at_call 22; (with_reducible refine (nTake _ _).mono ?_); rintro e w4 ⟨rfl, b4⟩)
    | (go_at_call 23; (with_reducible refine (nWant _ _).mono ?_); rintro e w4 ⟨rfl, b4⟩; simp only [faultV, argF])
    | (go_at_call 15; (with_reducible refine (nWrong _).mono ?_); rintro e w4 ⟨rfl, b4⟩; simp only [faultV, argF])
    | (go_at_call 24; (with_reducible refine (nDown _).mono ?_); rintro e w4 ⟨rfl, b4⟩; simp only [faultV, argF])
    | (go_at_call 12; (with_reducible refine (nDepth _).mono ?_); rintro e w4 ⟨rfl, rfl⟩)
    | (go_at_call 6; (with_reducible refine (lives10 _).mono ?_); rintro e w4 ⟨rfl, b4⟩))
  all_goals
    go_wp2
    go_ret
    exact ⟨rfl, NoneW.below (by first | assumption | exact And.left (by assumption))⟩
end Go.Proofs.Ytnlnkjjegaihcaa
