/-
  What stands while the law's step for cursors is done. Condition: the cursor and the document's stand at the same token of a text.
-/
import Derived.Test.YtnlnkjjegaihcaaCurRef3
import Derived.Deep.RegionHeld3
namespace Go.Proofs.Ytnlnkjjegaihcaa
open Go.ChangeShapes Go.WideShapes Go.ChangeAt Go.RowKit
set_option linter.unusedVariables false
set_option linter.unusedSimpArgs false
/-- What stands while a call is done: three blocks laid in w, the cursor, the document's tokens. -/
structure DoW (w : World) (p r K s M : Nat) (L : List TokV) (cs ds : Array Value) (a d : Nat) (x : World) : Prop where
  k0 : Whole x w.heap.size 32 cs
  k1 : Whole x (w.heap.size + 1) 38 ds
  k2 : Whole x (w.heap.size + 2) 32 #[.slice none 0 0, .int .i64 0, .int .i64 0]
  mv : Moved w x p r K L a d
  row : RowAt x s M L
  pin : p < w.heap.size
  sp : s ≠ p
theorem DoW.start {w : World} {p r K s M : Nat} {L : List TokV} {a d : Nat} (h : CurAt w p r K L a d) (hq : RowAt w s M L) (hsp : s ≠ p) (cs ds : Array Value) :
    DoW w p r K s M L cs ds a d (((w.alloc (.cells cs 32)).alloc (.cells ds 38)).alloc (.cells #[.slice none 0 0, .int .i64 0, .int .i64 0] 32)) := by
  have T := Tri.start w 32 cs 38 ds 32 #[.slice none 0 0, .int .i64 0, .int .i64 0]
  exact ⟨T.k0, T.k1, T.k2, (Moved.start h).next T.below, hq.below T.below, h.whole.inside, hsp⟩
theorem DoW.next {w x y : World} {p r K s M : Nat} {L : List TokV} {cs ds : Array Value} {a d : Nat} (h : DoW w p r K s M L cs ds a d x) (hb : Below x.heap.size x y) : DoW w p r K s M L cs ds a d y :=
  ⟨h.k0.below hb h.k0.inside, h.k1.below hb h.k1.inside, h.k2.below hb h.k2.inside, h.mv.next hb, h.row.below hb, h.pin, h.sp⟩
theorem DoW.drew {w x : World} {p r K s M : Nat} {L : List TokV} {cs ds : Array Value} {a d : Nat} (h : DoW w p r K s M L cs ds a d x) : DoW w p r K s M L cs ds a d x.drew :=
  h.next (below_drew1 (Below.refl _ _))
theorem DoW.step {w x y : World} {p r K s M : Nat} {L : List TokV} {cs ds : Array Value} {a d b e : Nat} (h : DoW w p r K s M L cs ds a d x) (m : Moved x y p r K L b e) : DoW w p r K s M L cs ds b e y := by
  have hp := h.pin
  exact ⟨m.keeps.whole h.k0 (by omega), m.keeps.whole h.k1 (by omega), m.keeps.whole h.k2 (by omega), h.mv.then m, h.row.keeps m.keeps h.sp, hp, h.sp⟩
/-- What the step leaves: both at the same place, and the answer 'true'. -/
def DoPost (w : World) (p r K s M : Nat) (L : List TokV) (n : Nat) (e : Ending) (w' : World) : Prop :=
  ∃ b f, e = .returned (.tuple #[qA s M n b f, .bool true]) ∧ Moved w w' p r K L b f
end Go.Proofs.Ytnlnkjjegaihcaa
