/-
  Texts CurRef. No conditions but those that each theorem names.
-/
import Derived.Test.YtabegjepejgllaaGreatQL13
namespace Go.Proofs.YtabegjepejgllaaGreat
open Go.ChangeShapes Go.WideShapes Go.ChangeAt Go.RowKit
set_option linter.unusedVariables false
set_option linter.unusedSimpArgs false
structure RowAt (w : World) (r K : Nat) (L : List TokV) : Prop where
 row : ∀ j, j < (Vl L).length → w.cell? ⟨r, j, none⟩ = (Vl L)[j]?
 rin : r < w.heap.size
 ends : Ends L
 capL : L.length ≤ K
 capM : K ≤ 9223372036854775807
theorem RowAt.keeps {w w' : World} {r K : Nat} {L : List TokV} (h : RowAt w r K L) {S : Nat → Prop} (hk : Zn S w w') (hr : ¬ S r) : RowAt w' r K L :=
 ⟨fun j hj => (World.cell?_of_block (a := ⟨r, j, none⟩) (hk.block r h.rin hr)).trans (h.row j hj), Nat.lt_of_lt_of_le h.rin hk.size, h.ends, h.capL, h.capM⟩
theorem RowAt.below {w w' : World} {r K : Nat} {L : List TokV} (h : RowAt w r K L) (hb : Below w.heap.size w w') : RowAt w' r K L :=
 h.keeps (S := fun _ => False) (Zn.of_below hb) id
theorem RowAt.at_ {w : World} {r K : Nat} {L : List TokV} (h : RowAt w r K L) {a : Nat} (ha : a < L.length) :
   w.cell? ⟨r, a * 5, none⟩ = some (.int .i64 (Yk L a).k) ∧ w.cell? ⟨r, a * 5 + 1, none⟩ = some (.string (Yk L a).t) ∧ w.cell? ⟨r, a * 5 + 2, none⟩ = some (.int .i64 (Yk L a).n) ∧
   w.cell? ⟨r, a * 5 + 3, none⟩ = some (.int .i64 ((Yk L a).line : Int)) ∧ w.cell? ⟨r, a * 5 + 4, none⟩ = some (.int .i64 ((Yk L a).col : Int)) := by
 have hl := tokCs_len L
 have key : ∀ j, j < 5 → w.cell? ⟨r, a * 5 + j, none⟩ = (Yk L a).cells[j]? := fun j hj => by
   rw [h.row _ (by omega), tokCs_at L a j ha hj, curT_get L a ha]
 exact ⟨key 0 (by omega), key 1 (by omega), key 2 (by omega), key 3 (by omega), key 4 (by omega)⟩
end Go.Proofs.YtabegjepejgllaaGreat
