/-
  Texts SynR7. No conditions but those that each theorem names.
-/
import Derived.Test.YtabegjepejgllaaGreatQL29
namespace Go.Proofs.YtabegjepejgllaaGreat
open Go.ChangeShapes Go.WideShapes Go.ChangeAt Go.RowKit
set_option linter.unusedVariables false
set_option linter.unusedSimpArgs false
theorem Env.less {w x : World} {bs cs : List Bk} {rs : List Rw} {ts us : List (Ds × List Value)} (h : Env w (bs ++ cs) rs (ts ++ us) x) : Env w bs rs ts x :=
 ⟨fun b hb => h.at_ b (List.mem_append_left _ hb), fun b hb => h.lo b (List.mem_append_left _ hb), by have := h.nod; rw [List.map_append, List.nodup_append] at this; exact this.1, h.row, fun r hr b hb => h.apart r hr b (List.mem_append_left _ hb), h.rapart,
   fun u hu => (h.deep u (List.mem_append_left _ hu)).mono fun k _ hn => ⟨hn.1, fun b hb => hn.2.1 b (List.mem_append_left _ hb), hn.2.2⟩, h.below⟩
end Go.Proofs.YtabegjepejgllaaGreat
