/-
  Texts Plays. No conditions but those that each theorem names.
-/
import Derived.Deep.QuietTactic
import Derived.BigQuiet
import Derived.Test.YtljdgdphldckhaaGreatQA33
import Derived.Test.YtljdgdphldckhaaGreatQA45
import Derived.Test.YtljdgdphldckhaaGreatQA48
set_option maxRecDepth 20000
set_option maxHeartbeats 12800000
namespace Go.Proofs.YtljdgdphldckhaaGreat
open Go.Great Go.ChangeShapes Go.WideShapes Go.ChangeAt Go.RowKit
set_option linter.unusedVariables false
set_option linter.unusedSimpArgs false
theorem Env.got {w x y : World} {bs : List Bk} {rs : List Rw} {ts : List (Ds × List Value)} (h : Env w bs rs ts x) (b : Below x.heap.size x y) {g : Nat} {t : TypeId} {vs : List Value} (hg : x.heap.size ≤ g) (hw : Zb y g t vs.toArray) : Env w (bs ++ [(g, t, vs)]) rs ts y := by
 have h' := h.call b
 refine ⟨fun c hc => ?_, fun c hc => ?_, ?_, h'.row, fun r hr c hc => ?_, h.rapart, fun u hu => ?_, h'.below⟩
 · rcases List.mem_append.1 hc with hc | hc
   · exact h'.at_ c hc
   · cases List.mem_singleton.1 hc; exact hw
 · rcases List.mem_append.1 hc with hc | hc
   · exact h.lo c hc
   · cases List.mem_singleton.1 hc; exact Nat.le_trans h.below.size hg
 · rw [List.map_append, List.nodup_append]
   refine ⟨h.nod, by simp, fun a ha b hb => ?_⟩
   obtain ⟨c, hc, rfl⟩ := List.mem_map.1 ha
   simp at hb
   subst hb
   have := (h.at_ c hc).inside
   omega
 · rcases List.mem_append.1 hc with hc | hc
   · exact h.apart r hr c hc
   · cases List.mem_singleton.1 hc
     intro q
     have := ((h.row r hr).lt _ q).2
     omega
 · refine (h.deep u hu).keeps (Zo.of_below (S := fun _ => False) b) fun k hk hn => ⟨id, hn.1, fun c hc => ?_, hn.2.2⟩
   rcases List.mem_append.1 hc with hc | hc
   · exact hn.2.1 c hc
   · cases List.mem_singleton.1 hc
     show g ≠ k
     omega
theorem twice_one (s : ByteArray) : Uw (Yt [s]) = -1 := by
 unfold Uw
 rw [show (Yt [s]).length = 1 from by rw [Wn]; rfl]
 have h : isF (Yt [s]) 0 = true := by simp [isF, Uo, Jv, Yt, List.findIdx_cons]
 simp [List.range_succ, h]
theorem z_fiQ : (Tryz.prog.info? 26).map (fun i => i.zero.map Value.cells) = some (some ([.slice none 0 0, .slice none 0 0] : List Value).toArray) := by kernel_rfl
theorem z_faQ : (Tryz.prog.info? 29).map (fun i => i.zero.map Value.cells) = some (some ([.int .i64 0, .int .i64 0, .int .i64 0] : List Value).toArray) := by kernel_rfl
theorem s_faQ : (Tryz.prog.info? 29).map (·.size) = some 3 := by kernel_rfl
end Go.Proofs.YtljdgdphldckhaaGreat
