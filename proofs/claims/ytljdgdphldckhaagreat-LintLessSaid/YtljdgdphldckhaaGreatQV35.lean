/-
  No conditions but those that each theorem names.
-/
import Derived.Test.YtljdgdphldckhaaGreatQV34
set_option maxRecDepth 20000
set_option maxHeartbeats 12800000
namespace Go.Proofs.YtljdgdphldckhaaGreat
open Go.ChangeShapes Go.WideShapes Go.ChangeAt Go.RowKit
set_option linter.unusedVariables false
set_option linter.unusedSimpArgs false
theorem Env.addT{w x:World}{bs:List Bk}{rs:List Rw}{ts:List (Ds×List Value)}(h:Env w bs rs ts x){ds:Ds}{vs:List Value}(d:Deep (Free w bs rs) x ds vs):Env w bs rs (ts++[(ds,vs)]) x:=
 ⟨h.at_,h.lo,h.nod,h.row,h.apart,h.rapart,(fun u hu=>by
   rcases List.mem_append.1 hu with hu | hu
   ·exact h.deep u hu
   ·cases List.mem_singleton.1 hu;exact d),h.below⟩
theorem free_less{w:World}{bs cs:List Bk}{rs:List Rw}{k:Nat}(h:Free w (bs++cs) rs k):Free w bs rs k:=⟨h.1,fun b hb=>h.2.1 b (List.mem_append_left _ hb),h.2.2⟩
end Go.Proofs.YtljdgdphldckhaaGreat
