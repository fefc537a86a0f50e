/-
  No conditions but those that each theorem names.
-/
import Derived.Test.YtljdgdphldckhaaGreatQV37
import Derived.Test.YtljdgdphldckhaaGreatQV38
import Derived.Test.YtljdgdphldckhaaGreatQV40
set_option maxRecDepth 20000
set_option maxHeartbeats 12800000
namespace Go.Proofs.YtljdgdphldckhaaGreat
open Go.ChangeShapes Go.WideShapes Go.ChangeAt Go.RowKit
set_option linter.unusedVariables false
set_option linter.unusedSimpArgs false
theorem Env.join{w x:World}{bs cs:List Bk}{rs:List Rw}{ts:List (Ds×List Value)}(h:Env w (bs++cs) rs ts x)(i j:Nat){d1 d2:Ds}{l u:List Value}(hi:ts[i]?=some (d1,l))(hj:ts[j]?=some (d2,u)):Env w bs rs [(d1.app d2,l++u)] x:=by
 have h':=h.less (bs:=bs) (cs:=cs) (ts:=[]) (us:=ts);exact h'.addT (Deep.app ((h.deep _ (List.mem_of_getElem? hj)).mono fun k _ hn=>free_less hn) ((h.deep _ (List.mem_of_getElem? hi)).mono fun k _ hn=>free_less hn))
open Go Go.RowKit
section
variable {w x y:World} {bs:List Bk} {ts:List (Ds×List Value)} {ra rb:Rw} {v':Value} {news:List Value}
end
end Go.Proofs.YtljdgdphldckhaaGreat
