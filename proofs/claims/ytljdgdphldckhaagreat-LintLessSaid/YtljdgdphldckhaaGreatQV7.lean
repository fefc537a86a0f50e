/-
  No conditions but those that each theorem names.
-/
import Derived.Deep.DeepCutAuto
import Derived.Test.YtljdgdphldckhaaGreatQV6
set_option maxRecDepth 20000
set_option maxHeartbeats 12800000
namespace Go.Proofs.YtljdgdphldckhaaGreat
open Go.ChangeShapes Go.WideShapes Go.ChangeAt Go.RowKit
set_option linter.unusedVariables false
set_option linter.unusedSimpArgs false
structure RcW(w:World)(acc:List TokV)(v:Value)(wr:World):Prop where
 fl:Zb wr w.heap.size 29 #[.int .i64 0,.int .i64 0,.int .i64 0]
 row:wr.ownsRow (w.heap.size+1) 85 5 v acc.length (Ui acc)
 below:Below w.heap.size w wr
theorem RcW.lo{w wr:World}{acc:List TokV}{v:Value}(h:RcW w acc v wr):w.heap.size<wr.heap.size:=h.fl.inside
theorem RcW.next{w wr w':World}{acc:List TokV}{v:Value}(h:RcW w acc v wr)(hb:Below wr.heap.size wr w'):RcW w acc v w':=
 ⟨h.fl.below hb h.fl.inside,Us h.row hb,Xq h.below hb⟩
theorem RcW.push{w wr W w':World}{acc:List TokV}{v v':Value}(h:RcW w acc v wr)(hb:Below wr.heap.size wr W)(t:TokV)
  (ho:w'.ownsRow (w.heap.size+1) 85 5 v' (acc.length+1) (Ui acc++t.cells))(hg:W.grownBy w' v.ownBlock):RcW w (acc++[t]) v' w':=by
 have hW:=h.next hb;refine⟨Vd hg hW.fl ?_,?_,?_⟩
 ·intro c
  have:=(hW.row.lt _ c).1;omega
 ·rw[tokCs_snoc,List.length_append]
  exact ho
 ·exact below_push hW.below hW.row hg (by omega) (Nat.le_of_lt hW.lo)
end Go.Proofs.YtljdgdphldckhaaGreat
