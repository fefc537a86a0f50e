/-
  No conditions but those that each theorem names.
-/
import Derived.Test.YtljdgdphldckhaaGreatQU29
set_option maxRecDepth 20000
set_option maxHeartbeats 12800000
namespace Go.Proofs.YtljdgdphldckhaaGreat
open Go.ChangeShapes Go.WideShapes Go.ChangeAt Go.RowKit
set_option linter.unusedVariables false
set_option linter.unusedSimpArgs false
def Ru.ds(x:Ru):Ds:=.int x.when_ (.int x.stratum (.int x.line (.int x.col (.row x.acts.len x.acts.ds .nil))))
def rusDs:List Ru→Ds
 |[]=>.nil
 |x::r=>x.ds.app (rusDs r)
end Go.Proofs.YtljdgdphldckhaaGreat
