/-
  No conditions but those that each theorem names.
-/
import Derived.RegionTactic
import Derived.Test.YtljdgdphldckhaaGreatQU30
set_option maxRecDepth 20000
set_option maxHeartbeats 12800000
namespace Go.Proofs.YtljdgdphldckhaaGreat
open Go.ChangeShapes Go.WideShapes Go.ChangeAt Go.RowKit
set_option linter.unusedVariables false
set_option linter.unusedSimpArgs false
def Ca.ds(x:Ca):Ds:=.str x.name (.int x.cost (.int x.power (.int x.line (.int x.col (.row x.rules.length (rusDs x.rules) .nil)))))
def Pl.ds(x:Pl):Ds:=.str x.name (.int x.line (.int x.col (.row x.rules.length (rusDs x.rules) .nil)))
def casDs:List Ca→Ds
 |[]=>.nil
 |x::r=>x.ds.app (casDs r)
def plsDs:List Pl→Ds
 |[]=>.nil
 |x::r=>x.ds.app (plsDs r)
def Fi.ds(x:Fi):Ds:=.row x.cards.length (casDs x.cards) (.row x.places.length (plsDs x.places) .nil)
end Go.Proofs.YtljdgdphldckhaaGreat
