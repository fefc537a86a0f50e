/-
  No conditions but those that each theorem names.
-/
import Derived.Test.YtljdgdphldckhaaGreatQV32
set_option maxRecDepth 20000
set_option maxHeartbeats 12800000
namespace Go.Proofs.YtljdgdphldckhaaGreat
open Go.ChangeShapes Go.WideShapes Go.ChangeAt Go.RowKit
set_option linter.unusedVariables false
set_option linter.unusedSimpArgs false
theorem RPv.up{r K:Nat}{L:List TokV}{st:St}{A:Option Addr}{n k a d:Nat}{f0:Int}{f1 f2:Nat}(h:RPv r K L st [.slice A n k,.int .i64 (a:Int),.int .i64 (d:Int),.int .i64 f0,.int .i64 (f1:Int),.int .i64 (f2:Int)]) :
  RPv r K L (upS st) [.slice A n k,.int .i64 (a:Int),.int .i64 ((d - 1:Nat):Int),.int .i64 f0,.int .i64 (f1:Int),.int .i64 (f2:Int)]:=by
 obtain⟨A',n',k',a',d',e,hd,hk⟩:=h.form;have hF:Zfy (upS st)=Zfy st:=by cases st<;>rfl
 injection e with e1 e;injection e with e2 e;injection e with e3 e;injection e with e4 e;injection e with e5 e;injection e with e6 e;injection e1 with e1 e1' e1'';injection e2 with _ e2;injection e3 with _ e3;have e2':a=a':=by omega
 have e3':d=d':=by omega
 subst e1 e1' e1'' e2' e3';refine⟨⟨A,n,k,a,d - 1,?_,by omega,?_⟩,?_⟩
 ·rw[hF,←e4,←e5,←e6]
 ·intro a1 d1 e
  cases st with
  |bad F=>cases e
  |ok b c=>
   cases e
   obtain⟨h1,h2,h3,h4,h5,h6⟩:=hk _ c rfl;exact⟨h1,h2,h3,h4,by rw[h5],h6⟩
 ·intro F e
  cases st with
  |ok b c=>cases e
  |bad G=>cases e;exact h.flt _ rfl
end Go.Proofs.YtljdgdphldckhaaGreat
