/- Parts of the proof. No conditions but those that each names. -/
import Derived.Test.YtbdecchpleiepaaGreatQL18
import Derived.Test.YtbdecchpleiepaaGreatQL21
set_option maxRecDepth 20000
set_option maxHeartbeats 99000000
set_option linter.unusedVariables false
set_option linter.unusedSimpArgs false
namespace Go.Proofs.YtbdecchpleiepaaGreat
open Go Go.RowKit
def exSel:Ex→Se
 |.leaf _ _ s _ _ _=>s
 |.bin _ _ _=>zSe
def exSd:Ex→Int
 |.leaf _ _ _ sd _ _=>sd
 |.bin _ _ _=>0
def exTk:Ex→Int
 |.leaf _ _ _ _ tk _=>tk
 |.bin _ _ _=>0
def exTl:Ex→Int
 |.leaf _ _ _ _ _ tl=>tl
 |.bin _ _ _=>0
def Zdq(c:Sc):Ex→Int
 |.leaf _ _ s sd tk tl=>orE (orE (Jy c s) (Uo c sd)) (lTo tk tl)
 |.bin _ l r=>orE (orE (orE (Jy c zSe) (Uo c 0)) (lTo 0 0)) (orE (Zdq c l) (Zdq c r))
def Zka(c:Sc):List Ex→Int
 |[]=>0
 |x::r=>orE (Zdq c x) (Zka c r)
theorem Wb(a:Int):orE a 0=a:=by unfold orE;split<;>omega
theorem rExpr_parts(c:Sc)(x:Ex):Zdq c x=orE (orE (orE (Jy c (exSel x)) (Uo c (exSd x))) (lTo (exTk x) (exTl x))) (Zka c (Zco x)):=by
 cases x with
 |leaf k n s sd tk tl=>show _=orE _ 0;rw[Wb];rfl
 |bin op l r=>show _=orE _ (orE (Zdq c l) (orE (Zdq c r) 0));rw[Wb];rfl
theorem Zfp(c:Sc):Uo c 0=0:=by
 obtain⟨pl,wh,ea⟩:=c;cases pl<;>simp[Uo]
theorem Zau:lTo 0 0=0:=by decide
theorem Zjp(c:Sc):Jy c zSe=0:=by
 have h:=Zfp c;unfold Jy;have e1:Zak zSe 2 5=false:=by decide
 have e2:Zak zSe 1 4=false:=by decide
 rw[e1,e2,Bool.and_false,Bool.and_false,show zSe.side=0 from rfl,h];rfl
theorem Zbj(c:Sc):∀{x:Ex},VEx x→Zdq c x=Ub c x
 |.leaf k n s sd tk tl,h=>by
  have z1:=Zfp c;have z2:=Zjp c;show orE (orE (Jy c s) (Uo c sd)) (lTo tk tl)=if k=2∨k=3 then Jy c s else if k=5 then Uo c sd else if k=6 then orE (Uo c sd) (lTo tk tl)else 0
  rcases h with⟨rfl,_,rfl,rfl,rfl,rfl⟩ | ⟨hk,_,_,rfl,rfl,rfl⟩ | ⟨rfl,_,rfl,rfl,rfl,rfl⟩ | ⟨rfl,_,rfl,_,rfl,rfl⟩ | ⟨rfl,_,rfl,_,_⟩
  ·rw[z1,z2,Zau];rfl
  ·rw[if_pos hk,z1,Zau,Wb,Wb]
  ·rw[z1,z2,Zau];rfl
  ·rw[z2,Zau,Wb];rfl
  ·rw[z2];rfl
 |.bin op l r,h=>by
  have z1:=Zfp c;have z2:=Zjp c;show orE (orE (orE (Jy c zSe) (Uo c 0)) (lTo 0 0)) (orE (Zdq c l) (Zdq c r))=orE (Ub c l) (Ub c r);rw[z1,z2,Zau,Zbj c h.2.1,Zbj c h.2.2];rfl
end Go.Proofs.YtbdecchpleiepaaGreat
