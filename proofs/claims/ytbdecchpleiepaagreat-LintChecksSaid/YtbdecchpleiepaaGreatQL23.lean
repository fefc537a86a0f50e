/- Parts of the proof. No conditions but those that each names. -/
import Derived.Test.YtbdecchpleiepaaGreatQL22
set_option maxRecDepth 20000
set_option maxHeartbeats 99000000
set_option linter.unusedVariables false
set_option linter.unusedSimpArgs false
namespace Go.Proofs.YtbdecchpleiepaaGreat
open Go
def rParts(c:Sc)(h:AH):Int:=orE (orE (orE (Jy c h.sel) (Uo c h.side)) (lTo h.tk h.tl)) (Zka c [h.num,h.cl,h.cr])
def rAct(c:Sc)(h:AH):Int:=
 if(!(h.kind == 10) && (decide (11<h.kind) != (c.whn == 5)))=true then 13 else if(h.kind == 11 && c.each)=true then 8 else rParts c h
def Sc.inner(c:Sc)(k:Int):Sc:=⟨c.place,c.whn,c.each || k == 11⟩
def rOne(c:Sc)(i:Nat)(h:AH):Int:=if i<12 then rAct c h else 9
def Uv(c:Sc)(i:Nat):Acs→Fa
 |.nil=>(0,0,0)
 |.cons h t e r=>
  if rOne c i h≠0 then(rOne c i h,h.line,h.col)
  else if(if(Uv (c.inner h.kind) 0 t).1=0 then Uv (c.inner h.kind) 0 e else Uv (c.inner h.kind) 0 t).1≠0 then(if(Uv (c.inner h.kind) 0 t).1=0 then Uv (c.inner h.kind) 0 e else Uv (c.inner h.kind) 0 t)
  else Uv c (i+1) r
theorem Zkr(c:Sc)(i:Nat)(h:AH)(t e r:Acs):Uv c i (.cons h t e r)=if rOne c i h≠0 then(rOne c i h,h.line,h.col)
 else if(if(Uv (c.inner h.kind) 0 t).1=0 then Uv (c.inner h.kind) 0 e else Uv (c.inner h.kind) 0 t).1≠0 then(if(Uv (c.inner h.kind) 0 t).1=0 then Uv (c.inner h.kind) 0 e else Uv (c.inner h.kind) 0 t)
 else Uv c (i+1) r:=rfl
theorem Zhj:∀(x:Acs)(c:Sc)(i:Nat),(Uv c i x).1=0→Uv c i x=(0,0,0)
 |.nil,c,i,_=>rfl
 |.cons h t e r,c,i,q=>by
  rw[Zkr]at q ⊢;by_cases q1:rOne c i h≠0
  ·rw[if_pos q1]at q;exact absurd q q1
  ·rw[if_neg q1]at q ⊢
   by_cases q2:(if(Uv (c.inner h.kind) 0 t).1=0 then Uv (c.inner h.kind) 0 e else Uv (c.inner h.kind) 0 t).1≠0
   ·rw[if_pos q2]at q;exact absurd q q2
   ·rw[if_neg q2]at q ⊢
    exact Zhj r c _ q
theorem lKind_to{h:AH}{d:Nat}(hv:Zkj d h∨Zmi h∨Zdk d h):1≤h.kind∧h.kind≤15:=by
 rcases hv with hv | hv | hv
 ·have:=congrArg AH.kind hv.1;have:h.kind=10:=this;omega
 ·have:=congrArg AH.kind hv.1;have:h.kind=11:=this;omega
 ·unfold Zdk at hv;omega
theorem rExpr_zero(c:Sc):Zdq c zEx=0:=by
 show orE (orE (Jy c zSe) (Uo c 0)) (lTo 0 0)=0;rw[Zjp,Zfp,Zau];rfl
theorem orE_assoc(a b c:Int):orE (orE a b) c=orE a (orE b c):=by
 unfold orE;by_cases h:a=0
 ·rw[if_pos h,if_pos h]
 ·rw[if_neg h,if_neg h,if_neg h]
theorem Vy(a:Int):orE 0 a=a:=rfl
theorem rParts_valid(c:Sc){h:AH}{d:Nat}(hv:Zkj d h∨Zmi h∨Zdk d h):rParts c h=Zax c h:=by
 have z1:=Zfp c;have z2:=Zjp c;have z3:=rExpr_zero c;obtain⟨kind,line,col,sel,num,side,tk,tl,how,name,cop,cl,cr⟩:=h;have hk:∀ x y z:Ex,Zka c [x,y,z]=orE (Zdq c x) (orE (Zdq c y) (orE (Zdq c z) 0)):=fun _ _ _=>rfl
 unfold rParts;rw[hk];dsimp only;rcases hv with⟨e,_,⟨v1,_⟩,v2,_⟩ | ⟨e,v1⟩ | hv
 ·simp only[AH.zero,AH.mk.injEq,true_and,and_true]at e
  obtain⟨rfl,rfl,rfl,rfl,rfl,rfl,rfl,rfl⟩:=e;rw[z1,z2,z3,Zau,Zbj c v1,Zbj c v2,Wb (Ub c cr)];rfl
 ·simp only[AH.zero,AH.mk.injEq,true_and,and_true]at e
  obtain⟨rfl,rfl,rfl,rfl,rfl,rfl,rfl,rfl,rfl,rfl⟩:=e;rw[z1,z3,Zau,Wb,Wb];exact Wb _
 ·rcases hv with⟨k,e,_,v1,_⟩ | ⟨k,e,_⟩ | ⟨k,e,_⟩ | ⟨k,e,_,_,_,v1,_⟩ | ⟨k,e,_,v1,_⟩ | ⟨k,e,_⟩ | ⟨k,e,_⟩
  ·simp only[AH.zero,AH.mk.injEq,true_and,and_true]at e
   obtain⟨rfl,rfl,rfl,rfl,rfl,rfl,rfl,rfl⟩:=e;dsimp only at k;rw[z1,z3,Zau,Wb,Wb,Zbj c v1];show orE (Jy c sel) (orE (Ub c num) (orE 0 0))=_;rw[Vy,Wb];unfold Zax;rw[if_pos (by dsimp only;exact k)]
  ·simp only[AH.zero,AH.mk.injEq,true_and,and_true]at e
   obtain⟨rfl,rfl,rfl,rfl,rfl,rfl,rfl,rfl,rfl⟩:=e;dsimp only at k;rw[z1,z3,Zau,Wb,Wb];rw[Vy,Vy,Vy,Wb];unfold Zax;dsimp only;rw[if_neg (by omega),if_pos (by omega)]
  ·simp only[AH.zero,AH.mk.injEq,true_and,and_true]at e
   obtain⟨rfl,rfl,rfl,rfl,rfl,rfl,rfl⟩:=e;dsimp only at k;subst k;rw[z1,z3,Wb];rw[Vy,Vy,Vy,Wb];rfl
  ·simp only[AH.zero,AH.mk.injEq,true_and,and_true]at e
   obtain⟨rfl,rfl,rfl,rfl,rfl⟩:=e;dsimp only at k;subst k;rw[z2,z3,Vy,Zbj c v1];rw[Vy,Vy,Wb];show orE (orE (Uo c side) (lTo tk tl)) (Ub c num)=orE (Uo c side) (orE (lTo tk tl) (Ub c num));exact orE_assoc _ _ _
  ·simp only[AH.zero,AH.mk.injEq,true_and,and_true]at e
   obtain⟨rfl,rfl,rfl,rfl,rfl,rfl,rfl,rfl⟩:=e;dsimp only at k;rw[z2,z3,Zau,Vy,Wb,Zbj c v1];rw[Vy,Vy,Wb];unfold Zax;dsimp only;rw[if_neg (by omega),if_neg (by omega),if_neg (by omega),if_neg (by omega),if_pos (by omega)]
  ·simp only[AH.zero,AH.mk.injEq,true_and,and_true]at e
   obtain⟨rfl,rfl,rfl,rfl,rfl,rfl,rfl,rfl⟩:=e;dsimp only at k;subst k;rw[z2,z3,Zau,Vy,Wb];rw[Vy,Vy,Vy,Wb];rfl
  ·simp only[AH.zero,AH.mk.injEq,true_and,and_true]at e
   obtain⟨rfl,rfl,rfl,rfl,rfl,rfl,rfl⟩:=e;dsimp only at k;rw[z2,z3,Vy];rw[Vy,Vy,Vy,Wb];unfold Zax;dsimp only;rw[if_neg (by omega),if_neg (by omega),if_neg (by omega),if_neg (by omega),if_neg (by omega),if_neg (by omega),if_pos (by omega)]
theorem rOne_valid(c:Sc)(i:Nat){h:AH}{d:Nat}(hv:Zkj d h∨Zmi h∨Zdk d h):rOne c i h=orE (Zea c i h.kind) (Zax c h):=by
 have hk:=lKind_to hv;unfold rOne Zea;by_cases hi:i<12
 ·rw[if_pos hi,if_neg (by omega)]
  unfold rAct;rw[rParts_valid c hv]
  have e:(!(h.kind == 10) && (decide (11<h.kind) != (c.whn == 5))) = !Zgb c h.kind:=by
   unfold Zgb;generalize(c.whn == 5)=b;by_cases h10:h.kind=10
   ·rw[if_pos h10,h10];rfl
   ·rw[if_neg h10]
    have h10b:(h.kind == 10)=false:=by simpa using h10
    rw[h10b];by_cases h11:11<h.kind
    ·rw[if_pos (by omega),decide_eq_true h11];cases b<;>rfl
    ·rw[if_neg (by omega),decide_eq_false h11];cases b<;>rfl
  rw[e];cases hl:Zgb c h.kind with
  |false=>rfl
  |true=>
   rw[if_neg (show ¬(!true)=true by decide),if_neg (show ¬(true=false) by decide)];split<;>rfl
 ·rw[if_neg hi,if_pos (by omega)];rfl
theorem orF_rl{a b:Fa}(ha:a.1=0→a=(0,0,0)):orF a b=if a.1=0 then b else a:=by
 unfold orF;by_cases h:a.1=0
 ·rw[if_pos h,ha h];rfl
 ·rw[if_neg h,if_neg (fun q=>h q.1)]
theorem Zcq:∀(l:Acs)(d:Nat),Zbw d l→∀(c:Sc)(i:Nat),Uv c i l=Vf c i l
 |.nil,d,_,c,i=>rfl
 |.cons h t e r,d,hv,c,i=>by
  obtain⟨hv,hr⟩:=hv
  have hk:Zkj d h∨Zmi h∨Zdk d h:=by
   rcases hv with⟨_,a,_⟩ | ⟨_,a,_⟩ | ⟨a,_⟩
   ·exact .inl a
   ·exact .inr (.inl a)
   ·exact .inr (.inr a)
  rw[Zkr,lActs_cons,rOne_valid c i hk,Zcq r d hr c (i+1)];unfold lAct;by_cases q1:orE (Zea c i h.kind) (Zax c h)≠0
  ·rw[if_pos q1,if_pos q1,if_neg q1]
  ·rw[if_neg q1,if_neg q1]
   have key:(if(Uv (c.inner h.kind) 0 t).1=0 then Uv (c.inner h.kind) 0 e else Uv (c.inner h.kind) 0 t)=(if h.kind=10 then orF (Vf c 0 t) (Vf c 0 e)else if h.kind=11 then Vf ⟨c.place,c.whn,true⟩ 0 t else(0,0,0)):=by
    rcases hv with⟨_,a,ht,he⟩ | ⟨_,a,ht,rfl⟩ | ⟨a,rfl,rfl⟩
    ·have k10:h.kind=10:=congrArg AH.kind a.1
     have hc:c.inner h.kind=c:=by unfold Sc.inner;rw[k10];simp
     rw[if_pos k10,hc,←Zcq t _ ht,←Zcq e _ he,orF_rl (Zhj t c 0)]
    ·have k11:h.kind=11:=congrArg AH.kind a.1
     have hc:c.inner h.kind=⟨c.place,c.whn,true⟩:=by unfold Sc.inner;rw[k11];simp
     rw[show(if h.kind=10 then orF (Vf c 0 t) (Vf c 0 .nil)else if h.kind=11 then Vf ⟨c.place,c.whn,true⟩ 0 t else(0,0,0))=Vf ⟨c.place,c.whn,true⟩ 0 t from by rw[if_neg (by omega),if_pos k11],hc,←Zcq t _ ht];by_cases z:(Uv ⟨c.place,c.whn,true⟩ 0 t).1=0
     ·rw[if_pos z,Zhj t _ 0 z];rfl
     ·rw[if_neg z]
    ·have k1:h.kind≠10∧h.kind≠11:=by unfold Zdk at a;omega
     rw[show(if h.kind=10 then orF (Vf c 0 .nil) (Vf c 0 .nil)else if h.kind=11 then Vf ⟨c.place,c.whn,true⟩ 0 .nil else(0,0,0))=(0,0,0)from by rw[if_neg k1.1,if_neg k1.2]];rfl
   rw[key];generalize(if h.kind=10 then orF (Vf c 0 t) (Vf c 0 e)else if h.kind=11 then Vf ⟨c.place,c.whn,true⟩ 0 t else(0,0,0))=X;by_cases q:X.1=0
   ·rw[if_neg (by simpa using q),if_pos q]
   ·rw[if_pos (by simpa using q),if_neg q]
end Go.Proofs.YtbdecchpleiepaaGreat
