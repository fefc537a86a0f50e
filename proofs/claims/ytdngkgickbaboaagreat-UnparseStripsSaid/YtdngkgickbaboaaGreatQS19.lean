/-
  No conditions but those that each theorem names.
-/
import Derived.Test.YtdngkgickbaboaaGreatQS18
set_option maxRecDepth 20000
set_option maxHeartbeats 12800000
namespace Go.Proofs.YtdngkgickbaboaaGreat
set_option linter.unusedVariables false
set_option linter.unusedSimpArgs false
def AH.bare(h:AH):AH:= { h with line:=0,col:=0 }
def Acs.bare:Acs→Acs
 |.nil=>.nil
 |.cons h t e r=>.cons h.bare t.bare e.bare r.bare
def Ru.bare(r:Ru):Ru:= { r with line:=0,col:=0,acts:=r.acts.bare }
def Ca.bare(c:Ca):Ca:= { c with line:=0,col:=0,rules:=c.rules.map Ru.bare }
def Pl.bare(c:Pl):Pl:= { c with line:=0,col:=0,rules:=c.rules.map Ru.bare }
def Fi.bare(f:Fi):Fi:=⟨f.cards.map Ca.bare,f.places.map Pl.bare⟩
theorem Acs.bare_len:∀ x:Acs,x.bare.len=x.len
 |.nil=>rfl
 |.cons h t e r=>by show r.bare.len+1=r.len+1;rw[Acs.bare_len r]
theorem Zkz:∀ x:Acs,Zbc false x x.bare
 |.nil=>trivial
 |.cons h t e r=>⟨⟨rfl,fun h=>by cases h⟩,Zkz t,Zkz e,Zkz r⟩
theorem rus_bare:∀ l:List Ru,Zdh false l (l.map Ru.bare)
 |[]=>trivial
 |r::l=>⟨⟨rfl,rfl,(fun h=>by cases h),Zkz r.acts⟩,rus_bare l⟩
theorem cas_bare:∀ l:List Ca,Zez false l (l.map Ca.bare)
 |[]=>trivial
 |c::l=>⟨⟨rfl,rfl,rfl,(fun h=>by cases h),rus_bare c.rules⟩,cas_bare l⟩
theorem pls_bare:∀ l:List Pl,Zey false l (l.map Pl.bare)
 |[]=>trivial
 |c::l=>⟨⟨rfl,(fun h=>by cases h),rus_bare c.rules⟩,pls_bare l⟩
theorem fi_bare(f:Fi):FiSim false f f.bare:=⟨cas_bare f.cards,pls_bare f.places⟩
def SmSe(s:Se):Prop:=s.fs.length≤1000000
def SmEx:Ex→Prop
 |.leaf _ _ s _ _ _=>SmSe s
 |.bin _ l r=>SmEx l∧SmEx r
def SmAH(h:AH):Prop:=SmSe h.sel∧SmEx h.num∧SmEx h.cl∧SmEx h.cr
def Zmp:Acs→Prop
 |.nil=>True
 |.cons h t e r=>SmAH h∧(t.len≤1000000∧e.len≤1000000)∧Zmp t∧Zmp e∧Zmp r
def Zmo(l:List Ru):Prop:=l.length≤1000000∧∀ r ∈ l,r.acts.len≤1000000∧Zmp r.acts
def SmFi(f:Fi):Prop:=f.cards.length≤1000000∧f.places.length≤1000000∧(∀ c ∈ f.cards,Zmo c.rules)∧∀ c ∈ f.places,Zmo c.rules
theorem lenB_mem:∀ l:List ByteArray,l.length≤Wc l
 |[]=>Nat.zero_le _
 |x::l=>by
  have:=lenB_mem l;rw[Xl,List.length_cons];omega
theorem kFls_len:∀ l:List Fl,l.length≤Wc (Zls l)
 |[]=>Nat.zero_le _
 |f::l=>by
  have h:=kFls_len l;have e:Zls (f::l)=kFl f++Zls l:=rfl;have h2:1≤(kFl f).length:=by unfold kFl;split<;>(try split)<;>simp
  have h3:=lenB_mem (kFl f);rw[e,Yk,List.length_cons];omega
theorem Zen:SmSe zSe:=Nat.zero_le _
theorem sm_sel{s:Se}(hv:VSe s)(hb:Wc (Zgq s)≤1000000):SmSe s:=by
 unfold SmSe;rcases hv with⟨_,_,_,_,e,_⟩ | ⟨hk,_⟩
 ·rw[e];exact Nat.zero_le _
 ·have h:=kFls_len s.fs
  have:Wc (Zls s.fs)≤Wc (Zgq s):=by
   unfold Zgq;rw[if_neg (by omega)];simp only[Yk];omega
  omega
theorem sm_leaf{k n:Int}{s:Se}{sd tk tl:Int}(hv:VLeaf k n s sd tk tl)(hb:Wc (kLeaf k n s sd tk tl)≤1000000):SmSe s:=by
 rcases hv with⟨_,_,e,_⟩ | ⟨hk,_,v,_⟩ | ⟨_,_,e,_⟩ | ⟨_,_,e,_⟩ | ⟨_,_,e,_⟩
 ·rw[e];exact Zen
 ·refine sm_sel v (Nat.le_trans ?_ hb)
  unfold kLeaf;rw[if_neg (by omega),if_pos hk,Yk];omega
 ·rw[e];exact Zen
 ·rw[e];exact Zen
 ·rw[e];exact Zen
theorem kB_ge(b:Bool)(X:List ByteArray):Wc X≤Wc (kB b X):=by
 unfold kB;split
 ·simp only[Yk];omega
 ·omega
theorem sm_ex:∀ x:Ex,VEx x→Wc (kEx x)≤1000000→SmEx x
 |.leaf k n s sd tk tl,hv,hb=>sm_leaf hv hb
 |.bin op l r,hv,hb=>by
  have h1:=kB_ge (Zcs false op l) (kEx l);have h2:=kB_ge (Zcs true op r) (kEx r);unfold kEx at hb;simp only[Yk]at hb;exact⟨sm_ex l hv.2.1 (by omega),sm_ex r hv.2.2 (by omega)⟩
theorem Ux:SmEx zEx:=Zen
theorem sm_plain{d:Nat}{h:AH}(hv:Zjt d h)(hb:Wc (Zcn h)≤1000000):SmAH h:=by
 obtain⟨k,l,c,sel,num,sd,tk,tl,how,nm,cop,cl,cr⟩:=h;unfold Zcn at hb;dsimp only at hb;rcases hv with⟨hk,e,v1,v2,_⟩ | ⟨hk,e,v1⟩ | ⟨hk,e,v1,v2⟩ | ⟨hk,e,v1,v2,v3,v4,_⟩ | ⟨hk,e,v1,v2,_⟩ | ⟨hk,e,v1,v2⟩ | ⟨hk,e,v1,v2⟩
 all_goals
  dsimp only[AH.zero]at hk e;cases e
  dsimp only at *
 ·rw[if_pos hk,Yk]at hb
  exact⟨sm_sel (s:=sel) v1 (by omega),sm_ex num v2 (by omega),Ux,Ux⟩
 ·rw[if_neg (by omega),if_pos hk]at hb
  exact⟨sm_sel (s:=sel) v1 hb,Ux,Ux,Ux⟩
 ·rw[if_neg (by omega),if_neg (by omega),if_pos hk,Yk]at hb
  exact⟨sm_sel (s:=sel) v1 (by omega),Ux,Ux,Ux⟩
 ·rw[if_neg (by omega),if_neg (by omega),if_neg (by omega),if_pos hk,Yk,Yk]at hb
  exact⟨Zen,sm_ex num v4 (by omega),Ux,Ux⟩
 ·rw[if_neg (by omega),if_neg (by omega),if_neg (by omega),if_neg (by omega),if_pos hk,Yk]at hb
  exact⟨Zen,sm_ex num v2 (by omega),Ux,Ux⟩
 ·exact⟨Zen,Ux,Ux,Ux⟩
 ·exact⟨Zen,Ux,Ux,Ux⟩
theorem Zil:∀ x:Acs,x.len≤Wc (Jy x)
 |.nil=>Nat.zero_le _
 |.cons h t e r=>by
  have h1:=Zil r;have h2:1≤Wc (kAct h (Jy t) (Jy e) e.isNil):=by unfold kAct;simp only[Yk,Xl];omega
  unfold Jy;rw[Yk];show r.len+1≤_;omega
theorem Zjy:∀(x:Acs)(d:Nat),Zhz d x→Wc (Jy x)≤1000000→Zmp x
 |.nil,d,hv,hb=>trivial
 |.cons h t e r,d,hv,hb=>by
  unfold Jy at hb;rw[Yk]at hb;have ir:=Zjy r d hv.2 (by omega);have ht:=Zil t;have he:=Zil e;have hb:Wc (kAct h (Jy t) (Jy e) e.isNil)≤1000000:=by omega
  unfold kAct at hb;rw[Yk]at hb;rcases hv.1 with⟨_,vc,vt,ve⟩ | ⟨_,vc,vt,rfl⟩ | ⟨vp,rfl,rfl⟩
  ·have h10:h.kind=10:=by rw[vc.1];rfl
   rw[if_pos h10]at hb;unfold kCond Zit at hb;simp only[Yk]at hb;have zt:Wc (Jy t)≤1000000:=by omega
   have ze:Wc (Jy e)≤1000000:=by
    cases e with
    |nil=>exact Nat.zero_le _
    |cons eh et ee er=>
     have:Wc (kElse (Acs.cons eh et ee er).isNil (Jy (.cons eh et ee er)))≤1000000:=by omega
     unfold kElse Zit at this;rw[if_neg (by intro h;cases h)]at this;simp only[Yk]at this;omega
   have hs:h.sel=zSe∧h.num=zEx:=by rw[vc.1];exact⟨rfl,rfl⟩
   exact⟨⟨by rw[hs.1];exact Zen,by rw[hs.2];exact Ux,sm_ex _ vc.2.2.1.1 (by omega),sm_ex _ vc.2.2.2.1 (by omega)⟩,⟨by omega,by omega⟩,Zjy t _ vt zt,Zjy e _ ve ze,ir⟩
  ·have h11:h.kind=11:=by rw[vc.1];rfl
   rw[if_neg (by omega),if_pos h11]at hb;unfold Zit at hb;simp only[Yk]at hb;have zt:Wc (Jy t)≤1000000:=by omega
   have hs:h.num=zEx∧h.cl=zEx∧h.cr=zEx:=by rw[vc.1];exact⟨rfl,rfl,rfl⟩
   exact⟨⟨sm_sel vc.2 (by omega),by rw[hs.1];exact Ux,by rw[hs.2.1];exact Ux,by rw[hs.2.2];exact Ux⟩,⟨by omega,Nat.zero_le _⟩,Zjy t _ vt zt,trivial,ir⟩
  ·have hk:=vp.kind.2.2
   rw[if_neg hk.1,if_neg hk.2,Yk]at hb;exact⟨sm_plain vp (by omega),⟨Nat.zero_le _,Nat.zero_le _⟩,trivial,trivial,ir⟩
theorem kRus_len:∀ l:List Ru,l.length≤Wc (l.flatMap kRu)∧∀ r ∈ l,Wc (Jy r.acts)≤Wc (l.flatMap kRu)
 |[]=>⟨Nat.zero_le _,fun r hr=>by cases hr⟩
 |x::l=>by
  obtain⟨h1,h2⟩:=kRus_len l;have h3:1+Wc (Jy x.acts)≤Wc (kRu x):=by unfold kRu Zit;simp only[Yk,Xl];omega
  rw[List.flatMap_cons,Yk,List.length_cons];refine⟨by omega,fun r hr=>?_⟩;rcases List.mem_cons.1 hr with rfl | hr
  ·omega
  ·have:=h2 r hr;omega
theorem sm_rus{l:List Ru}(hv:∀ r ∈ l,VRu r)(hb:Wc (Zmh l)≤1000000):Zmo l:=by
 obtain⟨h1,h2⟩:=kRus_len l;unfold Zmh at hb;simp only[Yk]at hb;refine⟨by omega,fun r hr=>?_⟩;have h3:=h2 r hr;have h4:=Zil r.acts;exact⟨by omega,Zjy r.acts 0 (hv r hr).2.2.2 (by omega)⟩
theorem sum_geZ{α:Type}(k:α→Nat):∀(l:List α),l.length≤(l.map fun x=>k x+1).sum∧∀ x ∈ l,k x+1≤(l.map fun x=>k x+1).sum
 |[]=>⟨Nat.zero_le _,fun x h=>by cases h⟩
 |y::l=>by
  obtain⟨h1,h2⟩:=sum_geZ k l;simp only[List.map_cons,List.sum_cons,List.length_cons];refine⟨by omega,fun x hx=>?_⟩;rcases List.mem_cons.1 hx with rfl | hx
  ·omega
  ·have:=h2 x hx;omega
theorem sm_fi{f:Fi}(hv:VFi f)(hb:lenFi f≤1000000):SmFi f:=by
 unfold lenFi at hb;obtain⟨h1,h2⟩:=sum_geZ (fun c=>Wc (kCa c)) f.cards;obtain⟨h3,h4⟩:=sum_geZ (fun c=>Wc (kPl c)) f.places;try dsimp only at h1 h2 h3 h4
 refine⟨by omega,by omega,fun c hc=>sm_rus (hv.1 c hc).2.2.2 ?_,fun c hc=>sm_rus (hv.2 c hc).2 ?_⟩
 ·have:=h2 c hc
  have e:kCa c=[wd Xy 1,qN c.name,Zcj,Wu c.cost,Zci,Wu c.power]++Zmh c.rules:=rfl;rw[e,Yk]at this;omega
 ·have:=h4 c hc
  have e:kPl c=[wd Xy 2,qN c.name]++Zmh c.rules:=rfl;rw[e,Yk]at this;omega
end Go.Proofs.YtdngkgickbaboaaGreat
