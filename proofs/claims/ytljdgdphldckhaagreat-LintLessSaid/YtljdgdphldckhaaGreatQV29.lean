/-
  No conditions but those that each theorem names.
-/
import Derived.Test.YtljdgdphldckhaaGreatQV28
set_option maxRecDepth 20000
set_option maxHeartbeats 12800000
namespace Go.Proofs.YtljdgdphldckhaaGreat
open Go
set_option linter.unusedSimpArgs false
set_option linter.unusedVariables false
def Acs.front:Acs→Acs
 |.nil=>.nil
 |.cons _ _ _ .nil=>.nil
 |.cons h t e (.cons h2 t2 e2 r2)=>.cons h t e (Acs.front (.cons h2 t2 e2 r2))
theorem orF_ok{a b:Fa}(ha:a.1=0→a=(0,0,0))(hb:b.1=0→b=(0,0,0)):((orF a b).1=0↔a.1=0∧b.1=0)∧((orF a b).1=0→orF a b=(0,0,0)):=by
 unfold orF;by_cases h:a.1=0
 ·have e:=ha h
  rw[if_pos (by rw[e];exact⟨rfl,rfl,rfl⟩)];exact⟨⟨fun q=>⟨h,q⟩,fun q=>q.2⟩,hb⟩
 ·rw[if_neg (fun q=>h q.1)]
  exact⟨⟨fun q=>absurd q h,fun q=>absurd q.1 h⟩,fun q=>absurd q h⟩
theorem atF_ok(e l c:Int):((atF e l c).1=0↔e=0)∧((atF e l c).1=0→atF e l c=(0,0,0)):=by
 unfold atF;by_cases h:e=0
 ·rw[if_pos h];exact⟨⟨fun _=>h,fun _=>rfl⟩,fun _=>rfl⟩
 ·rw[if_neg h];exact⟨⟨fun q=>absurd q h,fun q=>absurd q h⟩,fun q=>absurd q h⟩
theorem lActs_zero:∀(x:Acs)(c:Sc)(i:Nat),(Vr c i x).1=0→Vr c i x=(0,0,0)
 |.nil,c,i,_=>rfl
 |.cons h t e r,c,i,hz=>by
  rw[Zeb]at hz ⊢;by_cases h0:(lAct c i h t e).1=0
  ·rw[if_pos h0]at hz ⊢
   exact lActs_zero r c (i+1) hz
  ·rw[if_neg h0]at hz
   exact absurd hz h0
theorem Zjm:∀(x:Acs)(c:Sc)(i:Nat),(Vr c i x).1=0→(Vr c i x.front).1=0
 |.nil,c,i,_=>rfl
 |.cons h t e .nil,c,i,_=>rfl
 |.cons h t e (.cons h2 t2 e2 r2),c,i,hz=>by
  rw[Zeb]at hz;have e1:Acs.front (.cons h t e (.cons h2 t2 e2 r2))=.cons h t e (Acs.front (.cons h2 t2 e2 r2)):=rfl;rw[e1,Zeb];by_cases h0:(lAct c i h t e).1=0
  ·rw[if_pos h0]at hz ⊢
   exact Zjm (.cons h2 t2 e2 r2) c (i+1) hz
  ·rw[if_neg h0]at hz
   exact absurd hz h0
theorem Zia:∀ x:Ex,1≤exZ x
 |.leaf .. =>by unfold exZ;omega
 |.bin _ l r=>by have:=Zia l;have:=Zia r;unfold exZ;omega
theorem acZ_pos(h:AH){t e:Int}(en:Nat)(ht:0≤t)(he:0≤e):1≤acZ h t e en:=by
 have:=Zia h.num;have:=Zia h.cl;have:=Zia h.cr;unfold acZ;split
 ·omega
 ·split
  ·split<;>omega
  ·split<;>omega
theorem Zdr:∀ x:Acs,0≤acsZ x
 |.nil=>by unfold acsZ;omega
 |.cons h t e r=>by
  have h1:=acZ_pos h e.len (Zdr t) (Zdr e);have h2:=Zdr r;unfold acsZ;omega
theorem acsZ_front:∀ x:Acs,acsZ x.front≤acsZ x
 |.nil=>Int.le_refl _
 |.cons h t e .nil=>by
  have:=Zdr (.cons h t e .nil);show 0≤_;omega
 |.cons h t e (.cons h2 t2 e2 r2)=>by
  have:=acsZ_front (.cons h2 t2 e2 r2);have e1:Acs.front (.cons h t e (.cons h2 t2 e2 r2))=.cons h t e (Acs.front (.cons h2 t2 e2 r2)):=rfl;rw[e1,acsZ,acsZ];omega
theorem lessB1(t:ByteArray):Xa [t]=t.size+1:=by simp[Xa]
theorem kLeaf_pos(k n:Int)(s:Se)(sd tk tl:Int):1≤Xa (kLeaf k n s sd tk tl):=by
 unfold kLeaf
 (repeat' split)<;>simp[Xa]<;>omega
theorem Zib:∀ x:Ex,exZ x≤(Xa (kEx x):Int)
 |.leaf k n s sd tk tl=>by
  have:=kLeaf_pos k n s sd tk tl;show(1:Int)≤(Xa (kLeaf k n s sd tk tl):Int);omega
 |.bin op l r=>by
  have h1:=Zib l;have h2:=Zib r
  have kb:∀(b:Bool)(K:List ByteArray),Xa K≤Xa (kB b K):=fun b K=>by
   unfold kB;split
   ·simp only[Zr];omega
   ·exact Nat.le_refl _
  have h3:=kb (Zde false op l) (kEx l);have h4:=kb (Zde true op r) (kEx r);have e:kEx (.bin op l r)=kB (Zde false op l) (kEx l)++([wd wSign op]++kB (Zde true op r) (kEx r)):=rfl;rw[e,Zr,Zr,lessB1,exZ];omega
theorem Zfh:∀(x:Acs)(d:Nat),Zfi d x→acsZ x≤(Xa (Uw x):Int)
 |.nil,d,_=>by show(0:Int)≤_;omega
 |.cons h t e r,d,hv=>by
  have hr:=Zfh r d hv.2;rw[acsZ,Uw,Zr];have e0:kAct h (Uw t) (Uw e) e.isNil=[wd Xs h.kind]++(if h.kind=10 then kCond h++(Zgr (Uw t)++kElse e.isNil (Uw e))else if h.kind=11 then Zgq h.sel++Zgr (Uw t)else Jz h++[Zhd]):=rfl;have hx:=Zib h.num;have hl:=Zib h.cl;have hrr:=Zib h.cr;rw[e0,Zr,lessB1];unfold acZ;rcases hv.1 with⟨_,vc,vt,ve⟩ | ⟨_,vc,vt,rfl⟩ | ⟨vp,rfl,rfl⟩
  ·have hk:=vc.kind
   have ht:=Zfh t _ vt;have he:=Zfh e _ ve;rw[if_neg (by omega),if_pos hk,if_pos hk];unfold kCond;simp only[Zr,Zdg];cases e with
   |nil=>rw[if_neg (by show ¬ 0<0;omega)];omega
   |cons a b c f=>
    have e2:kElse (Acs.cons a b c f).isNil (Uw (.cons a b c f))=[Uu]++Zgr (Uw (.cons a b c f)):=rfl;rw[if_pos (by show 0<f.len+1;omega),e2];simp only[Zr,Zdg];omega
  ·have hk:=vc.kind
   have ht:=Zfh t _ vt;rw[if_neg (by omega),if_neg (by omega),if_pos hk,if_neg (by omega),if_pos hk];simp only[Zr,Zdg];omega
  ·have hkp:=vp.kind.2.2
   rw[if_neg hkp.1,if_neg hkp.2,if_neg hkp.1,if_neg hkp.2];simp only[Zr];have e3:Xa [Zhd]=2:=rfl;split
   ·next hk=>
    unfold Jz;rcases vp with⟨hk2,_⟩ | ⟨hk2,_⟩ | ⟨hk2,_⟩ | ⟨hk2,_⟩ | ⟨hk2,_⟩ | ⟨hk2,_⟩ | ⟨hk2,_⟩
    ·rw[if_pos hk2,Zr];omega
    ·omega
    ·omega
    ·rw[if_neg (by omega),if_neg (by omega),if_neg (by omega),if_pos hk2];simp only[Zr];omega
    ·rw[if_neg (by omega),if_neg (by omega),if_neg (by omega),if_neg (by omega),if_pos hk2];simp only[Zr];omega
    ·omega
    ·omega
   ·omega
def Ru.less(r:Ru):Ru:= { r with acts:=r.acts.front }
theorem lRule_ok(place:Bool)(i:Int)(r:Ru):(Zcl place i r).1=0↔Zcm place i r=0∧(Vr ⟨place,r.when_,false⟩ 0 r.acts).1=0∧Zkm r=0:=by
 unfold Zcl;have h1:=atF_ok (Zcm place i r) r.line r.col;have h2:=atF_ok (Zkm r) r.line r.col;have h3:=lActs_zero r.acts ⟨place,r.when_,false⟩ 0;have h4:=orF_ok h3 h2.2;have h5:=orF_ok h1.2 h4.2;rw[h5.1,h4.1,h1.1,h2.1]
theorem lRule_less{place:Bool}{i:Int}{r:Ru}(hz:acsZ r.acts<9223372036854775808)(h:(Zcl place i r).1=0):(Zcl place i r.less).1=0:=by
 rw[lRule_ok]at h ⊢;refine⟨h.1,Zjm _ _ _ h.2.1,?_⟩;have h3:=h.2.2;have h4:=acsZ_front r.acts;have h5:=Zdr r.acts;have h6:=Zdr r.acts.front;unfold Zkm at h3 ⊢;have e:r.less.acts=r.acts.front:=rfl;rw[e];rw[wr_small (by omega) (by omega)]at h3 ⊢;rw[if_neg];intro q;rw[if_pos (by omega)]at h3;cases h3
theorem Ziv(place:Bool):∀(l:List Ru)(i:Nat),(Vu place i l).1=0↔∀(j:Nat)(h:j<l.length),(Zcl place ((i+j:Nat):Int) (l[j]'h)).1=0
 |[],i=>⟨fun _ j h=>absurd h (Nat.not_lt_zero j),fun _=>rfl⟩
 |r::l,i=>by
  have ih:=Ziv place l (i+1);show(if(Zcl place (i:Int) r).1=0 then Vu place (i+1) l else Zcl place (i:Int) r).1=0↔_;by_cases h0:(Zcl place (i:Int) r).1=0
  ·rw[if_pos h0,ih]
   refine⟨fun h j hj=>?_,fun h j hj=>?_⟩
   ·cases j with
    |zero=>exact h0
    |succ j=>
     have:=h j (by simpa using hj);rwa [show i+1+j=i+(j+1)from by omega]at this
   ·have:=h (j+1) (by simpa using hj)
    rwa [show i+(j+1)=i+1+j from by omega]at this
  ·rw[if_neg h0]
   exact⟨fun q=>absurd q h0,fun q=>absurd (q 0 (by simp)) h0⟩
theorem lRules_dropl{place:Bool}{l:List Ru}(h:(Vu place 0 l).1=0):(Vu place 0 l.dropLast).1=0:=by
 rw[Ziv]at h ⊢;intro j hj;have:=h j (by rw[List.length_dropLast]at hj;omega);rwa [List.getElem_dropLast]
theorem lRules_less{place:Bool}{l:List Ru}(hz:∀ r ∈ l,acsZ r.acts<9223372036854775808)(h:(Vu place 0 l).1=0):(Vu place 0 (l.map Ru.less)).1=0:=by
 rw[Ziv]at h ⊢;intro j hj;have hj2:j<l.length:=by simpa using hj
 rw[List.getElem_map];exact lRule_less (hz _ (List.getElem_mem hj2)) (h j hj2)
theorem lCard_ok(c:Ca):(lCard c).1=0↔(Zbw c.cost 0 9 || Zbw c.power (-20) 20)=false∧(Vu false 0 c.rules).1=0:=by
 unfold lCard;by_cases h:(Zbw c.cost 0 9 || Zbw c.power (-20) 20)=true
 ·rw[if_pos h,h];simp
 ·rw[if_neg h];simp at h;simp[h]
theorem lCard_drop{c:Ca}(h:(lCard c).1=0):(lCard { c with rules:=c.rules.dropLast }).1=0:=by
 rw[lCard_ok]at h ⊢;exact⟨h.1,lRules_dropl h.2⟩
theorem lCard_less{c:Ca}(hz:∀ r ∈ c.rules,acsZ r.acts<9223372036854775808)(h:(lCard c).1=0):(lCard { c with rules:=c.rules.map Ru.less }).1=0:=by
 rw[lCard_ok]at h ⊢;exact⟨h.1,lRules_less hz h.2⟩
theorem lOne_ok(most tw i l c:Int)(f:Fa):(Zbj most tw i l c f).1=0↔i<most∧i≠tw∧f.1=0:=by
 unfold Zbj;split
 ·simp;omega
 ·split
  ·next h=>simp[h]
  ·next h1 h2=>simp[h2];omega
theorem Zfs(tw:Int):∀(l:List Ca)(i:Nat),(Uy tw i l).1=0↔∀(j:Nat)(h:j<l.length),((i+j:Nat):Int)<128∧((i+j:Nat):Int)≠tw∧(lCard (l[j]'h)).1=0
 |[],i=>⟨fun _ j h=>absurd h (Nat.not_lt_zero j),fun _=>rfl⟩
 |r::l,i=>by
  have ih:=Zfs tw l (i+1);have hone:=lOne_ok 128 tw (i:Int) r.line r.col (lCard r);show(if(Zbj 128 tw (i:Int) r.line r.col (lCard r)).1=0 then Uy tw (i+1) l else Zbj 128 tw (i:Int) r.line r.col (lCard r)).1=0↔_;by_cases h0:(Zbj 128 tw (i:Int) r.line r.col (lCard r)).1=0
  ·rw[if_pos h0,ih]
   refine⟨fun h j hj=>?_,fun h j hj=>?_⟩
   ·cases j with
    |zero=>exact hone.1 h0
    |succ j=>
     have:=h j (by simpa using hj);rwa [show i+1+j=i+(j+1)from by omega]at this
   ·have:=h (j+1) (by simpa using hj)
    rwa [show i+(j+1)=i+1+j from by omega]at this
  ·rw[if_neg h0]
   exact⟨fun q=>absurd q h0,fun q=>absurd (hone.2 (q 0 (by simp))) h0⟩
theorem Zgp(tw:Int):∀(l:List Pl)(i:Nat),(Vl tw i l).1=0↔∀(j:Nat)(h:j<l.length),((i+j:Nat):Int)<32∧((i+j:Nat):Int)≠tw∧(Jj (l[j]'h)).1=0
 |[],i=>⟨fun _ j h=>absurd h (Nat.not_lt_zero j),fun _=>rfl⟩
 |r::l,i=>by
  have ih:=Zgp tw l (i+1);have hone:=lOne_ok 32 tw (i:Int) r.line r.col (Jj r);show(if(Zbj 32 tw (i:Int) r.line r.col (Jj r)).1=0 then Vl tw (i+1) l else Zbj 32 tw (i:Int) r.line r.col (Jj r)).1=0↔_;by_cases h0:(Zbj 32 tw (i:Int) r.line r.col (Jj r)).1=0
  ·rw[if_pos h0,ih]
   refine⟨fun h j hj=>?_,fun h j hj=>?_⟩
   ·cases j with
    |zero=>exact hone.1 h0
    |succ j=>
     have:=h j (by simpa using hj);rwa [show i+1+j=i+(j+1)from by omega]at this
   ·have:=h (j+1) (by simpa using hj)
    rwa [show i+(j+1)=i+1+j from by omega]at this
  ·rw[if_neg h0]
   exact⟨fun q=>absurd q h0,fun q=>absurd (hone.2 (q 0 (by simp))) h0⟩
theorem twice_all{N:List Bs}(h:∀ j,j<N.length→(j:Int)≠Wt N):∀ j,j<N.length→isF N j=true:=by
 intro j hj;cases e:isF N j with
 |true=>rfl
 |false=>
  exfalso
  have hf:∃ i,(List.range N.length).find? (fun i=> !isF N i)=some i:=by
   rw[←Option.isSome_iff_exists,List.find?_isSome];exact⟨j,List.mem_range.2 hj,by simp[e]⟩
  obtain⟨i,hi⟩:=hf;have hm:=List.mem_of_find?_eq_some hi;have e2:Wt N=i:=by unfold Wt;rw[hi]
  exact h i (List.mem_range.1 hm) e2.symm
theorem Zhy{α:Type}(p:α→Bool):∀(l:List α)(n:Nat),l.findIdx p<n→(l.take n).findIdx p=l.findIdx p
 |[],n,h=>by simp
 |x::l,n,h=>by
  cases n with
  |zero=>omega
  |succ n=>
   rw[List.take_succ_cons,List.findIdx_cons,List.findIdx_cons];cases hp:p x with
   |true=>rfl
   |false=>
    rw[List.findIdx_cons,hp]at h;simp only[cond_false]at h ⊢;rw[Zhy p l n (by omega)]
theorem twice_drop{N:List Bs}(h:∀ j,j<N.length→isF N j=true):Wt N.dropLast = -1:=by
 refine twice_no fun j hj=>?_
 rw[List.length_dropLast]at hj;have h1:=h j (by omega);unfold isF Vt Jd at *;simp only[beq_iff_eq]at h1 ⊢;rw[List.dropLast_eq_take]at *
 have e:(N.take (N.length - 1)).getD j []=N.getD j []:=by
  simp only[List.getD,List.getElem?_take];rw[if_pos hj]
 rw[e,Zhy _ _ _ (by omega),h1]
theorem Zjl(tw:Int):∀(l:List Ca)(i:Nat),(Uy tw i l).1=0→Uy tw i l=(0,0,0)
 |[],i,_=>rfl
 |r::l,i,h=>by
  have e:Uy tw i (r::l)=if(Zbj 128 tw (i:Int) r.line r.col (lCard r)).1=0 then Uy tw (i+1) l else Zbj 128 tw (i:Int) r.line r.col (lCard r):=rfl
  rw[e]at h ⊢;by_cases h0:(Zbj 128 tw (i:Int) r.line r.col (lCard r)).1=0
  ·rw[if_pos h0]at h ⊢;exact Zjl tw l (i+1) h
  ·rw[if_neg h0]at h;exact absurd h h0
theorem Zhk(tw:Int):∀(l:List Pl)(i:Nat),(Vl tw i l).1=0→Vl tw i l=(0,0,0)
 |[],i,_=>rfl
 |r::l,i,h=>by
  have e:Vl tw i (r::l)=if(Zbj 32 tw (i:Int) r.line r.col (Jj r)).1=0 then Vl tw (i+1) l else Zbj 32 tw (i:Int) r.line r.col (Jj r):=rfl
  rw[e]at h ⊢;by_cases h0:(Zbj 32 tw (i:Int) r.line r.col (Jj r)).1=0
  ·rw[if_pos h0]at h ⊢;exact Zhk tw l (i+1) h
  ·rw[if_neg h0]at h;exact absurd h h0
theorem Zea(f:Fi):(lCheck f).1=0↔(Uy (Wt (Yd (f.cards.map Ca.name))) 0 f.cards).1=0∧(Vl (Wt (Yd (f.places.map Pl.name))) 0 f.places).1=0:=by
 unfold lCheck;exact(orF_ok (Zjl _ _ _) (Zhk _ _ _)).1
theorem lCheck_card{f:Fi}(h:(lCheck f).1=0){c:Ca}(hc:c ∈ f.cards):(lCard c).1=0:=by
 have h1:=(Zea f).1 h;obtain⟨j,hj,rfl⟩:=List.getElem_of_mem hc;exact((Zfs _ _ _).1 h1.1 j hj).2.2
theorem lCheck_less{f:Fi}(h:(lCheck f).1=0):(lCheck ⟨f.cards.dropLast,f.places.dropLast⟩).1=0:=by
 have h1:=(Zea f).1 h;rw[Zea];have a:=(Zfs _ _ _).1 h1.1;have b:=(Zgp _ _ _).1 h1.2;have bl:∀ l:List ByteArray,(Yd l).length=l.length:=Xx
 have bd:∀ l:List ByteArray,Yd l.dropLast=(Yd l).dropLast:=fun l=>by unfold Yd;rw[List.map_dropLast]
 constructor
 ·have t1:=twice_drop (twice_all (N:=Yd (f.cards.map Ca.name)) fun j hj=>by
   rw[bl,List.length_map]at hj;have:=(a j hj).2.1;rwa [Nat.zero_add]at this)
  rw[←bd,←List.map_dropLast]at t1;dsimp only;rw[t1,Zfs];intro j hj;have hj2:j<f.cards.length:=by rw[List.length_dropLast]at hj;omega
  have:=a j hj2;rw[List.getElem_dropLast];exact⟨this.1,by omega,this.2.2⟩
 ·have t1:=twice_drop (twice_all (N:=Yd (f.places.map Pl.name)) fun j hj=>by
   rw[bl,List.length_map]at hj;have:=(b j hj).2.1;rwa [Nat.zero_add]at this)
  rw[←bd,←List.map_dropLast]at t1;dsimp only;rw[t1,Zgp];intro j hj;have hj2:j<f.places.length:=by rw[List.length_dropLast]at hj;omega
  have:=b j hj2;rw[List.getElem_dropLast];exact⟨this.1,by omega,this.2.2⟩
end Go.Proofs.YtljdgdphldckhaaGreat
