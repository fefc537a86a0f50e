/- Parts of the proof. No conditions but those that each names. -/
import Derived.Test.YtbdecchpleiepaaGreatQL30
import Derived.Test.YtbdecchpleiepaaGreatQL33
set_option maxRecDepth 20000
set_option maxHeartbeats 99000000
set_option linter.unusedVariables false
set_option linter.unusedSimpArgs false
namespace Go.Proofs.YtbdecchpleiepaaGreat
open Go.Value renaming int→I,slice→Λ,pointer→Ω,string→Ψ,oneCell'→Γ
open Go.IntKind renaming i64→J
open _root_.Go.Proofs.Tryz renaming prog→Φ
open And renaming intro→ζ
open Go.Ending renaming returned→η
open Go Go.RowKit
def Zkw(f:Fi):Fa:=orF (Zay (Jn (Ys (f.cards.map Ca.name))) 0 f.cards) (Zao (Jn (Ys (f.places.map Pl.name))) 0 f.places)
theorem lCheck_any(f:Fi)(hc:f.cards.length≤1000000)(hp:f.places.length≤1000000)(w:World)(N:Nat→Prop)(vs:List Value)(h:Zs N w f.ds vs) :
  Calls Φ 7 #[.agg vs.toArray] w fun e w'=>e=η (faV (Zkw f))∧Below w.heap.size w w':=by
 obtain⟨cards,places⟩:=f;obtain⟨A,ca,xs,_,rfl,n1,w1,d1,B,pb,ys,_,rfl,n2,w2,d2,rfl⟩:=h;have hcs:Zs N w (.row cards.length (Zcg cards) .nil) [Λ A cards.length ca]:=⟨A,ca,xs,[],rfl,n1,w1,d1,rfl⟩
 have hps:Zs N w (.row places.length (Zde places) .nil) [Λ B places.length pb]:=⟨B,pb,ys,[],rfl,n2,w2,d2,rfl⟩
 have hC:=fun x (hb:Below w.heap.size w x)=>lListedC cards hc x N _ (hcs.below hb)
 have hP:=fun x (hb:Below w.heap.size w x)=>lListedP places hp x N _ (hps.below hb)
 unfold Zkw;dsimp only at *;generalize Zay (Jn (Ys (cards.map Ca.name))) 0 cards=F at *;generalize Zao (Jn (Ys (places.map Pl.name))) 0 places=G at *;generalize cards.length=cn at *;generalize places.length=pn at *;rw[←orF2];have hof:=fun x g (hW:Zi x g 29 ([F,G].flatMap faL).toArray)=>lOrF [F,G] 2 2 g x rfl (by omega) hW
 generalize Jl [F,G]=R at *;clear hcs hps n1 n2 w1 w2 d1 d2 hc hp;have T:=Hh (Env.start w);go_enter Tryz.func7,Tryz.ntmps7;go_upto_region 3 with(first
 |((with_reducible refine Zd 1 ?_);refine Zf T.out 26 _ ([Λ A cn ca,Λ B pn pb]) rfl rfl rfl ?_;intro wa g0 tn;have T:=Hh tn;clear tn)
 |((with_reducible refine Zd 2 ?_);refine Zb T.out 29 _ rfl rfl Wu ?_;intro wb g1 tn;have T:=Hh tn;clear tn))
 have h2:=T.out.drew;refine wp_region_held_drew (S:=fun x=>Zi x g0 26 ([Λ A cn ca,Λ B pn pb]:List Value).toArray∧Below w.heap.size w x) (by kernel_rfl) ⟨h2.get 0 rfl,h2.below⟩ (fun hS=>?_);generalize wb.drew=wf at *;refine Yv (i:=0) (v:=Ω (some ⟨g0,0,none⟩)) rfl rfl (by kernel_rfl) (by kernel_rfl) (by kernel_rfl) (fun _ _ _ h=>h) (Or.inl ⟨by rfl,fun y hy=>by go_simp⟩) hS ?_;try simp only[Qy,Qx]
 refine Yv (i:=1) (v:=Λ A cn ca) rfl rfl (by kernel_rfl) (by kernel_rfl) (by kernel_rfl) (fun _ _ _ h=>h) (Or.inl ⟨by rfl,fun y hy=>by have c0:=hy.1.read 0;go_simp⟩) hS ?_;try simp only[Qy,Qx]
 refine Yv (i:=2) (v:=.func (.func 25) #[] #[]) rfl rfl (by kernel_rfl) (by kernel_rfl) (by kernel_rfl) (fun _ _ _ h=>h) (Zds rfl rfl rfl) hS ?_;try simp only[Qy,Qx]
 refine Yv (i:=4) (v:=Ω (some ⟨g0,1,none⟩)) rfl rfl (by kernel_rfl) (by kernel_rfl) (by kernel_rfl) (fun _ _ _ h=>h) (Or.inl ⟨by rfl,fun y hy=>by go_simp⟩) hS ?_;try simp only[Qy,Qx]
 refine Yv (i:=5) (v:=Λ B pn pb) rfl rfl (by kernel_rfl) (by kernel_rfl) (by kernel_rfl) (fun _ _ _ h=>h) (Or.inl ⟨by rfl,fun y hy=>by have c0:=hy.1.read 1;go_simp⟩) hS ?_;try simp only[Qy,Qx]
 refine Yv (i:=6) (v:=.func (.func 26) #[] #[]) rfl rfl (by kernel_rfl) (by kernel_rfl) (by kernel_rfl) (fun _ _ _ h=>h) (Zds rfl rfl rfl) hS ?_;try simp only[Qy,Qx]
 refine wpAnyH_ready (rs:=[3]) (by kernel_rfl) (by simp) (AllReadyH.cons rfl (fun K hK=>?_) AllReadyH.nil);go_simp;go_at_call 28
 refine(hC _ h2.below).mono ?_;rintro e wf ⟨rfl,bn⟩;try simp only[faV]
 try go_wp2
 have h2:=h2.call bn;refine hK.out _ _ ⟨h2.get 0 rfl,h2.below⟩ (fun _=>?_);clear hK K bn;try simp only[Act.put,Qz,Qy,Qx]
 refine wpAnyH_ready (rs:=[7]) (by kernel_rfl) (by simp) (AllReadyH.cons rfl (fun K hK=>?_) AllReadyH.nil);go_simp;go_at_call 29
 refine(hP _ h2.below).mono ?_;rintro e wf ⟨rfl,bn⟩;try simp only[faV]
 try go_wp2
 have h2:=h2.call bn;refine hK.out _ _ ⟨h2.get 0 rfl,h2.below⟩ (fun _=>?_);clear hK K bn;try simp only[Act.put,Qz,Qy,Qx]
 refine wpAnyH_ready (rs:=[8]) (by kernel_rfl) (by simp) (AllReadyH.cons rfl (fun K hK=>?_) AllReadyH.nil);go_simp;have hWb:Zi (World.alloc wf (.cells #[I J F.1,I J F.2.1,I J F.2.2,I J G.1,I J G.2.1,I J G.2.2] 29)) wf.heap.size 29 ([F,G].flatMap faL).toArray:=Zi.made _ _ _;have hnb:=Zh wf (.cells #[I J F.1,I J F.2.1,I J F.2.2,I J G.1,I J G.2.1,I J G.2.2] 29);have h2:=h2.call hnb;generalize World.alloc wf (.cells #[I J F.1,I J F.2.1,I J F.2.2,I J G.1,I J G.2.1,I J G.2.2] 29)=wf at *;refine hK.out _ _ ⟨h2.get 0 rfl,h2.below⟩ (fun _=>?_);clear hK K hnb;try simp only[Act.put,Qz,Qy,Qx]
 refine wpAnyH_ready (rs:=[9]) (by kernel_rfl) (by simp) (AllReadyH.cons rfl (fun K hK=>?_) AllReadyH.nil);go_simp;go_at_call 27
 refine(hof _ _ hWb).mono ?_;rintro e wf ⟨rfl,bn⟩;try simp only[faV]
 try go_wp2
 have h2:=h2.call bn;refine hK.out _ _ ⟨h2.get 0 rfl,h2.below⟩ (fun _=>?_);clear hK K bn;try simp only[Act.put,Qz,Qy,Qx]
 refine wpAnyH_ready (rs:=[10]) (by kernel_rfl) (by simp) (AllReadyH.cons rfl (fun K hK=>?_) AllReadyH.nil);obtain⟨e0,e1,e2,z0,z1,z2⟩:=Zo (h2.get 1 rfl);go_simp;have h5:=(show Env w [_,_] [] [] _ from h2.put 1 rfl (Zir (h2.get 1 rfl) (I J R.1) (I J R.2.1) (I J R.2.2)))
 refine hK.out _ _ ⟨h5.get 0 rfl,h5.below⟩ (fun hS=>?_);clear hK K;try simp only[Act.put,Qz,Qy,Qx]
 refine wpAnyH_done (by kernel_rfl) ?_ _;go_wp2
 exact Ya 2 29 29 g1 _ rfl (h5.get 1 rfl) Yf Zj rfl rfl ⟨rfl,h5.below⟩
open Go.ChangeShapes Go.WideShapes Go.ChangeAt Go.RowKit
theorem nm_at{α:Type}{f:α→ByteArray}(l:List α)(m:Nat)(h:m<l.length):Ua (Ys (l.map f)) m=(f (l[m]'h)).toList:=by
 rw[Zkv];unfold nmS;rw[List.getD_eq_getElem?_getD,List.getElem?_map,List.getElem?_eq_getElem h];rfl
theorem isF_dup{N:List Bs}{i j:Nat}(hj:j<i)(h:Ua N j=Ua N i):isF N i=false:=by
 cases e:isF N i with
 |false=>rfl
 |true=>
  unfold isF at e;have e:=beq_iff_eq.1 e;by_cases hl:j<N.length
  ·have hp:(N[j] == Ua N i)=true:=by
    have:Ua N j=N[j]:=by unfold Ua;rw[List.getD_eq_getElem?_getD,List.getElem?_eq_getElem hl];rfl
    rw[←this,h];simp
   have e2:N.findIdx (· == Ua N i)=i:=e;have hq:=List.not_of_lt_findIdx (p:=(· == Ua N i)) (xs:=N) (i:=j) (by omega);rw[hp]at hq;cases hq
  ·have:=List.findIdx_le_length (p:=(· == Ua N i)) (xs:=N)
   unfold Jw at e;omega
theorem isF_new{N:List Bs}{i:Nat}(hi:i<N.length)(h:∀ j,j<i→Ua N j≠Ua N i):isF N i=true:=by
 have hm:Ua N i ∈ N:=by
  unfold Ua;rw[List.getD_eq_getElem?_getD,List.getElem?_eq_getElem hi];exact List.getElem_mem hi
 have h1:=Zgw hm;have h2:=(isF_lt hi).2;unfold isF;rw[beq_iff_eq];rcases Nat.lt_or_ge (Jw N (Ua N i)) i with q | q
 ·exact absurd h1 (h _ q)
 ·omega
theorem twice_is{N:List Bs}{i:Nat}(h:Jn N=(i:Int)):isF N i=false:=by
 unfold Jn at h;cases q:(List.range N.length).find? (fun i=> !isF N i)with
 |none=>rw[q]at h;simp at h
 |some k=>
  rw[q]at h;have hp:=List.find?_some q;have h:(k:Int)=(i:Int):=by simpa using h
  have:k=i:=by omega
  subst this;simpa using hp
theorem lCards_zR(tw:Int):∀(l:List Ca)(i:Nat),(Zay tw i l).1=0→Zay tw i l=(0,0,0)
 |[],_,_=>rfl
 |c::l,i,h=>by
  unfold Zay at h ⊢;split
  ·rename_i q;rw[if_pos q]at h;exact lCards_zR tw l _ h
  ·rename_i q;rw[if_neg q]at h;exact absurd h q
theorem lCards_dropR(tw:Int)(l:List Ca)(m:Nat)(h:m<l.length):Zay tw m (l.drop m)=if(Zjx 128 tw m (l[m]'h).line (l[m]'h).col (Zfr (l[m]'h))).1=0 then Zay tw (m+1) (l.drop (m+1))else Zjx 128 tw m (l[m]'h).line (l[m]'h).col (Zfr (l[m]'h)):=by
 rw[List.drop_eq_getElem_cons h];rfl
theorem lPlaces_dropR(tw:Int)(l:List Pl)(m:Nat)(h:m<l.length):Zao tw m (l.drop m)=if(Zjx 32 tw m (l[m]'h).line (l[m]'h).col (Zfq (l[m]'h))).1=0 then Zao tw (m+1) (l.drop (m+1))else Zjx 32 tw m (l[m]'h).line (l[m]'h).col (Zfq (l[m]'h)):=by
 rw[List.drop_eq_getElem_cons h];rfl
theorem rows_ca{N:Nat→Prop}{w:World}{A:Option Addr}{l:List Ca}{xs:List Value}(hw:Zbo N w A xs)(hd:Zs N w (Zcg l) xs)(h:0<l.length) :
  ∃ g,A=some ⟨g,0,none⟩∧g<w.heap.size∧∀ m (hm:m<l.length),∃ vs,w.rangeAt g (m*6) vs∧Zs N w (l[m]'hm).ds vs:=by
 obtain⟨pre,ys,post,hxs,hp,hy⟩:=Zjd hd 0 h;obtain⟨g,rfl,hg,hc⟩:=hw.reads (by rw[hxs];have:=hy.len;have e:(l[0]'h).ds.len=6:=rfl;simp;omega);refine⟨g,rfl,hg,fun m hm=>?_⟩;obtain⟨pre,ys,post,hxs,hp,hy⟩:=Zjd hd m hm;exact⟨ys,Ut (by rw[hxs]at hc;exact hc) hp,hy⟩
theorem rows_pl{N:Nat→Prop}{w:World}{A:Option Addr}{l:List Pl}{xs:List Value}(hw:Zbo N w A xs)(hd:Zs N w (Zde l) xs)(h:0<l.length) :
  ∃ g,A=some ⟨g,0,none⟩∧g<w.heap.size∧∀ m (hm:m<l.length),∃ vs,w.rangeAt g (m*4) vs∧Zs N w (l[m]'hm).ds vs:=by
 obtain⟨pre,ys,post,hxs,hp,hy⟩:=Zis hd 0 h;obtain⟨g,rfl,hg,hc⟩:=hw.reads (by rw[hxs];have:=hy.len;have e:(l[0]'h).ds.len=4:=rfl;simp;omega);refine⟨g,rfl,hg,fun m hm=>?_⟩;obtain⟨pre,ys,post,hxs,hp,hy⟩:=Zis hd m hm;exact⟨ys,Ut (by rw[hxs]at hc;exact hc) hp,hy⟩
theorem rund_cas:Tryz.prog.underlying 23=some (.slice 36):=by kernel_rfl
theorem rund_pls:Tryz.prog.underlying 24=some (.slice 45):=by kernel_rfl
theorem rCheck_any (f:Fi)(hv:VFi f)(w:World)(N:Nat→Prop)(vs:List Value)(h:Zs N w f.ds vs) :
   Calls Φ 8 #[.agg vs.toArray] w fun e w'=>e=η (faV (Zkw f))∧Below w.heap.size w w':=by
 obtain⟨A,ca,xs,_,rfl,n1,w1,d1,B,pb,ys,_,rfl,n2,w2,d2,rfl⟩:=h;obtain⟨twc,htc⟩:∃ t,t=Jn (Ys (f.cards.map Ca.name)):=⟨_,rfl⟩
 obtain⟨twp,htp⟩:∃ t,t=Jn (Ys (f.places.map Pl.name)):=⟨_,rfl⟩
 have HTWCa:=Hh htc;have HTWPl:=Hh htp;obtain⟨R,hR⟩:∃ R,R=Zkw f:=⟨_,rfl⟩
 rw[←hR]
 have HV:Hid (R=if(Zay twc 0 (f.cards.drop 0)).1=0 then Zao twp 0 f.places else Zay twc 0 (f.cards.drop 0)):=Hh (by
   rw[hR];unfold Zkw;rw[←htc,←htp];exact orF_rl (lCards_zR twc f.cards 0))
 obtain⟨nc,hnc⟩:∃ n,n=f.cards.length:=⟨_,rfl⟩
 obtain⟨np,hnp⟩:∃ n,n=f.places.length:=⟨_,rfl⟩
 have HA:=Hh (fun(q:0<f.cards.length)=>rows_ca w1 d1 q);have HB:=Hh (fun(q:0<f.places.length)=>rows_pl w2 d2 q);have hv1:f.ds=f.ds:=rfl;rw[←hnc]at n1 ⊢;rw[←hnp]at n2 ⊢;have l1:(nc:Int)≤9223372036854775807:=by omega
 have l2:(np:Int)≤9223372036854775807:=by omega
 have HNC:=Hh hnc;have HNP:=Hh hnp;have HVF:=Hh hv;clear hv1 hnc hnp hR htc htp w1 w2 d1 d2 hv;have T:=Hh (Env.start w);go_enter Tryz.func8,Tryz.ntmps8;go_wp2_with(first
 |((with_reducible refine Zd 1 ?_);refine Zf T.out 26 _ ([Λ A nc ca,Λ B np pb]) rfl rfl rfl ?_;intro wa g0 tn;have T:=Hh tn;clear tn)
 |((with_reducible refine Zd 2 ?_);refine Zb T.out 29 _ rfl rfl Wu ?_;intro wa g1 tn;have T:=Hh tn;clear tn))
 go_loopw [3] (fun i wr=>∃ m:Nat,i=I J m∧m≤nc∧Env w [(g0,26,[Λ A nc ca,Λ B np pb]),(g1,29,[I J 0,I J 0,I J 0])] [] [] wr∧Hid (Zep (Ys (f.cards.map Ca.name)) m∧R=(if(Zay twc m (f.cards.drop m)).1=0 then Zao twp 0 f.places else Zay twc m (f.cards.drop m)))) (fun i _=>nc - (intOf i).toNat)
 case atStart=>exact⟨0,by go_num,Nat.zero_le _,T.out,Hh ⟨fun j hj=>by omega,HV.out⟩⟩
 case round=>
   obtain⟨m,rfl,hm,hT,hz⟩:=hrel;have T:=Hh hT;clear hT;have k0:=T.out.cell 0 0 rfl rfl;by_cases hlt:m<nc
   · have hk1:m<f.cards.length:=by rw[←HNC.out];exact hlt
     obtain⟨gA,hA,hg,hrows⟩:=HA.out (by omega);subst hA;obtain⟨vs,hR,hy⟩:=hrows m hk1;have HROWS:=Hh hrows;have hz2:=hz.out.2;rw[lCards_dropR twc f.cards m hk1]at hz2;have hnm:Ua (Ys (f.cards.map Ca.name)) m=(f.cards[m]'hk1).name.toList:=nm_at _ _ hk1;have hv:=HVF.out.1 _ (List.getElem_mem hk1);generalize f.cards[m]'hk1=x at *;have HVL:=Hh (show vs.length=6 from hy.len);have HVO:=Hh hy.one
     have HV0:=Hh (show vs[0]?=some (Ψ x.name)∧vs[3]?=some (I J x.line)∧vs[4]?=some (I J x.col)from by
       obtain⟨_,rfl,_,rfl,_,rfl,_,rfl,_,rfl,D,c2,zs,_,rfl,_⟩:=id hy;exact⟨rfl,rfl,rfl⟩)
     have HC:=Hh (fun y (b:Below w.heap.size w y)=>rCard_any x hv y N vs (hy.below b));have hone:∀ F:Fa,Zjx 128 twc m x.line x.col F=if 128≤(m:Int)then(9,x.line,x.col)else if(m:Int)=twc then(11,x.line,x.col)else F:=fun _=>rfl
     generalize Zfr x=F at *;have HR:Hid (∀ y,Below w.heap.size w y→y.rangeAt gA (m*6) vs):=Hh fun y hb=>Vd hR hg hb
     generalize x.name=nm at *;generalize x.line=ln at *;generalize x.col=co at *;rw[hone]at hz2;have HNM:=Hh hnm;have HF:=Hh hz.out.1;have hdup:isF (Ys (f.cards.map Ca.name)) m=false→(m:Int)=twc:=fun q=>(twice_at (by rw[Wr,List.length_map];exact hk1) q hz.out.1).symm.trans (HTWCa.out).symm
     have hndup:isF (Ys (f.cards.map Ca.name)) m=true→(m:Int)≠twc:=fun q e=>by
       have:=twice_is (N:=Ys (f.cards.map Ca.name)) (i:=m) ((HTWCa.out).symm.trans e.symm);rw[q]at this;cases this
     have HD:=Hh (ζ hdup hndup);have HZ2:=Hh hz2;have HK1:=Hh hk1;clear hz hz2 hone hR hrows hy hv hnm hdup hndup hk1;obtain⟨x0,x1,x2⟩:=F;unfold faV at HC;dsimp only at HC;have lk:(m:Int)<(nc:Int):=by omega
     by_cases hmost:128≤m
     · have hf:R=(9,ln,co):=by
         have e:=HZ2.out;rw[if_pos (show(128:Int)≤(m:Int) by omega)]at e;rw[e];rfl
       subst hf;have lm:127<(m:Int):=by omega
       go_wp2_with(first
 |((with_reducible refine Zd 22 ?_);refine Zw 36 _ gA (m*6) vs (HR.out _ T.out.below) Um (by rw[HVL.out];exact Xt) rfl rfl rfl ?_)
 |((with_reducible refine Zd 4 ?_);refine Zb T.out 36 _ rfl rfl Znp ?_;intro wa g2 tn;have T:=Hh tn;clear tn)
 |((with_reducible refine Zg 4 22 ?_);refine Za 36 _ _ 36 g2 _ (vs) (T.out.get 2 rfl) HVL.out (by rw[HVL.out];exact Xt) HVO.out rfl rfl rfl rfl rfl ?_;intro wd p;have T:=Hh (T.out.put 2 rfl p);clear p;have c0:=T.out.cell 2 0 rfl HV0.out.1;have c1:=T.out.cell 2 3 rfl HV0.out.2.1;have c2:=T.out.cell 2 4 rfl HV0.out.2.2)
 | ((with_reducible refine Zg 2 29 ?_);refine Za 29 _ _ 29 g1 _ ([I J 9,I J ln,I J co]) (T.out.get 1 rfl) rfl Zj (by simp[Γ]) rfl rfl rfl rfl rfl ?_;intro wd p;have T:=Hh (T.out.put 1 rfl p);clear p))
       exact Ya 2 29 29 g1 ([I J 9,I J ln,I J co]) rfl (T.out.get 1 rfl) Yf Zj rfl rfl ⟨rfl,T.out.below⟩
     · have lm:¬ 127<(m:Int):=by omega
       go_wp2_with(first
 |((with_reducible refine Zd 22 ?_);refine Zw 36 _ gA (m*6) vs (HR.out _ T.out.below) Um (by rw[HVL.out];exact Xt) rfl rfl rfl ?_)
 |((with_reducible refine Zd 4 ?_);refine Zb T.out 36 _ rfl rfl Znp ?_;intro wa g2 tn;have T:=Hh tn;clear tn)
 |((with_reducible refine Zg 4 22 ?_);refine Za 36 _ _ 36 g2 _ (vs) (T.out.get 2 rfl) HVL.out (by rw[HVL.out];exact Xt) HVO.out rfl rfl rfl rfl rfl ?_;intro wd p;have T:=Hh (T.out.put 2 rfl p);clear p;have c0:=T.out.cell 2 0 rfl HV0.out.1;have c1:=T.out.cell 2 3 rfl HV0.out.2.1;have c2:=T.out.cell 2 4 rfl HV0.out.2.2))
       go_loopw [5] (fun i wr=>∃ q:Nat,i=I J q∧q≤m∧Env w [(g0,26,[Λ (some ⟨gA,0,none⟩) nc ca,Λ B np pb]),(g1,29,[I J 0,I J 0,I J 0]),(g2,36,vs)] [] [] wr∧Hid (∀ j,j<q→Ua (Ys (f.cards.map Ca.name)) j≠nm.toList)) (fun i _=>m - (intOf i).toNat)
       case atStart=>exact⟨0,by go_num,Nat.zero_le _,T.out,Hh fun j hj=>by omega⟩
       case round=>
         obtain⟨q,rfl,hq,hT,hn⟩:=hrel;have T:=Hh hT;clear hT k0;by_cases hqm:q<m
         · have lq:(q:Int)<(m:Int):=by omega
           have hqn:q<nc:=by omega
           have hk2:q<f.cards.length:=by rw[←HNC.out];exact hqn
           obtain⟨us,hR2,hy2⟩:=HROWS.out q hk2;have hnm2:Ua (Ys (f.cards.map Ca.name)) q=(f.cards[q]'hk2).name.toList:=nm_at _ _ hk2
           have hu0:us[0]?=some (Ψ (f.cards[q]'hk2).name):=by
             obtain⟨_,rfl,_⟩:=hy2;rfl
           generalize(f.cards[q]'hk2).name=nm2 at *;have HU:=Hh (fun y (b:Below w.heap.size w y)=>(by have:=Vd hR2 hg b 0 _ hu0;simpa using this:y.cell? ⟨gA,q*6,none⟩=some (Ψ nm2)));have HN2:=Hh hnm2;clear hR2 hy2 hu0 hnm2 hk2;go_wp2_with fail
           refine Vv (fun x=>Env w [(g0,26,[Λ (some ⟨gA,0,none⟩) nc ca,Λ B np pb]),(g1,29,[I J 0,I J 0,I J 0]),(g2,36,vs)] [] [] x) (by kernel_rfl) T.out.drew ?_;have hst:Zgz (fun x=>Env w [(g0,26,[Λ (some ⟨gA,0,none⟩) nc ca,Λ B np pb]),(g1,29,[I J 0,I J 0,I J 0]),(g2,36,vs)] [] [] x):=fun x y h e=>Env.call h e
           refine AB.tk 0 (Ω (some ⟨g0,0,none⟩)) rfl rfl (by kernel_rfl) (fun _ _ _ h=>h) hst (Yg rfl (fun y hy=>by go_simp)) ?_;simp only[Qy,Qx];refine AB.tk 1 (Λ (some ⟨gA,0,none⟩) nc ca) rfl rfl (by kernel_rfl) (fun _ _ _ h=>h) hst (Yg rfl (fun y hy=>by have c0:=Env.cell hy 0 0 rfl rfl;go_simp)) ?_;simp only[Qy,Qx];refine AB.tk 2 (I J (q:Int)) rfl rfl (by kernel_rfl) (fun _ _ _ h=>h) hst (Uu rfl rfl rfl) ?_;simp only[Qy,Qx];refine AB.tk 3 (Ω (some ⟨gA,q*6,none⟩)) rfl rfl (by kernel_rfl) (fun _ _ _ h=>h) hst (Zbm (by rfl) rfl rfl rfl hqn rund_cas Xt) ?_;simp only[Qy,Qx];refine AB.tk 4 (Ω (some ⟨gA,q*6,none⟩)) rfl rfl (by kernel_rfl) (fun _ _ _ h=>h) hst (Yg rfl (fun y hy=>by go_simp)) ?_;simp only[Qy,Qx];refine AB.tk 5 (Ψ nm2) rfl rfl (by kernel_rfl) (fun _ _ _ h=>h) hst (Yg rfl (fun y hy=>by have c0:=HU.out y hy.below;go_simp)) ?_;simp only[Qy,Qx];refine AB.tk 6 (Ω (some ⟨g2,0,none⟩)) rfl rfl (by kernel_rfl) (fun _ _ _ h=>h) hst (Yg rfl (fun y hy=>by go_simp)) ?_;simp only[Qy,Qx];refine AB.tk 7 (Ψ nm) rfl rfl (by kernel_rfl) (fun _ _ _ h=>h) hst (Yg rfl (fun y hy=>by have c0:=Env.cell hy 2 0 rfl HV0.out.1;go_simp)) ?_;simp only[Qy,Qx];refine AB.tk 8 (.bool (nm2.toList == nm.toList)) rfl rfl (by kernel_rfl) (fun _ _ _ h=>h) hst (Yg rfl (fun y hy=>by go_simp)) ?_;simp only[Qy,Qx];refine AB.done (by kernel_rfl) (fun wn hS=>?_);have T:=Hh hS;clear hS;clear c0 c1 c2;have c0:=T.out.cell 2 0 rfl HV0.out.1;have c1:=T.out.cell 2 3 rfl HV0.out.2.1;have c2:=T.out.cell 2 4 rfl HV0.out.2.2;cases hb:(nm2.toList == nm.toList)with
           |true=>
             have he:nm2.toList=nm.toList:=by simpa using hb
             have hf:R=(11,ln,co):=by
               have hi:isF (Ys (f.cards.map Ca.name)) m=false:=isF_dup hqm (by rw[HN2.out,HNM.out];exact he);have e:=HZ2.out;rw[if_neg (show ¬(128:Int)≤(m:Int) by omega),if_pos (HD.out.1 hi)]at e;rw[e];rfl
             subst hf;clear he hb;go_wp2_with(first
 |((with_reducible refine Zg 2 48 ?_);refine Za 29 _ _ 29 g1 _ ([I J 11,I J ln,I J co]) (T.out.get 1 rfl) rfl Zj (by simp[Γ]) rfl rfl rfl rfl rfl ?_;intro wd p;have T:=Hh (T.out.put 1 rfl p);clear p))
             exact Ya 2 29 29 g1 ([I J 11,I J ln,I J co]) rfl (T.out.get 1 rfl) Yf Zj rfl rfl ⟨rfl,T.out.below⟩
           |false=>
             have he:¬ nm2.toList=nm.toList:=by simpa using hb
             have HNN:Hid (∀ j,j<q+1→Ua (Ys (f.cards.map Ca.name)) j≠nm.toList):=Hh fun j hj=>by
               rcases Nat.lt_succ_iff_lt_or_eq.1 hj with h | rfl
               ·exact hn.out j h
               ·rw[HN2.out];exact he
             clear he hb;go_wp2
             go_roundw
             case rel=>exact⟨q+1,by go_num,by omega,T.out,HNN⟩
             case measure=>simp[intOf];omega
         · obtain rfl:q=m:=by omega
           have hi:isF (Ys (f.cards.map Ca.name)) q=true:=isF_new (by rw[Wr,List.length_map];exact HK1.out) (fun j hj=>by rw[HNM.out];exact hn.out j hj);have e:=HZ2.out;rw[if_neg (show ¬(128:Int)≤(q:Int) by omega),if_neg (HD.out.2 hi)]at e;have HFN:Hid (Zep (Ys (f.cards.map Ca.name)) (q+1)):=Hh (HF.out.next hi);have lq:¬(q:Int)<(q:Int):=by omega
           clear hn hi;by_cases h0:x0=0
           · rw[if_pos h0]at e
             have HZ:=Hh (ζ HFN.out e);subst h0;clear e;go_wp2_with(first
 |((with_reducible refine Zd 49 ?_);refine Zc 36 _ 36 g2 vs (T.out.get 2 rfl) Um (by rw[HVL.out];exact Xt) rfl rfl rfl ?_)
 |(go_at_call 10;refine(HC.out _ T.out.below).mono ?_;rintro e we ⟨rfl,bn⟩;have T:=Hh (T.out.call bn);clear bn)
 |((with_reducible refine Zd 6 ?_);refine Zb T.out 29 _ rfl rfl Wu ?_;intro wa g3 tn;have T:=Hh tn;clear tn)
 |((with_reducible refine Zg 6 50 ?_);refine Za 29 _ _ 29 g3 _ ([I J 0,I J x1,I J x2]) (T.out.get 3 rfl) rfl Zj (by simp[Γ]) rfl rfl rfl rfl rfl ?_;intro wd p;have T:=Hh (T.out.put 3 rfl p);clear p;obtain⟨z0,z1,z2,_,_,_⟩:=Zo (T.out.get 3 rfl)))
             go_roundw
             case rel=>exact⟨q+1,by go_num,by omega,T.out.less (bs:=[_,_]) (cs:=[_,_]) (ts:=[]) (us:=[]),HZ⟩
             case measure=>simp[intOf];omega
           · rw[if_neg h0]at e
             have hf:R=(x0,x1,x2):=e.trans (if_neg h0);subst hf;have hb0:(x0 != 0)=true:=by simpa using h0
             clear e h0;go_wp2_with(first
 |((with_reducible refine Zd 49 ?_);refine Zc 36 _ 36 g2 vs (T.out.get 2 rfl) Um (by rw[HVL.out];exact Xt) rfl rfl rfl ?_)
 |(go_at_call 10;refine(HC.out _ T.out.below).mono ?_;rintro e we ⟨rfl,bn⟩;have T:=Hh (T.out.call bn);clear bn)
 |((with_reducible refine Zd 6 ?_);refine Zb T.out 29 _ rfl rfl Wu ?_;intro wa g3 tn;have T:=Hh tn;clear tn)
 |((with_reducible refine Zg 6 50 ?_);refine Za 29 _ _ 29 g3 _ ([I J x0,I J x1,I J x2]) (T.out.get 3 rfl) rfl Zj (by simp[Γ]) rfl rfl rfl rfl rfl ?_;intro wd p;have T:=Hh (T.out.put 3 rfl p);clear p;obtain⟨z0,z1,z2,_,_,_⟩:=Zo (T.out.get 3 rfl))
 |((with_reducible refine Zd 54 ?_);refine Zc 29 _ 29 g3 ([I J x0,I J x1,I J x2]) (T.out.get 3 rfl) Yf Zj rfl rfl rfl ?_)
 | ((with_reducible refine Zg 2 54 ?_);refine Za 29 _ _ 29 g1 _ ([I J x0,I J x1,I J x2]) (T.out.get 1 rfl) rfl Zj (by simp[Γ]) rfl rfl rfl rfl rfl ?_;intro wd p;have T:=Hh (T.out.put 1 rfl p);clear p))
             exact Ya 2 29 29 g1 ([I J x0,I J x1,I J x2]) rfl (T.out.get 1 rfl) Yf Zj rfl rfl ⟨rfl,T.out.below⟩
   · have hz2 := hz.out.2
     rw[List.drop_eq_nil_of_le (by have:=HNC.out;omega)]at hz2;have HP:Hid (R=Zao twp 0 (f.places.drop 0)):=Hh hz2;clear hz hz2;have lk:¬(m:Int)<(nc:Int):=by omega
     go_wp2_with fail
     go_loopw [7] (fun i wr=>∃ m:Nat,i=I J m∧m≤np∧Env w [(g0,26,[Λ A nc ca,Λ B np pb]),(g1,29,[I J 0,I J 0,I J 0])] [] [] wr∧Hid (Zep (Ys (f.places.map Pl.name)) m∧R=Zao twp m (f.places.drop m))) (fun i _=>np - (intOf i).toNat)
     case atStart=>exact⟨0,by go_num,Nat.zero_le _,T.out,Hh ⟨fun j hj=>by omega,HP.out⟩⟩
     case round=>
       obtain⟨m,rfl,hm,hT,hz⟩:=hrel;have T:=Hh hT;clear hT;have k0:=T.out.cell 0 1 rfl rfl;by_cases hlt:m<np
       · have hk1:m<f.places.length:=by rw[←HNP.out];exact hlt
         obtain⟨gB,hA,hg,hrows⟩:=HB.out (by omega);subst hA;obtain⟨vs,hR,hy⟩:=hrows m hk1;have HROWS:=Hh hrows;have hz2:=hz.out.2;rw[lPlaces_dropR twp f.places m hk1]at hz2;have hnm:Ua (Ys (f.places.map Pl.name)) m=(f.places[m]'hk1).name.toList:=nm_at _ _ hk1;have hv:=HVF.out.2 _ (List.getElem_mem hk1);generalize f.places[m]'hk1=x at *;have HVL:=Hh (show vs.length=4 from hy.len);have HVO:=Hh hy.one
         have HV0:=Hh (show vs[0]?=some (Ψ x.name)∧vs[1]?=some (I J x.line)∧vs[2]?=some (I J x.col)from by
           obtain⟨_,rfl,_,rfl,_,rfl,D,c2,zs,_,rfl,_⟩:=id hy;exact⟨rfl,rfl,rfl⟩)
         obtain⟨D,rn,c2,HV3,hrow,hrnn⟩:∃ D rn c2,Hid (vs[3]?=some (Λ D rn c2))∧Zs N w (.row x.rules.length (Un x.rules) .nil) [Λ D rn c2]∧rn=x.rules.length:=by
           obtain⟨_,rfl,_,rfl,_,rfl,D,c2,zs,_,rfl,q1,q2,q3,rfl⟩:=id hy;exact⟨D,_,c2,Hh rfl,⟨D,c2,zs,[],rfl,q1,q2,q3,rfl⟩,rfl⟩
         have HC:=Hh (fun y (b:Below w.heap.size w y)=>Zkq true x.rules hv.2 y N (Λ D rn c2) (hrow.below b));have hpl:Zfq x=Uy true 0 x.rules:=rfl;rw[hpl]at hz2;have hone:∀ F:Fa,Zjx 32 twp m x.line x.col F=if 32≤(m:Int)then(9,x.line,x.col)else if(m:Int)=twp then(11,x.line,x.col)else F:=fun _=>rfl
         generalize Uy true 0 x.rules=F at *;clear hpl hrow hrnn;have HR:Hid (∀ y,Below w.heap.size w y→y.rangeAt gB (m*4) vs):=Hh fun y hb=>Vd hR hg hb
         generalize x.name=nm at *;generalize x.line=ln at *;generalize x.col=co at *;rw[hone]at hz2;have HNM:=Hh hnm;have HF:=Hh hz.out.1;have hdup:isF (Ys (f.places.map Pl.name)) m=false→(m:Int)=twp:=fun q=>(twice_at (by rw[Wr,List.length_map];exact hk1) q hz.out.1).symm.trans (HTWPl.out).symm
         have hndup:isF (Ys (f.places.map Pl.name)) m=true→(m:Int)≠twp:=fun q e=>by
           have:=twice_is (N:=Ys (f.places.map Pl.name)) (i:=m) ((HTWPl.out).symm.trans e.symm);rw[q]at this;cases this
         have HD:=Hh (ζ hdup hndup);have HZ2:=Hh hz2;have HK1:=Hh hk1;clear hz hz2 hone hR hrows hy hv hnm hdup hndup hk1;obtain⟨x0,x1,x2⟩:=F;unfold faV at HC;dsimp only at HC;have lk:(m:Int)<(np:Int):=by omega
         by_cases hmost:32≤m
         · have hf:R=(9,ln,co):=by
             have e:=HZ2.out;rw[if_pos (show(32:Int)≤(m:Int) by omega)]at e;rw[e];rfl
           subst hf;have lm:31<(m:Int):=by omega
           go_wp2_with(first
 |((with_reducible refine Zd 66 ?_);refine Zw 45 _ gB (m*4) vs (HR.out _ T.out.below) Zan (by rw[HVL.out];exact Wc) rfl rfl rfl ?_)
 |((with_reducible refine Zd 8 ?_);refine Zb T.out 45 _ rfl rfl lz_pl ?_;intro wa g2 tn;have T:=Hh tn;clear tn)
 |((with_reducible refine Zg 8 66 ?_);refine Za 45 _ _ 45 g2 _ (vs) (T.out.get 2 rfl) HVL.out (by rw[HVL.out];exact Wc) HVO.out rfl rfl rfl rfl rfl ?_;intro wd p;have T:=Hh (T.out.put 2 rfl p);clear p;have c0:=T.out.cell 2 0 rfl HV0.out.1;have c1:=T.out.cell 2 1 rfl HV0.out.2.1;have c2:=T.out.cell 2 2 rfl HV0.out.2.2;have c3:=T.out.cell 2 3 rfl HV3.out)
 |((with_reducible refine Zg 2 73 ?_);refine Za 29 _ _ 29 g1 _ ([I J 9,I J ln,I J co]) (T.out.get 1 rfl) rfl Zj (by simp[Γ]) rfl rfl rfl rfl rfl ?_;intro wd p;have T:=Hh (T.out.put 1 rfl p);clear p))
           exact Ya 2 29 29 g1 ([I J 9,I J ln,I J co]) rfl (T.out.get 1 rfl) Yf Zj rfl rfl ⟨rfl,T.out.below⟩
         · have lm:¬ 31<(m:Int):=by omega
           go_wp2_with(first
 |((with_reducible refine Zd 66 ?_);refine Zw 45 _ gB (m*4) vs (HR.out _ T.out.below) Zan (by rw[HVL.out];exact Wc) rfl rfl rfl ?_)
 |((with_reducible refine Zd 8 ?_);refine Zb T.out 45 _ rfl rfl lz_pl ?_;intro wa g2 tn;have T:=Hh tn;clear tn)
 |((with_reducible refine Zg 8 66 ?_);refine Za 45 _ _ 45 g2 _ (vs) (T.out.get 2 rfl) HVL.out (by rw[HVL.out];exact Wc) HVO.out rfl rfl rfl rfl rfl ?_;intro wd p;have T:=Hh (T.out.put 2 rfl p);clear p;have c0:=T.out.cell 2 0 rfl HV0.out.1;have c1:=T.out.cell 2 1 rfl HV0.out.2.1;have c2:=T.out.cell 2 2 rfl HV0.out.2.2;have c3:=T.out.cell 2 3 rfl HV3.out))
           go_loopw [9] (fun i wr=>∃ q:Nat,i=I J q∧q≤m∧Env w [(g0,26,[Λ A nc ca,Λ (some ⟨gB,0,none⟩) np pb]),(g1,29,[I J 0,I J 0,I J 0]),(g2,45,vs)] [] [] wr∧Hid (∀ j,j<q→Ua (Ys (f.places.map Pl.name)) j≠nm.toList)) (fun i _=>m - (intOf i).toNat)
           case atStart=>exact⟨0,by go_num,Nat.zero_le _,T.out,Hh fun j hj=>by omega⟩
           case round=>
             obtain⟨q,rfl,hq,hT,hn⟩:=hrel;have T:=Hh hT;clear hT k0;by_cases hqm:q<m
             · have lq:(q:Int)<(m:Int):=by omega
               have hqn:q<np:=by omega
               have hk2:q<f.places.length:=by rw[←HNP.out];exact hqn
               obtain⟨us,hR2,hy2⟩:=HROWS.out q hk2;have hnm2:Ua (Ys (f.places.map Pl.name)) q=(f.places[q]'hk2).name.toList:=nm_at _ _ hk2
               have hu0:us[0]?=some (Ψ (f.places[q]'hk2).name):=by
                 obtain⟨_,rfl,_⟩:=hy2;rfl
               generalize(f.places[q]'hk2).name=nm2 at *;have HU:=Hh (fun y (b:Below w.heap.size w y)=>(by have:=Vd hR2 hg b 0 _ hu0;simpa using this:y.cell? ⟨gB,q*4,none⟩=some (Ψ nm2)));have HN2:=Hh hnm2;clear hR2 hy2 hu0 hnm2 hk2;go_wp2_with fail
               refine Vv (fun x=>Env w [(g0,26,[Λ A nc ca,Λ (some ⟨gB,0,none⟩) np pb]),(g1,29,[I J 0,I J 0,I J 0]),(g2,45,vs)] [] [] x) (by kernel_rfl) T.out.drew ?_;have hst:Zgz (fun x=>Env w [(g0,26,[Λ A nc ca,Λ (some ⟨gB,0,none⟩) np pb]),(g1,29,[I J 0,I J 0,I J 0]),(g2,45,vs)] [] [] x):=fun x y h e=>Env.call h e
               refine AB.tk 0 (Ω (some ⟨g0,1,none⟩)) rfl rfl (by kernel_rfl) (fun _ _ _ h=>h) hst (Yg rfl (fun y hy=>by go_simp)) ?_;simp only[Qy,Qx];refine AB.tk 1 (Λ (some ⟨gB,0,none⟩) np pb) rfl rfl (by kernel_rfl) (fun _ _ _ h=>h) hst (Yg rfl (fun y hy=>by have c0:=Env.cell hy 0 1 rfl rfl;go_simp)) ?_;simp only[Qy,Qx];refine AB.tk 2 (I J (q:Int)) rfl rfl (by kernel_rfl) (fun _ _ _ h=>h) hst (Uu rfl rfl rfl) ?_;simp only[Qy,Qx];refine AB.tk 3 (Ω (some ⟨gB,q*4,none⟩)) rfl rfl (by kernel_rfl) (fun _ _ _ h=>h) hst (Zbm (by rfl) rfl rfl rfl hqn rund_pls Wc) ?_;simp only[Qy,Qx];refine AB.tk 4 (Ω (some ⟨gB,q*4,none⟩)) rfl rfl (by kernel_rfl) (fun _ _ _ h=>h) hst (Yg rfl (fun y hy=>by go_simp)) ?_;simp only[Qy,Qx];refine AB.tk 5 (Ψ nm2) rfl rfl (by kernel_rfl) (fun _ _ _ h=>h) hst (Yg rfl (fun y hy=>by have c0:=HU.out y hy.below;go_simp)) ?_;simp only[Qy,Qx];refine AB.tk 6 (Ω (some ⟨g2,0,none⟩)) rfl rfl (by kernel_rfl) (fun _ _ _ h=>h) hst (Yg rfl (fun y hy=>by go_simp)) ?_;simp only[Qy,Qx];refine AB.tk 7 (Ψ nm) rfl rfl (by kernel_rfl) (fun _ _ _ h=>h) hst (Yg rfl (fun y hy=>by have c0:=Env.cell hy 2 0 rfl HV0.out.1;go_simp)) ?_;simp only[Qy,Qx];refine AB.tk 8 (.bool (nm2.toList == nm.toList)) rfl rfl (by kernel_rfl) (fun _ _ _ h=>h) hst (Yg rfl (fun y hy=>by go_simp)) ?_;simp only[Qy,Qx];refine AB.done (by kernel_rfl) (fun wn hS=>?_);have T:=Hh hS;clear hS;clear c0 c1 c2 c3;have c0:=T.out.cell 2 0 rfl HV0.out.1;have c1:=T.out.cell 2 1 rfl HV0.out.2.1;have c2:=T.out.cell 2 2 rfl HV0.out.2.2;have c3:=T.out.cell 2 3 rfl HV3.out;cases hb:(nm2.toList == nm.toList)with
               |true=>
                 have he:nm2.toList=nm.toList:=by simpa using hb
                 have hf:R=(11,ln,co):=by
                   have hi:isF (Ys (f.places.map Pl.name)) m=false:=isF_dup hqm (by rw[HN2.out,HNM.out];exact he);have e:=HZ2.out;rw[if_neg (show ¬(32:Int)≤(m:Int) by omega),if_pos (HD.out.1 hi)]at e;rw[e];rfl
                 subst hf;clear he hb;go_wp2_with(first
 |((with_reducible refine Zg 2 92 ?_);refine Za 29 _ _ 29 g1 _ ([I J 11,I J ln,I J co]) (T.out.get 1 rfl) rfl Zj (by simp[Γ]) rfl rfl rfl rfl rfl ?_;intro wd p;have T:=Hh (T.out.put 1 rfl p);clear p))
                 exact Ya 2 29 29 g1 ([I J 11,I J ln,I J co]) rfl (T.out.get 1 rfl) Yf Zj rfl rfl ⟨rfl,T.out.below⟩
               |false=>
                 have he:¬ nm2.toList=nm.toList:=by simpa using hb
                 have HNN:Hid (∀ j,j<q+1→Ua (Ys (f.places.map Pl.name)) j≠nm.toList):=Hh fun j hj=>by
                   rcases Nat.lt_succ_iff_lt_or_eq.1 hj with h | rfl
                   ·exact hn.out j h
                   ·rw[HN2.out];exact he
                 clear he hb;go_wp2
                 go_roundw
                 case rel=>exact⟨q+1,by go_num,by omega,T.out,HNN⟩
                 case measure=>simp[intOf];omega
             · obtain rfl:q=m:=by omega
               have hi:isF (Ys (f.places.map Pl.name)) q=true:=isF_new (by rw[Wr,List.length_map];exact HK1.out) (fun j hj=>by rw[HNM.out];exact hn.out j hj);have e:=HZ2.out;rw[if_neg (show ¬(32:Int)≤(q:Int) by omega),if_neg (HD.out.2 hi)]at e;have HFN:Hid (Zep (Ys (f.places.map Pl.name)) (q+1)):=Hh (HF.out.next hi);have lq:¬(q:Int)<(q:Int):=by omega
               clear hn hi c3;have c3:=T.out.cell 2 3 rfl HV3.out;by_cases h0:x0=0
               · rw[if_pos h0]at e
                 have HZ:=Hh (ζ HFN.out e);subst h0;clear e;go_wp2_with(first
 |(go_at_call 14;refine(HC.out _ T.out.below).mono ?_;rintro e we ⟨rfl,bn⟩;have T:=Hh (T.out.call bn);clear bn)
 |((with_reducible refine Zd 10 ?_);refine Zb T.out 29 _ rfl rfl Wu ?_;intro wa g3 tn;have T:=Hh tn;clear tn)
 |((with_reducible refine Zg 10 95 ?_);refine Za 29 _ _ 29 g3 _ ([I J 0,I J x1,I J x2]) (T.out.get 3 rfl) rfl Zj (by simp[Γ]) rfl rfl rfl rfl rfl ?_;intro wd p;have T:=Hh (T.out.put 3 rfl p);clear p;obtain⟨z0,z1,z2,_,_,_⟩:=Zo (T.out.get 3 rfl)))
                 go_roundw
                 case rel=>exact⟨q+1,by go_num,by omega,T.out.less (bs:=[_,_]) (cs:=[_,_]) (ts:=[]) (us:=[]),HZ⟩
                 case measure=>simp[intOf];omega
               · rw[if_neg h0]at e
                 have hf:R=(x0,x1,x2):=e;subst hf;have hb0:(x0 != 0)=true:=by simpa using h0
                 clear e h0;go_wp2_with(first
 |(go_at_call 14;refine(HC.out _ T.out.below).mono ?_;rintro e we ⟨rfl,bn⟩;have T:=Hh (T.out.call bn);clear bn)
 |((with_reducible refine Zd 10 ?_);refine Zb T.out 29 _ rfl rfl Wu ?_;intro wa g3 tn;have T:=Hh tn;clear tn)
 |((with_reducible refine Zg 10 95 ?_);refine Za 29 _ _ 29 g3 _ ([I J x0,I J x1,I J x2]) (T.out.get 3 rfl) rfl Zj (by simp[Γ]) rfl rfl rfl rfl rfl ?_;intro wd p;have T:=Hh (T.out.put 3 rfl p);clear p;obtain⟨z0,z1,z2,_,_,_⟩:=Zo (T.out.get 3 rfl))
 |((with_reducible refine Zd 99 ?_);refine Zc 29 _ 29 g3 ([I J x0,I J x1,I J x2]) (T.out.get 3 rfl) Yf Zj rfl rfl rfl ?_)
 |((with_reducible refine Zg 2 99 ?_);refine Za 29 _ _ 29 g1 _ ([I J x0,I J x1,I J x2]) (T.out.get 1 rfl) rfl Zj (by simp[Γ]) rfl rfl rfl rfl rfl ?_;intro wd p;have T:=Hh (T.out.put 1 rfl p);clear p))
                 exact Ya 2 29 29 g1 ([I J x0,I J x1,I J x2]) rfl (T.out.get 1 rfl) Yf Zj rfl rfl ⟨rfl,T.out.below⟩
       · have hz2:=hz.out.2
         rw[List.drop_eq_nil_of_le (by have:=HNP.out;omega)]at hz2;have hz2:R=(0,0,0):=hz2;subst hz2;clear hz;go_wp2_with(first
 |((with_reducible refine Zg 2 100 ?_);refine Za 29 _ _ 29 g1 _ ([I J 0,I J 0,I J 0]) (T.out.get 1 rfl) rfl Zj (by simp[Γ]) rfl rfl rfl rfl rfl ?_;intro wd p;have T:=Hh (T.out.put 1 rfl p);clear p))
         exact Ya 2 29 29 g1 ([I J 0,I J 0,I J 0]) rfl (T.out.get 1 rfl) Yf Zj rfl rfl ⟨rfl,T.out.below⟩
structure Zoc(w:World)(q c r K:Nat)(L:List TokV)(s:St)(cs:List Ca)(ps:List Pl)(xc xp:List Value)(vc vp:Value)(wr:World):Prop where
 mv:Xw w wr q c r K L s
 res:Zi wr w.heap.size 26 [Λ none 0 0,Λ none 0 0].toArray
 var:Zi wr (w.heap.size+1) 26 [vc,vp].toArray
 rc:wr.ownsRow (w.heap.size+2) 36 6 vc cs.length xc
 rp:wr.ownsRow (w.heap.size+2) 45 4 vp ps.length xp
 dc:Zs (fun k=>w.heap.size+2≤k∧vc.ownBlock≠some k∧vp.ownBlock≠some k) wr (Zcg cs) xc
 dp:Zs (fun k=>w.heap.size+2≤k∧vc.ownBlock≠some k∧vp.ownBlock≠some k) wr (Zde ps) xp
 ap:Zdr vc vp
 qin:q<w.heap.size
 cin:c<w.heap.size
 rin:r<w.heap.size
theorem Zoc.round{w x y:World}{q c r K:Nat}{L:List TokV}{s s':St}{cs:List Ca}{ps:List Pl}{xc xp:List Value}{vc vp:Value}(h:Zoc w q c r K L s cs ps xc xp vc vp x)(f:Zag q c x y)(m:Xw w y q c r K L s'):Zoc w q c r K L s' cs ps xc xp vc vp y:=by
 have hq:=h.qin;have hc:=h.cin;have i1:=h.res.inside;have i2:=h.var.inside
 exact⟨m,f.whole h.res (by omega),f.whole h.var (by omega),f.owns h.rc (fun k hk c=>by have:=h.rc.lt k hk;omega),f.owns h.rp (fun k hk c=>by have:=h.rp.lt k hk;omega),
  h.dc.keeps f (fun k hk hn=>⟨by omega,hn⟩),h.dp.keeps f (fun k hk hn=>⟨by omega,hn⟩),h.ap,hq,hc,h.rin⟩
theorem Zoc.pushP{w x y z:World}{q c r K:Nat}{L:List TokV}{s:St}{cs:List Ca}{ps:List Pl}{xc xp ys:List Value}{vc vp v':Value}(h:Zoc w q c r K L s cs ps xc xp vc vp x)(pl:Pl)
  (ho:y.ownsRow (w.heap.size+2) 45 4 v' (ps.length+1) (xp++ys))(hg:x.grownBy y vp.ownBlock)(hat:v'.ownBlock=vp.ownBlock∨v'.ownBlock=some x.heap.size)
  (d:Zs (fun k=>w.heap.size+2≤k∧vc.ownBlock≠some k∧vp.ownBlock≠some k) x pl.ds ys)(p:Put y z (w.heap.size+1) 26 [vc,v']):Zoc w q c r K L s cs (ps++[pl]) xc (xp++ys) vc v' z:=by
 have hq:=h.qin;have hc:=h.cin;have hr:=h.rin;have i1:=h.res.inside;have i2:=h.var.inside;have hb:∀ k,vp.ownBlock=some k→w.heap.size+2≤k:=fun k hk=>(h.rp.lt k hk).1
 have hk:Zy (fun k=>vp.ownBlock=some k∨k=w.heap.size+1) x z:=(Zy.grown (Zy.refl _ _) hg fun k hk=>.inl hk).trans (p.keeps.mono fun k hk=>.inr hk)
 have hs:∀ k,k<x.heap.size→(w.heap.size+2≤k∧vc.ownBlock≠some k∧vp.ownBlock≠some k)→¬(vp.ownBlock=some k∨k=w.heap.size+1)∧(w.heap.size+2≤k∧vc.ownBlock≠some k∧v'.ownBlock≠some k):=fun k hk hn=>by
  refine⟨fun c=>c.elim hn.2.2 fun e=>by omega,hn.1,hn.2.1,fun c=>?_⟩;rcases hat with e1 | e1
  ·rw[e1]at c;exact hn.2.2 c
  ·rw[e1]at c;injection c with c;omega
 have kq:∀ j,j<w.heap.size+2→¬ vp.ownBlock=some j:=fun j hj e=>by have:=hb j e;omega
 refine⟨⟨h.mv.at_.keeps hk (fun e=>e.elim (kq _ (by omega)) fun e=>by omega) (fun e=>e.elim (kq _ (by omega)) fun e=>by omega) (fun e=>e.elim (kq _ (by omega)) fun e=>by omega),?_⟩,hk.whole h.res (fun e=>e.elim (kq _ (by omega)) fun e=>by omega),p.whole,?_,?_,h.dc.keeps hk hs,?_,?_,hq,hc,hr⟩
 ·have h1:Zy (fun k=>(k=q∨k=c)∨(vp.ownBlock=some k∨k=w.heap.size+1)) w x:=h.mv.keeps.mono fun k h=>.inl h
  have h2:Zy (fun k=>(k=q∨k=c)∨(vp.ownBlock=some k∨k=w.heap.size+1)) x z:=hk.mono fun k h=>.inr h
  exact(h1.trans h2).inner fun k hk' h=>h.elim id fun e=>e.elim (fun e=>absurd e (kq k (by omega))) fun e=>by omega
 ·exact hk.owns h.rc fun k hk c=>c.elim (fun e=>h.ap k hk e) fun e=>by have:=(h.rc.lt k hk).1;omega
 ·rw[List.length_append]
  exact p.keeps.owns ho fun k hk c=>by have:=(ho.lt k hk).1;omega
 ·rw[Zkt]
  exact Zs.app (d.keeps hk hs) (h.dp.keeps hk hs)
 ·intro k hk2 c
  rcases hat with e1 | e1
  ·rw[e1]at c;exact h.ap k hk2 c
  ·rw[e1]at c;injection c with e2;have:=(h.rc.lt k hk2).2;omega
theorem Zjs(nk:Int)(L:List TokV)(m:Nat)(st:St)(h:Zk L Xp st=0):Wk nk L (m+1) st=(⟨[],[]⟩,st):=by rw[Wk,if_pos h]
theorem Zna(nk:Int)(L:List TokV)(m:Nat)(st:St)(h:Zk L Xp st=1):Wk nk L (m+1) st =
 (⟨(Zft nk L m (st.tok L).line (st.tok L).col (Ye L Xp st)).1::(Wk nk L m (Zft nk L m (st.tok L).line (st.tok L).col (Ye L Xp st)).2).1.cards,
     (Wk nk L m (Zft nk L m (st.tok L).line (st.tok L).col (Ye L Xp st)).2).1.places⟩,
   (Wk nk L m (Zft nk L m (st.tok L).line (st.tok L).col (Ye L Xp st)).2).2):=by rw[Wk,if_neg (by omega),if_pos h]
theorem Zlb(nk:Int)(L:List TokV)(m:Nat)(st:St)(h:Zk L Xp st=2):Wk nk L (m+1) st =
 (⟨(Wk nk L m (Vj nk L m (st.tok L).line (st.tok L).col (Ye L Xp st)).2).1.cards,
     (Vj nk L m (st.tok L).line (st.tok L).col (Ye L Xp st)).1::(Wk nk L m (Vj nk L m (st.tok L).line (st.tok L).col (Ye L Xp st)).2).1.places⟩,
   (Wk nk L m (Vj nk L m (st.tok L).line (st.tok L).col (Ye L Xp st)).2).2):=by rw[Wk,if_neg (by omega),if_neg (by omega)]
end Go.Proofs.YtbdecchpleiepaaGreat
