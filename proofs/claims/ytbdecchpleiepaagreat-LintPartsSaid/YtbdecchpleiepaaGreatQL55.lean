/- Parts of the proof. No conditions but those that each names. -/
import Derived.Test.YtbdecchpleiepaaGreatQL53
set_option maxRecDepth 20000
set_option maxHeartbeats 99000000
set_option linter.unusedVariables false
set_option linter.unusedSimpArgs false
namespace Go.Proofs.YtbdecchpleiepaaGreat
open Go.Value renaming int→I,slice→Λ,pointer→Ω,string→Ψ,oneCell'→Γ
open Go.IntKind renaming i64→J
open _root_.Go.Proofs.Tryz renaming prog→Φ
open Go.Ending renaming returned→η
open Go Go.RowKit
theorem rund_rus:Tryz.prog.underlying 34=some (.slice 41):=by kernel_rfl
theorem rows_ru{N:Nat→Prop}{w:World}{A:Option Addr}{l:List Ru}{xs:List Value}(hw:Zbo N w A xs)(hd:Zs N w (Un l) xs)(h:0<l.length) :
  ∃ g,A=some ⟨g,0,none⟩∧g<w.heap.size∧∀ m (hm:m<l.length),∃ vs,w.rangeAt g (m*5) vs∧Zs N w (l[m]'hm).ds vs:=by
 obtain⟨pre,ys,post,hxs,hp,hy⟩:=rus_at hd 0 h;obtain⟨g,rfl,hg,hc⟩:=hw.reads (by rw[hxs];have:=hy.len;have e:(l[0]'h).ds.len=5:=rfl;simp;omega);refine⟨g,rfl,hg,fun m hm=>?_⟩;obtain⟨pre,ys,post,hxs,hp,hy⟩:=rus_at hd m hm;exact⟨ys,Ut (by rw[hxs]at hc;exact hc) hp,hy⟩
theorem walk_LintParts(s:ByteArray)(w:World)(ws:s.size≤maxLen) :
  Calls Φ 4 #[Ψ s] w fun e w'=>e=η (.bool true)∧Below w.heap.size w w':=by
 unfold maxLen at ws;by_cases hz:8000<s.size
 ·go_enter Tryz.func4,Tryz.ntmps4
  go_wp2_with(go_at_call 5;refine(Zjo _).mono ?_;rintro e w1 ⟨rfl,hb1⟩)
  go_ret;exact⟨rfl,hb1⟩
 have hq:=fun y=>qFile s y (by omega)
 have hv:=parse_val 3 s (by omega);have hlk:=parse_few 3 s (by omega);obtain⟨f,hf⟩:∃ f,(Zcn 3 s).1=f:=⟨_,rfl⟩
 obtain⟨F,hF⟩:∃ F,(Zcn 3 s).2=F:=⟨_,rfl⟩
 rw[hf]at hq hv hlk;rw[hF]at hq;unfold Zhu at hq;clear hf hF;obtain⟨F0,F1,F2⟩:=F;unfold Zr at hq;dsimp only at hq;have hz2:s.size≤8000:=by omega
 clear hz;have T:=Hh (Env.start w);by_cases h0:F0=0
 ·subst h0
  have HVF:=Hh hv;clear hv hlk;go_enter Tryz.func4,Tryz.ntmps4;go_wp2_with(first
 |(go_at_call 6;refine(hq _).mono ?_;rintro e w1 ⟨vs,rfl,d1,b1⟩;obtain⟨v0,v1,rfl⟩:=Zgg vs d1.len;have O1:=Hh d1.one;have T:=Hh (T.out.tree b1 d1);clear d1 b1)
 |((with_reducible refine Zd 3 ?_);refine Zb T.out 26 _ rfl rfl z_fi ?_;intro wa g0 tn;have T:=Hh tn;clear tn)
 |((with_reducible refine Zd 4 ?_);refine Zb T.out 29 _ rfl rfl Wu ?_;intro wb g1 tn;have T:=Hh tn;clear tn)
 |((with_reducible refine Zg 3 16 ?_);refine Za 26 _ _ 26 g0 _ [v0,v1] (T.out.get 0 rfl) rfl Va O1.out rfl rfl rfl rfl rfl ?_;intro wc p;have T:=Hh (T.out.put 0 rfl p);clear p)
 |((with_reducible refine Zg 4 17 ?_);refine Za 29 _ _ 29 g1 _ ([I J 0,I J (F1:Int),I J (F2:Int)]) (T.out.get 1 rfl) rfl Zj (by simp[Γ]) rfl rfl rfl rfl rfl ?_;intro wd p;have T:=Hh (T.out.put 1 rfl p);clear p;have k0:=T.out.cell 1 0 rfl rfl))
  have hleaf:=T.out.leaf 0 rfl;have HB0:=Hh T.out.below;have i0:=(T.out.get 0 rfl).inside;have q0:=T.out.cell 0 0 rfl rfl;have q1:=T.out.cell 0 1 rfl rfl;obtain⟨A,ca,xs,_,e1,n1,w1,d1,B,pb,ys,_,e2,n2,w2,d2,e3⟩:=hleaf;injection e1 with e1 e4;subst e1;subst e4;injection e2 with e2 e5;subst e2;subst e5;clear e3;have HF0:=Hh (fun y (b:Below wd.heap.size wd y)=>(World.cell?_of_block (a:=⟨g0,0,none⟩) (b.block g0 i0)).trans q0);have HF1:=Hh (fun y (b:Below wd.heap.size wd y)=>(World.cell?_of_block (a:=⟨g0,1,none⟩) (b.block g0 i0)).trans q1);have HA:=Hh (fun(q:0<f.cards.length)=>rows_ca w1 d1 q);have HB:=Hh (fun(q:0<f.places.length)=>rows_pl w2 d2 q);obtain⟨nc,hnc⟩:∃ n,n=f.cards.length:=⟨_,rfl⟩
  obtain⟨np,hnp⟩:∃ n,n=f.places.length:=⟨_,rfl⟩
  rw[←hnc]at n1 HF0;rw[←hnp]at n2 HF1;have l1:(nc:Int)≤9223372036854775807:=by omega
  have l2:(np:Int)≤9223372036854775807:=by omega
  have HNC:=Hh hnc;have HNP:=Hh hnp;clear w1 w2 d1 d2 q0 q1 hnc hnp T;have TT:=Hh (Env.start wd);go_loopw [5] (fun i wr=>∃ m:Nat,i=I J m∧m≤nc∧Env wd [] [] [] wr) (fun i _=>nc - (intOf i).toNat)
  case atStart=>exact⟨0,by go_num,Nat.zero_le _,TT.out⟩
  case round=>
    obtain⟨m,rfl,hm,hT⟩:=hrel;have TT:=Hh hT;clear hT;have k0:=HF0.out _ TT.out.below;by_cases hlt:m<nc
    ·have hk1:m<f.cards.length:=by rw[←HNC.out];exact hlt
     obtain⟨gA,hA,hg,hrows⟩:=HA.out (by omega);subst hA;obtain⟨vs,hR,hy⟩:=hrows m hk1;have hvx:=HVF.out.1 _ (List.getElem_mem hk1);generalize f.cards[m]'hk1=x at *;have HVL:=Hh (show vs.length=6 from hy.len);have HVO:=Hh hy.one;have HC1:=Hh (fun y (b:Below wd.heap.size wd y)=>lCard_any x y _ vs (hy.below b));have HC2:=Hh (fun y (b:Below wd.heap.size wd y)=>rCard_any x hvx y _ vs (hy.below b))
     obtain⟨D,rn,c2,zs,HV5,hwz,hdz,hrn⟩:∃ D rn c2 zs,Hid (vs[5]?=some (Λ D rn c2))∧Zbo (fun k=>w.heap.size≤k) wd D zs∧Zs (fun k=>w.heap.size≤k) wd (Un x.rules) zs∧rn=x.rules.length:=by
      obtain⟨_,rfl,_,rfl,_,rfl,_,rfl,_,rfl,D,c2,zs,_,rfl,_,q2,q3,rfl⟩:=id hy;exact⟨D,_,c2,zs,Hh rfl,q2,q3,rfl⟩
     have HD:=Hh (fun(q:0<x.rules.length)=>rows_ru hwz hdz q);have HRN:=Hh hrn;have HVR:=Hh hvx.2.2.2;have HR:Hid (∀ y,Below wd.heap.size wd y→y.rangeAt gA (m*6) vs):=Hh fun y hb=>Vd hR hg hb
     have lrn:(rn:Int)≤9223372036854775807:=by
      obtain⟨_,rfl,_,rfl,_,rfl,_,rfl,_,rfl,D,c2,zs,_,rfl,q1,_⟩:=id hy;omega
     generalize Zfr x=X at *;obtain⟨x0,x1,x2⟩:=X;unfold faV at HC1 HC2;dsimp only at HC1 HC2;clear hR hy hrows hvx hwz hdz hrn hk1;have lk:(m:Int)<(nc:Int):=by omega
     go_wp2_with(first
 |((with_reducible refine Zd 33 ?_);refine Zw 36 _ gA (m*6) vs (HR.out _ TT.out.below) Um (by rw[HVL.out];exact Xt) rfl rfl rfl ?_)
 |((with_reducible refine Zd 6 ?_);refine Zb TT.out 36 _ rfl rfl Znp ?_;intro wa g2 tn;have TT:=Hh tn;clear tn)
 |((with_reducible refine Zg 6 33 ?_);refine Za 36 _ _ 36 g2 _ (vs) (TT.out.get 0 rfl) HVL.out (by rw[HVL.out];exact Xt) HVO.out rfl rfl rfl rfl rfl ?_;intro wd2 p;have TT:=Hh (TT.out.put 0 rfl p);clear p))
     simp only[Act.put,Qz,Qy,Qx];refine Vv (fun x=>Env wd [(g2,36,vs)] [] [] x) (by kernel_rfl) TT.out.drew ?_;have hst:Zgz (fun x=>Env wd [(g2,36,vs)] [] [] x):=fun x y h e=>Env.call h e
     refine AB.tk 0 (.agg vs.toArray) rfl rfl (by kernel_rfl) (fun _ _ _ h=>h) hst (Wv (by rfl) rfl rfl (fun y hy=>(hy.get 0 rfl).range0) Um (by rw[HVL.out];exact Xt)) ?_;simp only[Qy,Qx];refine AB.tk 1 (.agg #[I J x0,I J x1,I J x2]) rfl rfl (by kernel_rfl) (fun _ _ _ h=>h) hst (Wx.call rfl (fun w=>by kernel_rfl) (fun y hy=>HC1.out y hy.below)) ?_;simp only[Qy,Qx];refine AB.tk 2 (.agg vs.toArray) rfl rfl (by kernel_rfl) (fun _ _ _ h=>h) hst (Wv (by rfl) rfl rfl (fun y hy=>(hy.get 0 rfl).range0) Um (by rw[HVL.out];exact Xt)) ?_;simp only[Qy,Qx];refine AB.tk 3 (.agg #[I J x0,I J x1,I J x2]) rfl rfl (by kernel_rfl) (fun _ _ _ h=>h) hst (Wx.call rfl (fun w=>by kernel_rfl) (fun y hy=>HC2.out y hy.below)) ?_;simp only[Qy,Qx];refine AB.tk 4 (.bool false) rfl rfl (by kernel_rfl) (fun _ _ _ h=>h) hst (Yg rfl (fun y hy=>by go_simp)) ?_;simp only[Qy,Qx];refine AB.done (by kernel_rfl) (fun wn hS=>?_);have TT:=Hh hS;clear hS;have k5:=TT.out.cell 0 5 rfl HV5.out;go_wp2
     go_loopw [7] (fun i wr=>∃ q:Nat,i=I J q∧q≤rn∧Env wd [(g2,36,vs)] [] [] wr) (fun i _=>rn - (intOf i).toNat)
     case atStart=>exact⟨0,by go_num,Nat.zero_le _,TT.out⟩
     case round=>
      obtain⟨q,rfl,hq,hT⟩:=hrel;have TT:=Hh hT;clear hT k0 k5;have k5:=TT.out.cell 0 5 rfl HV5.out;by_cases hqn:q<rn
      ·have lq:(q:Int)<(rn:Int):=by omega
       have hk2:q<x.rules.length:=by rw[←HRN.out];exact hqn
       obtain⟨gR,hD,hgR,hrows⟩:=HD.out (by omega);subst hD;obtain⟨rs,hR2,hy2⟩:=hrows q hk2;have hvr:=HVR.out _ (List.getElem_mem hk2);generalize x.rules[q]'hk2=r at *;have HRL:=Hh (show rs.length=5 from hy2.len)
       have HS1:Hid (∀ y,Below wd.heap.size wd y→Calls Φ 11 #[.agg rs.toArray] y fun e w'=>e=η (I J (Go.Proofs.YtbdecchpleiepaaGreat.wr (We r.acts)))∧Below y.heap.size y w'):=Hh fun y b=>by
        obtain⟨_,rfl,_,rfl,_,rfl,_,rfl,U,uc,zs,_,rfl,p1,p2,p3,rfl⟩:=id hy2;exact lSize_any _ _ _ _ r.acts y _ _ (Zs.below (show Zs _ wd (.row r.acts.len r.acts.ds .nil) [Λ U r.acts.len uc]from⟨U,uc,zs,[],rfl,p1,p2,p3,rfl⟩) b)
       obtain⟨U,uc,hu4,hrow⟩:∃ U uc,rs[4]?=some (Λ U r.acts.len uc)∧Zs (fun k=>w.heap.size≤k) wd (.row r.acts.len r.acts.ds .nil) [Λ U r.acts.len uc]:=by
        obtain⟨_,rfl,_,rfl,_,rfl,_,rfl,U,uc,zs,_,rfl,p1,p2,p3,rfl⟩:=id hy2;exact⟨U,uc,rfl,⟨U,uc,zs,[],rfl,p1,p2,p3,rfl⟩⟩
       have HS2:=Hh (fun y (b:Below wd.heap.size wd y)=>Zlp r.acts 0 hvr.2.2.2 y _ _ (hrow.below b));have HR4:=Hh (fun y (b:Below wd.heap.size wd y)=>Vd hR2 hgR b 4 _ hu4);have HRR:=Hh (fun y (b:Below wd.heap.size wd y)=>Vd hR2 hgR b);generalize Go.Proofs.YtbdecchpleiepaaGreat.wr (We r.acts)=sz at *;generalize r.acts.len=an at *;clear hR2 hy2 hu4 hrow hvr hrows hk2;go_wp2_with fail
       refine Vv (fun x=>Env wd [(g2,36,vs)] [] [] x) (by kernel_rfl) TT.out.drew ?_;have hst:Zgz (fun x=>Env wd [(g2,36,vs)] [] [] x):=fun x y h e=>Env.call h e
       refine AB.tk 0 (Ω (some ⟨g2,5,none⟩)) rfl rfl (by kernel_rfl) (fun _ _ _ h=>h) hst (Yg rfl (fun y hy=>by go_simp)) ?_;simp only[Qy,Qx];refine AB.tk 1 (Λ (some ⟨gR,0,none⟩) rn c2) rfl rfl (by kernel_rfl) (fun _ _ _ h=>h) hst (Yg rfl (fun y hy=>by have c0:=Env.cell hy 0 5 rfl HV5.out;go_simp)) ?_;simp only[Qy,Qx];refine AB.tk 2 (I J (q:Int)) rfl rfl (by kernel_rfl) (fun _ _ _ h=>h) hst (Uu rfl rfl rfl) ?_;simp only[Qy,Qx];refine AB.tk 3 (Ω (some ⟨gR,q*5,none⟩)) rfl rfl (by kernel_rfl) (fun _ _ _ h=>h) hst (Zbm (by rfl) rfl rfl rfl hqn rund_rus Jj) ?_;simp only[Qy,Qx];refine AB.tk 4 (.agg rs.toArray) rfl rfl (by kernel_rfl) (fun _ _ _ h=>h) hst (Wv (by rfl) rfl rfl (fun y hy=>HRR.out y hy.below) Zhm (by rw[HRL.out];exact Jj)) ?_;simp only[Qy,Qx];refine AB.tk 5 (I J sz) rfl rfl (by kernel_rfl) (fun _ _ _ h=>h) hst (Wx.call rfl (fun w=>by kernel_rfl) (fun y hy=>HS1.out y hy.below)) ?_;simp only[Qy,Qx];refine AB.tk 6 (Ω (some ⟨g2,5,none⟩)) rfl rfl (by kernel_rfl) (fun _ _ _ h=>h) hst (Yg rfl (fun y hy=>by go_simp)) ?_;simp only[Qy,Qx];refine AB.tk 7 (Λ (some ⟨gR,0,none⟩) rn c2) rfl rfl (by kernel_rfl) (fun _ _ _ h=>h) hst (Yg rfl (fun y hy=>by have c0:=Env.cell hy 0 5 rfl HV5.out;go_simp)) ?_;simp only[Qy,Qx];refine AB.tk 8 (I J (q:Int)) rfl rfl (by kernel_rfl) (fun _ _ _ h=>h) hst (Uu rfl rfl rfl) ?_;simp only[Qy,Qx];refine AB.tk 9 (Ω (some ⟨gR,q*5,none⟩)) rfl rfl (by kernel_rfl) (fun _ _ _ h=>h) hst (Zbm (by rfl) rfl rfl rfl hqn rund_rus Jj) ?_;simp only[Qy,Qx];refine AB.tk 10 (Ω (some ⟨gR,q*5+4,none⟩)) rfl rfl (by kernel_rfl) (fun _ _ _ h=>h) hst (Yg rfl (fun y hy=>by go_simp)) ?_;simp only[Qy,Qx];refine AB.tk 11 (Λ U an uc) rfl rfl (by kernel_rfl) (fun _ _ _ h=>h) hst (Yg rfl (fun y hy=>by have c0:=HR4.out y hy.below;go_simp)) ?_;simp only[Qy,Qx];refine AB.tk 12 (I J sz) rfl rfl (by kernel_rfl) (fun _ _ _ h=>h) hst (Wx.call rfl (fun w=>by kernel_rfl) (fun y hy=>HS2.out y hy.below)) ?_;simp only[Qy,Qx];refine AB.tk 13 (.bool false) rfl rfl (by kernel_rfl) (fun _ _ _ h=>h) hst (Yg rfl (fun y hy=>by go_simp)) ?_;simp only[Qy,Qx];refine AB.done (by kernel_rfl) (fun wn hS=>?_);have TT:=Hh hS;clear hS;go_wp2
       go_roundw
       case rel=>exact⟨q+1,by go_num,by omega,TT.out⟩
       case measure=>simp[intOf];omega
      ·have lq:¬(q:Int)<(rn:Int):=by omega
       go_wp2
       go_roundw
       case rel=>exact⟨m+1,by go_num,by omega,TT.out.less (bs:=[]) (cs:=[_]) (ts:=[]) (us:=[])⟩
       case measure=>simp[intOf];omega
    ·have lk:¬(m:Int)<(nc:Int):=by omega
     go_wp2_with fail
     go_loopw [8] (fun i wr=>∃ m:Nat,i=I J m∧m≤np∧Env wd [] [] [] wr) (fun i _=>np - (intOf i).toNat)
     case atStart=>exact⟨0,by go_num,Nat.zero_le _,TT.out⟩
     case round=>
      obtain⟨m,rfl,hm,hT⟩:=hrel;have TT:=Hh hT;clear hT k0;have k1:=HF1.out _ TT.out.below;by_cases hlt:m<np
      ·have hk1:m<f.places.length:=by rw[←HNP.out];exact hlt
       obtain⟨gB,hB,hg,hrows⟩:=HB.out (by omega);subst hB;obtain⟨vs,hR,hy⟩:=hrows m hk1;have hvx:=HVF.out.2 _ (List.getElem_mem hk1);generalize f.places[m]'hk1=x at *;have HVL:=Hh (show vs.length=4 from hy.len);have HC1:=Hh (fun y (b:Below wd.heap.size wd y)=>lPlace_any x y _ vs (hy.below b))
       obtain⟨D,rn,c2,hu3,hrow,hrn⟩:∃ D rn c2,vs[3]?=some (Λ D rn c2)∧Zs (fun k=>w.heap.size≤k) wd (.row x.rules.length (Un x.rules) .nil) [Λ D rn c2]∧rn=x.rules.length:=by
        obtain⟨_,rfl,_,rfl,_,rfl,D,c2,zs,_,rfl,p1,p2,p3,rfl⟩:=id hy;exact⟨D,_,c2,rfl,⟨D,c2,zs,[],rfl,p1,p2,p3,rfl⟩,rfl⟩
       subst hrn;have HC2:=Hh (fun y (b:Below wd.heap.size wd y)=>Zkq true x.rules hvx.2 y _ _ (hrow.below b));have HR4:=Hh (fun y (b:Below wd.heap.size wd y)=>Vd hR hg b 3 _ hu3);have HR:=Hh (fun y (b:Below wd.heap.size wd y)=>Vd hR hg b);have hpl:Zfq x=Uy true 0 x.rules:=rfl;rw[hpl]at HC1;generalize Uy true 0 x.rules=X at *;generalize x.rules.length=rn at *;obtain⟨x0,x1,x2⟩:=X;unfold faV at HC1 HC2;dsimp only at HC1 HC2;clear hR hy hu3 hrow hvx hrows hk1 hpl;have lk:(m:Int)<(np:Int):=by omega
       go_wp2_with fail
       refine Vv (fun x=>Env wd [] [] [] x) (by kernel_rfl) TT.out.drew ?_;have hst:Zgz (fun x=>Env wd [] [] [] x):=fun x y h e=>Env.call h e
       refine AB.tk 0 (Ω (some ⟨g0,1,none⟩)) rfl rfl (by kernel_rfl) (fun _ _ _ h=>h) hst (Yg rfl (fun y hy=>by go_simp)) ?_;simp only[Qy,Qx];refine AB.tk 1 (Λ (some ⟨gB,0,none⟩) np pb) rfl rfl (by kernel_rfl) (fun _ _ _ h=>h) hst (Yg rfl (fun y hy=>by have c0:=HF1.out y hy.below;go_simp)) ?_;simp only[Qy,Qx];refine AB.tk 2 (I J (m:Int)) rfl rfl (by kernel_rfl) (fun _ _ _ h=>h) hst (Uu rfl rfl rfl) ?_;simp only[Qy,Qx];refine AB.tk 3 (Ω (some ⟨gB,m*4,none⟩)) rfl rfl (by kernel_rfl) (fun _ _ _ h=>h) hst (Zbm (by rfl) rfl rfl rfl hlt rund_pls Wc) ?_;simp only[Qy,Qx];refine AB.tk 4 (.agg vs.toArray) rfl rfl (by kernel_rfl) (fun _ _ _ h=>h) hst (Wv (by rfl) rfl rfl (fun y hy=>HR.out y hy.below) Zan (by rw[HVL.out];exact Wc)) ?_;simp only[Qy,Qx];refine AB.tk 5 (.agg #[I J x0,I J x1,I J x2]) rfl rfl (by kernel_rfl) (fun _ _ _ h=>h) hst (Wx.call rfl (fun w=>by kernel_rfl) (fun y hy=>HC1.out y hy.below)) ?_;simp only[Qy,Qx];refine AB.tk 6 (Ω (some ⟨g0,1,none⟩)) rfl rfl (by kernel_rfl) (fun _ _ _ h=>h) hst (Yg rfl (fun y hy=>by go_simp)) ?_;simp only[Qy,Qx];refine AB.tk 7 (Λ (some ⟨gB,0,none⟩) np pb) rfl rfl (by kernel_rfl) (fun _ _ _ h=>h) hst (Yg rfl (fun y hy=>by have c0:=HF1.out y hy.below;go_simp)) ?_;simp only[Qy,Qx];refine AB.tk 8 (I J (m:Int)) rfl rfl (by kernel_rfl) (fun _ _ _ h=>h) hst (Uu rfl rfl rfl) ?_;simp only[Qy,Qx];refine AB.tk 9 (Ω (some ⟨gB,m*4,none⟩)) rfl rfl (by kernel_rfl) (fun _ _ _ h=>h) hst (Zbm (by rfl) rfl rfl rfl hlt rund_pls Wc) ?_;simp only[Qy,Qx];refine AB.tk 10 (Ω (some ⟨gB,m*4+3,none⟩)) rfl rfl (by kernel_rfl) (fun _ _ _ h=>h) hst (Yg rfl (fun y hy=>by go_simp)) ?_;simp only[Qy,Qx];refine AB.tk 11 (Λ D rn c2) rfl rfl (by kernel_rfl) (fun _ _ _ h=>h) hst (Yg rfl (fun y hy=>by have c0:=HR4.out y hy.below;go_simp)) ?_;simp only[Qy,Qx];refine AB.tk 12 (.agg #[I J x0,I J x1,I J x2]) rfl rfl (by kernel_rfl) (fun _ _ _ h=>h) hst (Wx.call rfl (fun w=>by kernel_rfl) (fun y hy=>HC2.out y hy.below)) ?_;simp only[Qy,Qx];refine AB.tk 13 (.bool false) rfl rfl (by kernel_rfl) (fun _ _ _ h=>h) hst (Yg rfl (fun y hy=>by go_simp)) ?_;simp only[Qy,Qx];refine AB.done (by kernel_rfl) (fun wn hS=>?_);have TT:=Hh hS;clear hS;go_wp2
       go_roundw
       case rel=>exact⟨m+1,by go_num,by omega,TT.out⟩
       case measure=>simp[intOf];omega
      ·have lk:¬(m:Int)<(np:Int):=by omega
       go_wp2_with(go_at_call 5;refine(Zjo _).mono ?_;rintro e we ⟨rfl,bn⟩;have TT:=Hh (TT.out.call bn);clear bn)
       go_ret;exact⟨rfl,HB0.out.trans (TT.out.below.mono HB0.out.size)⟩
 ·have hb:(F0 != 0)=true:=by simpa using h0
  clear h0 hv hlk;go_enter Tryz.func4,Tryz.ntmps4;go_wp2_with(first
 |(go_at_call 6;refine(hq _).mono ?_;rintro e w1 ⟨vs,rfl,d1,b1⟩;obtain⟨v0,v1,rfl⟩:=Zgg vs d1.len;have O1:=Hh d1.one;have T:=Hh (T.out.tree b1 d1);clear d1 b1)
 |((with_reducible refine Zd 3 ?_);refine Zb T.out 26 _ rfl rfl z_fi ?_;intro wa g0 tn;have T:=Hh tn;clear tn)
 |((with_reducible refine Zd 4 ?_);refine Zb T.out 29 _ rfl rfl Wu ?_;intro wb g1 tn;have T:=Hh tn;clear tn)
 |((with_reducible refine Zg 3 16 ?_);refine Za 26 _ _ 26 g0 _ [v0,v1] (T.out.get 0 rfl) rfl Va O1.out rfl rfl rfl rfl rfl ?_;intro wc p;have T:=Hh (T.out.put 0 rfl p);clear p)
 |((with_reducible refine Zg 4 17 ?_);refine Za 29 _ _ 29 g1 _ ([I J F0,I J (F1:Int),I J (F2:Int)]) (T.out.get 1 rfl) rfl Zj (by simp[Γ]) rfl rfl rfl rfl rfl ?_;intro wd p;have T:=Hh (T.out.put 1 rfl p);clear p;have k0:=T.out.cell 1 0 rfl rfl)
 |(go_at_call 5;refine(Zjo _).mono ?_;rintro e we ⟨rfl,bn⟩;have T:=Hh (T.out.call bn);clear bn))
  go_ret;exact⟨rfl,T.out.below⟩
end Go.Proofs.YtbdecchpleiepaaGreat
