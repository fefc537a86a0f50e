/- Parts of the proof. No conditions but those that each names. -/
import Derived.Test.YtbdecchpleiepaaGreatQL29
set_option maxRecDepth 20000
set_option maxHeartbeats 99000000
set_option linter.unusedVariables false
set_option linter.unusedSimpArgs false
namespace Go.Proofs.YtbdecchpleiepaaGreat
open Go.Value renaming int→I,slice→Λ,string→Ψ,oneCell'→Γ
open Go.IntKind renaming i64→J
open _root_.Go.Proofs.Tryz renaming prog→Φ
open And renaming intro→ζ
open Go.Ending renaming returned→η
open Go.ChangeShapes Go.WideShapes Go.ChangeAt Go.RowKit
theorem lBefore_w(p:Bool)(m wh str:Int)(r:Ru)(hw:r.when_=wh)(hs:r.stratum=str) :
  (∃ b,Zap p m r=b∧b≠0∧(b=9∧3<m∨¬ 3<m∧(b=13∧(p=true∧((wh == 2)=true∨(wh == 2)=false∧(wh == 3)=true)∨p=false∧(wh == 6)=true)∨(p=true∧(wh == 2)=false∧(wh == 3)=false∨p=false∧(wh == 6)=false)∧b=12∧(wh == 5)=true∧(str<1∨¬ str<1∧3<str)))) ∨
  (¬ 3<m∧(p=true∧(wh == 2)=false∧(wh == 3)=false∨p=false∧(wh == 6)=false)∧Zap p m r=0∧((wh == 5)=true∧¬ str<1∧¬ 3<str∨(wh == 5)=false)):=by
 unfold Zap Zew;subst hw hs;by_cases h3:3<m
 ·exact .inl ⟨9,if_pos (by omega),by decide,.inl ⟨rfl,h3⟩⟩
 ·rw[if_neg (by omega)]
  by_cases h2:p=true∧(r.when_=2∨r.when_=3)∨p=false∧r.when_=6
  ·refine .inl ⟨13,if_pos ?_,by decide,.inr ⟨h3,.inl ⟨rfl,?_⟩⟩⟩
   rotate_left
   ·rcases h2 with⟨rfl,h⟩ | ⟨rfl,h⟩
    ·refine .inl ⟨rfl,?_⟩
     rcases h with h | h
     ·exact .inl (by simpa using h)
     ·exact .inr ⟨by rw[h];rfl,by simpa using h⟩
    ·exact .inr ⟨rfl,by simpa using h⟩
   rcases h2 with⟨rfl,h⟩ | ⟨rfl,h⟩
   ·rw[if_neg (by omega),if_pos h];rfl
   ·rw[if_pos h]
  ·have h4:(p=true∧(r.when_ == 2)=false∧(r.when_ == 3)=false∨p=false∧(r.when_ == 6)=false):=by
    cases p
    ·exact .inr ⟨rfl,by rw[beq_eq_false_iff_ne];intro q;exact h2 (.inr ⟨rfl,q⟩)⟩
    ·exact .inl ⟨rfl,by rw[beq_eq_false_iff_ne];intro q;exact h2 (.inl ⟨rfl,.inl q⟩),by rw[beq_eq_false_iff_ne];intro q;exact h2 (.inl ⟨rfl,.inr q⟩)⟩
   rw[if_neg (c:=(if r.when_=6 then p else if r.when_=2∨r.when_=3 then !p else true)=false) (by
    cases p
    ·rw[if_neg (fun q=>h2 (.inr ⟨rfl,q⟩))];split<;>simp
    ·rw[if_neg (c:=r.when_=2∨r.when_=3) (fun q=>h2 (.inl ⟨rfl,q⟩))];split<;>simp)]
   by_cases h5:r.when_=5
   ·by_cases h6:r.stratum<1
    ·exact .inl ⟨12,by simp[h5,h6],by decide,.inr ⟨h3,.inr ⟨h4,rfl,by simpa using h5,.inl h6⟩⟩⟩
    ·by_cases h7:3<r.stratum
     ·exact .inl ⟨12,by simp[h5,h7],by decide,.inr ⟨h3,.inr ⟨h4,rfl,by simpa using h5,.inr ⟨h6,h7⟩⟩⟩⟩
     ·exact .inr ⟨h3,h4,by simp[h5,h6,h7],.inl ⟨by simpa using h5,h6,h7⟩⟩
   ·exact .inr ⟨h3,h4,by simp[h5],.inr (by simpa using h5)⟩
theorem lRule_bad{p:Bool}{i b:Int}{r:Ru}(h:Zap p i r=b)(hb:b≠0):Zgo p i r=(b,r.line,r.col):=by
 unfold Zgo;rw[h];show orF (if b=0 then(0,0,0)else(b,r.line,r.col)) _=_;rw[if_neg hb];unfold orF;rw[if_neg (fun q=>hb q.1)]
theorem lRule_acts{p:Bool}{i:Int}{r:Ru}{x:Fa}(h:Zap p i r=0)(hx:Vf ⟨p,r.when_,false⟩ 0 r.acts=x)(hb:x.1≠0):Zgo p i r=x:=by
 unfold Zgo;rw[h,hx];show orF (0,0,0) _=_;show orF x _=_;unfold orF;rw[if_neg (fun q=>hb q.1)]
theorem lRule_long{p:Bool}{i:Int}{r:Ru}(h:Zap p i r=0)(hx:Vf ⟨p,r.when_,false⟩ 0 r.acts=(0,0,0)):Zgo p i r=atF (lBehind r) r.line r.col:=by
 unfold Zgo;rw[h,hx];rfl
theorem Zkq (p :Bool)(l:List Ru)(hvl:∀ r ∈ l,VRu r)(w:World)(N:Nat→Prop)(v:Value)(hv:Zs N w (.row l.length (Un l) .nil) [v]) :
   Calls Φ 14 #[v,.bool p] w fun e w'=>e=η (faV (Uy p 0 l))∧Below w.heap.size w w':=by
 obtain⟨B,bc,xs,rfl,hn,hw,hd⟩:=hv.inRow;clear hv;obtain⟨n,hn0⟩:∃ n,n=l.length:=⟨_,rfl⟩
 rw[←hn0]at hn ⊢;have HN:=Hh hn0;have HW:=Hh (ζ hw hd);have HVL:=Hh hvl;obtain⟨R,hR⟩:∃ R,R=Uy p 0 l:=⟨_,rfl⟩
 rw[←hR];have HV:=Hh hR;clear hw hd hn0 hR hvl;have l63:(n:Int)≤9223372036854775807:=by omega
 have T:=Hh (Env.start w);go_enter Tryz.func14,Tryz.ntmps14;go_wp2_with(first
 |((with_reducible refine Zd 4 ?_);refine Zb T.out 29 _ rfl rfl Wu ?_;intro wa g1 tn;have T:=Hh tn;clear tn))
 go_loopw [5] (fun i wr=>∃ m:Nat,i=I J m∧m≤n∧Env w [(g1,29,[I J 0,I J 0,I J 0])] [] [] wr∧Hid (R=Uy p m (l.drop m))) (fun i _=>n - (intOf i).toNat)
 case atStart=>exact⟨0,by go_num,Nat.zero_le _,T.out,HV⟩
 case round=>
   obtain⟨m,rfl,hm,hT,hz⟩:=hrel;have T:=Hh hT;clear hT;by_cases hlt:m<n
   · have hk1:m<l.length:=by rw[←HN.out];exact hlt
     obtain⟨pre,ys,post,hxs,hp,hy⟩:=rus_at HW.out.2 m hk1;obtain⟨g,rfl,hg,hc⟩:=HW.out.1.reads (by rw[hxs];have:=hy.len;have e5:(l[m]'hk1).ds.len=5:=rfl;simp;omega);have hR:w.rangeAt g (m*5) ys:=Ut (by rw[hxs]at hc;exact hc) hp;have hvr:=HVL.out _ (List.getElem_mem hk1);have hz2:=hz.out;rw[Znq p l m hk1]at hz2;generalize l[m]'hk1=r at *;obtain⟨wh,str,ln,co,acts⟩:=r;obtain⟨_,rfl,_,rfl,_,rfl,_,rfl,D,ac,zs',_,rfl,hnn,hwz,hdz,rfl⟩:=hy;have hrow:Zs N w (.row acts.len acts.ds .nil) [Λ D acts.len ac]:=⟨D,ac,zs',[],rfl,hnn,hwz,hdz,rfl⟩
     have hva:Zbw 0 acts:=hvr.2.2.2;have HF:=Hh (fun y (b:Below w.heap.size w y)=>rActs_ok acts ⟨p,wh,false⟩ y N _ (hrow.below b));have HS:=Hh (fun y (b:Below w.heap.size w y)=>Zlp acts 0 hva y N _ (hrow.below b));simp only[inL]at HF;rw[Zcq acts 0 hva]at HF;have HBB:=Hh (lBefore_w p m wh str ⟨wh,str,ln,co,acts⟩ rfl rfl);have HR1:=Hh (fun b (h:Zap p m ⟨wh,str,ln,co,acts⟩=b) hb=>lRule_bad h hb);have HR2:=Hh (fun x (h:Zap p m ⟨wh,str,ln,co,acts⟩=0) (hx:Vf ⟨p,wh,false⟩ 0 acts=x) hb=>lRule_acts (r:=⟨wh,str,ln,co,acts⟩) h hx hb);have HR3:=Hh (fun(h:Zap p m ⟨wh,str,ln,co,acts⟩=0)(hx:Vf ⟨p,wh,false⟩ 0 acts=(0,0,0))=>(lRule_long (r:=⟨wh,str,ln,co,acts⟩) h hx).trans (show _=if 96<Go.Proofs.YtbdecchpleiepaaGreat.wr (We acts)then(3,ln,co)else(0,0,0) by unfold lBehind atF;dsimp only;split<;>rfl));have HXZ:Hid ((Vf ⟨p,wh,false⟩ 0 acts).1=0→Vf ⟨p,wh,false⟩ 0 acts=(0,0,0)):=Hh (fun q=>by rw[←Zcq acts 0 hva]at q ⊢;exact Zhj _ _ _ q);generalize Zgo p m ⟨wh,str,ln,co,acts⟩=X at *;generalize Vf ⟨p,wh,false⟩ 0 acts=Y at *;generalize Go.Proofs.YtbdecchpleiepaaGreat.wr (We acts)=sz at *;generalize acts.len=an at *;have HR:Hid (∀ y,Below w.heap.size w y→y.rangeAt g (m*5) ([I J wh,I J str,I J ln,I J co,Λ D an ac])):=Hh fun y hb=>Vd hR hg hb
     have HZ2:=Hh hz2;clear hxs hp hc hR hk1 hrow hnn hwz hdz hz hz2 hvr hva;have lk:(m:Int)<(n:Int):=by omega
     obtain⟨x0,x1,x2⟩:=Y;unfold faV at HF;dsimp only at HF HXZ;have hend:∀ b,X=(b,ln,co)→b≠0→R=(b,ln,co):=fun b h hb=>by have:=HZ2.out;rw[h]at this;rw[this];exact if_neg hb
     have hendx:X=(x0,x1,x2)→x0≠0→R=(x0,x1,x2):=fun h hb=>by have:=HZ2.out;rw[h]at this;rw[this];exact if_neg hb
     have hgo:X=(0,0,0)→R=Uy p (m+1) (l.drop (m+1)):=fun h=>by have:=HZ2.out;rw[h]at this;rw[this];exact if_pos rfl
     have HENDS:=Hh (ζ hend (ζ hendx hgo));clear hend hendx hgo;rcases HBB.out with⟨b,hb,hb0,hw⟩ | ⟨f1,hp,hb,hw⟩
     · obtain rfl:=HENDS.out.1 b (HR1.out b hb hb0) hb0
       clear HR2 HR3 HXZ hb hb0;rcases hw with⟨rfl,f1⟩ | ⟨f1,⟨rfl,⟨rfl,f2 | ⟨f2,f3⟩⟩ | ⟨rfl,f2⟩⟩ | ⟨⟨rfl,f2,f3⟩ | ⟨rfl,f2⟩,rfl,f4,f5 | ⟨f5,f6⟩⟩⟩
       all_goals
         go_wp2_with(first
 |((with_reducible refine Zd 18 ?_);refine Zw 41 _ g (m*5) ([I J wh,I J str,I J ln,I J co,Λ D an ac]) (HR.out _ T.out.below) Zhm Jj rfl rfl rfl ?_)
 |((with_reducible refine Zd 6 ?_);refine Zb T.out 41 _ rfl rfl lz_ru ?_;intro wa g2 tn;have T:=Hh tn;clear tn)
 |((with_reducible refine Zg 6 18 ?_);refine Za 41 _ _ 41 g2 _ ([I J wh,I J str,I J ln,I J co,Λ D an ac]) (T.out.get 1 rfl) rfl Jj (by simp[Γ]) rfl rfl rfl rfl rfl ?_;intro wd p;have T:=Hh (T.out.put 1 rfl p);clear p;have k0:=T.out.cell 1 0 rfl rfl;have k1:=T.out.cell 1 1 rfl rfl;have k2:=T.out.cell 1 2 rfl rfl;have k3:=T.out.cell 1 3 rfl rfl;have k4:=T.out.cell 1 4 rfl rfl)
 |((with_reducible refine Zg 4 78 ?_);refine Za 29 _ _ 29 g1 _ ([I J 9,I J ln,I J co]) (T.out.get 0 rfl) rfl Zj (by simp[Γ]) rfl rfl rfl rfl rfl ?_;intro wd p;have T:=Hh (T.out.put 0 rfl p);clear p)
 |((with_reducible refine Zg 4 78 ?_);refine Za 29 _ _ 29 g1 _ ([I J 13,I J ln,I J co]) (T.out.get 0 rfl) rfl Zj (by simp[Γ]) rfl rfl rfl rfl rfl ?_;intro wd p;have T:=Hh (T.out.put 0 rfl p);clear p)
 | ((with_reducible refine Zg 4 78 ?_);refine Za 29 _ _ 29 g1 _ ([I J 12,I J ln,I J co]) (T.out.get 0 rfl) rfl Zj (by simp[Γ]) rfl rfl rfl rfl rfl ?_;intro wd p;have T:=Hh (T.out.put 0 rfl p);clear p))
         exact Ya 4 29 29 g1 ([_,I J ln,I J co]) rfl (T.out.get 0 rfl) Yf Zj rfl rfl ⟨rfl,T.out.below⟩
     · have HP:=Hh hp
       rcases hp with⟨rfl,f2,f3⟩ | ⟨rfl,f2⟩
       all_goals
         rcases hw with⟨f4,f5,f6⟩ | f4
         all_goals
           by_cases hx0:x0=0
           · have hY:=HXZ.out hx0
             simp only[Prod.mk.injEq]at hY;obtain⟨rfl,rfl,rfl⟩:=hY;by_cases hs:96<sz
             · obtain rfl:=HENDS.out.1 3 ((HR3.out hb rfl).trans (if_pos hs)) (by decide)
               go_wp2_with(first
 |((with_reducible refine Zd 18 ?_);refine Zw 41 _ g (m*5) ([I J wh,I J str,I J ln,I J co,Λ D an ac]) (HR.out _ T.out.below) Zhm Jj rfl rfl rfl ?_)
 |((with_reducible refine Zd 6 ?_);refine Zb T.out 41 _ rfl rfl lz_ru ?_;intro wa g2 tn;have T:=Hh tn;clear tn)
 |((with_reducible refine Zg 6 18 ?_);refine Za 41 _ _ 41 g2 _ ([I J wh,I J str,I J ln,I J co,Λ D an ac]) (T.out.get 1 rfl) rfl Jj (by simp[Γ]) rfl rfl rfl rfl rfl ?_;intro wd p;have T:=Hh (T.out.put 1 rfl p);clear p;have k0:=T.out.cell 1 0 rfl rfl;have k1:=T.out.cell 1 1 rfl rfl;have k2:=T.out.cell 1 2 rfl rfl;have k3:=T.out.cell 1 3 rfl rfl;have k4:=T.out.cell 1 4 rfl rfl)
 |(go_at_call 34;refine(HF.out _ T.out.below).mono ?_;rintro e we ⟨rfl,bn⟩;have T:=Hh (T.out.call bn);clear bn)
 |((with_reducible refine Zd 8 ?_);refine Zb T.out 29 _ rfl rfl Wu ?_;intro wa g3 tn;have T:=Hh tn;clear tn)
 |((with_reducible refine Zg 8 62 ?_);refine Za 29 _ _ 29 g3 _ ([I J 0,I J 0,I J 0]) (T.out.get 2 rfl) rfl Zj (by simp[Γ]) rfl rfl rfl rfl rfl ?_;intro wd p;have T:=Hh (T.out.put 2 rfl p);clear p;obtain⟨z0,z1,z2,_,_,_⟩:=Zo (T.out.get 2 rfl);have k0:=T.out.cell 1 0 rfl rfl;have k1:=T.out.cell 1 1 rfl rfl;have k2:=T.out.cell 1 2 rfl rfl;have k3:=T.out.cell 1 3 rfl rfl;have k4:=T.out.cell 1 4 rfl rfl)
 |(go_at_call 12;refine(HS.out _ T.out.below).mono ?_;rintro e we ⟨rfl,bn⟩;have T:=Hh (T.out.call bn);clear bn;have k0:=T.out.cell 1 0 rfl rfl;have k1:=T.out.cell 1 1 rfl rfl;have k2:=T.out.cell 1 2 rfl rfl;have k3:=T.out.cell 1 3 rfl rfl;have k4:=T.out.cell 1 4 rfl rfl)
 |((with_reducible refine Zg 4 78 ?_);refine Za 29 _ _ 29 g1 _ ([I J 3,I J ln,I J co]) (T.out.get 0 rfl) rfl Zj (by simp[Γ]) rfl rfl rfl rfl rfl ?_;intro wd p;have T:=Hh (T.out.put 0 rfl p);clear p))
               exact Ya 4 29 29 g1 ([I J 3,I J ln,I J co]) rfl (T.out.get 0 rfl) Yf Zj rfl rfl ⟨rfl,T.out.below⟩
             · have HZ:=Hh (HENDS.out.2.2 ((HR3.out hb rfl).trans (if_neg hs)))
               go_wp2_with(first
 |((with_reducible refine Zd 18 ?_);refine Zw 41 _ g (m*5) ([I J wh,I J str,I J ln,I J co,Λ D an ac]) (HR.out _ T.out.below) Zhm Jj rfl rfl rfl ?_)
 |((with_reducible refine Zd 6 ?_);refine Zb T.out 41 _ rfl rfl lz_ru ?_;intro wa g2 tn;have T:=Hh tn;clear tn)
 |((with_reducible refine Zg 6 18 ?_);refine Za 41 _ _ 41 g2 _ ([I J wh,I J str,I J ln,I J co,Λ D an ac]) (T.out.get 1 rfl) rfl Jj (by simp[Γ]) rfl rfl rfl rfl rfl ?_;intro wd p;have T:=Hh (T.out.put 1 rfl p);clear p;have k0:=T.out.cell 1 0 rfl rfl;have k1:=T.out.cell 1 1 rfl rfl;have k2:=T.out.cell 1 2 rfl rfl;have k3:=T.out.cell 1 3 rfl rfl;have k4:=T.out.cell 1 4 rfl rfl)
 |(go_at_call 34;refine(HF.out _ T.out.below).mono ?_;rintro e we ⟨rfl,bn⟩;have T:=Hh (T.out.call bn);clear bn)
 |((with_reducible refine Zd 8 ?_);refine Zb T.out 29 _ rfl rfl Wu ?_;intro wa g3 tn;have T:=Hh tn;clear tn)
 |((with_reducible refine Zg 8 62 ?_);refine Za 29 _ _ 29 g3 _ ([I J 0,I J 0,I J 0]) (T.out.get 2 rfl) rfl Zj (by simp[Γ]) rfl rfl rfl rfl rfl ?_;intro wd p;have T:=Hh (T.out.put 2 rfl p);clear p;obtain⟨z0,z1,z2,_,_,_⟩:=Zo (T.out.get 2 rfl);have k0:=T.out.cell 1 0 rfl rfl;have k1:=T.out.cell 1 1 rfl rfl;have k2:=T.out.cell 1 2 rfl rfl;have k3:=T.out.cell 1 3 rfl rfl;have k4:=T.out.cell 1 4 rfl rfl)
 |(go_at_call 12;refine(HS.out _ T.out.below).mono ?_;rintro e we ⟨rfl,bn⟩;have T:=Hh (T.out.call bn);clear bn;have k0:=T.out.cell 1 0 rfl rfl;have k1:=T.out.cell 1 1 rfl rfl;have k2:=T.out.cell 1 2 rfl rfl;have k3:=T.out.cell 1 3 rfl rfl;have k4:=T.out.cell 1 4 rfl rfl))
               go_roundw
               case rel=>exact⟨m+1,by go_num,by omega,T.out.less (bs:=[_]) (cs:=[_,_]) (ts:=[]) (us:=[]),HZ⟩
               case measure=>simp[intOf];omega
           · obtain rfl:=HENDS.out.2.1 (HR2.out _ hb rfl hx0) hx0
             have hb0:(x0 != 0)=true:=by simpa using hx0
             go_wp2_with(first
 |((with_reducible refine Zd 18 ?_);refine Zw 41 _ g (m*5) ([I J wh,I J str,I J ln,I J co,Λ D an ac]) (HR.out _ T.out.below) Zhm Jj rfl rfl rfl ?_)
 |((with_reducible refine Zd 6 ?_);refine Zb T.out 41 _ rfl rfl lz_ru ?_;intro wa g2 tn;have T:=Hh tn;clear tn)
 |((with_reducible refine Zg 6 18 ?_);refine Za 41 _ _ 41 g2 _ ([I J wh,I J str,I J ln,I J co,Λ D an ac]) (T.out.get 1 rfl) rfl Jj (by simp[Γ]) rfl rfl rfl rfl rfl ?_;intro wd p;have T:=Hh (T.out.put 1 rfl p);clear p;have k0:=T.out.cell 1 0 rfl rfl;have k1:=T.out.cell 1 1 rfl rfl;have k2:=T.out.cell 1 2 rfl rfl;have k3:=T.out.cell 1 3 rfl rfl;have k4:=T.out.cell 1 4 rfl rfl)
 |(go_at_call 34;refine(HF.out _ T.out.below).mono ?_;rintro e we ⟨rfl,bn⟩;have T:=Hh (T.out.call bn);clear bn)
 |((with_reducible refine Zd 8 ?_);refine Zb T.out 29 _ rfl rfl Wu ?_;intro wa g3 tn;have T:=Hh tn;clear tn)
 |((with_reducible refine Zg 8 62 ?_);refine Za 29 _ _ 29 g3 _ ([I J x0,I J x1,I J x2]) (T.out.get 2 rfl) rfl Zj (by simp[Γ]) rfl rfl rfl rfl rfl ?_;intro wd p;have T:=Hh (T.out.put 2 rfl p);clear p;obtain⟨z0,z1,z2,_,_,_⟩:=Zo (T.out.get 2 rfl);have k0:=T.out.cell 1 0 rfl rfl;have k1:=T.out.cell 1 1 rfl rfl;have k2:=T.out.cell 1 2 rfl rfl;have k3:=T.out.cell 1 3 rfl rfl;have k4:=T.out.cell 1 4 rfl rfl)
 |((with_reducible refine Zd 66 ?_);refine Zc 29 _ 29 g3 ([I J x0,I J x1,I J x2]) (T.out.get 2 rfl) Yf Zj rfl rfl rfl ?_)
 | ((with_reducible refine Zg 4 66 ?_);refine Za 29 _ _ 29 g1 _ ([I J x0,I J x1,I J x2]) (T.out.get 0 rfl) rfl Zj (by simp[Γ]) rfl rfl rfl rfl rfl ?_;intro wd p;have T:=Hh (T.out.put 0 rfl p);clear p))
             exact Ya 4 29 29 g1 ([I J x0,I J x1,I J x2]) rfl (T.out.get 0 rfl) Yf Zj rfl rfl ⟨rfl,T.out.below⟩
   · have hz2:=hz.out
     rw[List.drop_eq_nil_of_le (by have:=HN.out;omega)]at hz2;have hz2:R=(0,0,0):=hz2;subst hz2;clear hz;go_wp2_with(first
 | ((with_reducible refine Zg 4 79 ?_);refine Za 29 _ _ 29 g1 _ ([I J 0,I J 0,I J 0]) (T.out.get 0 rfl) rfl Zj (by simp[Γ]) rfl rfl rfl rfl rfl ?_;intro wd p;have T:=Hh (T.out.put 0 rfl p);clear p))
     exact Ya 4 29 29 g1 ([I J 0,I J 0,I J 0]) rfl (T.out.get 0 rfl) Yf Zj rfl rfl ⟨rfl,T.out.below⟩
theorem rCard_any(c:Ca)(hv:VCa c)(w:World)(N:Nat→Prop)(vs:List Value)(h:Zs N w c.ds vs) :
  Calls Φ 10 #[.agg vs.toArray] w fun e w'=>e=η (faV (Zfr c))∧Below w.heap.size w w':=by
 obtain⟨nm,cost,pw,ln,co,rules⟩:=c;obtain⟨_,rfl,_,rfl,_,rfl,_,rfl,_,rfl,D,c2,zs,_,rfl,hn,hw,hz,rfl⟩:=h;have HRu:=Hh (fun y (b:Below w.heap.size w y)=>Zkq false rules hv.2.2.2 y N (Λ D rules.length c2) (Zs.below (show Zs N w (.row rules.length (Un rules) .nil) [Λ D rules.length c2]from⟨D,c2,zs,[],rfl,hn,hw,hz,rfl⟩) b));have hq:Zfr ⟨nm,cost,pw,ln,co,rules⟩=if(Zew cost 0 9 || Zew pw (-20) 20)=true then(12,ln,co)else Uy false 0 rules:=rfl
 generalize Uy false 0 rules=F at *;generalize Zfr ⟨nm,cost,pw,ln,co,rules⟩=R at *;generalize rules.length=rn at *;unfold Zew at hq;clear hn hw hz hv;obtain⟨x0,x1,x2⟩:=F;unfold faV at HRu;dsimp only at HRu;have T:=Hh (Env.start w);by_cases h1:cost<0
 ·rw[if_pos (by simp[h1])]at hq
  subst hq;go_enter Tryz.func10,Tryz.ntmps10;go_wp2_with(first
 |((with_reducible refine Zd 1 ?_);refine Zf T.out 36 _ ([Ψ nm,I J cost,I J pw,I J ln,I J co,Λ D rn c2]) rfl rfl rfl ?_;intro wa g0 tn;have T:=Hh tn;clear tn)
 |((with_reducible refine Zd 2 ?_);refine Zb T.out 29 _ rfl rfl Wu ?_;intro wa g1 tn;have T:=Hh tn;clear tn;have k1:=T.out.cell 0 1 rfl rfl;have k2:=T.out.cell 0 2 rfl rfl;have k3:=T.out.cell 0 3 rfl rfl;have k4:=T.out.cell 0 4 rfl rfl;have k5:=T.out.cell 0 5 rfl rfl)
 |((with_reducible refine Zg 2 25 ?_);refine Za 29 _ _ 29 g1 _ ([I J 12,I J ln,I J co]) (T.out.get 1 rfl) rfl Zj (by simp[Γ]) rfl rfl rfl rfl rfl ?_;intro wd p;have T:=Hh (T.out.put 1 rfl p);clear p))
  exact Ya 2 29 29 g1 ([I J 12,I J ln,I J co]) rfl (T.out.get 1 rfl) Yf Zj rfl rfl ⟨rfl,T.out.below⟩
 ·by_cases h2:9<cost
  · rw[if_pos (by simp[h2])]at hq
    subst hq;go_enter Tryz.func10,Tryz.ntmps10;go_wp2_with(first
 |((with_reducible refine Zd 1 ?_);refine Zf T.out 36 _ ([Ψ nm,I J cost,I J pw,I J ln,I J co,Λ D rn c2]) rfl rfl rfl ?_;intro wa g0 tn;have T:=Hh tn;clear tn)
 |((with_reducible refine Zd 2 ?_);refine Zb T.out 29 _ rfl rfl Wu ?_;intro wa g1 tn;have T:=Hh tn;clear tn;have k1:=T.out.cell 0 1 rfl rfl;have k2:=T.out.cell 0 2 rfl rfl;have k3:=T.out.cell 0 3 rfl rfl;have k4:=T.out.cell 0 4 rfl rfl;have k5:=T.out.cell 0 5 rfl rfl)
 |((with_reducible refine Zg 2 25 ?_);refine Za 29 _ _ 29 g1 _ ([I J 12,I J ln,I J co]) (T.out.get 1 rfl) rfl Zj (by simp[Γ]) rfl rfl rfl rfl rfl ?_;intro wd p;have T:=Hh (T.out.put 1 rfl p);clear p))
    exact Ya 2 29 29 g1 ([I J 12,I J ln,I J co]) rfl (T.out.get 1 rfl) Yf Zj rfl rfl ⟨rfl,T.out.below⟩
  · by_cases h3:pw < -20
    ·rw[if_pos (by simp[h3])]at hq
     subst hq;go_enter Tryz.func10,Tryz.ntmps10;go_wp2_with(first
 |((with_reducible refine Zd 1 ?_);refine Zf T.out 36 _ ([Ψ nm,I J cost,I J pw,I J ln,I J co,Λ D rn c2]) rfl rfl rfl ?_;intro wa g0 tn;have T:=Hh tn;clear tn)
 |((with_reducible refine Zd 2 ?_);refine Zb T.out 29 _ rfl rfl Wu ?_;intro wa g1 tn;have T:=Hh tn;clear tn;have k1:=T.out.cell 0 1 rfl rfl;have k2:=T.out.cell 0 2 rfl rfl;have k3:=T.out.cell 0 3 rfl rfl;have k4:=T.out.cell 0 4 rfl rfl;have k5:=T.out.cell 0 5 rfl rfl)
 |((with_reducible refine Zg 2 25 ?_);refine Za 29 _ _ 29 g1 _ ([I J 12,I J ln,I J co]) (T.out.get 1 rfl) rfl Zj (by simp[Γ]) rfl rfl rfl rfl rfl ?_;intro wd p;have T:=Hh (T.out.put 1 rfl p);clear p))
     exact Ya 2 29 29 g1 ([I J 12,I J ln,I J co]) rfl (T.out.get 1 rfl) Yf Zj rfl rfl ⟨rfl,T.out.below⟩
    ·by_cases h4:20<pw
     ·rw[if_pos (by simp[h4])]at hq
      subst hq;go_enter Tryz.func10,Tryz.ntmps10;go_wp2_with(first
 |((with_reducible refine Zd 1 ?_);refine Zf T.out 36 _ ([Ψ nm,I J cost,I J pw,I J ln,I J co,Λ D rn c2]) rfl rfl rfl ?_;intro wa g0 tn;have T:=Hh tn;clear tn)
 |((with_reducible refine Zd 2 ?_);refine Zb T.out 29 _ rfl rfl Wu ?_;intro wa g1 tn;have T:=Hh tn;clear tn;have k1:=T.out.cell 0 1 rfl rfl;have k2:=T.out.cell 0 2 rfl rfl;have k3:=T.out.cell 0 3 rfl rfl;have k4:=T.out.cell 0 4 rfl rfl;have k5:=T.out.cell 0 5 rfl rfl)
 |((with_reducible refine Zg 2 25 ?_);refine Za 29 _ _ 29 g1 _ ([I J 12,I J ln,I J co]) (T.out.get 1 rfl) rfl Zj (by simp[Γ]) rfl rfl rfl rfl rfl ?_;intro wd p;have T:=Hh (T.out.put 1 rfl p);clear p))
      exact Ya 2 29 29 g1 ([I J 12,I J ln,I J co]) rfl (T.out.get 1 rfl) Yf Zj rfl rfl ⟨rfl,T.out.below⟩
     ·rw[if_neg (by simp[h1,h2,h3,h4])]at hq
      subst hq;go_enter Tryz.func10,Tryz.ntmps10;go_wp2_with(first
 |((with_reducible refine Zd 1 ?_);refine Zf T.out 36 _ ([Ψ nm,I J cost,I J pw,I J ln,I J co,Λ D rn c2]) rfl rfl rfl ?_;intro wa g0 tn;have T:=Hh tn;clear tn)
 |((with_reducible refine Zd 2 ?_);refine Zb T.out 29 _ rfl rfl Wu ?_;intro wa g1 tn;have T:=Hh tn;clear tn;have k1:=T.out.cell 0 1 rfl rfl;have k2:=T.out.cell 0 2 rfl rfl;have k3:=T.out.cell 0 3 rfl rfl;have k4:=T.out.cell 0 4 rfl rfl;have k5:=T.out.cell 0 5 rfl rfl)
 |(go_at_call 14;refine(HRu.out _ T.out.below).mono ?_;rintro e we ⟨rfl,bn⟩;have T:=Hh (T.out.call bn);clear bn)
 |((with_reducible refine Zg 2 28 ?_);refine Za 29 _ _ 29 g1 _ ([I J x0,I J x1,I J x2]) (T.out.get 1 rfl) rfl Zj (by simp[Γ]) rfl rfl rfl rfl rfl ?_;intro wd p;have T:=Hh (T.out.put 1 rfl p);clear p))
      exact Ya 2 29 29 g1 ([I J x0,I J x1,I J x2]) rfl (T.out.get 1 rfl) Yf Zj rfl rfl ⟨rfl,T.out.below⟩
end Go.Proofs.YtbdecchpleiepaaGreat
