/- Parts of the proof. No conditions but those that each names. -/
import Derived.Test.YtbdecchpleiepaaGreatQL44
set_option maxRecDepth 20000
set_option maxHeartbeats 99000000
set_option linter.unusedVariables false
set_option linter.unusedSimpArgs false
namespace Go.Proofs.YtbdecchpleiepaaGreat
open Go.Value renaming int→I,slice→Λ,string→Ψ,oneCell'→Γ
open Go.IntKind renaming i64→J
open _root_.Go.Proofs.Tryz renaming prog→Φ
open Nat renaming le_refl→Θ
open And renaming intro→ζ
open Go.Ending renaming returned→η
open Go.ChangeShapes Go.WideShapes Go.ChangeAt Go.RowKit
theorem Env.addT{w x:World}{bs:List Bk}{rs:List Rw}{ts:List (Ds×List Value)}(h:Env w bs rs ts x){ds:Ds}{vs:List Value}(d:Zs (Zld w bs rs) x ds vs):Env w bs rs (ts++[(ds,vs)]) x:=
 ⟨h.at_,h.lo,h.nod,h.row,h.apart,h.rapart,(fun u hu=>by
   rcases List.mem_append.1 hu with hu | hu
   ·exact h.deep u hu
   ·cases List.mem_singleton.1 hu;exact d),h.below⟩
theorem Zff{w:World}{bs cs:List Bk}{rs:List Rw}{k:Nat}(h:Zld w (bs++cs) rs k):Zld w bs rs k:=⟨h.1,fun b hb=>h.2.1 b (List.mem_append_left _ hb),h.2.2⟩
theorem Env.swap{w x:World}{bs cs:List Bk}{rs:List Rw}{ts:List (Ds×List Value)}(h:Env w (bs++cs) rs ts x)(i:Nat){d0 ds:Ds}{v0 vs:List Value}(hi:ts[i]?=some (d0,v0))
  (f:Zs (Zld w bs rs) x d0 v0→Zs (Zld w bs rs) x ds vs):Env w bs rs [(ds,vs)] x:=by
 have h':=h.less (bs:=bs) (cs:=cs) (ts:=[]) (us:=ts);exact h'.addT (f ((h.deep _ (List.mem_of_getElem? hi)).mono fun k _ hn=>Zff hn))
theorem Zig{w x:World}{bs:List Bk}{rs:List Rw}{ts:List (Ds×List Value)}{P:Program}{ops:Array Oper}{rest:List Oper}{o:Oper}{a:Act}{Q:Exit→Act→World→Prop}
  (h:Env w bs rs ts x)(i j:Nat){d1 d2:Ds}{l u:List Value}(hi:ts[i]?=some (d1,l))(hj:ts[j]?=some (d2,u))(t e:TypeId)(p q:Operand)(d:Tmp)(cells:Array Value)(hc:cells=(l++u).toArray)
  (hg:o.guard=none)(ho:o.op=.buildSlice t 2 #[(0,p),(1,q)])(hd:o.dst=some d)(hu:P.underlying t=some (.slice e))(hp:a.eval p=.agg l.toArray)(hq:a.eval q=.agg u.toArray)
  (hf:P.builtSlice e 2 [(0,.agg l.toArray),(1,.agg u.toArray)]=some cells)
  (hn:∀ y g,Env w bs rs (ts++[(.row 2 (d1.app d2) .nil,[Λ (some ⟨g,0,none⟩) 2 2])]) y→wpList P ops Q rest (a.put (some d) (Λ (some ⟨g,0,none⟩) 2 2)) y):wpList P ops Q (o::rest) a x:=by
 refine Great.wpList_buildSliceTo hg t e 2 #[(0,p),(1,q)] ho x.heap.size rfl (some d) hd hu cells (by simpa[hp,hq]using hf) (hn _ _ ?_);have nb:=Zh x (.cells cells e);have h':=h.call nb;refine h'.addT ?_;have D1:=h'.deep _ (List.mem_of_getElem? hi);have D2:=h'.deep _ (List.mem_of_getElem? hj);have hin:x.heap.size<(x.alloc (.cells cells e)).heap.size:=by simp
 refine⟨some ⟨x.heap.size,0,none⟩,2,l++u,[],rfl,by omega,.inr ⟨x.heap.size,rfl,⟨h.below.size,fun b hb=>?_,fun r hr c=>?_⟩,hin,fun k hk=>?_⟩,Zs.app D2 D1,rfl⟩
 ·have:=(h.at_ b hb).inside;omega
 ·exact Nat.lt_irrefl _ ((h.row r hr).lt _ c).2
 ·rw[(Zi.made x e cells).read k,hc,List.getElem?_toArray]
theorem bin_deep{N:Nat→Prop}{w:World}(op:Int)(l r:Ex){v:Value}(h:Zs N w (.row 2 (l.ds.app r.ds) .nil) [v]) :
  Zs N w (Ex.bin op l r).ds [I J 7,I J op,I J 0,I J 0,I J 0,I J 0,Λ none 0 0,I J 0,I J 0,I J 0,I J 0,v]:=
 ⟨_,rfl,_,rfl,_,rfl,_,rfl,_,rfl,_,rfl,none,0,[],_,rfl,⟨Nat.zero_le _,Θ _⟩,.inl rfl,rfl,_,rfl,_,rfl,_,rfl,_,rfl,h⟩
theorem und_exs:Tryz.prog.underlying 79=some (.slice 81):=by kernel_rfl
theorem qprod(n:Nat)(ih:∀ m,m≤n→QFactOK m):QProdOK (n+1):=by
 intro w r K L st vs ho hp hn hLn;have T0:=Hh (Env.start w);have hfa:∀(x:World)(us:List Value),Zu x r K L→RPv r K L st us→Calls Φ 147 #[.agg us.toArray] x (PTo x r K L (Ww 3 L n st).2 (Ww 3 L n st).1.ds):=fun x us h1 h2=>ih n (Θ _) x r K L st us h1 h2 (by omega) hLn
 have heq:Vp 3 L (n+1) st=Jv 3 L n (Ww 3 L n st):=by rw[Vp]
 have hr:=Ziq L 3 n st;rw[heq];clear heq;generalize Ww 3 L n st=x0 at *;have HX:=Hh x0.1.ds_len;have HN:=Hh (ζ hn (ζ hLn hr));clear hn hLn hr;go_enter Tryz.func118,Tryz.ntmps118;go_wp2_with(first
 |((with_reducible refine Zd 1 ?_);refine Zf T0.out 51 _ (vs) rfl rfl rfl ?_;intro w1 g0 t1
   have T1:=Hh (t1);clear t1)
 |((with_reducible refine Zd 2 ?_);refine Zb T1.out 51 _ rfl rfl z_P ?_;intro w2 g1 t2
   have T2:=Hh (t2);clear t2)
 |((with_reducible refine Zd 3 ?_);refine Zb T2.out 81 _ rfl rfl Zfh ?_;intro w3 g2 t3
   have T3:=Hh (t3);clear t3)
 |((with_reducible refine Zd 8 ?_);refine Zc 51 _ 51 g0 _ (T3.out.get 0 rfl) Zm (Ze hp.len) rfl rfl rfl ?_)
 |(go_at_call 147;refine(hfa _ vs (ho.below T3.out.below) hp).mono ?_;rintro e w4 ⟨v1,u1,rfl,h1,d1,b4⟩
   have T4:=Hh (T3.out.tree b4 d1);have l1:=(d1.len.trans HX.out)
   have o1:=Hh d1.one;clear d1;clear b4)
 |((with_reducible refine Zd 4 ?_);refine Zb T4.out 81 _ rfl rfl Zfh ?_;intro w5 g3 t5
   have T5:=Hh (t5);clear t5)
 |((with_reducible refine Zg 1 10 ?_);refine Za 51 _ _ 51 g0 _ (v1) (T5.out.get 0 rfl) (h1.len.trans hp.len.symm) (Ze h1.len) h1.one rfl rfl rfl rfl rfl ?_
   intro w6 p6;have T6:=Hh (T5.out.put 0 rfl p6);clear p6)
 |((with_reducible refine Zg 4 11 ?_);refine Za 81 _ _ 81 g3 _ (u1) (T6.out.get 3 rfl) l1 (Wo l1) o1.out rfl rfl rfl rfl rfl ?_
   intro w7 p7;have T7:Hid (Env w [(g0,51,v1),(g1,51,[Λ none 0 0,I J 0,I J 0,I J 0,I J 0,I J 0]),(g2,81,[I J 0,I J 0,I J 0,I J 0,I J 0,I J 0,Λ none 0 0,I J 0,I J 0,I J 0,I J 0,Λ none 0 0]),(g3,81,u1)] [] [(x0.1.ds,u1)] w7):=Hh (T6.out.put 3 rfl p7);clear p7))
 go_simp;go_loopw [12] (fun kk wr=>∃(m:Nat)(s:St)(x:Ex)(us l:List Value),Env w [(g0,51,us),(g1,51,[Λ none 0 0,I J 0,I J 0,I J 0,I J 0,I J 0]),(g2,81,[I J 0,I J 0,I J 0,I J 0,I J 0,I J 0,Λ none 0 0,I J 0,I J 0,I J 0,I J 0,Λ none 0 0]),(g3,81,l)] [] [(x.ds,l)] wr∧RPv r K L s us∧4*Zx L s+1≤m∧m≤n∧Zx L s≤Zx L st∧Jv 3 L n x0=Jv 3 L m (x,s)∧l.length=12) (fun _ wr=>remB g0 L.length wr)
 case atStart=>exact⟨n,x0.2,x0.1,v1,u1,T7.out,h1,by have:=HN.out;omega,Θ _,HN.out.2.2,rfl,l1⟩
 case round=>
  obtain⟨m,s,x,us,l,hT,hs,hm,hmn,hrs,heq,_⟩:=hrel;obtain⟨m,rfl⟩:∃ m',m=m'+1:=⟨m - 1,by omega⟩
  obtain⟨a0,a1,a2,a3,a4,a5,a6,a7,a8,a9,a10,a11,rfl⟩:=Zda l ((hT.leaf 0 rfl).len.trans x.ds_len);have hrem:=Jg hs (hT.get 0 rfl);have OL:=Hh (hT.leaf 0 rfl).one;have HQ:=Hh heq;have HB:=Hh hrem;clear heq hrem hp;cases s with
  |bad F=>
    have HP0:=Hh hs;obtain⟨A,nb,kb,a,d,rfl,hd,hF⟩:=hs.bad;have HP:=Hh HP0.out;clear HP0 hs;obtain⟨f0,f1,f2⟩:=F;have z0:(f0 == 0)=false:=by rw[beq_eq_false_iff_ne];exact hF
    obtain⟨c0,c1,c2,c3,c4,c5⟩:=Xu (hT.get 0 rfl);have hst:Jv 3 L (m+1) (x,.bad (f0,f1,f2))=(x,.bad (f0,f1,f2)):=by rw[Jv];exact if_neg (show ¬(false=true)from Bool.false_ne_true)
    have HST:=Hh (HQ.out.trans hst);have T20:=Hh hT;clear hT hF hst hm hmn hrs;go_wp2
    refine ret2 mixed (by kernel_rfl) (by kernel_rfl) (by kernel_rfl) (by kernel_rfl) (by kernel_rfl) (by kernel_rfl) (by kernel_rfl) (by kernel_rfl) rfl rfl rfl rfl rfl rfl rfl rfl rfl rfl g0 g3 g1 g2 ([Λ A nb kb,I J (a:Int),I J (d:Int),I J f0,I J (f1:Int),I J (f2:Int)]) ([a0,a1,a2,a3,a4,a5,a6,a7,a8,a9,a10,a11]) ([Λ none 0 0,I J 0,I J 0,I J 0,I J 0,I J 0]) ([I J 0,I J 0,I J 0,I J 0,I J 0,I J 0,Λ none 0 0,I J 0,I J 0,I J 0,I J 0,Λ none 0 0]) (T20.out.get 0 rfl) (T20.out.get 3 rfl) (T20.out.get 1 rfl) (T20.out.get 2 rfl) rfl rfl (by simp[Γ]) OL.out (T20.out.ne 0 1 (by decide) rfl rfl) (T20.out.ne 0 2 (by decide) rfl rfl) (T20.out.ne 3 1 (by decide) rfl rfl) (T20.out.ne 3 2 (by decide) rfl rfl) (T20.out.ne 1 2 (by decide) rfl rfl) Zm Yc Yy Yi rfl rfl rfl rfl rfl rfl ?_;intro wz hR;have HZ:=Hh hR;clear hR;go_wp2
    obtain⟨dz,bz⟩:=T20.out.ret2 1 2 rfl rfl HZ.out;refine Yp 2 51 3 81 51 81 _ _ _ _ rfl HZ.out.one HZ.out.two Zm Yc Yy Yi rfl rfl rfl ?_;rw[HST.out];exact⟨_,_,rfl,HP.out,dz (_,_) (List.mem_singleton.2 rfl),bz⟩
  |ok a d=>
    have HP0:=Hh hs;obtain⟨nn,hnn,rfl,ha,hd⟩:=hs.ok;have HP:=Hh HP0.out;clear HP0 hs;have hrow:=ho (by omega);have HR:=Hh hrow;have HNN:=Hh (ζ hnn ha);clear hrow hnn;obtain⟨c0,c1,c2,c3,c4,c5⟩:=Xu (hT.get 0 rfl);have his:∀ x,Uw x r K L→Calls Φ 39 #[.agg #[Λ (some ⟨r,0,none⟩) nn K,I J (a:Int),I J (d:Int)],Ψ ⟨#[42]⟩] x (fun e w'=>e=η (.bool (isT (Yb L a) Vs))∧Below x.heap.size x w'):=fun x h=>qIs x r K L nn a d Vs HNN.out.1 h HNN.out.2
    by_cases hb:isS L Vs (.ok a d)=true
    ·have hlt:=Zin L hb
     have hst:Jv 3 L (m+1) (x,.ok a d)=Jv 3 L m (.bin 3 x (Ww 3 L m (Vu L Vs (.ok a d))).1,(Ww 3 L m (Vu L Vs (.ok a d))).2):=by rw[Jv,if_pos hb]
     have hju:∀(x:World)(us:List Value),Zu x r K L→RPv r K L (.ok a d) us→Calls Φ 21 #[.agg us.toArray,Ψ ⟨#[42]⟩] x (PPo x r K L (Vu L Vs (.ok a d))):=fun x us h1 h2=>by
      have e1:Zz L Vs (.ok a d)=Vu L Vs (.ok a d):=if_pos hb;rw[←e1];exact Jh x r K L _ us Vs h1 h2
     have hfc:∀(x:World)(us:List Value),Zu x r K L→RPv r K L (Vu L Vs (.ok a d)) us→Calls Φ 147 #[.agg us.toArray] x (PTo x r K L (Ww 3 L m (Vu L Vs (.ok a d))).2 (Ww 3 L m (Vu L Vs (.ok a d))).1.ds):=fun x us h1 h2=>ih m (by omega) x r K L _ us h1 h2 (by omega) (by have:=HN.out;omega)
     have hr2:=Ziq L 3 m (Vu L Vs (.ok a d));have hbb:isT (Yb L a) Vs=true:=hb;rw[hbb]at his;generalize Vu L Vs (.ok a d)=s1 at *;generalize Ww 3 L m s1=y at *;have HY:=Hh y.1.ds_len;have HS:=Hh hst;have HM:=Hh (show 4*Zx L y.2+1≤m∧m≤n∧Zx L y.2≤Zx L st∧Zx L y.2<Zx L (.ok a d) by omega);have T20:=Hh hT;clear hT hm hmn hrs hb hlt hst hr2 hbb;go_wp2_with(first
 |(go_at_call 39;refine(his _ (HR.out.below T20.out.below)).mono ?_;rintro e w21 ⟨rfl,b21⟩
   have T21:=Hh (T20.out.call b21);clear b21)
 |((with_reducible refine Zd 22 ?_);refine Zc 51 _ 51 g0 _ (T21.out.get 0 rfl) Zm Yc rfl rfl rfl ?_)
 |(go_at_call 21;refine(hju _ _ (ho.below T21.out.below) HP.out).mono ?_;rintro e w22 ⟨v2,rfl,h2,b22⟩
   have T22:=Hh (T21.out.call b22);clear b22)
 |(go_at_call 147;refine(hfc _ v2 (ho.below T22.out.below) h2).mono ?_;rintro e w23 ⟨v3,u3,rfl,h3,d3,b23⟩
   have o3:=Hh d3.one;obtain⟨b0,b1,b2,b3,b4,b5,b6,b7,b8,b9,b10,b11,rfl⟩:=Zda u3 (d3.len.trans HY.out);have T23:=Hh (T22.out.tree b23 d3);clear d3;clear b23)
 |((with_reducible refine Zd 5 ?_);refine Zb T23.out 51 _ rfl rfl z_P ?_;intro w24 g4 t24
   have T24:=Hh (t24);clear t24)
 |((with_reducible refine Zd 6 ?_);refine Zb T24.out 81 _ rfl rfl Zfh ?_;intro w25 g5 t25
   have T25:=Hh (t25);clear t25)
 |((with_reducible refine Zg 5 25 ?_);refine Za 51 _ _ 51 g4 _ (v3) (T25.out.get 4 rfl) h3.len (Ze h3.len) h3.one rfl rfl rfl rfl rfl ?_
   intro w26 p26;have T26:=Hh (T25.out.put 4 rfl p26);clear p26)
 |((with_reducible refine Zg 6 26 ?_);refine Za 81 _ _ 81 g5 _ ([b0,b1,b2,b3,b4,b5,b6,b7,b8,b9,b10,b11]) (T26.out.get 5 rfl) rfl Yi o3.out rfl rfl rfl rfl rfl ?_
   intro w27 p27;have T27:=Hh (T26.out.put 5 rfl p27);clear p27)
 |((with_reducible refine Zd 27 ?_);refine Zc 81 _ 81 g3 _ (T27.out.get 3 rfl) Yy Yi rfl rfl rfl ?_)
 |((with_reducible refine Zd 28 ?_);refine Zc 81 _ 81 g5 _ (T27.out.get 5 rfl) Yy Yi rfl rfl rfl ?_)
 |((with_reducible refine Zd 29 ?_);refine Zig T27.out 0 1 rfl rfl 79 81 _ _ 29 #[a0,a1,a2,a3,a4,a5,a6,a7,a8,a9,a10,a11,b0,b1,b2,b3,b4,b5,b6,b7,b8,b9,b10,b11] rfl rfl rfl rfl und_exs rfl rfl (by kernel_rfl) ?_;intro w28 g9 t28
   have T28:=Hh (t28);clear t28)
 |((with_reducible refine Zg 4 30 ?_);refine Za 81 _ _ 81 g3 _ ([I J 7,I J 3,I J 0,I J 0,I J 0,I J 0,Λ none 0 0,I J 0,I J 0,I J 0,I J 0,Λ (some ⟨g9,0,none⟩) 2 2]) (T28.out.get 3 rfl) rfl Yi (by simp[Γ]) rfl rfl rfl rfl rfl ?_
   intro w29 p29;have T29:=Hh (T28.out.put 3 rfl p29);clear p29)
 |((with_reducible refine Zd 31 ?_);refine Zc 51 _ 51 g4 _ (T29.out.get 4 rfl) Zm (Ze h3.len) rfl rfl rfl ?_)
 |((with_reducible refine Zg 1 31 ?_);refine Za 51 _ _ 51 g0 _ (v3) (T29.out.get 0 rfl) h3.len (Ze h3.len) h3.one rfl rfl rfl rfl rfl ?_
   intro w30 p30;have T30:Hid (Env w [(g0,51,v3),(g1,51,[Λ none 0 0,I J 0,I J 0,I J 0,I J 0,I J 0]),(g2,81,[I J 0,I J 0,I J 0,I J 0,I J 0,I J 0,Λ none 0 0,I J 0,I J 0,I J 0,I J 0,Λ none 0 0]),(g3,81,[I J 7,I J 3,I J 0,I J 0,I J 0,I J 0,Λ none 0 0,I J 0,I J 0,I J 0,I J 0,Λ (some ⟨g9,0,none⟩) 2 2]),(g4,51,v3),(g5,81,[b0,b1,b2,b3,b4,b5,b6,b7,b8,b9,b10,b11])] [] [(x.ds,[a0,a1,a2,a3,a4,a5,a6,a7,a8,a9,a10,a11]),(y.1.ds,[b0,b1,b2,b3,b4,b5,b6,b7,b8,b9,b10,b11]),(.row 2 (x.ds.app y.1.ds) .nil,[Λ (some ⟨g9,0,none⟩) 2 2])] w30):=Hh (T29.out.put 0 rfl p30)
   clear p30))
     (try go_simp)
     go_roundw
     case rel=>
      first
      |refine⟨m,y.2,.bin 3 x y.1,v3,[I J 7,I J 3,I J 0,I J 0,I J 0,I J 0,Λ none 0 0,I J 0,I J 0,I J 0,I J 0,Λ (some ⟨g9,0,none⟩) 2 2],?_,h3,?_,?_,?_,?_,rfl⟩
      |(repeat apply Exists.intro;refine⟨⟨m,y.2,.bin 3 x y.1,v3,[I J 7,I J 3,I J 0,I J 0,I J 0,I J 0,Λ none 0 0,I J 0,I J 0,I J 0,I J 0,Λ (some ⟨g9,0,none⟩) 2 2],?_,h3,?_,?_,?_,?_,rfl⟩,rfl⟩)
      ·exact T30.out.swap (bs:=[(g0,51,v3),(g1,51,[Λ none 0 0,I J 0,I J 0,I J 0,I J 0,I J 0]),(g2,81,[I J 0,I J 0,I J 0,I J 0,I J 0,I J 0,Λ none 0 0,I J 0,I J 0,I J 0,I J 0,Λ none 0 0]),(g3,81,[I J 7,I J 3,I J 0,I J 0,I J 0,I J 0,Λ none 0 0,I J 0,I J 0,I J 0,I J 0,Λ (some ⟨g9,0,none⟩) 2 2])]) 2 rfl (bin_deep _ _ _)
      ·have:=HM.out;omega
      ·have:=HM.out;omega
      ·have:=HM.out;omega
      ·rw[HQ.out,HS.out]
     case measure=>
      have h6:=Jg h3 (T30.out.get 0 rfl);have h7:=HB.out;have:=HM.out;rw[h6,h7];omega
    ·have hbb:isT (Yb L a) Vs=false:=by simpa using(show ¬ isT (Yb L a) Vs=true from hb)
     rw[hbb]at his;have hst:Jv 3 L (m+1) (x,.ok a d)=(x,.ok a d):=by rw[Jv];exact if_neg hb
     have HST:=Hh (HQ.out.trans hst);have T20:=Hh hT;clear hT hm hmn hrs hb hst hbb;go_wp2_with(first
 |(go_at_call 39;refine(his _ (HR.out.below T20.out.below)).mono ?_;rintro e w21 ⟨rfl,b21⟩
   have T21:Hid (Env w [(g0,51,[Λ (some ⟨r,0,none⟩) nn K,I J (a:Int),I J (d:Int),I J 0,I J 0,I J 0]),(g1,51,[Λ none 0 0,I J 0,I J 0,I J 0,I J 0,I J 0]),(g2,81,[I J 0,I J 0,I J 0,I J 0,I J 0,I J 0,Λ none 0 0,I J 0,I J 0,I J 0,I J 0,Λ none 0 0]),(g3,81,[a0,a1,a2,a3,a4,a5,a6,a7,a8,a9,a10,a11])] [] [(x.ds,[a0,a1,a2,a3,a4,a5,a6,a7,a8,a9,a10,a11])] w21):=Hh (T20.out.call b21)
   clear b21))
     refine ret2 mixed (by kernel_rfl) (by kernel_rfl) (by kernel_rfl) (by kernel_rfl) (by kernel_rfl) (by kernel_rfl) (by kernel_rfl) (by kernel_rfl) rfl rfl rfl rfl rfl rfl rfl rfl rfl rfl g0 g3 g1 g2 ([Λ (some ⟨r,0,none⟩) nn K,I J (a:Int),I J (d:Int),I J 0,I J 0,I J 0]) ([a0,a1,a2,a3,a4,a5,a6,a7,a8,a9,a10,a11]) ([Λ none 0 0,I J 0,I J 0,I J 0,I J 0,I J 0]) ([I J 0,I J 0,I J 0,I J 0,I J 0,I J 0,Λ none 0 0,I J 0,I J 0,I J 0,I J 0,Λ none 0 0]) (T21.out.get 0 rfl) (T21.out.get 3 rfl) (T21.out.get 1 rfl) (T21.out.get 2 rfl) rfl rfl (by simp[Γ]) OL.out (T21.out.ne 0 1 (by decide) rfl rfl) (T21.out.ne 0 2 (by decide) rfl rfl) (T21.out.ne 3 1 (by decide) rfl rfl) (T21.out.ne 3 2 (by decide) rfl rfl) (T21.out.ne 1 2 (by decide) rfl rfl) Zm Yc Yy Yi rfl rfl rfl rfl rfl rfl ?_;intro wz hR;have HZ:=Hh hR;clear hR;go_wp2
     obtain⟨dz,bz⟩:=T21.out.ret2 1 2 rfl rfl HZ.out;refine Yp 2 51 3 81 51 81 _ _ _ _ rfl HZ.out.one HZ.out.two Zm Yc Yy Yi rfl rfl rfl ?_;rw[HST.out];exact⟨_,_,rfl,HP.out,dz (_,_) (List.mem_singleton.2 rfl),bz⟩
theorem qexpr(n:Nat)(ih:∀ m,m≤n→QProdOK m):Zpc (n+1):=by
 intro w r K L st vs ho hp hn hLn;have T0:=Hh (Env.start w);have hfa:∀(x:World)(us:List Value),Zu x r K L→RPv r K L st us→Calls Φ 118 #[.agg us.toArray] x (PTo x r K L (Vp 3 L n st).2 (Vp 3 L n st).1.ds):=fun x us h1 h2=>ih n (Θ _) x r K L st us h1 h2 (by omega) hLn
 have heq:Yj 3 L (n+1) st=Jz 3 L n (Vp 3 L n st):=by rw[Yj]
 have hr:=Zip L 3 n st;rw[heq];clear heq;generalize Vp 3 L n st=x0 at *;have HX:=Hh x0.1.ds_len;have HN:=Hh (ζ hn (ζ hLn hr));clear hn hLn hr;go_enter Tryz.func94,Tryz.ntmps94;go_wp2_with(first
 |((with_reducible refine Zd 1 ?_);refine Zf T0.out 51 _ (vs) rfl rfl rfl ?_;intro w1 g0 t1
   have T1:=Hh (t1);clear t1)
 |((with_reducible refine Zd 2 ?_);refine Zb T1.out 51 _ rfl rfl z_P ?_;intro w2 g1 t2
   have T2:=Hh (t2);clear t2)
 |((with_reducible refine Zd 3 ?_);refine Zb T2.out 81 _ rfl rfl Zfh ?_;intro w3 g2 t3
   have T3:=Hh (t3);clear t3)
 |((with_reducible refine Zd 10 ?_);refine Zc 51 _ 51 g0 _ (T3.out.get 0 rfl) Zm (Ze hp.len) rfl rfl rfl ?_)
 |(go_at_call 118;refine(hfa _ vs (ho.below T3.out.below) hp).mono ?_;rintro e w4 ⟨v1,u1,rfl,h1,d1,b4⟩
   have T4:=Hh (T3.out.tree b4 d1);have l1:=(d1.len.trans HX.out)
   have o1:=Hh d1.one;clear d1;clear b4)
 |((with_reducible refine Zd 4 ?_);refine Zb T4.out 81 _ rfl rfl Zfh ?_;intro w5 g3 t5
   have T5:=Hh (t5);clear t5)
 |((with_reducible refine Zg 1 12 ?_);refine Za 51 _ _ 51 g0 _ (v1) (T5.out.get 0 rfl) (h1.len.trans hp.len.symm) (Ze h1.len) h1.one rfl rfl rfl rfl rfl ?_
   intro w6 p6;have T6:=Hh (T5.out.put 0 rfl p6);clear p6)
 |((with_reducible refine Zg 4 13 ?_);refine Za 81 _ _ 81 g3 _ (u1) (T6.out.get 3 rfl) l1 (Wo l1) o1.out rfl rfl rfl rfl rfl ?_
   intro w7 p7;have T7:Hid (Env w [(g0,51,v1),(g1,51,[Λ none 0 0,I J 0,I J 0,I J 0,I J 0,I J 0]),(g2,81,[I J 0,I J 0,I J 0,I J 0,I J 0,I J 0,Λ none 0 0,I J 0,I J 0,I J 0,I J 0,Λ none 0 0]),(g3,81,u1)] [] [(x0.1.ds,u1)] w7):=Hh (T6.out.put 3 rfl p7);clear p7))
 go_simp;go_loopw [14] (fun kk wr=>∃(m:Nat)(s:St)(x:Ex)(us l:List Value),Env w [(g0,51,us),(g1,51,[Λ none 0 0,I J 0,I J 0,I J 0,I J 0,I J 0]),(g2,81,[I J 0,I J 0,I J 0,I J 0,I J 0,I J 0,Λ none 0 0,I J 0,I J 0,I J 0,I J 0,Λ none 0 0]),(g3,81,l)] [] [(x.ds,l)] wr∧RPv r K L s us∧4*Zx L s+2≤m∧m≤n∧Zx L s≤Zx L st∧Jz 3 L n x0=Jz 3 L m (x,s)∧l.length=12) (fun _ wr=>remB g0 L.length wr)
 case atStart=>exact⟨n,x0.2,x0.1,v1,u1,T7.out,h1,by have:=HN.out;omega,Θ _,HN.out.2.2,rfl,l1⟩
 case round=>
  obtain⟨m,s,x,us,l,hT,hs,hm,hmn,hrs,heq,_⟩:=hrel;obtain⟨m,rfl⟩:∃ m',m=m'+1:=⟨m - 1,by omega⟩
  obtain⟨a0,a1,a2,a3,a4,a5,a6,a7,a8,a9,a10,a11,rfl⟩:=Zda l ((hT.leaf 0 rfl).len.trans x.ds_len);have hrem:=Jg hs (hT.get 0 rfl);have OL:=Hh (hT.leaf 0 rfl).one;have HQ:=Hh heq;have HB:=Hh hrem;clear heq hrem hp;cases s with
  |bad F=>
    have HP0:=Hh hs;obtain⟨A,nb,kb,a,d,rfl,hd,hF⟩:=hs.bad;have HP:=Hh HP0.out;clear HP0 hs;obtain⟨f0,f1,f2⟩:=F;have z0:(f0 == 0)=false:=by rw[beq_eq_false_iff_ne];exact hF
    obtain⟨c0,c1,c2,c3,c4,c5⟩:=Xu (hT.get 0 rfl);have hst:Jz 3 L (m+1) (x,.bad (f0,f1,f2))=(x,.bad (f0,f1,f2)):=by rw[Jz];exact if_pos rfl
    have HST:=Hh (HQ.out.trans hst);have T20:=Hh hT;clear hT hF hst hm hmn hrs;go_wp2
    refine ret2 mixed (by kernel_rfl) (by kernel_rfl) (by kernel_rfl) (by kernel_rfl) (by kernel_rfl) (by kernel_rfl) (by kernel_rfl) (by kernel_rfl) rfl rfl rfl rfl rfl rfl rfl rfl rfl rfl g0 g3 g1 g2 ([Λ A nb kb,I J (a:Int),I J (d:Int),I J f0,I J (f1:Int),I J (f2:Int)]) ([a0,a1,a2,a3,a4,a5,a6,a7,a8,a9,a10,a11]) ([Λ none 0 0,I J 0,I J 0,I J 0,I J 0,I J 0]) ([I J 0,I J 0,I J 0,I J 0,I J 0,I J 0,Λ none 0 0,I J 0,I J 0,I J 0,I J 0,Λ none 0 0]) (T20.out.get 0 rfl) (T20.out.get 3 rfl) (T20.out.get 1 rfl) (T20.out.get 2 rfl) rfl rfl (by simp[Γ]) OL.out (T20.out.ne 0 1 (by decide) rfl rfl) (T20.out.ne 0 2 (by decide) rfl rfl) (T20.out.ne 3 1 (by decide) rfl rfl) (T20.out.ne 3 2 (by decide) rfl rfl) (T20.out.ne 1 2 (by decide) rfl rfl) Zm Yc Yy Yi rfl rfl rfl rfl rfl rfl ?_;intro wz hR;have HZ:=Hh hR;clear hR;go_wp2
    obtain⟨dz,bz⟩:=T20.out.ret2 1 2 rfl rfl HZ.out;refine Yp 2 51 3 81 51 81 _ _ _ _ rfl HZ.out.one HZ.out.two Zm Yc Yy Yi rfl rfl rfl ?_;rw[HST.out];exact⟨_,_,rfl,HP.out,dz (_,_) (List.mem_singleton.2 rfl),bz⟩
  |ok a d=>
    have HP0:=Hh hs;obtain⟨nn,hnn,rfl,ha,hd⟩:=hs.ok;have HP:=Hh HP0.out;clear HP0 hs;have hrow:=ho (by omega);have HR:=Hh hrow;have HNN:=Hh (ζ hnn ha);clear hrow hnn;obtain⟨c0,c1,c2,c3,c4,c5⟩:=Xu (hT.get 0 rfl);have hmy:∀(x:World)(us:List Value),Zu x r K L→RPv r K L (.ok a d) us→Calls Φ 18 #[.agg us.toArray,Λ (some ⟨x.heap.size,0,none⟩) 2 2] (x.alloc (.cells #[Ψ ⟨#[43]⟩,Ψ ⟨#[45]⟩] 9)) (PVo x r K L (Ye L Zcz (.ok a d)) (I J (Zk L Zcz (.ok a d)))):=fun x us h1 h2=>Zlr x r K _ L (.ok a d) us Zcz 2 2 _ rfl rfl h1 h2 rfl (by decide)
    have hfn:=Uh L (ws:=Zcz) (st:=.ok a d);have hlt:=Vt (L:=L) (ws:=Zcz) (st:=.ok a d);by_cases hb:Zk L Zcz (.ok a d)=0
    ·have hst:Jz 3 L (m+1) (x,.ok a d)=(x,.ok a d):=by rw[Jz];exact if_pos hb
     have HST:=Hh (HQ.out.trans hst);rw[hb,hfn hb]at hmy;have T20:=Hh hT;rw[show((0:Nat):Int)=0 from rfl]at hmy;clear hT hm hmn hrs hb hst hlt hfn;go_wp2_with(first
 |((with_reducible refine Zd 19 ?_);refine Zc 51 _ 51 g0 _ (T20.out.get 0 rfl) Zm Yc rfl rfl rfl ?_)
 |(go_at_call 18;refine(hmy _ _ (ho.below T20.out.below) HP.out).mono ?_;rintro e w21 ⟨v2,rfl,h2,b21⟩
   have T21:=Hh (T20.out.call b21);clear b21)
 |((with_reducible refine Zd 5 ?_);refine Zb T21.out 51 _ rfl rfl z_P ?_;intro w22 g4 t22
   have T22:=Hh (t22);clear t22)
 |((with_reducible refine Zg 5 22 ?_);refine Za 51 _ _ 51 g4 _ (v2) (T22.out.get 4 rfl) h2.len (Ze h2.len) h2.one rfl rfl rfl rfl rfl ?_
   intro w23 p23;have T23:Hid (Env w [(g0,51,[Λ (some ⟨r,0,none⟩) nn K,I J (a:Int),I J (d:Int),I J 0,I J 0,I J 0]),(g1,51,[Λ none 0 0,I J 0,I J 0,I J 0,I J 0,I J 0]),(g2,81,[I J 0,I J 0,I J 0,I J 0,I J 0,I J 0,Λ none 0 0,I J 0,I J 0,I J 0,I J 0,Λ none 0 0]),(g3,81,[a0,a1,a2,a3,a4,a5,a6,a7,a8,a9,a10,a11]),(g4,51,v2)] [] [(x.ds,[a0,a1,a2,a3,a4,a5,a6,a7,a8,a9,a10,a11])] w23):=Hh (T22.out.put 4 rfl p23)
   clear p23))
     refine ret2 mixed (by kernel_rfl) (by kernel_rfl) (by kernel_rfl) (by kernel_rfl) (by kernel_rfl) (by kernel_rfl) (by kernel_rfl) (by kernel_rfl) rfl rfl rfl rfl rfl rfl rfl rfl rfl rfl g4 g3 g1 g2 (v2) ([a0,a1,a2,a3,a4,a5,a6,a7,a8,a9,a10,a11]) ([Λ none 0 0,I J 0,I J 0,I J 0,I J 0,I J 0]) ([I J 0,I J 0,I J 0,I J 0,I J 0,I J 0,Λ none 0 0,I J 0,I J 0,I J 0,I J 0,Λ none 0 0]) (T23.out.get 4 rfl) (T23.out.get 3 rfl) (T23.out.get 1 rfl) (T23.out.get 2 rfl) h2.len rfl h2.one OL.out (T23.out.ne 4 1 (by decide) rfl rfl) (T23.out.ne 4 2 (by decide) rfl rfl) (T23.out.ne 3 1 (by decide) rfl rfl) (T23.out.ne 3 2 (by decide) rfl rfl) (T23.out.ne 1 2 (by decide) rfl rfl) Zm (Ze h2.len) Yy Yi rfl rfl rfl rfl rfl rfl ?_;intro wz hR;have HZ:=Hh hR;clear hR;go_wp2
     obtain⟨dz,bz⟩:=T23.out.ret2 1 2 rfl rfl HZ.out;refine Yp 2 51 3 81 51 81 _ _ _ _ rfl HZ.out.one HZ.out.two Zm (Ze h2.len) Yy Yi rfl rfl rfl ?_;rw[HST.out];exact⟨_,_,rfl,h2,dz (_,_) (List.mem_singleton.2 rfl),bz⟩
    ·have hlt:=hlt hb
     have hst:Jz 3 L (m+1) (x,.ok a d)=Jz 3 L m (.bin (Zk L Zcz (.ok a d)) x (Vp 3 L m (Ye L Zcz (.ok a d))).1,(Vp 3 L m (Ye L Zcz (.ok a d))).2):=by rw[Jz,if_neg hb]
     have hfc:∀(x:World)(us:List Value),Zu x r K L→RPv r K L (Ye L Zcz (.ok a d)) us→Calls Φ 118 #[.agg us.toArray] x (PTo x r K L (Vp 3 L m (Ye L Zcz (.ok a d))).2 (Vp 3 L m (Ye L Zcz (.ok a d))).1.ds):=fun x us h1 h2=>ih m (by omega) x r K L _ us h1 h2 (by omega) (by have:=HN.out;omega)
     have hr2:=Zip L 3 m (Ye L Zcz (.ok a d));have hk0:((Zk L Zcz (.ok a d):Int) == 0)=false:=by rw[beq_eq_false_iff_ne];omega
     generalize Ye L Zcz (.ok a d)=s1 at *;generalize Zk L Zcz (.ok a d)=k at *;generalize Vp 3 L m s1=y at *;have HY:=Hh y.1.ds_len;have HS:=Hh hst;have HM:=Hh (show 4*Zx L y.2+2≤m∧m≤n∧Zx L y.2≤Zx L st∧Zx L y.2<Zx L (.ok a d) by omega);have T20:=Hh hT;clear hT hm hmn hrs hb hlt hst hr2 hfn;go_wp2_with(first
 |((with_reducible refine Zd 19 ?_);refine Zc 51 _ 51 g0 _ (T20.out.get 0 rfl) Zm Yc rfl rfl rfl ?_)
 |(go_at_call 18;refine(hmy _ _ (ho.below T20.out.below) HP.out).mono ?_;rintro e w21 ⟨v2,rfl,h2,b21⟩
   have T21:=Hh (T20.out.call b21);clear b21)
 |((with_reducible refine Zd 5 ?_);refine Zb T21.out 51 _ rfl rfl z_P ?_;intro w22 g4 t22
   have T22:=Hh (t22);clear t22)
 |((with_reducible refine Zg 5 22 ?_);refine Za 51 _ _ 51 g4 _ (v2) (T22.out.get 4 rfl) h2.len (Ze h2.len) h2.one rfl rfl rfl rfl rfl ?_
   intro w23 p23;have T23:=Hh (T22.out.put 4 rfl p23);clear p23)
 |((with_reducible refine Zd 29 ?_);refine Zc 51 _ 51 g4 _ (T23.out.get 4 rfl) Zm (Ze h2.len) rfl rfl rfl ?_)
 |(go_at_call 118;refine(hfc _ v2 (ho.below T23.out.below) h2).mono ?_;rintro e w24 ⟨v3,u3,rfl,h3,d3,b24⟩
   have o3:=Hh d3.one;obtain⟨b0,b1,b2,b3,b4,b5,b6,b7,b8,b9,b10,b11,rfl⟩:=Zda u3 (d3.len.trans HY.out);have T24:=Hh (T23.out.tree b24 d3);clear d3;clear b24)
 |((with_reducible refine Zd 7 ?_);refine Zb T24.out 51 _ rfl rfl z_P ?_;intro w25 g5 t25
   have T25:=Hh (t25);clear t25)
 |((with_reducible refine Zd 8 ?_);refine Zb T25.out 81 _ rfl rfl Zfh ?_;intro w26 g6 t26
   have T26:=Hh (t26);clear t26)
 |((with_reducible refine Zg 7 31 ?_);refine Za 51 _ _ 51 g5 _ (v3) (T26.out.get 5 rfl) h3.len (Ze h3.len) h3.one rfl rfl rfl rfl rfl ?_
   intro w27 p27;have T27:=Hh (T26.out.put 5 rfl p27);clear p27)
 |((with_reducible refine Zg 8 32 ?_);refine Za 81 _ _ 81 g6 _ ([b0,b1,b2,b3,b4,b5,b6,b7,b8,b9,b10,b11]) (T27.out.get 6 rfl) rfl Yi o3.out rfl rfl rfl rfl rfl ?_
   intro w28 p28;have T28:=Hh (T27.out.put 6 rfl p28);clear p28)
 |((with_reducible refine Zd 34 ?_);refine Zc 81 _ 81 g3 _ (T28.out.get 3 rfl) Yy Yi rfl rfl rfl ?_)
 |((with_reducible refine Zd 35 ?_);refine Zc 81 _ 81 g6 _ (T28.out.get 6 rfl) Yy Yi rfl rfl rfl ?_)
 |((with_reducible refine Zd 36 ?_);refine Zig T28.out 0 1 rfl rfl 79 81 _ _ 36 #[a0,a1,a2,a3,a4,a5,a6,a7,a8,a9,a10,a11,b0,b1,b2,b3,b4,b5,b6,b7,b8,b9,b10,b11] rfl rfl rfl rfl und_exs rfl rfl (by kernel_rfl) ?_;intro w29 g9 t29
   have T29:=Hh (t29);clear t29)
 |((with_reducible refine Zg 4 37 ?_);refine Za 81 _ _ 81 g3 _ ([I J 7,I J (k:Int),I J 0,I J 0,I J 0,I J 0,Λ none 0 0,I J 0,I J 0,I J 0,I J 0,Λ (some ⟨g9,0,none⟩) 2 2]) (T29.out.get 3 rfl) rfl Yi (by simp[Γ]) rfl rfl rfl rfl rfl ?_
   intro w30 p30;have T30:=Hh (T29.out.put 3 rfl p30);clear p30)
 |((with_reducible refine Zd 38 ?_);refine Zc 51 _ 51 g5 _ (T30.out.get 5 rfl) Zm (Ze h3.len) rfl rfl rfl ?_)
 |((with_reducible refine Zg 1 38 ?_);refine Za 51 _ _ 51 g0 _ (v3) (T30.out.get 0 rfl) h3.len (Ze h3.len) h3.one rfl rfl rfl rfl rfl ?_
   intro w31 p31;have T31:Hid (Env w [(g0,51,v3),(g1,51,[Λ none 0 0,I J 0,I J 0,I J 0,I J 0,I J 0]),(g2,81,[I J 0,I J 0,I J 0,I J 0,I J 0,I J 0,Λ none 0 0,I J 0,I J 0,I J 0,I J 0,Λ none 0 0]),(g3,81,[I J 7,I J (k:Int),I J 0,I J 0,I J 0,I J 0,Λ none 0 0,I J 0,I J 0,I J 0,I J 0,Λ (some ⟨g9,0,none⟩) 2 2]),(g4,51,v2),(g5,51,v3),(g6,81,[b0,b1,b2,b3,b4,b5,b6,b7,b8,b9,b10,b11])] [] [(x.ds,[a0,a1,a2,a3,a4,a5,a6,a7,a8,a9,a10,a11]),(y.1.ds,[b0,b1,b2,b3,b4,b5,b6,b7,b8,b9,b10,b11]),(.row 2 (x.ds.app y.1.ds) .nil,[Λ (some ⟨g9,0,none⟩) 2 2])] w31):=Hh (T30.out.put 0 rfl p31)
   clear p31))
     (try go_simp)
     go_roundw
     case rel=>
      first
      |refine⟨m,y.2,.bin (k:Int) x y.1,v3,[I J 7,I J (k:Int),I J 0,I J 0,I J 0,I J 0,Λ none 0 0,I J 0,I J 0,I J 0,I J 0,Λ (some ⟨g9,0,none⟩) 2 2],?_,h3,?_,?_,?_,?_,rfl⟩
      |(repeat apply Exists.intro;refine⟨⟨m,y.2,.bin (k:Int) x y.1,v3,[I J 7,I J (k:Int),I J 0,I J 0,I J 0,I J 0,Λ none 0 0,I J 0,I J 0,I J 0,I J 0,Λ (some ⟨g9,0,none⟩) 2 2],?_,h3,?_,?_,?_,?_,rfl⟩,rfl⟩)
      ·exact T31.out.swap (bs:=[(g0,51,v3),(g1,51,[Λ none 0 0,I J 0,I J 0,I J 0,I J 0,I J 0]),(g2,81,[I J 0,I J 0,I J 0,I J 0,I J 0,I J 0,Λ none 0 0,I J 0,I J 0,I J 0,I J 0,Λ none 0 0]),(g3,81,[I J 7,I J (k:Int),I J 0,I J 0,I J 0,I J 0,Λ none 0 0,I J 0,I J 0,I J 0,I J 0,Λ (some ⟨g9,0,none⟩) 2 2])]) 2 rfl (bin_deep _ _ _)
      ·have:=HM.out;omega
      ·have:=HM.out;omega
      ·have:=HM.out;omega
      ·rw[HQ.out,HS.out]
     case measure=>
      have h6:=Jg h3 (T31.out.get 0 rfl);have h7:=HB.out;have:=HM.out;rw[h6,h7];omega
theorem qexprs_all:∀ n m:Nat,m≤n→Zpc m∧QProdOK m∧QFactOK m:=by
 intro n;induction n with
 |zero=>
  intro m hm;obtain rfl:m=0:=by omega
  exact⟨fun w r K L st vs _ _ hn _=>absurd hn (by omega),fun w r K L st vs _ _ hn _=>absurd hn (by omega),fun w r K L st vs _ _ hn _=>absurd hn (by omega)⟩
 |succ n ih=>
  intro m hm;by_cases e:m≤n
  ·exact ih m e
  ·obtain rfl:m=n+1:=by omega
   exact⟨qexpr n fun k hk=>(ih k hk).2.1,qprod n fun k hk=>(ih k hk).2.2,qfact n (ih n (Θ _)).1⟩
theorem Zkd(w:World)(r K:Nat)(L:List TokV)(st:St)(vs:List Value)(n:Nat)(ho:Zu w r K L)(hp:RPv r K L st vs)(hn:4*Zx L st+3≤n)(hLn:Zx L st≤68719476736) :
 Calls Φ 94 #[.agg vs.toArray] w (PTo w r K L (Yj 3 L n st).2 (Yj 3 L n st).1.ds):=(qexprs_all n n (Θ _)).1 w r K L st vs ho hp hn hLn
end Go.Proofs.YtbdecchpleiepaaGreat
