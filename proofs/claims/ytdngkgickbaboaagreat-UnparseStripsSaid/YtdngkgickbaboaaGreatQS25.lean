/-
  No conditions but those that each theorem names.
-/
import Derived.Great.Walk
import Derived.Test.YtdngkgickbaboaaGreatQS24
set_option maxRecDepth 20000
set_option maxHeartbeats 12800000
namespace Go.Proofs.YtdngkgickbaboaaGreat
open Go.ChangeShapes Go.WideShapes Go.ChangeAt Go.RowKit
set_option linter.unusedVariables false
set_option linter.unusedSimpArgs false
theorem Env.addT{w x:World}{bs:List Bk}{rs:List Rw}{ts:List (Ds×List Value)}(h:Env w bs rs ts x){ds:Ds}{vs:List Value}(d:Zn (Zha w bs rs) x ds vs):Env w bs rs (ts++[(ds,vs)]) x:=
 ⟨h.at_,h.lo,h.nod,h.row,h.apart,h.rapart,(fun u hu=>by
   rcases List.mem_append.1 hu with hu | hu
   ·exact h.deep u hu
   ·cases List.mem_singleton.1 hu;exact d),h.below⟩
theorem Zek{w:World}{bs cs:List Bk}{rs:List Rw}{k:Nat}(h:Zha w (bs++cs) rs k):Zha w bs rs k:=⟨h.1,fun b hb=>h.2.1 b (List.mem_append_left _ hb),h.2.2⟩
theorem Env.swap{w x:World}{bs cs:List Bk}{rs:List Rw}{ts:List (Ds×List Value)}(h:Env w (bs++cs) rs ts x)(i:Nat){d0 ds:Ds}{v0 vs:List Value}(hi:ts[i]?=some (d0,v0))
  (f:Zn (Zha w bs rs) x d0 v0→Zn (Zha w bs rs) x ds vs):Env w bs rs [(ds,vs)] x:=by
 have h':=h.less (bs:=bs) (cs:=cs) (ts:=[]) (us:=ts);exact h'.addT (f ((h.deep _ (List.mem_of_getElem? hi)).mono fun k _ hn=>Zek hn))
theorem Zhi{w x:World}{bs:List Bk}{rs:List Rw}{ts:List (Ds×List Value)}{P:Program}{ops:Array Oper}{rest:List Oper}{o:Oper}{a:Act}{Q:Exit→Act→World→Prop}
  (h:Env w bs rs ts x)(i j:Nat){d1 d2:Ds}{l u:List Value}(hi:ts[i]?=some (d1,l))(hj:ts[j]?=some (d2,u))(t e:TypeId)(p q:Operand)(d:Tmp)(cells:Array Value)(hc:cells=(l++u).toArray)
  (hg:o.guard=none)(ho:o.op=.buildSlice t 2 #[(0,p),(1,q)])(hd:o.dst=some d)(hu:P.underlying t=some (.slice e))(hp:a.eval p=.agg l.toArray)(hq:a.eval q=.agg u.toArray)
  (hf:P.builtSlice e 2 [(0,.agg l.toArray),(1,.agg u.toArray)]=some cells)
  (hn:∀ y g,Env w bs rs (ts++[(.row 2 (d1.app d2) .nil,[.slice (some ⟨g,0,none⟩) 2 2])]) y→wpList P ops Q rest (a.put (some d) (.slice (some ⟨g,0,none⟩) 2 2)) y):wpList P ops Q (o::rest) a x:=by
 refine Great.wpList_buildSliceTo hg t e 2 #[(0,p),(1,q)] ho x.heap.size rfl (some d) hd hu cells (by simpa[hp,hq]using hf) (hn _ _ ?_);have nb:=Zi x (.cells cells e);have h':=h.call nb;refine h'.addT ?_;have D1:=h'.deep _ (List.mem_of_getElem? hi);have D2:=h'.deep _ (List.mem_of_getElem? hj);have hin:x.heap.size<(x.alloc (.cells cells e)).heap.size:=by simp
 refine⟨some ⟨x.heap.size,0,none⟩,2,l++u,[],rfl,by omega,.inr ⟨x.heap.size,rfl,⟨h.below.size,fun b hb=>?_,fun r hr c=>?_⟩,hin,fun k hk=>?_⟩,Zn.app D2 D1,rfl⟩
 ·have:=(h.at_ b hb).inside;omega
 ·exact Nat.lt_irrefl _ ((h.row r hr).lt _ c).2
 ·rw[(Zf.made x e cells).read k,hc,List.getElem?_toArray]
theorem bin_deep{N:Nat→Prop}{w:World}(op:Int)(l r:Ex){v:Value}(h:Zn N w (.row 2 (l.ds.app r.ds) .nil) [v]) :
  Zn N w (Ex.bin op l r).ds [.int .i64 7,.int .i64 op,.int .i64 0,.int .i64 0,.int .i64 0,.int .i64 0,.slice none 0 0,.int .i64 0,.int .i64 0,.int .i64 0,.int .i64 0,v]:=
 ⟨_,rfl,_,rfl,_,rfl,_,rfl,_,rfl,_,rfl,none,0,[],_,rfl,⟨Nat.zero_le _,Nat.le_refl _⟩,.inl rfl,rfl,_,rfl,_,rfl,_,rfl,_,rfl,h⟩
theorem Zjw:Tryz.prog.underlying 52=some (.slice 54):=by kernel_rfl
theorem qprod(n:Nat)(ih:∀ m,m≤n→QFactOK m):QProdOK (n+1):=by
 intro w r K L st vs ho hp hn hLn;have T0:=Hh (Env.start w);have hfa:∀(x:World)(us:List Value),Zt x r K L→RPv r K L st us→Calls Tryz.prog 174 #[.agg us.toArray] x (PTo x r K L (Wd 3 L n st).2 (Wd 3 L n st).1.ds):=fun x us h1 h2=>ih n (Nat.le_refl _) x r K L st us h1 h2 (by omega) hLn
 have heq:Wv 3 L (n+1) st=Ub 3 L n (Wd 3 L n st):=by rw[Wv]
 have hr:=Zdn L 3 n st;rw[heq];clear heq;generalize Wd 3 L n st=x0 at *;have HX:=Hh x0.1.ds_len;have HN:=Hh (And.intro hn (And.intro hLn hr));clear hn hLn hr;go_enter Tryz.func145,Tryz.ntmps145;go_wp2_with(first
 |((with_reducible refine Zd 1 ?_);refine Zo T0.out 66 _ (vs) rfl rfl rfl ?_;intro w1 g0 t1
   have T1:=Hh (t1);clear t1)
 |((with_reducible refine Zd 2 ?_);refine Zc T1.out 66 _ rfl rfl z_P ?_;intro w2 g1 t2
   have T2:=Hh (t2);clear t2)
 |((with_reducible refine Zd 3 ?_);refine Zc T2.out 54 _ rfl rfl Zem ?_;intro w3 g2 t3
   have T3:=Hh (t3);clear t3)
 |((with_reducible refine Zd 8 ?_);refine Zb 66 _ 66 g0 _ (T3.out.get 0 rfl) Zl (Ze hp.len) rfl rfl rfl ?_)
 |(go_at_call 174;refine(hfa _ vs (ho.below T3.out.below) hp).mono ?_;rintro e w4 ⟨v1,u1,rfl,h1,d1,b4⟩
   have T4:=Hh (T3.out.tree b4 d1);have l1:=(d1.len.trans HX.out)
   have o1:=Hh d1.one;clear d1;clear b4)
 |((with_reducible refine Zd 4 ?_);refine Zc T4.out 54 _ rfl rfl Zem ?_;intro w5 g3 t5
   have T5:=Hh (t5);clear t5)
 |((with_reducible refine Zg 1 10 ?_);refine Za 66 _ _ 66 g0 _ (v1) (T5.out.get 0 rfl) (h1.len.trans hp.len.symm) (Ze h1.len) h1.one rfl rfl rfl rfl rfl ?_
   intro w6 p6;have T6:=Hh (T5.out.put 0 rfl p6);clear p6)
 |((with_reducible refine Zg 4 11 ?_);refine Za 54 _ _ 54 g3 _ (u1) (T6.out.get 3 rfl) l1 (Yy l1) o1.out rfl rfl rfl rfl rfl ?_
   intro w7 p7;have T7:Hid (Env w [(g0,66,v1),(g1,66,[.slice none 0 0,.int .i64 0,.int .i64 0,.int .i64 0,.int .i64 0,.int .i64 0]),(g2,54,[.int .i64 0,.int .i64 0,.int .i64 0,.int .i64 0,.int .i64 0,.int .i64 0,.slice none 0 0,.int .i64 0,.int .i64 0,.int .i64 0,.int .i64 0,.slice none 0 0]),(g3,54,u1)] [] [(x0.1.ds,u1)] w7):=Hh (T6.out.put 3 rfl p7);clear p7))
 go_simp;go_loopw [12] (fun kk wr=>∃(m:Nat)(s:St)(x:Ex)(us l:List Value),Env w [(g0,66,us),(g1,66,[.slice none 0 0,.int .i64 0,.int .i64 0,.int .i64 0,.int .i64 0,.int .i64 0]),(g2,54,[.int .i64 0,.int .i64 0,.int .i64 0,.int .i64 0,.int .i64 0,.int .i64 0,.slice none 0 0,.int .i64 0,.int .i64 0,.int .i64 0,.int .i64 0,.slice none 0 0]),(g3,54,l)] [] [(x.ds,l)] wr∧RPv r K L s us∧4*Zu L s+1≤m∧m≤n∧Zu L s≤Zu L st∧Ub 3 L n x0=Ub 3 L m (x,s)∧l.length=12) (fun _ wr=>remB g0 L.length wr)
 case atStart=>exact⟨n,x0.2,x0.1,v1,u1,T7.out,h1,by have:=HN.out;omega,Nat.le_refl _,HN.out.2.2,rfl,l1⟩
 case round=>
  obtain⟨m,s,x,us,l,hT,hs,hm,hmn,hrs,heq,_⟩:=hrel;obtain⟨m,rfl⟩:∃ m',m=m'+1:=⟨m - 1,by omega⟩
  obtain⟨a0,a1,a2,a3,a4,a5,a6,a7,a8,a9,a10,a11,rfl⟩:=Zad l ((hT.leaf 0 rfl).len.trans x.ds_len);have hrem:=Je hs (hT.get 0 rfl);have OL:=Hh (hT.leaf 0 rfl).one;have HQ:=Hh heq;have HB:=Hh hrem;clear heq hrem hp;cases s with
  |bad F=>
    have HP0:=Hh hs;obtain⟨A,nb,kb,a,d,rfl,hd,hF⟩:=hs.bad;have HP:=Hh HP0.out;clear HP0 hs;obtain⟨f0,f1,f2⟩:=F;have z0:(f0 == 0)=false:=by rw[beq_eq_false_iff_ne];exact hF
    obtain⟨c0,c1,c2,c3,c4,c5⟩:=Xs (hT.get 0 rfl);have hst:Ub 3 L (m+1) (x,.bad (f0,f1,f2))=(x,.bad (f0,f1,f2)):=by rw[Ub];exact if_neg (show ¬(false=true)from Bool.false_ne_true)
    have HST:=Hh (HQ.out.trans hst);have T20:=Hh hT;clear hT hF hst hm hmn hrs;go_wp2
    refine ret2 mixed (by kernel_rfl) (by kernel_rfl) (by kernel_rfl) (by kernel_rfl) (by kernel_rfl) (by kernel_rfl) (by kernel_rfl) (by kernel_rfl) rfl rfl rfl rfl rfl rfl rfl rfl rfl rfl g0 g3 g1 g2 ([.slice A nb kb,.int .i64 (a:Int),.int .i64 (d:Int),.int .i64 f0,.int .i64 (f1:Int),.int .i64 (f2:Int)]) ([a0,a1,a2,a3,a4,a5,a6,a7,a8,a9,a10,a11]) ([.slice none 0 0,.int .i64 0,.int .i64 0,.int .i64 0,.int .i64 0,.int .i64 0]) ([.int .i64 0,.int .i64 0,.int .i64 0,.int .i64 0,.int .i64 0,.int .i64 0,.slice none 0 0,.int .i64 0,.int .i64 0,.int .i64 0,.int .i64 0,.slice none 0 0]) (T20.out.get 0 rfl) (T20.out.get 3 rfl) (T20.out.get 1 rfl) (T20.out.get 2 rfl) rfl rfl (by simp[Value.oneCell']) OL.out (T20.out.ne 0 1 (by decide) rfl rfl) (T20.out.ne 0 2 (by decide) rfl rfl) (T20.out.ne 3 1 (by decide) rfl rfl) (T20.out.ne 3 2 (by decide) rfl rfl) (T20.out.ne 1 2 (by decide) rfl rfl) Zl Ya Yr Yg rfl rfl rfl rfl rfl rfl ?_;intro wz hR;have HZ:=Hh hR;clear hR;go_wp2
    obtain⟨dz,bz⟩:=T20.out.ret2 1 2 rfl rfl HZ.out;refine Yo 2 66 3 54 66 54 _ _ _ _ rfl HZ.out.one HZ.out.two Zl Ya Yr Yg rfl rfl rfl ?_;rw[HST.out];exact⟨_,_,rfl,HP.out,dz (_,_) (List.mem_singleton.2 rfl),bz⟩
  |ok a d=>
    have HP0:=Hh hs;obtain⟨nn,hnn,rfl,ha,hd⟩:=hs.ok;have HP:=Hh HP0.out;clear HP0 hs;have hrow:=ho (by omega);have HR:=Hh hrow;have HNN:=Hh (And.intro hnn ha);clear hrow hnn;obtain⟨c0,c1,c2,c3,c4,c5⟩:=Xs (hT.get 0 rfl);have his:∀ x,Uw x r K L→Calls Tryz.prog 47 #[.agg #[.slice (some ⟨r,0,none⟩) nn K,.int .i64 (a:Int),.int .i64 (d:Int)],.string ⟨#[42]⟩] x (fun e w'=>e=.returned (.bool (isT (Zv L a) Wl))∧Below x.heap.size x w'):=fun x h=>qIs x r K L nn a d Wl HNN.out.1 h HNN.out.2
    by_cases hb:isS L Wl (.ok a d)=true
    ·have hlt:=Zdl L hb
     have hst:Ub 3 L (m+1) (x,.ok a d)=Ub 3 L m (.bin 3 x (Wd 3 L m (Xw L Wl (.ok a d))).1,(Wd 3 L m (Xw L Wl (.ok a d))).2):=by rw[Ub,if_pos hb]
     have hju:∀(x:World)(us:List Value),Zt x r K L→RPv r K L (.ok a d) us→Calls Tryz.prog 23 #[.agg us.toArray,.string ⟨#[42]⟩] x (PPo x r K L (Xw L Wl (.ok a d))):=fun x us h1 h2=>by
      have e1:Zx L Wl (.ok a d)=Xw L Wl (.ok a d):=if_pos hb;rw[←e1];exact Jf x r K L _ us Wl h1 h2
     have hfc:∀(x:World)(us:List Value),Zt x r K L→RPv r K L (Xw L Wl (.ok a d)) us→Calls Tryz.prog 174 #[.agg us.toArray] x (PTo x r K L (Wd 3 L m (Xw L Wl (.ok a d))).2 (Wd 3 L m (Xw L Wl (.ok a d))).1.ds):=fun x us h1 h2=>ih m (by omega) x r K L _ us h1 h2 (by omega) (by have:=HN.out;omega)
     have hr2:=Zdn L 3 m (Xw L Wl (.ok a d));have hbb:isT (Zv L a) Wl=true:=hb;rw[hbb]at his;generalize Xw L Wl (.ok a d)=s1 at *;generalize Wd 3 L m s1=y at *;have HY:=Hh y.1.ds_len;have HS:=Hh hst;have HM:=Hh (show 4*Zu L y.2+1≤m∧m≤n∧Zu L y.2≤Zu L st∧Zu L y.2<Zu L (.ok a d) by omega);have T20:=Hh hT;clear hT hm hmn hrs hb hlt hst hr2 hbb;go_wp2_with(first
 |(go_at_call 47;refine(his _ (HR.out.below T20.out.below)).mono ?_;rintro e w21 ⟨rfl,b21⟩
   have T21:=Hh (T20.out.call b21);clear b21)
 |((with_reducible refine Zd 22 ?_);refine Zb 66 _ 66 g0 _ (T21.out.get 0 rfl) Zl Ya rfl rfl rfl ?_)
 |(go_at_call 23;refine(hju _ _ (ho.below T21.out.below) HP.out).mono ?_;rintro e w22 ⟨v2,rfl,h2,b22⟩
   have T22:=Hh (T21.out.call b22);clear b22)
 |(go_at_call 174;refine(hfc _ v2 (ho.below T22.out.below) h2).mono ?_;rintro e w23 ⟨v3,u3,rfl,h3,d3,b23⟩
   have o3:=Hh d3.one;obtain⟨b0,b1,b2,b3,b4,b5,b6,b7,b8,b9,b10,b11,rfl⟩:=Zad u3 (d3.len.trans HY.out);have T23:=Hh (T22.out.tree b23 d3);clear d3;clear b23)
 |((with_reducible refine Zd 5 ?_);refine Zc T23.out 66 _ rfl rfl z_P ?_;intro w24 g4 t24
   have T24:=Hh (t24);clear t24)
 |((with_reducible refine Zd 6 ?_);refine Zc T24.out 54 _ rfl rfl Zem ?_;intro w25 g5 t25
   have T25:=Hh (t25);clear t25)
 |((with_reducible refine Zg 5 25 ?_);refine Za 66 _ _ 66 g4 _ (v3) (T25.out.get 4 rfl) h3.len (Ze h3.len) h3.one rfl rfl rfl rfl rfl ?_
   intro w26 p26;have T26:=Hh (T25.out.put 4 rfl p26);clear p26)
 |((with_reducible refine Zg 6 26 ?_);refine Za 54 _ _ 54 g5 _ ([b0,b1,b2,b3,b4,b5,b6,b7,b8,b9,b10,b11]) (T26.out.get 5 rfl) rfl Yg o3.out rfl rfl rfl rfl rfl ?_
   intro w27 p27;have T27:=Hh (T26.out.put 5 rfl p27);clear p27)
 |((with_reducible refine Zd 27 ?_);refine Zb 54 _ 54 g3 _ (T27.out.get 3 rfl) Yr Yg rfl rfl rfl ?_)
 |((with_reducible refine Zd 28 ?_);refine Zb 54 _ 54 g5 _ (T27.out.get 5 rfl) Yr Yg rfl rfl rfl ?_)
 |((with_reducible refine Zd 29 ?_);refine Zhi T27.out 0 1 rfl rfl 52 54 _ _ 29 #[a0,a1,a2,a3,a4,a5,a6,a7,a8,a9,a10,a11,b0,b1,b2,b3,b4,b5,b6,b7,b8,b9,b10,b11] rfl rfl rfl rfl Zjw rfl rfl (by kernel_rfl) ?_;intro w28 g9 t28
   have T28:=Hh (t28);clear t28)
 |((with_reducible refine Zg 4 30 ?_);refine Za 54 _ _ 54 g3 _ ([.int .i64 7,.int .i64 3,.int .i64 0,.int .i64 0,.int .i64 0,.int .i64 0,.slice none 0 0,.int .i64 0,.int .i64 0,.int .i64 0,.int .i64 0,.slice (some ⟨g9,0,none⟩) 2 2]) (T28.out.get 3 rfl) rfl Yg (by simp[Value.oneCell']) rfl rfl rfl rfl rfl ?_
   intro w29 p29;have T29:=Hh (T28.out.put 3 rfl p29);clear p29)
 |((with_reducible refine Zd 31 ?_);refine Zb 66 _ 66 g4 _ (T29.out.get 4 rfl) Zl (Ze h3.len) rfl rfl rfl ?_)
 |((with_reducible refine Zg 1 31 ?_);refine Za 66 _ _ 66 g0 _ (v3) (T29.out.get 0 rfl) h3.len (Ze h3.len) h3.one rfl rfl rfl rfl rfl ?_
   intro w30 p30;have T30:Hid (Env w [(g0,66,v3),(g1,66,[.slice none 0 0,.int .i64 0,.int .i64 0,.int .i64 0,.int .i64 0,.int .i64 0]),(g2,54,[.int .i64 0,.int .i64 0,.int .i64 0,.int .i64 0,.int .i64 0,.int .i64 0,.slice none 0 0,.int .i64 0,.int .i64 0,.int .i64 0,.int .i64 0,.slice none 0 0]),(g3,54,[.int .i64 7,.int .i64 3,.int .i64 0,.int .i64 0,.int .i64 0,.int .i64 0,.slice none 0 0,.int .i64 0,.int .i64 0,.int .i64 0,.int .i64 0,.slice (some ⟨g9,0,none⟩) 2 2]),(g4,66,v3),(g5,54,[b0,b1,b2,b3,b4,b5,b6,b7,b8,b9,b10,b11])] [] [(x.ds,[a0,a1,a2,a3,a4,a5,a6,a7,a8,a9,a10,a11]),(y.1.ds,[b0,b1,b2,b3,b4,b5,b6,b7,b8,b9,b10,b11]),(.row 2 (x.ds.app y.1.ds) .nil,[.slice (some ⟨g9,0,none⟩) 2 2])] w30):=Hh (T29.out.put 0 rfl p30)
   clear p30))
     (try go_simp)
     go_roundw
     case rel=>
      first
      |refine⟨m,y.2,.bin 3 x y.1,v3,[.int .i64 7,.int .i64 3,.int .i64 0,.int .i64 0,.int .i64 0,.int .i64 0,.slice none 0 0,.int .i64 0,.int .i64 0,.int .i64 0,.int .i64 0,.slice (some ⟨g9,0,none⟩) 2 2],?_,h3,?_,?_,?_,?_,rfl⟩
      |(repeat apply Exists.intro;refine⟨⟨m,y.2,.bin 3 x y.1,v3,[.int .i64 7,.int .i64 3,.int .i64 0,.int .i64 0,.int .i64 0,.int .i64 0,.slice none 0 0,.int .i64 0,.int .i64 0,.int .i64 0,.int .i64 0,.slice (some ⟨g9,0,none⟩) 2 2],?_,h3,?_,?_,?_,?_,rfl⟩,rfl⟩)
      ·exact T30.out.swap (bs:=[(g0,66,v3),(g1,66,[.slice none 0 0,.int .i64 0,.int .i64 0,.int .i64 0,.int .i64 0,.int .i64 0]),(g2,54,[.int .i64 0,.int .i64 0,.int .i64 0,.int .i64 0,.int .i64 0,.int .i64 0,.slice none 0 0,.int .i64 0,.int .i64 0,.int .i64 0,.int .i64 0,.slice none 0 0]),(g3,54,[.int .i64 7,.int .i64 3,.int .i64 0,.int .i64 0,.int .i64 0,.int .i64 0,.slice none 0 0,.int .i64 0,.int .i64 0,.int .i64 0,.int .i64 0,.slice (some ⟨g9,0,none⟩) 2 2])]) 2 rfl (bin_deep _ _ _)
      ·have:=HM.out;omega
      ·have:=HM.out;omega
      ·have:=HM.out;omega
      ·rw[HQ.out,HS.out]
     case measure=>
      have h6:=Je h3 (T30.out.get 0 rfl);have h7:=HB.out;have:=HM.out;rw[h6,h7];omega
    ·have hbb:isT (Zv L a) Wl=false:=by simpa using(show ¬ isT (Zv L a) Wl=true from hb)
     rw[hbb]at his;have hst:Ub 3 L (m+1) (x,.ok a d)=(x,.ok a d):=by rw[Ub];exact if_neg hb
     have HST:=Hh (HQ.out.trans hst);have T20:=Hh hT;clear hT hm hmn hrs hb hst hbb;go_wp2_with(first
 |(go_at_call 47;refine(his _ (HR.out.below T20.out.below)).mono ?_;rintro e w21 ⟨rfl,b21⟩
   have T21:Hid (Env w [(g0,66,[.slice (some ⟨r,0,none⟩) nn K,.int .i64 (a:Int),.int .i64 (d:Int),.int .i64 0,.int .i64 0,.int .i64 0]),(g1,66,[.slice none 0 0,.int .i64 0,.int .i64 0,.int .i64 0,.int .i64 0,.int .i64 0]),(g2,54,[.int .i64 0,.int .i64 0,.int .i64 0,.int .i64 0,.int .i64 0,.int .i64 0,.slice none 0 0,.int .i64 0,.int .i64 0,.int .i64 0,.int .i64 0,.slice none 0 0]),(g3,54,[a0,a1,a2,a3,a4,a5,a6,a7,a8,a9,a10,a11])] [] [(x.ds,[a0,a1,a2,a3,a4,a5,a6,a7,a8,a9,a10,a11])] w21):=Hh (T20.out.call b21)
   clear b21))
     refine ret2 mixed (by kernel_rfl) (by kernel_rfl) (by kernel_rfl) (by kernel_rfl) (by kernel_rfl) (by kernel_rfl) (by kernel_rfl) (by kernel_rfl) rfl rfl rfl rfl rfl rfl rfl rfl rfl rfl g0 g3 g1 g2 ([.slice (some ⟨r,0,none⟩) nn K,.int .i64 (a:Int),.int .i64 (d:Int),.int .i64 0,.int .i64 0,.int .i64 0]) ([a0,a1,a2,a3,a4,a5,a6,a7,a8,a9,a10,a11]) ([.slice none 0 0,.int .i64 0,.int .i64 0,.int .i64 0,.int .i64 0,.int .i64 0]) ([.int .i64 0,.int .i64 0,.int .i64 0,.int .i64 0,.int .i64 0,.int .i64 0,.slice none 0 0,.int .i64 0,.int .i64 0,.int .i64 0,.int .i64 0,.slice none 0 0]) (T21.out.get 0 rfl) (T21.out.get 3 rfl) (T21.out.get 1 rfl) (T21.out.get 2 rfl) rfl rfl (by simp[Value.oneCell']) OL.out (T21.out.ne 0 1 (by decide) rfl rfl) (T21.out.ne 0 2 (by decide) rfl rfl) (T21.out.ne 3 1 (by decide) rfl rfl) (T21.out.ne 3 2 (by decide) rfl rfl) (T21.out.ne 1 2 (by decide) rfl rfl) Zl Ya Yr Yg rfl rfl rfl rfl rfl rfl ?_;intro wz hR;have HZ:=Hh hR;clear hR;go_wp2
     obtain⟨dz,bz⟩:=T21.out.ret2 1 2 rfl rfl HZ.out;refine Yo 2 66 3 54 66 54 _ _ _ _ rfl HZ.out.one HZ.out.two Zl Ya Yr Yg rfl rfl rfl ?_;rw[HST.out];exact⟨_,_,rfl,HP.out,dz (_,_) (List.mem_singleton.2 rfl),bz⟩
theorem qexpr(n:Nat)(ih:∀ m,m≤n→QProdOK m):Znm (n+1):=by
 intro w r K L st vs ho hp hn hLn;have T0:=Hh (Env.start w);have hfa:∀(x:World)(us:List Value),Zt x r K L→RPv r K L st us→Calls Tryz.prog 145 #[.agg us.toArray] x (PTo x r K L (Wv 3 L n st).2 (Wv 3 L n st).1.ds):=fun x us h1 h2=>ih n (Nat.le_refl _) x r K L st us h1 h2 (by omega) hLn
 have heq:Yd 3 L (n+1) st=Ud 3 L n (Wv 3 L n st):=by rw[Yd]
 have hr:=Zdm L 3 n st;rw[heq];clear heq;generalize Wv 3 L n st=x0 at *;have HX:=Hh x0.1.ds_len;have HN:=Hh (And.intro hn (And.intro hLn hr));clear hn hLn hr;go_enter Tryz.func110,Tryz.ntmps110;go_wp2_with(first
 |((with_reducible refine Zd 1 ?_);refine Zo T0.out 66 _ (vs) rfl rfl rfl ?_;intro w1 g0 t1
   have T1:=Hh (t1);clear t1)
 |((with_reducible refine Zd 2 ?_);refine Zc T1.out 66 _ rfl rfl z_P ?_;intro w2 g1 t2
   have T2:=Hh (t2);clear t2)
 |((with_reducible refine Zd 3 ?_);refine Zc T2.out 54 _ rfl rfl Zem ?_;intro w3 g2 t3
   have T3:=Hh (t3);clear t3)
 |((with_reducible refine Zd 10 ?_);refine Zb 66 _ 66 g0 _ (T3.out.get 0 rfl) Zl (Ze hp.len) rfl rfl rfl ?_)
 |(go_at_call 145;refine(hfa _ vs (ho.below T3.out.below) hp).mono ?_;rintro e w4 ⟨v1,u1,rfl,h1,d1,b4⟩
   have T4:=Hh (T3.out.tree b4 d1);have l1:=(d1.len.trans HX.out)
   have o1:=Hh d1.one;clear d1;clear b4)
 |((with_reducible refine Zd 4 ?_);refine Zc T4.out 54 _ rfl rfl Zem ?_;intro w5 g3 t5
   have T5:=Hh (t5);clear t5)
 |((with_reducible refine Zg 1 12 ?_);refine Za 66 _ _ 66 g0 _ (v1) (T5.out.get 0 rfl) (h1.len.trans hp.len.symm) (Ze h1.len) h1.one rfl rfl rfl rfl rfl ?_
   intro w6 p6;have T6:=Hh (T5.out.put 0 rfl p6);clear p6)
 |((with_reducible refine Zg 4 13 ?_);refine Za 54 _ _ 54 g3 _ (u1) (T6.out.get 3 rfl) l1 (Yy l1) o1.out rfl rfl rfl rfl rfl ?_
   intro w7 p7;have T7:Hid (Env w [(g0,66,v1),(g1,66,[.slice none 0 0,.int .i64 0,.int .i64 0,.int .i64 0,.int .i64 0,.int .i64 0]),(g2,54,[.int .i64 0,.int .i64 0,.int .i64 0,.int .i64 0,.int .i64 0,.int .i64 0,.slice none 0 0,.int .i64 0,.int .i64 0,.int .i64 0,.int .i64 0,.slice none 0 0]),(g3,54,u1)] [] [(x0.1.ds,u1)] w7):=Hh (T6.out.put 3 rfl p7);clear p7))
 go_simp;go_loopw [14] (fun kk wr=>∃(m:Nat)(s:St)(x:Ex)(us l:List Value),Env w [(g0,66,us),(g1,66,[.slice none 0 0,.int .i64 0,.int .i64 0,.int .i64 0,.int .i64 0,.int .i64 0]),(g2,54,[.int .i64 0,.int .i64 0,.int .i64 0,.int .i64 0,.int .i64 0,.int .i64 0,.slice none 0 0,.int .i64 0,.int .i64 0,.int .i64 0,.int .i64 0,.slice none 0 0]),(g3,54,l)] [] [(x.ds,l)] wr∧RPv r K L s us∧4*Zu L s+2≤m∧m≤n∧Zu L s≤Zu L st∧Ud 3 L n x0=Ud 3 L m (x,s)∧l.length=12) (fun _ wr=>remB g0 L.length wr)
 case atStart=>exact⟨n,x0.2,x0.1,v1,u1,T7.out,h1,by have:=HN.out;omega,Nat.le_refl _,HN.out.2.2,rfl,l1⟩
 case round=>
  obtain⟨m,s,x,us,l,hT,hs,hm,hmn,hrs,heq,_⟩:=hrel;obtain⟨m,rfl⟩:∃ m',m=m'+1:=⟨m - 1,by omega⟩
  obtain⟨a0,a1,a2,a3,a4,a5,a6,a7,a8,a9,a10,a11,rfl⟩:=Zad l ((hT.leaf 0 rfl).len.trans x.ds_len);have hrem:=Je hs (hT.get 0 rfl);have OL:=Hh (hT.leaf 0 rfl).one;have HQ:=Hh heq;have HB:=Hh hrem;clear heq hrem hp;cases s with
  |bad F=>
    have HP0:=Hh hs;obtain⟨A,nb,kb,a,d,rfl,hd,hF⟩:=hs.bad;have HP:=Hh HP0.out;clear HP0 hs;obtain⟨f0,f1,f2⟩:=F;have z0:(f0 == 0)=false:=by rw[beq_eq_false_iff_ne];exact hF
    obtain⟨c0,c1,c2,c3,c4,c5⟩:=Xs (hT.get 0 rfl);have hst:Ud 3 L (m+1) (x,.bad (f0,f1,f2))=(x,.bad (f0,f1,f2)):=by rw[Ud];exact if_pos rfl
    have HST:=Hh (HQ.out.trans hst);have T20:=Hh hT;clear hT hF hst hm hmn hrs;go_wp2
    refine ret2 mixed (by kernel_rfl) (by kernel_rfl) (by kernel_rfl) (by kernel_rfl) (by kernel_rfl) (by kernel_rfl) (by kernel_rfl) (by kernel_rfl) rfl rfl rfl rfl rfl rfl rfl rfl rfl rfl g0 g3 g1 g2 ([.slice A nb kb,.int .i64 (a:Int),.int .i64 (d:Int),.int .i64 f0,.int .i64 (f1:Int),.int .i64 (f2:Int)]) ([a0,a1,a2,a3,a4,a5,a6,a7,a8,a9,a10,a11]) ([.slice none 0 0,.int .i64 0,.int .i64 0,.int .i64 0,.int .i64 0,.int .i64 0]) ([.int .i64 0,.int .i64 0,.int .i64 0,.int .i64 0,.int .i64 0,.int .i64 0,.slice none 0 0,.int .i64 0,.int .i64 0,.int .i64 0,.int .i64 0,.slice none 0 0]) (T20.out.get 0 rfl) (T20.out.get 3 rfl) (T20.out.get 1 rfl) (T20.out.get 2 rfl) rfl rfl (by simp[Value.oneCell']) OL.out (T20.out.ne 0 1 (by decide) rfl rfl) (T20.out.ne 0 2 (by decide) rfl rfl) (T20.out.ne 3 1 (by decide) rfl rfl) (T20.out.ne 3 2 (by decide) rfl rfl) (T20.out.ne 1 2 (by decide) rfl rfl) Zl Ya Yr Yg rfl rfl rfl rfl rfl rfl ?_;intro wz hR;have HZ:=Hh hR;clear hR;go_wp2
    obtain⟨dz,bz⟩:=T20.out.ret2 1 2 rfl rfl HZ.out;refine Yo 2 66 3 54 66 54 _ _ _ _ rfl HZ.out.one HZ.out.two Zl Ya Yr Yg rfl rfl rfl ?_;rw[HST.out];exact⟨_,_,rfl,HP.out,dz (_,_) (List.mem_singleton.2 rfl),bz⟩
  |ok a d=>
    have HP0:=Hh hs;obtain⟨nn,hnn,rfl,ha,hd⟩:=hs.ok;have HP:=Hh HP0.out;clear HP0 hs;have hrow:=ho (by omega);have HR:=Hh hrow;have HNN:=Hh (And.intro hnn ha);clear hrow hnn;obtain⟨c0,c1,c2,c3,c4,c5⟩:=Xs (hT.get 0 rfl);have hmy:∀(x:World)(us:List Value),Zt x r K L→RPv r K L (.ok a d) us→Calls Tryz.prog 20 #[.agg us.toArray,.slice (some ⟨x.heap.size,0,none⟩) 2 2] (x.alloc (.cells #[.string ⟨#[43]⟩,.string ⟨#[45]⟩] 9)) (PVo x r K L (Zz L Ja (.ok a d)) (.int .i64 (Zh L Ja (.ok a d)))):=fun x us h1 h2=>Zkj x r K _ L (.ok a d) us Ja 2 2 _ rfl rfl h1 h2 rfl (by decide)
    have hfn:=Uz L (ws:=Ja) (st:=.ok a d);have hlt:=Vc (L:=L) (ws:=Ja) (st:=.ok a d);by_cases hb:Zh L Ja (.ok a d)=0
    ·have hst:Ud 3 L (m+1) (x,.ok a d)=(x,.ok a d):=by rw[Ud];exact if_pos hb
     have HST:=Hh (HQ.out.trans hst);rw[hb,hfn hb]at hmy;have T20:=Hh hT;rw[show((0:Nat):Int)=0 from rfl]at hmy;clear hT hm hmn hrs hb hst hlt hfn;go_wp2_with(first
 |((with_reducible refine Zd 19 ?_);refine Zb 66 _ 66 g0 _ (T20.out.get 0 rfl) Zl Ya rfl rfl rfl ?_)
 |(go_at_call 20;refine(hmy _ _ (ho.below T20.out.below) HP.out).mono ?_;rintro e w21 ⟨v2,rfl,h2,b21⟩
   have T21:=Hh (T20.out.call b21);clear b21)
 |((with_reducible refine Zd 5 ?_);refine Zc T21.out 66 _ rfl rfl z_P ?_;intro w22 g4 t22
   have T22:=Hh (t22);clear t22)
 |((with_reducible refine Zg 5 22 ?_);refine Za 66 _ _ 66 g4 _ (v2) (T22.out.get 4 rfl) h2.len (Ze h2.len) h2.one rfl rfl rfl rfl rfl ?_
   intro w23 p23;have T23:Hid (Env w [(g0,66,[.slice (some ⟨r,0,none⟩) nn K,.int .i64 (a:Int),.int .i64 (d:Int),.int .i64 0,.int .i64 0,.int .i64 0]),(g1,66,[.slice none 0 0,.int .i64 0,.int .i64 0,.int .i64 0,.int .i64 0,.int .i64 0]),(g2,54,[.int .i64 0,.int .i64 0,.int .i64 0,.int .i64 0,.int .i64 0,.int .i64 0,.slice none 0 0,.int .i64 0,.int .i64 0,.int .i64 0,.int .i64 0,.slice none 0 0]),(g3,54,[a0,a1,a2,a3,a4,a5,a6,a7,a8,a9,a10,a11]),(g4,66,v2)] [] [(x.ds,[a0,a1,a2,a3,a4,a5,a6,a7,a8,a9,a10,a11])] w23):=Hh (T22.out.put 4 rfl p23)
   clear p23))
     refine ret2 mixed (by kernel_rfl) (by kernel_rfl) (by kernel_rfl) (by kernel_rfl) (by kernel_rfl) (by kernel_rfl) (by kernel_rfl) (by kernel_rfl) rfl rfl rfl rfl rfl rfl rfl rfl rfl rfl g4 g3 g1 g2 (v2) ([a0,a1,a2,a3,a4,a5,a6,a7,a8,a9,a10,a11]) ([.slice none 0 0,.int .i64 0,.int .i64 0,.int .i64 0,.int .i64 0,.int .i64 0]) ([.int .i64 0,.int .i64 0,.int .i64 0,.int .i64 0,.int .i64 0,.int .i64 0,.slice none 0 0,.int .i64 0,.int .i64 0,.int .i64 0,.int .i64 0,.slice none 0 0]) (T23.out.get 4 rfl) (T23.out.get 3 rfl) (T23.out.get 1 rfl) (T23.out.get 2 rfl) h2.len rfl h2.one OL.out (T23.out.ne 4 1 (by decide) rfl rfl) (T23.out.ne 4 2 (by decide) rfl rfl) (T23.out.ne 3 1 (by decide) rfl rfl) (T23.out.ne 3 2 (by decide) rfl rfl) (T23.out.ne 1 2 (by decide) rfl rfl) Zl (Ze h2.len) Yr Yg rfl rfl rfl rfl rfl rfl ?_;intro wz hR;have HZ:=Hh hR;clear hR;go_wp2
     obtain⟨dz,bz⟩:=T23.out.ret2 1 2 rfl rfl HZ.out;refine Yo 2 66 3 54 66 54 _ _ _ _ rfl HZ.out.one HZ.out.two Zl (Ze h2.len) Yr Yg rfl rfl rfl ?_;rw[HST.out];exact⟨_,_,rfl,h2,dz (_,_) (List.mem_singleton.2 rfl),bz⟩
    ·have hlt:=hlt hb
     have hst:Ud 3 L (m+1) (x,.ok a d)=Ud 3 L m (.bin (Zh L Ja (.ok a d)) x (Wv 3 L m (Zz L Ja (.ok a d))).1,(Wv 3 L m (Zz L Ja (.ok a d))).2):=by rw[Ud,if_neg hb]
     have hfc:∀(x:World)(us:List Value),Zt x r K L→RPv r K L (Zz L Ja (.ok a d)) us→Calls Tryz.prog 145 #[.agg us.toArray] x (PTo x r K L (Wv 3 L m (Zz L Ja (.ok a d))).2 (Wv 3 L m (Zz L Ja (.ok a d))).1.ds):=fun x us h1 h2=>ih m (by omega) x r K L _ us h1 h2 (by omega) (by have:=HN.out;omega)
     have hr2:=Zdm L 3 m (Zz L Ja (.ok a d));have hk0:((Zh L Ja (.ok a d):Int) == 0)=false:=by rw[beq_eq_false_iff_ne];omega
     generalize Zz L Ja (.ok a d)=s1 at *;generalize Zh L Ja (.ok a d)=k at *;generalize Wv 3 L m s1=y at *;have HY:=Hh y.1.ds_len;have HS:=Hh hst;have HM:=Hh (show 4*Zu L y.2+2≤m∧m≤n∧Zu L y.2≤Zu L st∧Zu L y.2<Zu L (.ok a d) by omega);have T20:=Hh hT;clear hT hm hmn hrs hb hlt hst hr2 hfn;go_wp2_with(first
 |((with_reducible refine Zd 19 ?_);refine Zb 66 _ 66 g0 _ (T20.out.get 0 rfl) Zl Ya rfl rfl rfl ?_)
 |(go_at_call 20;refine(hmy _ _ (ho.below T20.out.below) HP.out).mono ?_;rintro e w21 ⟨v2,rfl,h2,b21⟩
   have T21:=Hh (T20.out.call b21);clear b21)
 |((with_reducible refine Zd 5 ?_);refine Zc T21.out 66 _ rfl rfl z_P ?_;intro w22 g4 t22
   have T22:=Hh (t22);clear t22)
 |((with_reducible refine Zg 5 22 ?_);refine Za 66 _ _ 66 g4 _ (v2) (T22.out.get 4 rfl) h2.len (Ze h2.len) h2.one rfl rfl rfl rfl rfl ?_
   intro w23 p23;have T23:=Hh (T22.out.put 4 rfl p23);clear p23)
 |((with_reducible refine Zd 29 ?_);refine Zb 66 _ 66 g4 _ (T23.out.get 4 rfl) Zl (Ze h2.len) rfl rfl rfl ?_)
 |(go_at_call 145;refine(hfc _ v2 (ho.below T23.out.below) h2).mono ?_;rintro e w24 ⟨v3,u3,rfl,h3,d3,b24⟩
   have o3:=Hh d3.one;obtain⟨b0,b1,b2,b3,b4,b5,b6,b7,b8,b9,b10,b11,rfl⟩:=Zad u3 (d3.len.trans HY.out);have T24:=Hh (T23.out.tree b24 d3);clear d3;clear b24)
 |((with_reducible refine Zd 7 ?_);refine Zc T24.out 66 _ rfl rfl z_P ?_;intro w25 g5 t25
   have T25:=Hh (t25);clear t25)
 |((with_reducible refine Zd 8 ?_);refine Zc T25.out 54 _ rfl rfl Zem ?_;intro w26 g6 t26
   have T26:=Hh (t26);clear t26)
 |((with_reducible refine Zg 7 31 ?_);refine Za 66 _ _ 66 g5 _ (v3) (T26.out.get 5 rfl) h3.len (Ze h3.len) h3.one rfl rfl rfl rfl rfl ?_
   intro w27 p27;have T27:=Hh (T26.out.put 5 rfl p27);clear p27)
 |((with_reducible refine Zg 8 32 ?_);refine Za 54 _ _ 54 g6 _ ([b0,b1,b2,b3,b4,b5,b6,b7,b8,b9,b10,b11]) (T27.out.get 6 rfl) rfl Yg o3.out rfl rfl rfl rfl rfl ?_
   intro w28 p28;have T28:=Hh (T27.out.put 6 rfl p28);clear p28)
 |((with_reducible refine Zd 34 ?_);refine Zb 54 _ 54 g3 _ (T28.out.get 3 rfl) Yr Yg rfl rfl rfl ?_)
 |((with_reducible refine Zd 35 ?_);refine Zb 54 _ 54 g6 _ (T28.out.get 6 rfl) Yr Yg rfl rfl rfl ?_)
 |((with_reducible refine Zd 36 ?_);refine Zhi T28.out 0 1 rfl rfl 52 54 _ _ 36 #[a0,a1,a2,a3,a4,a5,a6,a7,a8,a9,a10,a11,b0,b1,b2,b3,b4,b5,b6,b7,b8,b9,b10,b11] rfl rfl rfl rfl Zjw rfl rfl (by kernel_rfl) ?_;intro w29 g9 t29
   have T29:=Hh (t29);clear t29)
 |((with_reducible refine Zg 4 37 ?_);refine Za 54 _ _ 54 g3 _ ([.int .i64 7,.int .i64 (k:Int),.int .i64 0,.int .i64 0,.int .i64 0,.int .i64 0,.slice none 0 0,.int .i64 0,.int .i64 0,.int .i64 0,.int .i64 0,.slice (some ⟨g9,0,none⟩) 2 2]) (T29.out.get 3 rfl) rfl Yg (by simp[Value.oneCell']) rfl rfl rfl rfl rfl ?_
   intro w30 p30;have T30:=Hh (T29.out.put 3 rfl p30);clear p30)
 |((with_reducible refine Zd 38 ?_);refine Zb 66 _ 66 g5 _ (T30.out.get 5 rfl) Zl (Ze h3.len) rfl rfl rfl ?_)
 |((with_reducible refine Zg 1 38 ?_);refine Za 66 _ _ 66 g0 _ (v3) (T30.out.get 0 rfl) h3.len (Ze h3.len) h3.one rfl rfl rfl rfl rfl ?_
   intro w31 p31;have T31:Hid (Env w [(g0,66,v3),(g1,66,[.slice none 0 0,.int .i64 0,.int .i64 0,.int .i64 0,.int .i64 0,.int .i64 0]),(g2,54,[.int .i64 0,.int .i64 0,.int .i64 0,.int .i64 0,.int .i64 0,.int .i64 0,.slice none 0 0,.int .i64 0,.int .i64 0,.int .i64 0,.int .i64 0,.slice none 0 0]),(g3,54,[.int .i64 7,.int .i64 (k:Int),.int .i64 0,.int .i64 0,.int .i64 0,.int .i64 0,.slice none 0 0,.int .i64 0,.int .i64 0,.int .i64 0,.int .i64 0,.slice (some ⟨g9,0,none⟩) 2 2]),(g4,66,v2),(g5,66,v3),(g6,54,[b0,b1,b2,b3,b4,b5,b6,b7,b8,b9,b10,b11])] [] [(x.ds,[a0,a1,a2,a3,a4,a5,a6,a7,a8,a9,a10,a11]),(y.1.ds,[b0,b1,b2,b3,b4,b5,b6,b7,b8,b9,b10,b11]),(.row 2 (x.ds.app y.1.ds) .nil,[.slice (some ⟨g9,0,none⟩) 2 2])] w31):=Hh (T30.out.put 0 rfl p31)
   clear p31))
     (try go_simp)
     go_roundw
     case rel=>
      first
      |refine⟨m,y.2,.bin (k:Int) x y.1,v3,[.int .i64 7,.int .i64 (k:Int),.int .i64 0,.int .i64 0,.int .i64 0,.int .i64 0,.slice none 0 0,.int .i64 0,.int .i64 0,.int .i64 0,.int .i64 0,.slice (some ⟨g9,0,none⟩) 2 2],?_,h3,?_,?_,?_,?_,rfl⟩
      |(repeat apply Exists.intro;refine⟨⟨m,y.2,.bin (k:Int) x y.1,v3,[.int .i64 7,.int .i64 (k:Int),.int .i64 0,.int .i64 0,.int .i64 0,.int .i64 0,.slice none 0 0,.int .i64 0,.int .i64 0,.int .i64 0,.int .i64 0,.slice (some ⟨g9,0,none⟩) 2 2],?_,h3,?_,?_,?_,?_,rfl⟩,rfl⟩)
      ·exact T31.out.swap (bs:=[(g0,66,v3),(g1,66,[.slice none 0 0,.int .i64 0,.int .i64 0,.int .i64 0,.int .i64 0,.int .i64 0]),(g2,54,[.int .i64 0,.int .i64 0,.int .i64 0,.int .i64 0,.int .i64 0,.int .i64 0,.slice none 0 0,.int .i64 0,.int .i64 0,.int .i64 0,.int .i64 0,.slice none 0 0]),(g3,54,[.int .i64 7,.int .i64 (k:Int),.int .i64 0,.int .i64 0,.int .i64 0,.int .i64 0,.slice none 0 0,.int .i64 0,.int .i64 0,.int .i64 0,.int .i64 0,.slice (some ⟨g9,0,none⟩) 2 2])]) 2 rfl (bin_deep _ _ _)
      ·have:=HM.out;omega
      ·have:=HM.out;omega
      ·have:=HM.out;omega
      ·rw[HQ.out,HS.out]
     case measure=>
      have h6:=Je h3 (T31.out.get 0 rfl);have h7:=HB.out;have:=HM.out;rw[h6,h7];omega
theorem qexprs_all:∀ n m:Nat,m≤n→Znm m∧QProdOK m∧QFactOK m:=by
 intro n;induction n with
 |zero=>
  intro m hm;obtain rfl:m=0:=by omega
  exact⟨fun w r K L st vs _ _ hn _=>absurd hn (by omega),fun w r K L st vs _ _ hn _=>absurd hn (by omega),fun w r K L st vs _ _ hn _=>absurd hn (by omega)⟩
 |succ n ih=>
  intro m hm;by_cases e:m≤n
  ·exact ih m e
  ·obtain rfl:m=n+1:=by omega
   exact⟨qexpr n fun k hk=>(ih k hk).2.1,qprod n fun k hk=>(ih k hk).2.2,qfact n (ih n (Nat.le_refl _)).1⟩
theorem Zix(w:World)(r K:Nat)(L:List TokV)(st:St)(vs:List Value)(n:Nat)(ho:Zt w r K L)(hp:RPv r K L st vs)(hn:4*Zu L st+3≤n)(hLn:Zu L st≤68719476736) :
 Calls Tryz.prog 110 #[.agg vs.toArray] w (PTo w r K L (Yd 3 L n st).2 (Yd 3 L n st).1.ds):=(qexprs_all n n (Nat.le_refl _)).1 w r K L st vs ho hp hn hLn
open Go.Great Go.ChangeShapes Go.WideShapes Go.ChangeAt Go.RowKit
theorem qz_pr:(Tryz.prog.info? 121).map (fun i=>i.zero.map Value.cells)=some (some ([.pointer none,.slice none 0 0,.bool false]:List Value).toArray):=by kernel_rfl
theorem put1_bytes{s:List Int×Bool}{t:List Int}(hs:∀ x ∈ s.1,0≤x∧x<256)(ht:∀ x ∈ t,0≤x∧x<256):∀ x ∈ (Zhd s t).1,0≤x∧x<256:=by
 intro x hx;unfold Zhd at hx;simp only at hx;rcases List.mem_append.1 hx with hx | hx
 ·rcases List.mem_append.1 hx with hx | hx
  ·exact hs x hx
  ·split at hx
   ·cases List.mem_singleton.1 hx;exact⟨by decide,by decide⟩
   ·cases hx
 ·exact ht x hx
theorem Zmf:∀(K:List ByteArray)(s:List Int×Bool),(∀ x ∈ s.1,0≤x∧x<256)→∀ x ∈ (Yq s K).1,0≤x∧x<256
 |[],s,h=>h
 |t::K,s,h=>Zmf K (Zhd s (bL t)) (put1_bytes h (Zmm t))
theorem PE.start{w x:World}{own:List Bk}{g:Nat}(h:Env w (own++[(g,121,[.pointer none,.slice none 0 0,.bool false])]) [] [] x):PE w g ([],false) own x:=
 ⟨.pointer none,.slice none 0 0,(h.perm (List.perm_append_singleton _ own)).row1 5 1,.inl rfl⟩
theorem qText{w0 x:World}{b:Nat}{st:List Int×Bool}{own:List Bk}(h:PE w0 b st own x)(hb:∀ x ∈ st.1,0≤x∧x<256)(hne:st.1≠[]) :
  Calls Tryz.prog 55 #[.pointer (some ⟨b,0,none⟩)] x fun e y=>e=.returned (.string (strOfNums st.1))∧Below w0.heap.size x y:=by
 obtain⟨a,v,h,u⟩:=h;have h0:(b,121,[a,v,.bool st.2]) ∈ (b,121,[a,v,Value.bool st.2])::own:=by simp
 have hr:=h.row _ (List.mem_singleton.2 rfl);have ha:=h.apart _ (List.mem_singleton.2 rfl);have hbd:Zal 121 [.bool st.2] w0.heap.size x b a v st.1:=⟨h.at_ _ h0,hr,h.lo _ h0,ha _ h0,u⟩
 have hm:(st.1.map fun n=>UInt8.ofNat n.toNat).map (fun x=>(x.toNat:Int))=st.1:=by
  rw[List.map_map];refine(List.map_congr_left fun n hn=>?_).trans (List.map_id _);have:=hb n hn;simp only[Function.comp,UInt8.toNat_ofNat',id];omega
 have e:=bdText (st.1.map fun n=>UInt8.ofNat n.toNat) (by simpa using hne) (by rw[hm];exact hbd);exact e
theorem formExpr(w:World)(vs:List Value)(hvl:vs.length=12)(K:List ByteArray)(hp:Zbq w 45 (.agg vs.toArray) K)(hr:Vg ([],false) K)(hne:(Yq ([],false) K).1≠[]) :
  Calls Tryz.prog 44 #[.func (.func 45) #[] #[],.agg vs.toArray] w fun e y=>e=.returned (.string (strOfNums (Yq ([],false) K).1))∧Below w.heap.size w y:=by
 have hby:=Zmf K ([],false) (by simp);obtain⟨s1,E1⟩:∃ s,s=Yq ([],false) K:=⟨_,rfl⟩
 rw[←E1]at hby hne ⊢;have P1:=Hh (fun b own x=>hp.at_ (b:=b) E1 hr own x);have HVL:=Hh hvl;have HB:=Hh (And.intro hby hne);clear hby hne hp hr E1 hvl;have T:=Hh (Env.start w);go_enter Tryz.func44,Tryz.ntmps44;go_wp2_with(first
 |((with_reducible refine Zd 3 ?_);refine Zo T.out 54 _ vs rfl rfl rfl ?_;intro wn g0 tn;have T:=Hh tn;clear tn)
 |((with_reducible refine Zd 5 ?_);refine Zc T.out 121 ([.pointer none,.slice none 0 0,.bool false]) rfl rfl qz_pr ?_;intro wn b tn;have T:=Hh (PE.start (own:=[(g0,54,vs)]) tn);clear tn)
 |((with_reducible refine Zd 7 ?_);refine Zb 54 _ 54 g0 vs (T.out.get 0 rfl) Ua (by rw[HVL.out];exact Wq) rfl rfl rfl ?_)
 |(go_at_call 45;refine(P1.out _ _ _ T.out).mono ?_;rintro e wn ⟨rfl,tn⟩;have T:=Hh tn;clear tn)
 |(go_at_call 55;refine(qText T.out HB.out.1 HB.out.2).mono ?_;rintro e wn ⟨rfl,bn⟩;have B:=Hh (T.out.below.trans bn);clear bn))
 go_ret;exact⟨rfl,B.out⟩
theorem topExpr(w:World)(vs:List Value)(hvl:vs.length=12)(K:List ByteArray)(hp:∀ x,Below w.heap.size w x→Zbq x 45 (.agg vs.toArray) K)(hr:Vg ([],false) K)(hne:(Yq ([],false) K).1≠[]) :
  Calls Tryz.prog 17 #[.agg vs.toArray] w fun e y=>e=.returned (.string (strOfNums (Yq ([],false) K).1))∧Below w.heap.size w y:=by
 have F1:=Hh (fun x (hb:Below w.heap.size w x)=>formExpr x vs hvl K (hp x hb) hr hne);have HVL:=Hh hvl;clear hp hr hne hvl;have T:=Hh (Env.start w);go_enter Tryz.func17,Tryz.ntmps17;go_wp2_with(first
 |((with_reducible refine Zd 1 ?_);refine Zo T.out 54 _ vs rfl rfl rfl ?_;intro wn g0 tn;have T:=Hh tn;clear tn)
 |((with_reducible refine Zd 3 ?_);refine Zb 54 _ 54 g0 vs (T.out.get 0 rfl) Ua (by rw[HVL.out];exact Wq) rfl rfl rfl ?_)
 |(go_at_call 44;refine(F1.out _ T.out.below).mono ?_;rintro e wn ⟨rfl,bn⟩;have T:=Hh (T.out.call bn);clear bn))
 go_ret;exact⟨rfl,T.out.below⟩
open Go
theorem rest_next(t:ByteArray){q:Nat}{c:Int}{r:List Int}(h:Zk t q=c::r):q<t.size∧(gB t q:Int)=c∧Zk t (q+1)=r:=by
 have hlen:=congrArg List.length h;rw[Xk,List.length_cons]at hlen;have hq:q<t.size:=by omega
 have hc:=Yt t hq;rw[h]at hc;exact⟨hq,(List.cons.inj hc).1.symm,(List.cons.inj hc).2.symm⟩
def SimC(L M:List TokV):Prop:=L.length=M.length∧∀(i:Nat)(h:i<L.length)(h':i<M.length),(M[i]'h').k=(L[i]'h).k∧(M[i]'h').t=(L[i]'h).t∧(M[i]'h').n=(L[i]'h).n
theorem SimC.cons{u v:TokV}{L M:List TokV}(h:SimC L M)(h1:v.k=u.k)(h2:v.t=u.t)(h3:v.n=u.n):SimC (u::L) (v::M):=by
 refine⟨by simp[h.1],fun i hi hi'=>?_⟩;cases i with
 |zero=>exact⟨h1,h2,h3⟩
 |succ i=>exact h.2 i (by simpa using hi) (by simpa using hi')
def Like:List TokV→List PT→Prop
 |[],[]=>True
 |v::l,p::m=>Fit v p∧Like l m
 |_,_=>False
theorem Like.app:∀{A:List TokV}{S:List PT}{B:List TokV}{T:List PT},Like A S→Like B T→Like (A++B) (S++T)
 |[],[],_,_,_,h=>h
 |v::l,p::m,_,_,h,h'=>⟨h.1,Like.app h.2 h'⟩
theorem Like.len:∀{A:List TokV}{S:List PT},Like A S→A.length=S.length
 |[],[],_=>rfl
 |v::l,p::m,h=>by simp only[List.length_cons,Like.len h.2]
def SafeB(c:Int):Prop:=c=32∨c=10∨c=41∨c=59
def Safe:List Int→Prop
 |[]=>True
 |c::_=>SafeB c
def Byt(X:List Int):Prop:=∀ x ∈ X,0≤x∧x<256
def Scn(cl:Bool)(X:List Int)(T:List PT):Prop:=
 Byt X∧∀(t:ByteArray)(q:Nat)(R:List Int)(acc:List TokV),Zk t q=X++R→(cl=true∨Safe R)→∃ M,Uq t q acc=Uq t (q+X.length) (acc++M)∧Like M T
theorem rest_app{t:ByteArray}{q:Nat}{X R:List Int}(h:Zk t q=X++R):Zk t (q+X.length)=R:=by
 rw[←restL_drop,h,List.drop_append_of_le_length (Nat.le_refl _),List.drop_of_length_le (Nat.le_refl _),List.nil_append]
theorem Scn.nil:Scn true [] []:=⟨(fun x hx=>by cases hx),fun t q R acc hr _=>⟨[],by simp,trivial⟩⟩
theorem Scn.app{b c:Bool}{X Y:List Int}{S T:List PT}(h1:Scn b X S)(h2:Scn c Y T)(hs:b=true∨(∃ x r,Y=x::r∧SafeB x)):Scn c (X++Y) (S++T):=by
 refine⟨fun x hx=>(List.mem_append.1 hx).elim (h1.1 x) (h2.1 x),?_⟩;intro t q R acc hr hc;rw[List.append_assoc]at hr
 obtain⟨M,e1,l1⟩:=h1.2 t q (Y++R) acc hr (by
  rcases hs with h | ⟨x,r,hx,h⟩
  ·exact .inl h
  ·right;rw[hx];exact h)
 obtain⟨M',e2,l2⟩:=h2.2 t (q+X.length) R (acc++M) (rest_app hr) hc;refine⟨M++M',?_,l1.app l2⟩;rw[e1,e2,List.length_append,Nat.add_assoc,List.append_assoc]
theorem Scn.then{c:Bool}{X Y:List Int}{S T:List PT}(h1:Scn true X S)(h2:Scn c Y T):Scn c (X++Y) (S++T):=h1.app h2 (.inl rfl)
theorem Scn.blank{x:Int}(h:x=32∨x=10):Scn true [x] []:=by
 refine⟨fun y hy=>by rw[List.mem_singleton]at hy;omega,?_⟩;intro t q R acc hr _;obtain⟨h1,h2,_⟩:=rest_next t (show Zk t q=x::R from hr);refine⟨[],?_,trivial⟩;rw[Zbz t acc h1 (by rw[Zco];omega)];simp
theorem Scn.sp{b c:Bool}{X Y:List Int}{S T:List PT}(h1:Scn b X S)(h2:Scn c Y T):Scn c (X++32::Y) (S++T):=by
 have h3:Scn c ([32]++Y) ([]++T):=(Scn.blank (.inl rfl)).then h2;exact h1.app h3 (.inr ⟨32,Y,rfl,.inl rfl⟩)
def sp(lo:Bool):List Int:=if lo=true then [32]else []
def Puts(k:List ByteArray)(l:List Int):Prop:=∀ s:List Int×Bool,Yq s k=(s.1++sp s.2++l,true)
def PutsL(k:List ByteArray)(l:List Int):Prop:=∀ s:List Int×Bool,s.2=true→Yq s k=(s.1++l,true)
def PutsA(k:List ByteArray)(l:List Int):Prop:=∀ s:List Int×Bool,s.2=true→(Yq s k).1++[32]=s.1++32::l∧(Yq s k).2=true
def plainT(t:ByteArray):Bool:=decide (bL t≠[59]) && decide (bL t≠[41]) && decide (bL t≠[40])
theorem putsB_one(s:List Int×Bool)(t:ByteArray):Yq s [t]=Zhd s (bL t):=rfl
theorem puts_tok{t:ByteArray}(h:plainT t=true):Puts [t] (bL t):=by
 intro s;unfold plainT at h;simp only[Bool.and_eq_true,decide_eq_true_eq]at h;obtain⟨⟨h1,h2⟩,h3⟩:=h;obtain⟨x,lo⟩:=s;rw[putsB_one];unfold Zhd spB sp;cases lo<;>simp[h1,h2,h3]
theorem PutsL.nil:PutsL [] []:=by
 intro s hs;obtain⟨x,lo⟩:=s;cases hs
 simp[Yq,Zdo]
theorem PutsL.app{k1 k2:List ByteArray}{l1 l2:List Int}(h1:PutsL k1 l1)(h2:PutsL k2 l2):PutsL (k1++k2) (l1++l2):=by
 intro s hs;rw[Wh,h1 s hs,h2 _ rfl];simp
theorem Puts.then{k1 k2:List ByteArray}{l1 l2:List Int}(h1:Puts k1 l1)(h2:PutsL k2 l2):Puts (k1++k2) (l1++l2):=by
 intro s;rw[Wh,h1 s,h2 _ rfl];simp
theorem PutsA.nil:PutsA [] []:=fun s hs=>⟨by simp[Yq,Zdo],by simpa[Yq,Zdo]using hs⟩
theorem PutsA.cons{k1 k2:List ByteArray}{l1 l2:List Int}(h1:Puts k1 l1)(h2:PutsA k2 l2):PutsA (k1++k2) (l1++32::l2):=by
 intro s hs;rw[Wh,h1 s,hs];obtain⟨a,b⟩:=h2 (s.1++sp true++l1,true) rfl;refine⟨?_,b⟩;rw[a];simp[sp]
theorem puts_brace:bL Ys=[123]:=by decide +kernel
theorem puts_unbrace:bL Xi=[125]:=by decide +kernel
theorem PutsA.block{k:List ByteArray}{l:List Int}(h:PutsA k l):Puts ([Ys]++(k++[Xi])) (123::32::(l++[125])):=by
 intro s;rw[Wh,puts_tok (by decide +kernel:plainT Ys=true) s,Wh];obtain⟨a,b⟩:=h (s.1++sp s.2++bL Ys,true) rfl;generalize Yq (s.1++sp s.2++bL Ys,true) k=q at *;obtain⟨x,lo⟩:=q;cases b
 rw[puts_tok (by decide +kernel:plainT Xi=true)];rw[puts_brace]at a;rw[puts_unbrace];simp only at a ⊢;have e:sp true=[32]:=rfl;rw[e,a];simp
theorem cas_at{N:Nat→Prop}{w:World}:∀{l:List Ca}{xs:List Value},Zn N w (Zaa l) xs→∀(k:Nat)(hk:k<l.length),∃ pre ys post,xs=pre++ys++post∧pre.length=k*6∧Zn N w (l[k]'hk).ds ys
 |[],xs,_,k,hk=>by cases hk
 |x::r,xs,h,k,hk=>by
  obtain⟨a,b,rfl,h1,h2⟩:=Zn.split (x:=x.ds) h;cases k with
  |zero=>exact⟨[],a,b,rfl,by simp,h1⟩
  |succ k=>
   obtain⟨pre,ys,post,rfl,hp,hy⟩:=cas_at h2 k (by simpa using hk);have hl:a.length=6:=by rw[h1.len];rfl
   exact⟨a++pre,ys,post,by simp,by rw[List.length_append,hp,hl];omega,hy⟩
theorem pls_at{N:Nat→Prop}{w:World}:∀{l:List Pl}{xs:List Value},Zn N w (Jx l) xs→∀(k:Nat)(hk:k<l.length),∃ pre ys post,xs=pre++ys++post∧pre.length=k*4∧Zn N w (l[k]'hk).ds ys
 |[],xs,_,k,hk=>by cases hk
 |x::r,xs,h,k,hk=>by
  obtain⟨a,b,rfl,h1,h2⟩:=Zn.split (x:=x.ds) h;cases k with
  |zero=>exact⟨[],a,b,rfl,by simp,h1⟩
  |succ k=>
   obtain⟨pre,ys,post,rfl,hp,hy⟩:=pls_at h2 k (by simpa using hk);have hl:a.length=4:=by rw[h1.len];rfl
   exact⟨a++pre,ys,post,by simp,by rw[List.length_append,hp,hl];omega,hy⟩
def l12T:ByteArray:=⟨#[49,32,45,32,40,50,32,45,32,51,41,32,42,32,40,52,41]⟩
def l12E:Ex:=.bin 2 (.leaf 1 1 zSe 0 0 0) (.bin 3 (.bin 2 (.leaf 1 2 zSe 0 0 0) (.leaf 1 3 zSe 0 0 0)) (.leaf 1 4 zSe 0 0 0))
theorem l12_is:exprP 5 l12T=(l12E,okF):=by kernel_rfl
theorem l12_text:strOfNums (Yq ([],false) (kEx l12E)).1=⟨#[49,32,45,32,40,50,32,45,32,51,41,32,42,32,52]⟩:=by kernel_rfl
theorem Zkq(n:Int)(h1 : -99≤n)(h2:n≤99):VEx (.leaf 1 n zSe 0 0 0):=.inl ⟨rfl,⟨h1,h2⟩,rfl,rfl,rfl,rfl⟩
theorem l12_val:VEx l12E:=⟨by decide,Zkq 1 (by decide) (by decide),by decide,⟨by decide,Zkq 2 (by decide) (by decide),Zkq 3 (by decide) (by decide)⟩,Zkq 4 (by decide) (by decide)⟩
theorem tExE(w:World)(N:Nat→Prop)(vs:List Value)(hd:Zn N w l12E.ds vs) :
  Calls Tryz.prog 17 #[.agg vs.toArray] w fun e y=>e=.returned (.string ⟨#[49,32,45,32,40,50,32,45,32,51,41,32,42,32,52]⟩)∧Below w.heap.size w y:=by
 have h:=topExpr w vs hd.len (kEx l12E) (fun x hb=>pEx x N l12E l12_val vs (hd.below hb)) (by unfold Vg;decide +kernel) (by decide +kernel);rw[l12_text]at h;exact h
theorem whole12B{w:World}{g:Nat}{t:TypeId}{a0 a1 a2 a3 a4 a5 a6 a7 a8 a9 a10 a11:Value}(W:Zf w g t [a0,a1,a2,a3,a4,a5,a6,a7,a8,a9,a10,a11].toArray) :
  w.cell? ⟨g,0,none⟩=some a0∧w.cell? ⟨g,1,none⟩=some a1∧w.cell? ⟨g,2,none⟩=some a2∧w.cell? ⟨g,3,none⟩=some a3∧w.cell? ⟨g,4,none⟩=some a4∧w.cell? ⟨g,5,none⟩=some a5∧w.cell? ⟨g,6,none⟩=some a6∧w.cell? ⟨g,7,none⟩=some a7∧w.cell? ⟨g,8,none⟩=some a8∧w.cell? ⟨g,9,none⟩=some a9∧w.cell? ⟨g,10,none⟩=some a10∧w.cell? ⟨g,11,none⟩=some a11:=
 ⟨W.read 0,W.read 1,W.read 2,W.read 3,W.read 4,W.read 5,W.read 6,W.read 7,W.read 8,W.read 9,W.read 10,W.read 11⟩
theorem z_exB:(Tryz.prog.info? 54).map (fun i=>i.zero.map Value.cells)=some (some ([.int .i64 0,.int .i64 0,.int .i64 0,.int .i64 0,.int .i64 0,.int .i64 0,.slice none 0 0,.int .i64 0,.int .i64 0,.int .i64 0,.int .i64 0,.slice none 0 0]:List Value).toArray):=by kernel_rfl
theorem z_faB:(Tryz.prog.info? 29).map (fun i=>i.zero.map Value.cells)=some (some ([.int .i64 0,.int .i64 0,.int .i64 0]:List Value).toArray):=by kernel_rfl
theorem s_faB:(Tryz.prog.info? 29).map (·.size)=some 3:=by kernel_rfl
theorem lives12(w:World):Calls Tryz.prog 5 #[] w fun e w'=>e=.returned (.bool true)∧Below w.heap.size w w':=by
 have hx:∀ x,Calls Tryz.prog 16 #[.string ⟨#[49,32,45,32,40,50,32,45,32,51,41,32,42,32,40,52,41]⟩] x (fun e w'=>∃ v0 v1 v2 v3 v4 v5 v6 v7 v8 v9 v10 v11:Value,e=.returned (.tuple #[.agg #[v0,v1,v2,v3,v4,v5,v6,v7,v8,v9,v10,v11],.agg #[.int .i64 0,.int .i64 0,.int .i64 0]]) ∧
   Hid (∀ v ∈ [v0,v1,v2,v3,v4,v5,v6,v7,v8,v9,v10,v11],v.oneCell'=true)∧Zn (fun k=>x.heap.size≤k) w' l12E.ds [v0,v1,v2,v3,v4,v5,v6,v7,v8,v9,v10,v11]∧Below x.heap.size x w'):=fun x=>by
  have h:=xExpr l12T x (by decide);rw[l12_is]at h;refine h.mono ?_;rintro e y ⟨vs,rfl,d,b⟩;obtain⟨v0,v1,v2,v3,v4,v5,v6,v7,v8,v9,v10,v11,rfl⟩:=Zad vs d.len;exact⟨v0,v1,v2,v3,v4,v5,v6,v7,v8,v9,v10,v11,rfl,Hh d.one,d,b⟩
 have T:=Hh (Env.start w);go_enter Tryz.func5,Tryz.ntmps5;go_wp2_with(first
 |(go_at_call 16;refine(hx _).mono ?_;rintro e wn ⟨v0,v1,v2,v3,v4,v5,v6,v7,v8,v9,v10,v11,rfl,ho,d,bn⟩;have T:=Hh (T.out.tree bn d);clear bn d)
 |((with_reducible refine Zd 1 ?_);refine Zc T.out 54 ([.int .i64 0,.int .i64 0,.int .i64 0,.int .i64 0,.int .i64 0,.int .i64 0,.slice none 0 0,.int .i64 0,.int .i64 0,.int .i64 0,.int .i64 0,.slice none 0 0]) rfl rfl z_exB ?_;intro wn g1 tn;have T:=Hh tn;clear tn)
 |((with_reducible refine Zd 2 ?_);refine Zc T.out 29 ([.int .i64 0,.int .i64 0,.int .i64 0]) rfl rfl z_faB ?_;intro wn g2 tn;have T:=Hh tn;clear tn)
 |((with_reducible refine Zg 1 5 ?_);refine Za 54 _ _ 54 g1 _ ([v0,v1,v2,v3,v4,v5,v6,v7,v8,v9,v10,v11]) (T.out.get 0 rfl) rfl Wq ho.out rfl rfl rfl rfl rfl ?_;intro wn p;have T:=Hh (T.out.put 0 rfl p);clear p)
 |((with_reducible refine Zg 2 6 ?_);refine Za 29 _ _ 29 g2 _ ([.int .i64 0,.int .i64 0,.int .i64 0]) (T.out.get 1 rfl) rfl s_faB (by simp[Value.oneCell']) rfl rfl rfl rfl rfl ?_;intro wn p;have T:=Hh (T.out.put 1 rfl p);clear p;have c1_0:wn.cell? ⟨g2,0,none⟩=some (.int .i64 0):=(T.out.get 1 rfl).read 0;obtain⟨c0,c1,c2,c3,c4,c5,c6,c7,c8,c9,c10,c11⟩:=whole12B (T.out.get 0 rfl))
 |(go_at_call 17;refine(tExE _ _ _ (T.out.leaf 0 rfl)).mono ?_;rintro e wn ⟨rfl,bn⟩;have T:=Hh (T.out.call bn);clear bn))
 go_ret;exact⟨rfl,T.out.below⟩
theorem z_ru:(Tryz.prog.info? 46).map (fun i=>i.zero.map Value.cells)=some (some ([.int .i64 0,.int .i64 0,.int .i64 0,.int .i64 0,.slice none 0 0]:List Value).toArray):=by kernel_rfl
theorem z_fi:(Tryz.prog.info? 26).map (fun i=>i.zero.map Value.cells)=some (some ([.slice none 0 0,.slice none 0 0]:List Value).toArray):=by kernel_rfl
theorem z_ca:(Tryz.prog.info? 35).map (fun i=>i.zero.map Value.cells)=some (some ([.string ⟨#[]⟩,.int .i64 0,.int .i64 0,.int .i64 0,.int .i64 0,.slice none 0 0]:List Value).toArray):=by kernel_rfl
end Go.Proofs.YtdngkgickbaboaaGreat
