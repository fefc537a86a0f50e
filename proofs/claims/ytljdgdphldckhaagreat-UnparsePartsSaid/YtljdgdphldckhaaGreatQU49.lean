/-
  No conditions but those that each theorem names.
-/
import Derived.Test.YtljdgdphldckhaaGreatQU48
set_option maxRecDepth 20000
set_option maxHeartbeats 12800000
namespace Go.Proofs.YtljdgdphldckhaaGreat
open Go.ChangeShapes Go.WideShapes Go.ChangeAt Go.RowKit
set_option linter.unusedVariables false
set_option linter.unusedSimpArgs false
def Zgj:List TokV→Ds
 |[]=>.nil
 |v::l=>.int v.k (.str v.t (.int v.n (.int (v.line:Int) (.int (v.col:Int) (Zgj l)))))
theorem toks_deep(N:Nat→Prop)(w:World):∀ L:List TokV,Zu N w (Zgj L) (Jy L)
 |[]=>rfl
 |v::l=>⟨_,rfl,_,rfl,_,rfl,_,rfl,_,rfl,toks_deep N w l⟩
theorem toks_only{N:Nat→Prop}{w:World}:∀{L:List TokV}{xs:List Value},Zu N w (Zgj L) xs→xs=Jy L
 |[],xs,h=>h
 |v::l,xs,⟨t1,e1,t2,e2,t3,e3,t4,e4,t5,e5,h⟩=>by
  have:=toks_only h;subst this e5 e4 e3 e2 e1;rfl
def RowKnown(r K:Nat)(L:List TokV)(A:Option Addr):Prop:=0<L.length→A=some ⟨r,0,none⟩∧Zmn L∧L.length≤K∧K≤9223372036854775807
theorem Ya.of{N:Nat→Prop}{w:World}{r K c:Nat}{L:List TokV}{A:Option Addr}(h:Zu N w (.row L.length (Zgj L) .nil) [.slice A L.length c])(hA:RowKnown r K L A):Ya w r K L:=by
 intro hl;obtain⟨A',c',xs,t,e,hn,hW,hD,ht⟩:=h;injection e with e1 e2;injection e1 with e1;obtain⟨rfl,h1,h2,h3⟩:=hA hl;subst e1;obtain rfl:=toks_only hD;rcases hW with h | ⟨g,hg,_,hin,hc⟩
 ·have:=Zkj L
  rw[h]at this;simp at this;omega
 ·injection hg with hg
  injection hg with hg;subst hg;exact⟨hc,hin,h1,h2,h3⟩
def QBegin(w:World)(s:ByteArray)(e:Ending)(w':World):Prop:=
 ∃(vs:List Value)(r K:Nat)(A:Option Addr)(c:Nat),e=.returned (.agg vs.toArray)∧RPv r K (Yp s) (Jz s) vs∧RowKnown r K (Yp s) A∧Zu (fun k=>w.heap.size≤k) w' (.row (Yp s).length (Zgj (Yp s)) .nil) [.slice A (Yp s).length c]∧Below w.heap.size w w'
theorem qbegin(s:ByteArray)(w:World)(hs:s.size≤65536):Calls Tryz.prog 45 #[.string s] w (QBegin w s):=by
 have hs2:s.size≤1099511627776:=by omega
 have T0:=Hh (Env.start w);rcases Zlc s hs with⟨E,l,c,hv,hE⟩ | ⟨L,hv,hL,_⟩
 ·have hn:=fun x=>qNew_err s x hs2 E l c hv
  have e1:Jz s=.bad (E,l,c):=by unfold Jz;rw[hv];exact if_neg hE
  have e2:Yp s=[]:=by unfold Yp;rw[hv]
  have HE:=Hh (And.intro hE (And.intro e1 e2));clear hs hs2 hv hE e1 e2;unfold Zq at hn;go_enter Tryz.func45,Tryz.ntmps45;go_wp2_with(first
 |((with_reducible refine Ze 2 ?_);refine Zc T0.out 82 _ rfl rfl z_P ?_;intro w1 g0 t1
   have T1:=Hh (t1);clear t1)
 |(go_at_call 98;refine(hn _).mono ?_;rintro e w2 ⟨A1,k1,rfl,b2⟩
   have T2:=Hh (T1.out.call b2);clear b2)
 |((with_reducible refine Ze 3 ?_);refine Zc T2.out 80 _ rfl rfl z_C ?_;intro w3 g1 t3
   have T3:=Hh (t3);clear t3)
 |((with_reducible refine Ze 4 ?_);refine Zc T3.out 29 _ rfl rfl z_F ?_;intro w4 g2 t4
   have T4:=Hh (t4);clear t4)
 |((with_reducible refine Zi 3 8 ?_);refine Za 80 _ _ 80 g1 _ ([.slice A1 0 k1,.int .i64 0,.int .i64 0]) (T4.out.get 1 rfl) rfl Vz (by simp[Value.oneCell']) rfl rfl rfl rfl rfl ?_
   intro w5 p5;have T5:=Hh (T4.out.put 1 rfl p5);clear p5)
 |((with_reducible refine Zi 4 9 ?_);refine Za 29 _ _ 29 g2 _ ([.int .i64 E,.int .i64 (l:Int),.int .i64 (c:Int)]) (T5.out.get 2 rfl) rfl Wt (by simp[Value.oneCell']) rfl rfl rfl rfl rfl ?_
   intro w6 p6;have T6:=Hh (T5.out.put 2 rfl p6);clear p6)
 |((with_reducible refine Ze 10 ?_);refine Zb 80 _ 80 g1 _ (T6.out.get 1 rfl) Zfs Vz rfl rfl rfl ?_)
 |((with_reducible refine Ze 11 ?_);refine Zb 29 _ 29 g2 _ (T6.out.get 2 rfl) Zbu Wt rfl rfl rfl ?_)
 |((with_reducible refine Zi 2 12 ?_);refine Za 82 _ _ 82 g0 _ ([.slice A1 0 k1,.int .i64 0,.int .i64 0,.int .i64 E,.int .i64 (l:Int),.int .i64 (c:Int)]) (T6.out.get 0 rfl) rfl Yg (by simp[Value.oneCell']) rfl rfl rfl rfl rfl ?_
   intro w7 p7;have T7:Hid (Env w [(g0,82,[.slice A1 0 k1,.int .i64 0,.int .i64 0,.int .i64 E,.int .i64 (l:Int),.int .i64 (c:Int)]),(g1,80,[.slice A1 0 k1,.int .i64 0,.int .i64 0]),(g2,29,[.int .i64 E,.int .i64 (l:Int),.int .i64 (c:Int)])] [] [] w7):=Hh (T6.out.put 0 rfl p7);clear p7))
  refine Wp 2 82 82 _ _ rfl (T7.out.get 0 rfl) Zn Yg rfl rfl ?_;refine⟨_,0,0,none,0,rfl,?_,?_,?_,T7.out.below⟩
  · rw[HE.out.2.1,HE.out.2.2]
    exact RPv.mkBad (F:=(E,l,c)) A1 0 k1 0 0 (Nat.zero_le _) HE.out.1
  ·rw[HE.out.2.2];intro h;exact absurd h (Nat.lt_irrefl _)
  ·rw[HE.out.2.2];exact Yj _ _
 ·have hn:=fun x=>qNew_ok s x hs2 L hv hL
  have e1:Jz s=.ok 0 0:=by unfold Jz;rw[hv];exact if_pos rfl
  have e2:Yp s=L:=by unfold Yp;rw[hv]
  have hpos:=hL.pos;have HE:=Hh (And.intro e1 (And.intro e2 hpos));clear hs hs2 hv e1 e2 hL hpos;go_enter Tryz.func45,Tryz.ntmps45;go_wp2_with(first
 |((with_reducible refine Ze 2 ?_);refine Zc T0.out 82 _ rfl rfl z_P ?_;intro w1 g0 t1
   have T1:=Hh (t1);clear t1)
 |(go_at_call 98;refine(hn _).mono ?_;rintro e w2 ⟨r,K,rfl,hr,hlo,b2⟩
   have hd:Zu (fun k=>w1.heap.size≤k) w2 (.row L.length (Zgj L) .nil) [.slice (some ⟨r,0,none⟩) L.length K]:=⟨_,_,Jy L,[],rfl,Nat.le_trans hr.capL hr.capM,.inr ⟨r,rfl,hlo,hr.rin,hr.row⟩,toks_deep _ _ L,rfl⟩
   have HR:=Hh hr;have T2:=Hh (T1.out.tree b2 hd);clear hr hlo hd;clear b2)
 |((with_reducible refine Ze 3 ?_);refine Zc T2.out 80 _ rfl rfl z_C ?_;intro w3 g1 t3
   have T3:=Hh (t3);clear t3)
 |((with_reducible refine Ze 4 ?_);refine Zc T3.out 29 _ rfl rfl z_F ?_;intro w4 g2 t4
   have T4:=Hh (t4);clear t4)
 |((with_reducible refine Zi 3 8 ?_);refine Za 80 _ _ 80 g1 _ ([.slice (some ⟨r,0,none⟩) L.length K,.int .i64 0,.int .i64 0]) (T4.out.get 1 rfl) rfl Vz (by simp[Value.oneCell']) rfl rfl rfl rfl rfl ?_
   intro w5 p5;have T5:=Hh (T4.out.put 1 rfl p5);clear p5)
 |((with_reducible refine Zi 4 9 ?_);refine Za 29 _ _ 29 g2 _ ([.int .i64 0,.int .i64 0,.int .i64 0]) (T5.out.get 2 rfl) rfl Wt (by simp[Value.oneCell']) rfl rfl rfl rfl rfl ?_
   intro w6 p6;have T6:=Hh (T5.out.put 2 rfl p6);clear p6)
 |((with_reducible refine Ze 10 ?_);refine Zb 80 _ 80 g1 _ (T6.out.get 1 rfl) Zfs Vz rfl rfl rfl ?_)
 |((with_reducible refine Ze 11 ?_);refine Zb 29 _ 29 g2 _ (T6.out.get 2 rfl) Zbu Wt rfl rfl rfl ?_)
 |((with_reducible refine Zi 2 12 ?_);refine Za 82 _ _ 82 g0 _ ([.slice (some ⟨r,0,none⟩) L.length K,.int .i64 0,.int .i64 0,.int .i64 0,.int .i64 0,.int .i64 0]) (T6.out.get 0 rfl) rfl Yg (by simp[Value.oneCell']) rfl rfl rfl rfl rfl ?_
   intro w7 p7;have T7:Hid (Env w [(g0,82,[.slice (some ⟨r,0,none⟩) L.length K,.int .i64 0,.int .i64 0,.int .i64 0,.int .i64 0,.int .i64 0]),(g1,80,[.slice (some ⟨r,0,none⟩) L.length K,.int .i64 0,.int .i64 0]),(g2,29,[.int .i64 0,.int .i64 0,.int .i64 0])] [] [(.row L.length (Zgj L) .nil,[.slice (some ⟨r,0,none⟩) L.length K])] w7):=Hh (T6.out.put 0 rfl p7);clear p7))
  refine Wp 2 82 82 _ _ rfl (T7.out.get 0 rfl) Zn Yg rfl rfl ?_;refine⟨_,r,K,some ⟨r,0,none⟩,K,rfl,?_,?_,?_,T7.out.below⟩
  · rw[HE.out.1,HE.out.2.1]
    exact RPv.mkOk (a:=0) (d:=0) rfl HE.out.2.2 (Nat.zero_le _)
  ·rw[HE.out.2.1];intro _;exact⟨rfl,HR.out.ends,HR.out.capL,HR.out.capM⟩
  ·rw[HE.out.2.1];exact T7.out.leaf 0 rfl
theorem qAll(s:ByteArray)(w:World)(hs:s.size≤65536):Calls Tryz.prog 19 #[.string s] w (TopRow w (actsP 3 s).1.len (actsP 3 s).1.ds (actsP 3 s).2):=by
 have T0:=Hh (Env.start w);have hr:=Zji s;have hl:=text_len s hs;have hbe:∀ w,Calls Tryz.prog 45 #[.string s] w (QBegin w s):=fun w=>qbegin s w hs
 have hsu:∀(x:World)(us:List Value)(r K:Nat),Ya x r K (Yp s)→RPv r K (Yp s) (Jz s) us→Calls Tryz.prog 62 #[.agg us.toArray] x (PRo x r K (Yp s) (Zhf 3 s).2 (Zhf 3 s).1.len (Zhf 3 s).1.ds):=fun x us r K h1 h2=>by
  have hN:Zcp s=8*(Yp s).length+20:=rfl;exact qActs x r K _ _ us (Zcp s) h1 h2 (by omega) (by omega)
 show Calls _ _ _ _ (TopRow w (if(Xj (Yp s) (Zhf 3 s).2).good=true then(Zhf 3 s).1 else .nil).len (if(Xj (Yp s) (Zhf 3 s).2).good=true then(Zhf 3 s).1 else .nil).ds (Xb (Xj (Yp s) (Zhf 3 s).2)));generalize Zhf 3 s=x at *;have hov:(Xj (Yp s) x.2).good=true∨¬(Xj (Yp s) x.2).good=true:=Classical.em _;clear hr hl hs;rcases hov with hg | hg
 ·rw[if_pos hg]
  have hf:Xb (Xj (Yp s) x.2)=okF:=by cases h:Xj (Yp s) x.2 with | ok a d=>rfl | bad F=>rw[h]at hg;cases hg
  have z0:((Xb (Xj (Yp s) x.2)).1 != 0)=false:=by rw[hf];rfl
  have HG:=Hh hf;clear hg hf;go_enter Tryz.func19,Tryz.ntmps19;go_wp2_with(first
 |((with_reducible refine Ze 3 ?_);refine Zc T0.out 29 _ rfl rfl z_F ?_;intro w1 g0 t1
   have T1:=Hh (t1);clear t1)
 |(go_at_call 45;refine(hbe _).mono ?_;rintro e w2 ⟨v1,r,K,A1,k1,rfl,h1,hk,d1,b2⟩
   have T2:=Hh (T1.out.tree b2 d1);have HK:=Hh hk;clear hk d1;clear b2)
 |(go_at_call 62;refine(hsu _ v1 r K (Ya.of (T2.out.leaf 0 rfl) HK.out) h1).mono ?_;rintro e w3 ⟨v2,f2,rfl,h2,d2,b3⟩
   have T3:=Hh (T2.out.tree b3 d2);clear d2;clear b3)
 |((with_reducible refine Ze 4 ?_);refine Zc T3.out 82 _ rfl rfl z_P ?_;intro w4 g1 t4
   have T4:=Hh (t4);clear t4)
 |((with_reducible refine Zi 4 10 ?_);refine Za 82 _ _ 82 g1 _ (v2) (T4.out.get 1 rfl) h2.len (Zf h2.len) h2.one rfl rfl rfl rfl rfl ?_
   intro w5 p5;have T5:=Hh (T4.out.put 1 rfl p5);clear p5)
 |((with_reducible refine Ze 12 ?_);refine Zb 82 _ 82 g1 _ (T5.out.get 1 rfl) Zn (Zf h2.len) rfl rfl rfl ?_)
 |(go_at_call 53;refine(qover _ r K (Yp s) _ v2 (Ya.of (T5.out.leaf 0 rfl) HK.out) h2).mono ?_;rintro e w6 ⟨v3,rfl,h3,b6⟩
   have hnz:=h3.flt;obtain⟨y0,y1,y2,rfl⟩:=h3.six;have T6:=Hh (T5.out.call b6);clear b6)
 |((with_reducible refine Zi 4 13 ?_);refine Za 82 _ _ 82 g1 _ ([y0,y1,y2,.int .i64 (Xb (Xj (Yp s) x.2)).1,.int .i64 ((Xb (Xj (Yp s) x.2)).2.1:Int),.int .i64 ((Xb (Xj (Yp s) x.2)).2.2:Int)]) (T6.out.get 1 rfl) h2.len.symm Yg h3.one rfl rfl rfl rfl rfl ?_
   intro w7 p7;have T7:=Hh (T6.out.put 1 rfl p7);obtain⟨q0,q1,q2,q3,q4,q5⟩:=Wq (T7.out.get 1 rfl);obtain⟨m0,m1,m2,n0,n1,n2⟩:=Zz (T7.out.get 0 rfl);have nei:=T7.out.ne 1 0 (by decide) rfl rfl;clear p7)
 |((with_reducible refine Zi 3 21 ?_);refine Za 29 _ _ 29 g0 _ ([.int .i64 0,.int .i64 0,.int .i64 0]) (T7.out.get 0 rfl) rfl Wt (by simp[Value.oneCell']) rfl rfl rfl rfl rfl ?_
   intro w8 p8;have T8:Hid (Env w [(g0,29,[.int .i64 0,.int .i64 0,.int .i64 0]),(g1,82,[y0,y1,y2,.int .i64 (Xb (Xj (Yp s) x.2)).1,.int .i64 ((Xb (Xj (Yp s) x.2)).2.1:Int),.int .i64 ((Xb (Xj (Yp s) x.2)).2.2:Int)])] [] [(.row (Yp s).length (Zgj (Yp s)) .nil,[.slice A1 (Yp s).length k1]),(.row x.1.len x.1.ds .nil,[f2])] w8):=Hh (T7.out.put 0 rfl p8);clear p8))
  rw[HG.out];refine Ziq 2 3 29 29 _ _ _ rfl (T8.out.get 0 rfl) Zbu Wt rfl rfl rfl ?_;exact⟨_,rfl,T8.out.leaf 1 rfl,T8.out.below⟩
 ·rw[if_neg hg]
  have HG:=Hh hg;clear hg;go_enter Tryz.func19,Tryz.ntmps19;go_wp2_with(first
 |((with_reducible refine Ze 3 ?_);refine Zc T0.out 29 _ rfl rfl z_F ?_;intro w1 g0 t1
   have T1:=Hh (t1);clear t1)
 |(go_at_call 45;refine(hbe _).mono ?_;rintro e w2 ⟨v1,r,K,A1,k1,rfl,h1,hk,d1,b2⟩
   have T2:=Hh (T1.out.tree b2 d1);have HK:=Hh hk;clear hk d1;clear b2)
 |(go_at_call 62;refine(hsu _ v1 r K (Ya.of (T2.out.leaf 0 rfl) HK.out) h1).mono ?_;rintro e w3 ⟨v2,f2,rfl,h2,d2,b3⟩
   have T3:=Hh (T2.out.tree b3 d2);clear d2;clear b3)
 |((with_reducible refine Ze 4 ?_);refine Zc T3.out 82 _ rfl rfl z_P ?_;intro w4 g1 t4
   have T4:=Hh (t4);clear t4)
 |((with_reducible refine Zi 4 10 ?_);refine Za 82 _ _ 82 g1 _ (v2) (T4.out.get 1 rfl) h2.len (Zf h2.len) h2.one rfl rfl rfl rfl rfl ?_
   intro w5 p5;have T5:=Hh (T4.out.put 1 rfl p5);clear p5)
 |((with_reducible refine Ze 12 ?_);refine Zb 82 _ 82 g1 _ (T5.out.get 1 rfl) Zn (Zf h2.len) rfl rfl rfl ?_)
 |(go_at_call 53;refine(qover _ r K (Yp s) _ v2 (Ya.of (T5.out.leaf 0 rfl) HK.out) h2).mono ?_;rintro e w6 ⟨v3,rfl,h3,b6⟩
   have hnz:=h3.flt;obtain⟨y0,y1,y2,rfl⟩:=h3.six;have T6:=Hh (T5.out.call b6);clear b6)
 |((with_reducible refine Zi 4 13 ?_);refine Za 82 _ _ 82 g1 _ ([y0,y1,y2,.int .i64 (Xb (Xj (Yp s) x.2)).1,.int .i64 ((Xb (Xj (Yp s) x.2)).2.1:Int),.int .i64 ((Xb (Xj (Yp s) x.2)).2.2:Int)]) (T6.out.get 1 rfl) h2.len.symm Yg h3.one rfl rfl rfl rfl rfl ?_
   intro w7 p7;have T7:Hid (Env w [(g0,29,[.int .i64 0,.int .i64 0,.int .i64 0]),(g1,82,[y0,y1,y2,.int .i64 (Xb (Xj (Yp s) x.2)).1,.int .i64 ((Xb (Xj (Yp s) x.2)).2.1:Int),.int .i64 ((Xb (Xj (Yp s) x.2)).2.2:Int)])] [] [(.row (Yp s).length (Zgj (Yp s)) .nil,[.slice A1 (Yp s).length k1]),(.row x.1.len x.1.ds .nil,[f2])] w7):=Hh (T6.out.put 1 rfl p7);obtain⟨q0,q1,q2,q3,q4,q5⟩:=Wq (T7.out.get 1 rfl);obtain⟨m0,m1,m2,n0,n1,n2⟩:=Zz (T7.out.get 0 rfl);have nei:=T7.out.ne 1 0 (by decide) rfl rfl;have z0:((Xb (Xj (Yp s) x.2)).1 != 0)=true:=by(cases h:Xj (Yp s) x.2 with | ok a d=>(rw[h]at HG;exact absurd rfl HG.out) | bad F=>(rw[bne_iff_ne];exact hnz F h))
   clear p7))
  go_region
  all_goals
    go_wp2
    have p:=put3 (T7.out.get 0 rfl) (.int .i64 (Xb (Xj (Yp s) x.2)).1) (.int .i64 ((Xb (Xj (Yp s) x.2)).2.1:Int)) (.int .i64 ((Xb (Xj (Yp s) x.2)).2.2:Int));have hz:=T7.out.put 0 rfl p;first
    |exact Ziq 2 3 29 29 _ _ _ rfl p.whole.drew Zbu Wt rfl rfl rfl ⟨_,rfl,Yj _ _,hz.drew.below⟩
    |exact Ziq 2 3 29 29 _ _ _ rfl p.whole Zbu Wt rfl rfl rfl ⟨_,rfl,Yj _ _,hz.below⟩
theorem qOne(s:ByteArray)(w:World)(hs:s.size≤65536):Calls Tryz.prog 20 #[.string s] w (TopPost w (Zkb 3 s).1.ds (Zkb 3 s).2):=by
 have T0:=Hh (Env.start w);have hr:=Zji s;have hl:=text_len s hs;have hbe:∀ w,Calls Tryz.prog 45 #[.string s] w (QBegin w s):=fun w=>qbegin s w hs
 have hsu:∀(x:World)(us:List Value)(r K:Nat),Ya x r K (Yp s)→RPv r K (Yp s) (Jz s) us→Calls Tryz.prog 63 #[.agg us.toArray] x (PTo x r K (Yp s) (Zfv 3 s).2 (Zfv 3 s).1.ds):=fun x us r K h1 h2=>by
  have hN:Zcp s=8*(Yp s).length+20:=rfl;exact Zjr x r K _ _ us (Zcp s) h1 h2 (by omega) (by omega)
 show Calls _ _ _ _ (TopPost w (if(Xj (Yp s) (Zfv 3 s).2).good=true then(Zfv 3 s).1 else zEx).ds (Xb (Xj (Yp s) (Zfv 3 s).2)));generalize Zfv 3 s=x at *;have hov:(Xj (Yp s) x.2).good=true∨¬(Xj (Yp s) x.2).good=true:=Classical.em _;clear hr hl hs;rcases hov with hg | hg
 ·rw[if_pos hg]
  have hf:Xb (Xj (Yp s) x.2)=okF:=by cases h:Xj (Yp s) x.2 with | ok a d=>rfl | bad F=>rw[h]at hg;cases hg
  have z0:((Xb (Xj (Yp s) x.2)).1 != 0)=false:=by rw[hf];rfl
  have HG:=Hh hf;clear hg hf;go_enter Tryz.func20,Tryz.ntmps20;go_wp2_with(first
 |((with_reducible refine Ze 2 ?_);refine Zc T0.out 51 _ rfl rfl Zen ?_;intro w1 g0 t1
   have T1:=Hh (t1);clear t1)
 |((with_reducible refine Ze 3 ?_);refine Zc T1.out 29 _ rfl rfl z_F ?_;intro w2 g1 t2
   have T2:=Hh (t2);clear t2)
 |(go_at_call 45;refine(hbe _).mono ?_;rintro e w3 ⟨v1,r,K,A1,k1,rfl,h1,hk,d1,b3⟩
   have T3:=Hh (T2.out.tree b3 d1);have HK:=Hh hk;clear hk d1;clear b3)
 |(go_at_call 63;refine(hsu _ v1 r K (Ya.of (T3.out.leaf 0 rfl) HK.out) h1).mono ?_;rintro e w4 ⟨v2,u2,rfl,h2,d2,b4⟩
   have T4:=Hh (T3.out.tree b4 d2);have l2:=d2.len12;have o2:=Hh d2.one;clear d2;clear b4)
 |((with_reducible refine Ze 4 ?_);refine Zc T4.out 82 _ rfl rfl z_P ?_;intro w5 g2 t5
   have T5:=Hh (t5);clear t5)
 |((with_reducible refine Ze 5 ?_);refine Zc T5.out 51 _ rfl rfl Zen ?_;intro w6 g3 t6
   have T6:=Hh (t6);clear t6)
 |((with_reducible refine Zi 4 10 ?_);refine Za 82 _ _ 82 g2 _ (v2) (T6.out.get 2 rfl) h2.len (Zf h2.len) h2.one rfl rfl rfl rfl rfl ?_
   intro w7 p7;have T7:=Hh (T6.out.put 2 rfl p7);clear p7)
 |((with_reducible refine Zi 5 11 ?_);refine Za 51 _ _ 51 g3 _ (u2) (T7.out.get 3 rfl) l2 (Xw l2) o2.out rfl rfl rfl rfl rfl ?_
   intro w8 p8;have T8:=Hh (T7.out.put 3 rfl p8);clear p8)
 |((with_reducible refine Ze 12 ?_);refine Zb 82 _ 82 g2 _ (T8.out.get 2 rfl) Zn (Zf h2.len) rfl rfl rfl ?_)
 |(go_at_call 53;refine(qover _ r K (Yp s) _ v2 (Ya.of (T8.out.leaf 0 rfl) HK.out) h2).mono ?_;rintro e w9 ⟨v3,rfl,h3,b9⟩
   have hnz:=h3.flt;obtain⟨y0,y1,y2,rfl⟩:=h3.six;have T9:=Hh (T8.out.call b9);clear b9)
 |((with_reducible refine Zi 4 13 ?_);refine Za 82 _ _ 82 g2 _ ([y0,y1,y2,.int .i64 (Xb (Xj (Yp s) x.2)).1,.int .i64 ((Xb (Xj (Yp s) x.2)).2.1:Int),.int .i64 ((Xb (Xj (Yp s) x.2)).2.2:Int)]) (T9.out.get 2 rfl) h2.len.symm Yg h3.one rfl rfl rfl rfl rfl ?_
   intro w10 p10;have T10:=Hh (T9.out.put 2 rfl p10);obtain⟨q0,q1,q2,q3,q4,q5⟩:=Wq (T10.out.get 2 rfl);obtain⟨m0,m1,m2,n0,n1,n2⟩:=Zz (T10.out.get 1 rfl);have nei:=T10.out.ne 2 1 (by decide) rfl rfl;have w12:=Zgw (T10.out.get 0 rfl);obtain⟨ca0,ca1,ca2,ca3,ca4,ca5,ca6,ca7,ca8,ca9,ca10,ca11,cb0,cb1,cb2,cb3,cb4,cb5,cb6,cb7,cb8,cb9,cb10,cb11⟩:=w12;have ne0:g0≠g1:=T10.out.ne 0 1 (by decide) rfl rfl;have ne1:g2≠g0:=T10.out.ne 2 0 (by decide) rfl rfl;have ne2:g0≠g2:=T10.out.ne 0 2 (by decide) rfl rfl;have ne3:g1≠g0:=T10.out.ne 1 0 (by decide) rfl rfl;have ne4:g2≠g1:=T10.out.ne 2 1 (by decide) rfl rfl;have ne5:g1≠g2:=T10.out.ne 1 2 (by decide) rfl rfl;clear p10)
 |((with_reducible refine Ze 21 ?_);refine Zb 51 _ 51 g3 _ (T10.out.get 3 rfl) Xh (Xw l2) rfl rfl rfl ?_)
 |((with_reducible refine Zi 2 21 ?_);refine Za 51 _ _ 51 g0 _ (u2) (T10.out.get 0 rfl) l2 (Xw l2) o2.out rfl rfl rfl rfl rfl ?_
   intro w11 p11;have T11:=Hh (T10.out.put 0 rfl p11);clear p11)
 |((with_reducible refine Zi 3 22 ?_);refine Za 29 _ _ 29 g1 _ ([.int .i64 0,.int .i64 0,.int .i64 0]) (T11.out.get 1 rfl) rfl Wt (by simp[Value.oneCell']) rfl rfl rfl rfl rfl ?_
   intro w12 p12;have T12:Hid (Env w [(g0,51,u2),(g1,29,[.int .i64 0,.int .i64 0,.int .i64 0]),(g2,82,[y0,y1,y2,.int .i64 (Xb (Xj (Yp s) x.2)).1,.int .i64 ((Xb (Xj (Yp s) x.2)).2.1:Int),.int .i64 ((Xb (Xj (Yp s) x.2)).2.2:Int)]),(g3,51,u2)] [] [(.row (Yp s).length (Zgj (Yp s)) .nil,[.slice A1 (Yp s).length k1]),(x.1.ds,u2)] w12):=Hh (T11.out.put 1 rfl p12);clear p12))
  rw[HG.out];refine Yx 2 51 3 29 51 29 _ _ _ _ rfl (T12.out.get 0 rfl) (T12.out.get 1 rfl) Xh (Xw l2) Zbu Wt rfl rfl rfl ?_;exact⟨_,rfl,T12.out.leaf 1 rfl,T12.out.below⟩
 ·rw[if_neg hg]
  have HG:=Hh hg;clear hg;go_enter Tryz.func20,Tryz.ntmps20;go_wp2_with(first
 |((with_reducible refine Ze 2 ?_);refine Zc T0.out 51 _ rfl rfl Zen ?_;intro w1 g0 t1
   have T1:=Hh (t1);clear t1)
 |((with_reducible refine Ze 3 ?_);refine Zc T1.out 29 _ rfl rfl z_F ?_;intro w2 g1 t2
   have T2:=Hh (t2);clear t2)
 |(go_at_call 45;refine(hbe _).mono ?_;rintro e w3 ⟨v1,r,K,A1,k1,rfl,h1,hk,d1,b3⟩
   have T3:=Hh (T2.out.tree b3 d1);have HK:=Hh hk;clear hk d1;clear b3)
 |(go_at_call 63;refine(hsu _ v1 r K (Ya.of (T3.out.leaf 0 rfl) HK.out) h1).mono ?_;rintro e w4 ⟨v2,u2,rfl,h2,d2,b4⟩
   have T4:=Hh (T3.out.tree b4 d2);have l2:=d2.len12;have o2:=Hh d2.one;clear d2;clear b4)
 |((with_reducible refine Ze 4 ?_);refine Zc T4.out 82 _ rfl rfl z_P ?_;intro w5 g2 t5
   have T5:=Hh (t5);clear t5)
 |((with_reducible refine Ze 5 ?_);refine Zc T5.out 51 _ rfl rfl Zen ?_;intro w6 g3 t6
   have T6:=Hh (t6);clear t6)
 |((with_reducible refine Zi 4 10 ?_);refine Za 82 _ _ 82 g2 _ (v2) (T6.out.get 2 rfl) h2.len (Zf h2.len) h2.one rfl rfl rfl rfl rfl ?_
   intro w7 p7;have T7:=Hh (T6.out.put 2 rfl p7);clear p7)
 |((with_reducible refine Zi 5 11 ?_);refine Za 51 _ _ 51 g3 _ (u2) (T7.out.get 3 rfl) l2 (Xw l2) o2.out rfl rfl rfl rfl rfl ?_
   intro w8 p8;have T8:=Hh (T7.out.put 3 rfl p8);clear p8)
 |((with_reducible refine Ze 12 ?_);refine Zb 82 _ 82 g2 _ (T8.out.get 2 rfl) Zn (Zf h2.len) rfl rfl rfl ?_)
 |(go_at_call 53;refine(qover _ r K (Yp s) _ v2 (Ya.of (T8.out.leaf 0 rfl) HK.out) h2).mono ?_;rintro e w9 ⟨v3,rfl,h3,b9⟩
   have hnz:=h3.flt;obtain⟨y0,y1,y2,rfl⟩:=h3.six;have T9:=Hh (T8.out.call b9);clear b9)
 |((with_reducible refine Zi 4 13 ?_);refine Za 82 _ _ 82 g2 _ ([y0,y1,y2,.int .i64 (Xb (Xj (Yp s) x.2)).1,.int .i64 ((Xb (Xj (Yp s) x.2)).2.1:Int),.int .i64 ((Xb (Xj (Yp s) x.2)).2.2:Int)]) (T9.out.get 2 rfl) h2.len.symm Yg h3.one rfl rfl rfl rfl rfl ?_
   intro w10 p10;have T10:Hid (Env w [(g0,51,[.int .i64 0,.int .i64 0,.int .i64 0,.int .i64 0,.int .i64 0,.int .i64 0,.slice none 0 0,.int .i64 0,.int .i64 0,.int .i64 0,.int .i64 0,.slice none 0 0]),(g1,29,[.int .i64 0,.int .i64 0,.int .i64 0]),(g2,82,[y0,y1,y2,.int .i64 (Xb (Xj (Yp s) x.2)).1,.int .i64 ((Xb (Xj (Yp s) x.2)).2.1:Int),.int .i64 ((Xb (Xj (Yp s) x.2)).2.2:Int)]),(g3,51,u2)] [] [(.row (Yp s).length (Zgj (Yp s)) .nil,[.slice A1 (Yp s).length k1]),(x.1.ds,u2)] w10):=Hh (T9.out.put 2 rfl p10);obtain⟨q0,q1,q2,q3,q4,q5⟩:=Wq (T10.out.get 2 rfl);obtain⟨m0,m1,m2,n0,n1,n2⟩:=Zz (T10.out.get 1 rfl);have nei:=T10.out.ne 2 1 (by decide) rfl rfl;have w12:=Zgw (T10.out.get 0 rfl);obtain⟨ca0,ca1,ca2,ca3,ca4,ca5,ca6,ca7,ca8,ca9,ca10,ca11,cb0,cb1,cb2,cb3,cb4,cb5,cb6,cb7,cb8,cb9,cb10,cb11⟩:=w12;have ne0:g0≠g1:=T10.out.ne 0 1 (by decide) rfl rfl;have ne1:g2≠g0:=T10.out.ne 2 0 (by decide) rfl rfl;have ne2:g0≠g2:=T10.out.ne 0 2 (by decide) rfl rfl;have ne3:g1≠g0:=T10.out.ne 1 0 (by decide) rfl rfl;have ne4:g2≠g1:=T10.out.ne 2 1 (by decide) rfl rfl;have ne5:g1≠g2:=T10.out.ne 1 2 (by decide) rfl rfl;have z0:((Xb (Xj (Yp s) x.2)).1 != 0)=true:=by(cases h:Xj (Yp s) x.2 with | ok a d=>(rw[h]at HG;exact absurd rfl HG.out) | bad F=>(rw[bne_iff_ne];exact hnz F h))
   clear p10))
  go_region
  all_goals
    go_wp2
    have p:=Zd.set12 (T10.out.get 0 rfl) rfl (.int .i64 0) (.int .i64 0) (.int .i64 0) (.int .i64 0) (.int .i64 0) (.int .i64 0) (.slice none 0 0) (.int .i64 0) (.int .i64 0) (.int .i64 0) (.int .i64 0) (.slice none 0 0);have hy:=T10.out.put 0 rfl p;have p':=put3 (hy.get 1 rfl) (.int .i64 (Xb (Xj (Yp s) x.2)).1) (.int .i64 ((Xb (Xj (Yp s) x.2)).2.1:Int)) (.int .i64 ((Xb (Xj (Yp s) x.2)).2.2:Int));have hz:=hy.put 1 rfl p';first
    |exact Yx 2 51 3 29 51 29 _ _ _ _ rfl (hz.drew.get 0 rfl) (hz.drew.get 1 rfl) Xh Yi Zbu Wt rfl rfl rfl ⟨_,rfl,Zlq _ _,hz.drew.below⟩
    |exact Yx 2 51 3 29 51 29 _ _ _ _ rfl (hz.get 0 rfl) (hz.get 1 rfl) Xh Yi Zbu Wt rfl rfl rfl ⟨_,rfl,Zlq _ _,hz.below⟩
end Go.Proofs.YtljdgdphldckhaaGreat
