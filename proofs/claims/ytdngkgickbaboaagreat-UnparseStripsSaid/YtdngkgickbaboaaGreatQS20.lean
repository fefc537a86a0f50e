/-
  No conditions but those that each theorem names.
-/
import Derived.Test.YtdngkgickbaboaaGreatQS18
set_option maxRecDepth 20000
set_option maxHeartbeats 12800000
namespace Go.Proofs.YtdngkgickbaboaaGreat
open Go.ChangeShapes Go.WideShapes Go.ChangeAt Go.RowKit
set_option linter.unusedVariables false
set_option linter.unusedSimpArgs false
theorem mixed:(Tryz.prog).follows .mixedOrders=true:=by kernel_rfl
def PTo(w:World)(r K:Nat)(L:List TokV)(st:St)(ds:Ds)(e:Ending)(w':World):Prop:=
 ∃ vs us:List Value,e=.returned (.tuple #[.agg vs.toArray,.agg us.toArray])∧RPv r K L st vs∧Zn (fun k=>w.heap.size≤k) w' ds us∧Below w.heap.size w w'
theorem qover(w:World)(r K:Nat)(L:List TokV)(st:St)(vs:List Value)(ho:Zt w r K L)(hp:RPv r K L st vs) :
  Calls Tryz.prog 26 #[.agg vs.toArray] w (PPo w r K L (Xh L st)):=by
 have T0:=Hh (Env.start w);cases st with
 |ok a d=>
  obtain⟨n,hn,rfl,ha,hd⟩:=hp.ok;have hrow:=ho (by omega);have HR:=Hh hrow;have HN:=Hh (And.intro hn ha);have hfd:=fun w=>Zee (Zv L a).k (Zv L a).n ((Zv L a).line:Int) ((Zv L a).col:Int) (Zv L a).t w
  clear ho hp hn;by_cases hk:(Zv L a).k=0
  · have e1:((Zv L a).k != 0)=false:=by rw[hk];rfl
    have e2:Xh L (.ok a d)=.ok a d:=if_pos hk;have E2:=Hh e2;clear e2 hk;go_enter Tryz.func26,Tryz.ntmps26;go_wp2_with(first
 |((with_reducible refine Zd 1 ?_);refine Zo T0.out 66 _ ([.slice (some ⟨r,0,none⟩) n K,.int .i64 (a:Int),.int .i64 (d:Int),.int .i64 0,.int .i64 0,.int .i64 0]) rfl rfl rfl ?_;intro w1 g0 t1
   have T1:=Hh (t1);clear t1)
 |((with_reducible refine Zd 2 ?_);refine Zc T1.out 66 _ rfl rfl z_P ?_;intro w2 g1 t2
   have T2:=Hh (t2);obtain⟨c0,c1,c2,c3,c4,c5⟩:=Xs (T2.out.get 0 rfl);clear t2)
 |(go_at_call 19;refine(Ziw _ r K L n a d HN.out.1 (HR.out.below T2.out.below) HN.out.2).mono ?_;rintro e w3 ⟨rfl,b3⟩
   have T3:=Hh (T2.out.call b3);simp only[Vd];clear b3)
 |((with_reducible refine Zd 16 ?_);refine Zb 66 _ 66 g0 _ (T3.out.get 0 rfl) Zl Ya rfl rfl rfl ?_)
 |((with_reducible refine Zg 2 16 ?_);refine Za 66 _ _ 66 g1 _ ([.slice (some ⟨r,0,none⟩) n K,.int .i64 (a:Int),.int .i64 (d:Int),.int .i64 0,.int .i64 0,.int .i64 0]) (T3.out.get 1 rfl) rfl Ya (by simp[Value.oneCell']) rfl rfl rfl rfl rfl ?_
   intro w4 p4;have T4:Hid (Env w [(g0,66,[.slice (some ⟨r,0,none⟩) n K,.int .i64 (a:Int),.int .i64 (d:Int),.int .i64 0,.int .i64 0,.int .i64 0]),(g1,66,[.slice (some ⟨r,0,none⟩) n K,.int .i64 (a:Int),.int .i64 (d:Int),.int .i64 0,.int .i64 0,.int .i64 0])] [] [] w4):=Hh (T3.out.put 1 rfl p4)
   clear p4))
    refine Wg 2 66 66 _ _ rfl (T4.out.get 1 rfl) Zl Ya rfl rfl ?_;rw[E2.out];exact⟨_,rfl,RPv.mkOk HN.out.1 HN.out.2 hd,T4.out.below⟩
  · have e1:((Zv L a).k != 0)=true:=by rw[bne_iff_ne];exact hk
    have e2:Xh L (.ok a d)=Zgf L (.ok a d):=if_neg hk;have E2:=Hh e2;clear e2 hk;go_enter Tryz.func26,Tryz.ntmps26;go_wp2_with(first
 |((with_reducible refine Zd 1 ?_);refine Zo T0.out 66 _ ([.slice (some ⟨r,0,none⟩) n K,.int .i64 (a:Int),.int .i64 (d:Int),.int .i64 0,.int .i64 0,.int .i64 0]) rfl rfl rfl ?_;intro w1 g0 t1
   have T1:=Hh (t1);clear t1)
 |((with_reducible refine Zd 2 ?_);refine Zc T1.out 66 _ rfl rfl z_P ?_;intro w2 g1 t2
   have T2:=Hh (t2);obtain⟨c0,c1,c2,c3,c4,c5⟩:=Xs (T2.out.get 0 rfl);clear t2)
 |(go_at_call 19;refine(Ziw _ r K L n a d HN.out.1 (HR.out.below T2.out.below) HN.out.2).mono ?_;rintro e w3 ⟨rfl,b3⟩
   have T3:=Hh (T2.out.call b3);simp only[Vd];clear b3)
 |((with_reducible refine Zd 14 ?_);refine Zb 66 _ 66 g0 _ (T3.out.get 0 rfl) Zl Ya rfl rfl rfl ?_)
 |(go_at_call 54;refine(qbad _ r K L (.ok a d) [.slice (some ⟨r,0,none⟩) n K,.int .i64 (a:Int),.int .i64 (d:Int),.int .i64 0,.int .i64 0,.int .i64 0] (fun _=>HR.out.below T3.out.below) (RPv.mkOk HN.out.1 HN.out.2 hd)).mono ?_;rintro e w4 ⟨v4,rfl,h4,b4⟩
   have T4:=Hh (T3.out.call b4);clear b4)
 |((with_reducible refine Zg 2 15 ?_);refine Za 66 _ _ 66 g1 _ (v4) (T4.out.get 1 rfl) h4.len (Ze h4.len) h4.one rfl rfl rfl rfl rfl ?_
   intro w5 p5;have T5:Hid (Env w [(g0,66,[.slice (some ⟨r,0,none⟩) n K,.int .i64 (a:Int),.int .i64 (d:Int),.int .i64 0,.int .i64 0,.int .i64 0]),(g1,66,v4)] [] [] w5):=Hh (T4.out.put 1 rfl p5)
   clear p5))
    refine Wg 2 66 66 _ _ rfl (T5.out.get 1 rfl) Zl (Ze h4.len) rfl rfl ?_;rw[E2.out];exact⟨v4,rfl,h4,T5.out.below⟩
 |bad F=>
  obtain⟨A,n,k,a,d,rfl,hd,hF⟩:=hp.bad;obtain⟨f0,f1,f2⟩:=F;have z0:(f0 == 0)=false:=by rw[beq_eq_false_iff_ne];exact hF
  have HF:=Hh hF;clear ho hp hF;go_enter Tryz.func26,Tryz.ntmps26;go_wp2_with(first
 |((with_reducible refine Zd 1 ?_);refine Zo T0.out 66 _ ([.slice A n k,.int .i64 (a:Int),.int .i64 (d:Int),.int .i64 f0,.int .i64 (f1:Int),.int .i64 (f2:Int)]) rfl rfl rfl ?_;intro w1 g0 t1
   have T1:=Hh (t1);clear t1)
 |((with_reducible refine Zd 2 ?_);refine Zc T1.out 66 _ rfl rfl z_P ?_;intro w2 g1 t2
   have T2:=Hh (t2);obtain⟨c0,c1,c2,c3,c4,c5⟩:=Xs (T2.out.get 0 rfl);clear t2)
 |((with_reducible refine Zd 16 ?_);refine Zb 66 _ 66 g0 _ (T2.out.get 0 rfl) Zl Ya rfl rfl rfl ?_)
 |((with_reducible refine Zg 2 16 ?_);refine Za 66 _ _ 66 g1 _ ([.slice A n k,.int .i64 (a:Int),.int .i64 (d:Int),.int .i64 f0,.int .i64 (f1:Int),.int .i64 (f2:Int)]) (T2.out.get 1 rfl) rfl Ya (by simp[Value.oneCell']) rfl rfl rfl rfl rfl ?_
   intro w3 p3;have T3:Hid (Env w [(g0,66,[.slice A n k,.int .i64 (a:Int),.int .i64 (d:Int),.int .i64 f0,.int .i64 (f1:Int),.int .i64 (f2:Int)]),(g1,66,[.slice A n k,.int .i64 (a:Int),.int .i64 (d:Int),.int .i64 f0,.int .i64 (f1:Int),.int .i64 (f2:Int)])] [] [] w3):=Hh (T2.out.put 1 rfl p3);clear p3))
  exact Wg 2 66 66 _ _ rfl (T3.out.get 1 rfl) Zl Ya rfl rfl ⟨_,rfl,RPv.mkBad (F:=(f0,f1,f2)) _ _ _ _ _ hd HF.out,T3.out.below⟩
theorem qto(w:World)(r K:Nat)(L:List TokV)(st:St)(vs:List Value)(ho:Zt w r K L)(hp:RPv r K L st vs) :
  Calls Tryz.prog 109 #[.agg vs.toArray] w (PTo w r K L (toS L st) (.int (toK L st) (.int (toL L st) .nil))):=by
 have T0:=Hh (Env.start w);by_cases hz:Zh L wTo st=4
 ·have e1:toS L st=Js L (Zm L wTo st):=if_pos hz
  have e2:toL L st=Zct L (Zm L wTo st):=if_pos hz;have e3:((Zh L wTo st:Int) == 4)=true:=by rw[hz];rfl
  have E1:=Hh (And.intro e1 e2);clear e1 e2 hz;go_enter Tryz.func109,Tryz.ntmps109;go_wp2_with(first
 |((with_reducible refine Zd 1 ?_);refine Zo T0.out 66 _ (vs) rfl rfl rfl ?_;intro w1 g0 t1
   have T1:=Hh (t1);clear t1)
 |((with_reducible refine Zd 2 ?_);refine Zc T1.out 66 _ rfl rfl z_P ?_;intro w2 g1 t2
   have T2:=Hh (t2);clear t2)
 |((with_reducible refine Zd 3 ?_);refine Zc T2.out 51 _ rfl rfl z_T ?_;intro w3 g2 t3
   have T3:=Hh (t3);clear t3)
 |((with_reducible refine Zd 10 ?_);refine Zb 66 _ 66 g0 _ (T3.out.get 0 rfl) Zl (Ze hp.len) rfl rfl rfl ?_)
 |(go_at_call 51;refine(Zdv _ r K _ L st vs wTo 4 4 _ rfl rfl (ho.below T3.out.below) hp rfl (by decide)).mono ?_;rintro e w4 ⟨v4,rfl,h4,b4⟩
   have T4:=Hh (T3.out.call b4);clear b4)
 |((with_reducible refine Zd 4 ?_);refine Zc T4.out 66 _ rfl rfl z_P ?_;intro w5 g3 t5
   have T5:=Hh (t5);clear t5)
 |((with_reducible refine Zg 4 13 ?_);refine Za 66 _ _ 66 g3 _ (v4) (T5.out.get 3 rfl) h4.len (Ze h4.len) h4.one rfl rfl rfl rfl rfl ?_
   intro w6 p6;have T6:=Hh (T5.out.put 3 rfl p6);clear p6)
 |((with_reducible refine Zd 6 ?_);refine Zc T6.out 51 _ rfl rfl z_T ?_;intro w7 g4 t7
   have T7:=Hh (t7);clear t7)
 |((with_reducible refine Zg 6 16 ?_);refine Za 51 _ _ 51 g4 _ ([.int .i64 (Zh L wTo st:Int),.int .i64 0]) (T7.out.get 4 rfl) rfl Uu (by simp[Value.oneCell']) rfl rfl rfl rfl rfl ?_
   intro w8 p8;have T8:=Hh (T7.out.put 4 rfl p8);clear p8)
 |((with_reducible refine Zd 20 ?_);refine Zb 66 _ 66 g3 _ (T8.out.get 3 rfl) Zl (Ze h4.len) rfl rfl rfl ?_)
 |(go_at_call 22;refine(Zmx _ r K L _ v4 (ho.below T8.out.below) h4).mono ?_;rintro e w9 ⟨v9,rfl,h9,b9⟩
   have T9:=Hh (T8.out.call b9);clear b9)
 |((with_reducible refine Zd 7 ?_);refine Zc T9.out 66 _ rfl rfl z_P ?_;intro w10 g5 t10
   have T10:=Hh (t10);clear t10)
 |((with_reducible refine Zg 7 22 ?_);refine Za 66 _ _ 66 g5 _ (v9) (T10.out.get 5 rfl) h9.len (Ze h9.len) h9.one rfl rfl rfl rfl rfl ?_
   intro w11 p11;have T11:=Hh (T10.out.put 5 rfl p11);clear p11)
 |((with_reducible refine Zg 25 24 ?_);refine Zj 3 _ _ 51 g4 1 [.int .i64 (Zh L wTo st:Int)] (.int .i64 0) (.int .i64 (Zct L (Zm L wTo st))) [] (T11.out.get 4 rfl) rfl Yb rfl rfl rfl rfl rfl rfl ?_
   intro w12 p12;have T12:Hid (Env w [(g0,66,vs),(g1,66,[.slice none 0 0,.int .i64 0,.int .i64 0,.int .i64 0,.int .i64 0,.int .i64 0]),(g2,51,[.int .i64 0,.int .i64 0]),(g3,66,v4),(g4,51,[.int .i64 (Zh L wTo st:Int),.int .i64 (Zct L (Zm L wTo st))]),(g5,66,v9)] [] [] w12):=Hh (T11.out.put 4 rfl p12);clear p12))
  refine ret2 mixed (by kernel_rfl) (by kernel_rfl) (by kernel_rfl) (by kernel_rfl) (by kernel_rfl) (by kernel_rfl) (by kernel_rfl) (by kernel_rfl) rfl rfl rfl rfl rfl rfl rfl rfl rfl rfl g5 g4 g1 g2 (v9) ([.int .i64 (Zh L wTo st:Int),.int .i64 (Zct L (Zm L wTo st))]) ([.slice none 0 0,.int .i64 0,.int .i64 0,.int .i64 0,.int .i64 0,.int .i64 0]) ([.int .i64 0,.int .i64 0]) (T12.out.get 5 rfl) (T12.out.get 4 rfl) (T12.out.get 1 rfl) (T12.out.get 2 rfl) h9.len rfl h9.one (by simp[Value.oneCell']) (T12.out.ne 5 1 (by decide) rfl rfl) (T12.out.ne 5 2 (by decide) rfl rfl) (T12.out.ne 4 1 (by decide) rfl rfl) (T12.out.ne 4 2 (by decide) rfl rfl) (T12.out.ne 1 2 (by decide) rfl rfl) Zl (Ze h9.len) Zhp Uu rfl rfl rfl rfl rfl rfl ?_;intro wz hR;have HZ:=Hh hR;clear hR;go_wp2
  obtain⟨dz,bz⟩:=T12.out.ret2 1 2 rfl rfl HZ.out;refine Yo 2 66 3 51 66 51 _ _ _ _ rfl HZ.out.one HZ.out.two Zl (Ze h9.len) Zhp Uu rfl rfl rfl ?_;rw[E1.out.1,E1.out.2];exact⟨_,_,rfl,h9,⟨_,rfl,_,rfl,rfl⟩,bz⟩
 ·have e1:toS L st=Zm L wTo st:=if_neg hz
  have e2:toL L st=0:=if_neg hz;have e3:((Zh L wTo st:Int) == 4)=false:=by rw[beq_eq_false_iff_ne];omega
  have E1:=Hh (And.intro e1 e2);clear e1 e2 hz;go_enter Tryz.func109,Tryz.ntmps109;go_wp2_with(first
 |((with_reducible refine Zd 1 ?_);refine Zo T0.out 66 _ (vs) rfl rfl rfl ?_;intro w1 g0 t1
   have T1:=Hh (t1);clear t1)
 |((with_reducible refine Zd 2 ?_);refine Zc T1.out 66 _ rfl rfl z_P ?_;intro w2 g1 t2
   have T2:=Hh (t2);clear t2)
 |((with_reducible refine Zd 3 ?_);refine Zc T2.out 51 _ rfl rfl z_T ?_;intro w3 g2 t3
   have T3:=Hh (t3);clear t3)
 |((with_reducible refine Zd 10 ?_);refine Zb 66 _ 66 g0 _ (T3.out.get 0 rfl) Zl (Ze hp.len) rfl rfl rfl ?_)
 |(go_at_call 51;refine(Zdv _ r K _ L st vs wTo 4 4 _ rfl rfl (ho.below T3.out.below) hp rfl (by decide)).mono ?_;rintro e w4 ⟨v4,rfl,h4,b4⟩
   have T4:=Hh (T3.out.call b4);clear b4)
 |((with_reducible refine Zd 4 ?_);refine Zc T4.out 66 _ rfl rfl z_P ?_;intro w5 g3 t5
   have T5:=Hh (t5);clear t5)
 |((with_reducible refine Zg 4 13 ?_);refine Za 66 _ _ 66 g3 _ (v4) (T5.out.get 3 rfl) h4.len (Ze h4.len) h4.one rfl rfl rfl rfl rfl ?_
   intro w6 p6;have T6:=Hh (T5.out.put 3 rfl p6);clear p6)
 |((with_reducible refine Zd 6 ?_);refine Zc T6.out 51 _ rfl rfl z_T ?_;intro w7 g4 t7
   have T7:=Hh (t7);clear t7)
 |((with_reducible refine Zg 6 16 ?_);refine Za 51 _ _ 51 g4 _ ([.int .i64 (Zh L wTo st:Int),.int .i64 0]) (T7.out.get 4 rfl) rfl Uu (by simp[Value.oneCell']) rfl rfl rfl rfl rfl ?_
   intro w8 p8;have T8:Hid (Env w [(g0,66,vs),(g1,66,[.slice none 0 0,.int .i64 0,.int .i64 0,.int .i64 0,.int .i64 0,.int .i64 0]),(g2,51,[.int .i64 0,.int .i64 0]),(g3,66,v4),(g4,51,[.int .i64 (Zh L wTo st:Int),.int .i64 0])] [] [] w8):=Hh (T7.out.put 4 rfl p8);clear p8))
  refine ret2 mixed (by kernel_rfl) (by kernel_rfl) (by kernel_rfl) (by kernel_rfl) (by kernel_rfl) (by kernel_rfl) (by kernel_rfl) (by kernel_rfl) rfl rfl rfl rfl rfl rfl rfl rfl rfl rfl g3 g4 g1 g2 (v4) ([.int .i64 (Zh L wTo st:Int),.int .i64 0]) ([.slice none 0 0,.int .i64 0,.int .i64 0,.int .i64 0,.int .i64 0,.int .i64 0]) ([.int .i64 0,.int .i64 0]) (T8.out.get 3 rfl) (T8.out.get 4 rfl) (T8.out.get 1 rfl) (T8.out.get 2 rfl) h4.len rfl h4.one (by simp[Value.oneCell']) (T8.out.ne 3 1 (by decide) rfl rfl) (T8.out.ne 3 2 (by decide) rfl rfl) (T8.out.ne 4 1 (by decide) rfl rfl) (T8.out.ne 4 2 (by decide) rfl rfl) (T8.out.ne 1 2 (by decide) rfl rfl) Zl (Ze h4.len) Zhp Uu rfl rfl rfl rfl rfl rfl ?_;intro wz hR;have HZ:=Hh hR;clear hR;go_wp2
  obtain⟨dz,bz⟩:=T8.out.ret2 1 2 rfl rfl HZ.out;refine Yo 2 66 3 51 66 51 _ _ _ _ rfl HZ.out.one HZ.out.two Zl (Ze h4.len) Zhp Uu rfl rfl rfl ?_;rw[E1.out.1,E1.out.2];exact⟨_,_,rfl,h4,⟨_,rfl,_,rfl,rfl⟩,bz⟩
open Go Go.RowKit
theorem Zji{P:Program}{id:Nat}{Q:Exit→Act→World→Prop}{a:Act}{w:World}{o0 o1 o2 o3 o4:Oper}(hm:P.follows .mixedOrders=true)
  (cs:Region.noSelect #[o0,o1,o2,o3,o4]=true)(cf0:Region.free .any #[o0,o1,o2,o3,o4] (Array.replicate 5 false) 0=true)(cr0:(Region.ready .any #[o0,o1,o2,o3,o4] (Array.replicate 5 false)).contains 0=true)
  (cf2:Region.free .any #[o0,o1,o2,o3,o4] ((Array.replicate 5 false).setIfInBounds 0 true) 2=true)(cr2:(Region.ready .any #[o0,o1,o2,o3,o4] ((Array.replicate 5 false).setIfInBounds 0 true)).contains 2=true)
  (c1:Region.ready .any #[o0,o1,o2,o3,o4] (((Array.replicate 5 false).setIfInBounds 0 true).setIfInBounds 2 true)=[1])
  (c3:Region.ready .any #[o0,o1,o2,o3,o4] ((((Array.replicate 5 false).setIfInBounds 0 true).setIfInBounds 2 true).setIfInBounds 1 true)=[3])
  (c4:Region.ready .any #[o0,o1,o2,o3,o4] (((((Array.replicate 5 false).setIfInBounds 0 true).setIfInBounds 2 true).setIfInBounds 1 true).setIfInBounds 3 true)=[4])
  (c5:Region.ready .any #[o0,o1,o2,o3,o4] ((((((Array.replicate 5 false).setIfInBounds 0 true).setIfInBounds 2 true).setIfInBounds 1 true).setIfInBounds 3 true).setIfInBounds 4 true)=[])
  {T1 T2:TypeId}{x1 x2 y1 y2 z1 z2:Operand}(h0:o0.op=.load T1 x1)(h2:o2.op=.load T2 x2)(h3:o3.op=.store T1 y1 z1)(h4:o4.op=.store T2 y2 z2)
  (n0:o0.guard=none)(n1:o1.guard=none)(n2:o2.guard=none)(n3:o3.guard=none)(n4:o4.guard=none)(k3:o3.dst=none)(k4:o4.dst=none)
  (g1 g2 g3 g4:Nat){t1 t2 t3 t4:TypeId}(vs us old3 old4:List Value)(W1:Zf w g1 t1 vs.toArray)(W2:Zf w g2 t2 us.toArray)(W3:Zf w g3 t3 old3.toArray)(W4:Zf w g4 t4 old4.toArray)
  (f:FuncId)(args:Array Value)(R:List Value→Prop)
  (hrun:∀ x,(execOp ((a.put o0.dst (.agg vs.toArray)).put o2.dst (.agg us.toArray)).eval o1).run P x=.ok (.enter f args) x)
  (hc:Calls P f args w.drew fun e w''=>∃ vs':List Value,e=.returned (.agg vs'.toArray)∧R vs'∧Below w.drew.heap.size w.drew w'')
  (hl3:∀ vs',R vs'→vs'.length=old3.length)(hl4:us.length=old4.length)(ho1:∀ vs',R vs'→∀ v ∈ vs',v.oneCell'=true)(ho2:∀ v ∈ us,v.oneCell'=true)
  (d13:g1≠g3)(d14:g1≠g4)(d23:g2≠g3)(d24:g2≠g4)(d34:g3≠g4)(hvl:vs.length=old3.length)
  (hu1:(P.underlying T1).map TypeDesc.isRow=some true)(hi1:(P.info? T1).map (·.size)=some vs.length)(hu2:(P.underlying T2).map TypeDesc.isRow=some true)(hi2:(P.info? T2).map (·.size)=some us.length)
  (e1:a.eval x1=.pointer (some ⟨g1,0,none⟩))(e2:(a.put o0.dst (.agg vs.toArray)).eval x2=.pointer (some ⟨g2,0,none⟩))
  (e3:∀ v,(((a.put o0.dst (.agg vs.toArray)).put o2.dst (.agg us.toArray)).put o1.dst v).eval y1=.pointer (some ⟨g3,0,none⟩))(e4:∀ v,(((a.put o0.dst (.agg vs.toArray)).put o2.dst (.agg us.toArray)).put o1.dst v).eval z1=v)
  (e5:∀ v,(((a.put o0.dst (.agg vs.toArray)).put o2.dst (.agg us.toArray)).put o1.dst v).eval y2=.pointer (some ⟨g4,0,none⟩))(e6:∀ v,(((a.put o0.dst (.agg vs.toArray)).put o2.dst (.agg us.toArray)).put o1.dst v).eval z2=.agg us.toArray)
  (h:∀ vs' w',R vs'→Ret2 w w' g3 g4 t3 t4 vs' us→Q .normal (((a.put o0.dst (.agg vs.toArray)).put o2.dst (.agg us.toArray)).put o1.dst (.agg vs'.toArray)) w'):(Code.region id #[o0,o1,o2,o3,o4] true).wp P Q a w:=by
 obtain⟨d1,hu1,hr1⟩:=Option.map_eq_some_iff.1 hu1;obtain⟨d2,hu2,hr2⟩:=Option.map_eq_some_iff.1 hu2;refine wp_region_noPanic (wp_region_held_drew (S:=fun x=>Zf x g1 t1 vs.toArray∧Zf x g2 t2 us.toArray) hm ⟨W1.drew,W2.drew⟩ fun hS=>?_);have rg:∀{x:World}{g:Nat}{t:TypeId}{l:List Value},Zf x g t l.toArray→x.rangeAt g 0 l:=fun{x g t l} hx=>Zf.range (a:=[]) (b:=l) (c:=[]) (by simpa using hx)
 refine wpAnyH_take (i:=0) (oi:=o0) (v:=.agg vs.toArray) rfl cs cf0 cr0 (fun _ _ _ h=>h) (yieldsIf_load_mid (Yu n0) T1 x1 h0 g1 0 e1 vs d1 (fun x hx=>rg hx.1) hu1 hr1 hi1) hS ?_;refine wpAnyH_take (i:=2) (oi:=o2) (v:=.agg us.toArray) rfl cs cf2 cr2 (fun _ _ _ h=>h) (yieldsIf_load_mid (Yu n2) T2 x2 h2 g2 0 e2 us d2 (fun x hx=>rg hx.2) hu2 hr2 hi2) hS ?_;refine wpAnyH_ready (rs:=[1]) c1 (by simp) (AllReadyH.cons (o:=o1) rfl (fun K hK=>?_) AllReadyH.nil);rw[if_pos (Yu n1)];unfold Oper.wp;rw[hrun,Oper.upon_enter];refine hc.mono fun e w1 hh=>?_
 obtain⟨vs',rfl,hR,hB⟩:=hh;have kB:=Zq.of_below (S:=fun _=>False) hB;have V1:=kB.whole W1.drew not_false;have V2:=kB.whole W2.drew not_false;have V3:=kB.whole W3.drew not_false;have V4:=kB.whole W4.drew not_false;refine hK.out _ _ ⟨V1,V2⟩ fun hS1=>?_
 have th:∀{x:World}{g:Nat}{t:TypeId}{l:List Value},Zf x g t l.toArray→x.there g 0 l.length:=fun{x g t l} hx=>Zf.there (a:=[]) (b:=l) (c:=[]) (by simpa using hx)
 have p3:Zf (w1.setCells g3 0 vs') g3 t3 vs'.toArray:=by
  have e:=Zf.setCells (g:=g3) (t:=t3) [] vs' old3 [] w1 (hl3 _ hR) (by simpa using V3);simpa using e
 have k3':=Zq.setCells (S:=fun k=>k=g3) (g:=g3) rfl vs' 0 (Zq.refl _ w1);have q4:Zf (w1.setCells g3 0 vs') g4 t4 old4.toArray:=k3'.whole V4 (Ne.symm d34)
 have p4:Zf ((w1.setCells g3 0 vs').setCells g4 0 us) g4 t4 us.toArray:=by
  have e:=Zf.setCells (g:=g4) (t:=t4) [] us old4 [] (w1.setCells g3 0 vs') hl4 (by simpa using q4);simpa using e
 have k4':=Zq.setCells (S:=fun k=>k=g4) (g:=g4) rfl us 0 (Zq.refl _ (w1.setCells g3 0 vs'));refine wpAnyH_ready (rs:=[3]) c3 (by simp) (AllReadyH.cons (o:=o3) rfl (fun K hK=>?_) AllReadyH.nil);rw[if_pos (Yu n3)];refine wp_store_mid T1 y1 z1 h3 g3 0 vs'.toArray (e3 _) (e4 _) (by rw[List.size_toArray,hl3 _ hR];exact th V3) (by rw[List.size_toArray,hl3 _ hR,←hvl];exact hi1) (all_oneCell_toArray (ho1 _ hR)) ?_;rw[k3];refine hK.out _ _ ⟨k3'.whole V1 d13,k3'.whole V2 d23⟩ fun hS3=>?_
 refine wpAnyH_ready (rs:=[4]) c4 (by simp) (AllReadyH.cons (o:=o4) rfl (fun K hK=>?_) AllReadyH.nil);rw[if_pos (Yu n4)];refine wp_store_mid T2 y2 z2 h4 g4 0 us.toArray (e5 _) (e6 _) (by rw[List.size_toArray,hl4];exact th q4) (by simpa using hi2) (all_oneCell_toArray ho2) ?_;rw[k4];refine hK.out _ _ ⟨k4'.whole (k3'.whole V1 d13) d14,k4'.whole (k3'.whole V2 d23) d24⟩ fun hS4=>?_
 refine wpAnyH_done c5 ?_ _;refine h _ _ hR ⟨k4'.whole p3 d34,p4,?_⟩;exact(Zq.drew (Zq.refl _ w)).trans ((kB.mono fun k e=>e.elim).trans ((k3'.mono fun k e=>.inl e).trans (k4'.mono fun k e=>.inr e)))
end Go.Proofs.YtdngkgickbaboaaGreat
