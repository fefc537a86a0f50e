/-
  No conditions but those that each theorem names.
-/
import Derived.Test.YtdngkgickbaboaaGreatQS22
set_option maxRecDepth 20000
set_option maxHeartbeats 12800000
namespace Go.Proofs.YtdngkgickbaboaaGreat
open Go.ChangeShapes Go.WideShapes Go.ChangeAt Go.RowKit
set_option linter.unusedVariables false
set_option linter.unusedSimpArgs false
def Znm(n:Nat):Prop:=∀(w:World)(r K:Nat)(L:List TokV)(st:St)(vs:List Value),Zt w r K L→RPv r K L st vs→4*Zu L st+3≤n→Zu L st≤68719476736 →
 Calls Tryz.prog 110 #[.agg vs.toArray] w (PTo w r K L (Yd 3 L n st).2 (Yd 3 L n st).1.ds)
def QProdOK(n:Nat):Prop:=∀(w:World)(r K:Nat)(L:List TokV)(st:St)(vs:List Value),Zt w r K L→RPv r K L st vs→4*Zu L st+2≤n→Zu L st≤68719476736 →
 Calls Tryz.prog 145 #[.agg vs.toArray] w (PTo w r K L (Wv 3 L n st).2 (Wv 3 L n st).1.ds)
def QFactOK(n:Nat):Prop:=∀(w:World)(r K:Nat)(L:List TokV)(st:St)(vs:List Value),Zt w r K L→RPv r K L st vs→4*Zu L st+1≤n→Zu L st≤68719476736 →
 Calls Tryz.prog 174 #[.agg vs.toArray] w (PTo w r K L (Wd 3 L n st).2 (Wd 3 L n st).1.ds)
theorem Zem:(Tryz.prog.info? 54).map (fun i=>i.zero.map Value.cells)=some (some ([.int .i64 0,.int .i64 0,.int .i64 0,.int .i64 0,.int .i64 0,.int .i64 0,.slice none 0 0,.int .i64 0,.int .i64 0,.int .i64 0,.int .i64 0,.slice none 0 0]:List Value).toArray):=by kernel_rfl
theorem RPv.up{r K:Nat}{L:List TokV}{st:St}{A:Option Addr}{n k a d:Nat}{f0:Int}{f1 f2:Nat}(h:RPv r K L st [.slice A n k,.int .i64 (a:Int),.int .i64 (d:Int),.int .i64 f0,.int .i64 (f1:Int),.int .i64 (f2:Int)]) :
  RPv r K L (upS st) [.slice A n k,.int .i64 (a:Int),.int .i64 ((d - 1:Nat):Int),.int .i64 f0,.int .i64 (f1:Int),.int .i64 (f2:Int)]:=by
 obtain⟨A',n',k',a',d',e,hd,hk⟩:=h.form;have hF:Yx (upS st)=Yx st:=by cases st<;>rfl
 injection e with e1 e;injection e with e2 e;injection e with e3 e;injection e with e4 e;injection e with e5 e;injection e with e6 e;injection e1 with e1 e1' e1'';injection e2 with _ e2;injection e3 with _ e3;have e2':a=a':=by omega
 have e3':d=d':=by omega
 subst e1 e1' e1'' e2' e3';refine⟨⟨A,n,k,a,d - 1,?_,by omega,?_⟩,?_⟩
 ·rw[hF,←e4,←e5,←e6]
 ·intro a1 d1 e
  cases st with
  |bad F=>cases e
  |ok b c=>
   cases e
   obtain⟨h1,h2,h3,h4,h5,h6⟩:=hk _ c rfl;exact⟨h1,h2,h3,h4,by rw[h5],h6⟩
 ·intro F e
  cases st with
  |ok b c=>cases e
  |bad G=>cases e;exact h.flt _ rfl
theorem qUpA(w:World)(A:Option Addr)(n k a d:Nat)(hd:d≤8) :
  Calls Tryz.prog 147 #[.agg #[.slice A n k,.int .i64 (a:Int),.int .i64 (d:Int)]] w fun e w'=>e=.returned (.agg #[.slice A n k,.int .i64 (a:Int),.int .i64 ((d - 1:Nat):Int)])∧Below w.heap.size w w':=by
 by_cases h0:0<d
 ·have l0:(0:Int)<(d:Int):=by omega
  have l1:(d:Int)≤8:=by omega
  have e1:((d - 1:Nat):Int)=(d:Int) - 1:=by omega
  have E:=Hh e1;have H0:=Hh h0;clear hd e1;go_enter Tryz.func147,Tryz.ntmps147;go_wp2
  refine bodyPost_ret (v:=.agg #[.slice A n k,.int .i64 (a:Int),.int .i64 ((d - 1:Nat):Int)]) (by simp[results,Tryz.results147,go_sem,qA,E.out]) rfl ⟨rfl,?_⟩;exact((Below.refl _ _).alloc (Nat.le_refl _) _).alloc (by simp) _
 ·obtain rfl:d=0:=by omega
  go_enter Tryz.func147,Tryz.ntmps147;go_wp2
  refine bodyPost_ret (v:=.agg #[.slice A n k,.int .i64 (a:Int),.int .i64 0]) (by simp[results,Tryz.results147,go_sem,qA]) rfl ⟨rfl,?_⟩;exact((Below.refl _ _).alloc (Nat.le_refl _) _).alloc (by simp) _
theorem qfact_open(n:Nat)(ih:Znm n)(w:World)(r K:Nat)(L:List TokV)(a d:Nat)(vs:List Value)(ho:Zt w r K L)(hp:RPv r K L (.ok a d) vs)(hn:4*Zu L (.ok a d)+1≤n+1)(hLn:Zu L (.ok a d)≤68719476736)(hb:isT (Zv L a) Wn=true) :
  Calls Tryz.prog 174 #[.agg vs.toArray] w (PTo w r K L (Wd 3 L (n+1) (.ok a d)).2 (Wd 3 L (n+1) (.ok a d)).1.ds):=by
  have T0:=Hh (Env.start w);have HP0:=Hh hp;obtain⟨nn,hnn,rfl,ha,hd⟩:=hp.ok;have HP:=Hh HP0.out;clear HP0;have hrow:=ho (by omega);have HR:=Hh hrow;have HN:=Hh (And.intro hnn ha);clear hp hrow hnn;have hop:isS L Wn (.ok a d)=true:=hb;have hdn:=Zgn L hop;have heq:Wd 3 L (n+1) (.ok a d)=((Yd 3 L n (Vf L Wn (.ok a d))).1,Zes L Va (Yd 3 L n (Vf L Wn (.ok a d))).2):=by rw[Wd,if_pos hop]
  have his:∀ x,Uw x r K L→Calls Tryz.prog 47 #[.agg #[.slice (some ⟨r,0,none⟩) nn K,.int .i64 (a:Int),.int .i64 (d:Int)],.string ⟨#[40]⟩] x (fun e w'=>e=.returned (.bool true)∧Below x.heap.size x w'):=fun x h=>by rw[←hb];exact qIs x r K L nn a d Wn HN.out.1 h HN.out.2
  have hj1:∀(x:World)(us:List Value),Zt x r K L→RPv r K L (Ui (downV L (.ok a d)) (Zio (.ok a d))) us→Calls Tryz.prog 23 #[.agg us.toArray,.string ⟨#[40]⟩] x (PPo x r K L (Vf L Wn (.ok a d))):=fun x us h1 h2=>by
    rw[Zlx L Wn _ hop]at h2;exact Jf x r K L _ us Wn h1 h2
  have hex:∀(x:World)(us:List Value),Zt x r K L→RPv r K L (Vf L Wn (.ok a d)) us→Calls Tryz.prog 110 #[.agg us.toArray] x (PTo x r K L (Yd 3 L n (Vf L Wn (.ok a d))).2 (Yd 3 L n (Vf L Wn (.ok a d))).1.ds):=fun x us h1 h2=>ih x r K L _ us h1 h2 (by omega) (by omega)
  rw[heq];generalize Yd 3 L n (Vf L Wn (.ok a d))=x at *;have HX:=Hh x.1.ds_len;have hj2:∀(y:World)(us:List Value),Zt y r K L→RPv r K L x.2 us→Calls Tryz.prog 23 #[.agg us.toArray,.string ⟨#[41]⟩] y (PPo y r K L (Zx L Va x.2)):=fun y us h1 h2=>Jf y r K L _ us Va h1 h2
  show Calls _ _ _ _ (PTo w r K L (upS (Zx L Va x.2)) x.1.ds);generalize Zx L Va x.2=s4 at *;generalize Vf L Wn (.ok a d)=s2 at *;clear hb hop hdn heq hn hLn;go_enter Tryz.func174,Tryz.ntmps174;go_wp2_with(first
 |((with_reducible refine Zd 1 ?_);refine Zo T0.out 66 _ ([.slice (some ⟨r,0,none⟩) nn K,.int .i64 (a:Int),.int .i64 (d:Int),.int .i64 0,.int .i64 0,.int .i64 0]) rfl rfl rfl ?_;intro w1 g0 t1
   have T1:=Hh (t1);clear t1)
 |((with_reducible refine Zd 2 ?_);refine Zc T1.out 66 _ rfl rfl z_P ?_;intro w2 g1 t2
   have T2:=Hh (t2);clear t2)
 |((with_reducible refine Zd 3 ?_);refine Zc T2.out 54 _ rfl rfl Zem ?_;intro w3 g2 t3
   have T3:=Hh (t3);clear t3)
 |((with_reducible refine Zd 4 ?_);refine Zc T3.out 54 _ rfl rfl Zem ?_;intro w4 g3 t4
   have T4:=Hh (t4);clear t4)
 |((with_reducible refine Zg 4 9 ?_);refine Za 54 _ _ 54 g3 _ ([.int .i64 0,.int .i64 0,.int .i64 0,.int .i64 0,.int .i64 0,.int .i64 0,.slice none 0 0,.int .i64 0,.int .i64 0,.int .i64 0,.int .i64 0,.slice none 0 0]) (T4.out.get 3 rfl) rfl Yg (by simp[Value.oneCell']) rfl rfl rfl rfl rfl ?_
   intro w5 p5;have T5:=Hh (T4.out.put 3 rfl p5);obtain⟨c0,c1,c2,c3,c4,c5⟩:=Xs (T5.out.get 0 rfl);clear p5)
 |(go_at_call 47;refine(his _ (HR.out.below T5.out.below)).mono ?_;rintro e w6 ⟨rfl,b6⟩
   have T6:=Hh (T5.out.call b6);clear b6)
 |((with_reducible refine Zd 20 ?_);refine Zb 66 _ 66 g0 _ (T6.out.get 0 rfl) Zl Ya rfl rfl rfl ?_)
 |(go_at_call 146;refine(qdeeper _ r K L (.ok a d) [.slice (some ⟨r,0,none⟩) nn K,.int .i64 (a:Int),.int .i64 (d:Int),.int .i64 0,.int .i64 0,.int .i64 0] (ho.below T6.out.below) HP.out).mono ?_;rintro e w7 ⟨v1,rfl,h1,b7⟩
   have T7:=Hh (T6.out.call b7);clear b7)
 |(go_at_call 23;(with_reducible refine(hj1 _ v1 (ho.below T7.out.below) h1).mono ?_);rintro e w8 ⟨v2,rfl,h2,b8⟩
   have T8:=Hh (T7.out.call b8);clear b8)
 |(go_at_call 110;refine(hex _ v2 (ho.below T8.out.below) h2).mono ?_;rintro e w9 ⟨v3,u3,rfl,h3,d3,b9⟩
   have T9:=Hh (T8.out.tree b9 d3);have l3:=(d3.len.trans HX.out)
   have o3:=Hh d3.one;clear d3;clear b9)
 |((with_reducible refine Zd 5 ?_);refine Zc T9.out 66 _ rfl rfl z_P ?_;intro w10 g4 t10
   have T10:=Hh (t10);clear t10)
 |((with_reducible refine Zd 6 ?_);refine Zc T10.out 54 _ rfl rfl Zem ?_;intro w11 g5 t11
   have T11:=Hh (t11);clear t11)
 |((with_reducible refine Zg 5 24 ?_);refine Za 66 _ _ 66 g4 _ (v3) (T11.out.get 4 rfl) h3.len (Ze h3.len) h3.one rfl rfl rfl rfl rfl ?_
   intro w12 p12;have T12:=Hh (T11.out.put 4 rfl p12);clear p12)
 |((with_reducible refine Zg 6 25 ?_);refine Za 54 _ _ 54 g5 _ (u3) (T12.out.get 5 rfl) l3 (Yy l3) o3.out rfl rfl rfl rfl rfl ?_
   intro w13 p13;have T13:=Hh (T12.out.put 5 rfl p13);clear p13)
 |((with_reducible refine Zd 26 ?_);refine Zb 66 _ 66 g4 _ (T13.out.get 4 rfl) Zl (Ze h3.len) rfl rfl rfl ?_)
 |(go_at_call 23;(with_reducible refine(hj2 _ v3 (ho.below T13.out.below) h3).mono ?_);rintro e w14 ⟨v4,rfl,h4,b14⟩
   obtain⟨A4,n4,k4,a4,d4,rfl,hd4,_⟩:=h4.form;have T14:=Hh (T13.out.call b14);clear b14)
 |((with_reducible refine Zg 5 27 ?_);refine Za 66 _ _ 66 g4 _ ([.slice A4 n4 k4,.int .i64 (a4:Int),.int .i64 (d4:Int),.int .i64 (Yx s4).1,.int .i64 ((Yx s4).2.1:Int),.int .i64 ((Yx s4).2.2:Int)]) (T14.out.get 4 rfl) (h3.len.symm) Ya (by simp[Value.oneCell']) rfl rfl rfl rfl rfl ?_
   intro w15 p15;have T15:=Hh (T14.out.put 4 rfl p15);clear p15)
 |((with_reducible refine Zd 29 ?_);refine Xn 64 _ 66 g4 0 ([]) ([.slice A4 n4 k4,.int .i64 (a4:Int),.int .i64 (d4:Int)]) ([.int .i64 (Yx s4).1,.int .i64 ((Yx s4).2.1:Int),.int .i64 ((Yx s4).2.2:Int)]) (T15.out.get 4 rfl) rfl Zay Ws rfl rfl rfl ?_)
 |(go_at_call 147;refine(qUpA _ A4 n4 k4 a4 d4 hd4).mono ?_;rintro e w16 ⟨rfl,b16⟩
   have T16:=Hh (T15.out.call b16);clear b16)
 |((with_reducible refine Zg 31 30 ?_);refine Xf 64 _ _ 66 g4 0 ([]) ([.slice A4 n4 k4,.int .i64 (a4:Int),.int .i64 (d4:Int)]) ([.int .i64 (Yx s4).1,.int .i64 ((Yx s4).2.1:Int),.int .i64 ((Yx s4).2.2:Int)]) ([.slice A4 n4 k4,.int .i64 (a4:Int),.int .i64 ((d4 - 1:Nat):Int)]) (T16.out.get 4 rfl) rfl rfl Ws (by simp[Value.oneCell']) rfl rfl rfl rfl rfl ?_
   intro w17 p17;have T17:Hid (Env w [(g0,66,[.slice (some ⟨r,0,none⟩) nn K,.int .i64 (a:Int),.int .i64 (d:Int),.int .i64 0,.int .i64 0,.int .i64 0]),(g1,66,[.slice none 0 0,.int .i64 0,.int .i64 0,.int .i64 0,.int .i64 0,.int .i64 0]),(g2,54,[.int .i64 0,.int .i64 0,.int .i64 0,.int .i64 0,.int .i64 0,.int .i64 0,.slice none 0 0,.int .i64 0,.int .i64 0,.int .i64 0,.int .i64 0,.slice none 0 0]),(g3,54,[.int .i64 0,.int .i64 0,.int .i64 0,.int .i64 0,.int .i64 0,.int .i64 0,.slice none 0 0,.int .i64 0,.int .i64 0,.int .i64 0,.int .i64 0,.slice none 0 0]),(g4,66,[.slice A4 n4 k4,.int .i64 (a4:Int),.int .i64 ((d4 - 1:Nat):Int),.int .i64 (Yx s4).1,.int .i64 ((Yx s4).2.1:Int),.int .i64 ((Yx s4).2.2:Int)]),(g5,54,u3)] [] [(x.1.ds,u3)] w17):=Hh (T16.out.put 4 rfl p17);clear p17))
  refine ret2 mixed (by kernel_rfl) (by kernel_rfl) (by kernel_rfl) (by kernel_rfl) (by kernel_rfl) (by kernel_rfl) (by kernel_rfl) (by kernel_rfl) rfl rfl rfl rfl rfl rfl rfl rfl rfl rfl g4 g5 g1 g2 ([.slice A4 n4 k4,.int .i64 (a4:Int),.int .i64 ((d4 - 1:Nat):Int),.int .i64 (Yx s4).1,.int .i64 ((Yx s4).2.1:Int),.int .i64 ((Yx s4).2.2:Int)]) (u3) ([.slice none 0 0,.int .i64 0,.int .i64 0,.int .i64 0,.int .i64 0,.int .i64 0]) ([.int .i64 0,.int .i64 0,.int .i64 0,.int .i64 0,.int .i64 0,.int .i64 0,.slice none 0 0,.int .i64 0,.int .i64 0,.int .i64 0,.int .i64 0,.slice none 0 0]) (T17.out.get 4 rfl) (T17.out.get 5 rfl) (T17.out.get 1 rfl) (T17.out.get 2 rfl) rfl l3 (by simp[Value.oneCell']) o3.out (T17.out.ne 4 1 (by decide) rfl rfl) (T17.out.ne 4 2 (by decide) rfl rfl) (T17.out.ne 5 1 (by decide) rfl rfl) (T17.out.ne 5 2 (by decide) rfl rfl) (T17.out.ne 1 2 (by decide) rfl rfl) Zl Ya Yr (Yy l3) rfl rfl rfl rfl rfl rfl ?_;intro wz hR;have HZ:=Hh hR;clear hR;go_wp2
  obtain⟨dz,bz⟩:=T17.out.ret2 1 2 rfl rfl HZ.out;refine Yo 2 66 3 54 66 54 _ _ _ _ rfl HZ.out.one HZ.out.two Zl Ya Yr (Yy l3) rfl rfl rfl ?_;exact⟨_,u3,rfl,h4.up,dz (_,u3) (List.mem_singleton.2 rfl),bz⟩
end Go.Proofs.YtdngkgickbaboaaGreat
