/- Parts of the proof. No conditions but those that each names. -/
import Derived.Test.YtbdecchpleiepaaGreatQL42
set_option maxRecDepth 20000
set_option maxHeartbeats 99000000
set_option linter.unusedVariables false
set_option linter.unusedSimpArgs false
namespace Go.Proofs.YtbdecchpleiepaaGreat
open Go.Value renaming int→I,slice→Λ,string→Ψ,oneCell'→Γ
open Go.IntKind renaming i64→J
open _root_.Go.Proofs.Tryz renaming prog→Φ
open Nat renaming le_refl→Θ
open And renaming intro→ζ
open Go.Ending renaming returned→η
open Go.ChangeShapes Go.WideShapes Go.ChangeAt Go.RowKit
def Zpc(n:Nat):Prop:=∀(w:World)(r K:Nat)(L:List TokV)(st:St)(vs:List Value),Zu w r K L→RPv r K L st vs→4*Zx L st+3≤n→Zx L st≤68719476736 →
 Calls Φ 94 #[.agg vs.toArray] w (PTo w r K L (Yj 3 L n st).2 (Yj 3 L n st).1.ds)
def QProdOK(n:Nat):Prop:=∀(w:World)(r K:Nat)(L:List TokV)(st:St)(vs:List Value),Zu w r K L→RPv r K L st vs→4*Zx L st+2≤n→Zx L st≤68719476736 →
 Calls Φ 118 #[.agg vs.toArray] w (PTo w r K L (Vp 3 L n st).2 (Vp 3 L n st).1.ds)
def QFactOK(n:Nat):Prop:=∀(w:World)(r K:Nat)(L:List TokV)(st:St)(vs:List Value),Zu w r K L→RPv r K L st vs→4*Zx L st+1≤n→Zx L st≤68719476736 →
 Calls Φ 147 #[.agg vs.toArray] w (PTo w r K L (Ww 3 L n st).2 (Ww 3 L n st).1.ds)
theorem Zfh:(Tryz.prog.info? 81).map (fun i=>i.zero.map Value.cells)=some (some ([I J 0,I J 0,I J 0,I J 0,I J 0,I J 0,Λ none 0 0,I J 0,I J 0,I J 0,I J 0,Λ none 0 0]:List Value).toArray):=by kernel_rfl
theorem RPv.up{r K:Nat}{L:List TokV}{st:St}{A:Option Addr}{n k a d:Nat}{f0:Int}{f1 f2:Nat}(h:RPv r K L st [Λ A n k,I J (a:Int),I J (d:Int),I J f0,I J (f1:Int),I J (f2:Int)]) :
  RPv r K L (upS st) [Λ A n k,I J (a:Int),I J ((d - 1:Nat):Int),I J f0,I J (f1:Int),I J (f2:Int)]:=by
 obtain⟨A',n',k',a',d',e,hd,hk⟩:=h.form;have hF:Xb (upS st)=Xb st:=by cases st<;>rfl
 injection e with e1 e;injection e with e2 e;injection e with e3 e;injection e with e4 e;injection e with e5 e;injection e with e6 e;injection e1 with e1 e1' e1'';injection e2 with _ e2;injection e3 with _ e3;have e2':a=a':=by omega
 have e3':d=d':=by omega
 subst e1 e1' e1'' e2' e3';refine⟨⟨A,n,k,a,d - 1,?_,by omega,?_⟩,?_⟩
 ·rw[hF,←e4,←e5,←e6]
 ·intro a1 d1 e
  cases st with
  |bad F=>cases e
  |ok b c=>
   cases e
   obtain⟨h1,h2,h3,h4,h5,h6⟩:=hk _ c rfl;exact⟨h1,h2,h3,h4,by rw[h5],h6⟩
 ·intro F e
  cases st with
  |ok b c=>cases e
  |bad G=>cases e;exact h.flt _ rfl
theorem qUpA(w:World)(A:Option Addr)(n k a d:Nat)(hd:d≤8) :
  Calls Φ 120 #[.agg #[Λ A n k,I J (a:Int),I J (d:Int)]] w fun e w'=>e=η (.agg #[Λ A n k,I J (a:Int),I J ((d - 1:Nat):Int)])∧Below w.heap.size w w':=by
 by_cases h0:0<d
 ·have l0:(0:Int)<(d:Int):=by omega
  have l1:(d:Int)≤8:=by omega
  have e1:((d - 1:Nat):Int)=(d:Int) - 1:=by omega
  have E:=Hh e1;have H0:=Hh h0;clear hd e1;go_enter Tryz.func120,Tryz.ntmps120;go_wp2
  refine bodyPost_ret (v:=.agg #[Λ A n k,I J (a:Int),I J ((d - 1:Nat):Int)]) (by simp[results,Tryz.results120,go_sem,qA,E.out]) rfl ⟨rfl,?_⟩;exact((Below.refl _ _).alloc (Θ _) _).alloc (by simp) _
 ·obtain rfl:d=0:=by omega
  go_enter Tryz.func120,Tryz.ntmps120;go_wp2
  refine bodyPost_ret (v:=.agg #[Λ A n k,I J (a:Int),I J 0]) (by simp[results,Tryz.results120,go_sem,qA]) rfl ⟨rfl,?_⟩;exact((Below.refl _ _).alloc (Θ _) _).alloc (by simp) _
theorem qfact_open(n:Nat)(ih:Zpc n)(w:World)(r K:Nat)(L:List TokV)(a d:Nat)(vs:List Value)(ho:Zu w r K L)(hp:RPv r K L (.ok a d) vs)(hn:4*Zx L (.ok a d)+1≤n+1)(hLn:Zx L (.ok a d)≤68719476736)(hb:isT (Yb L a) Zab=true) :
  Calls Φ 147 #[.agg vs.toArray] w (PTo w r K L (Ww 3 L (n+1) (.ok a d)).2 (Ww 3 L (n+1) (.ok a d)).1.ds):=by
  have T0:=Hh (Env.start w);have HP0:=Hh hp;obtain⟨nn,hnn,rfl,ha,hd⟩:=hp.ok;have HP:=Hh HP0.out;clear HP0;have hrow:=ho (by omega);have HR:=Hh hrow;have HN:=Hh (ζ hnn ha);clear hp hrow hnn;have hop:isS L Zab (.ok a d)=true:=hb;have hdn:=rem_downed L hop;have heq:Ww 3 L (n+1) (.ok a d)=((Yj 3 L n (Zaa L Zab (.ok a d))).1,Znl L Zeq (Yj 3 L n (Zaa L Zab (.ok a d))).2):=by rw[Ww,if_pos hop]
  have his:∀ x,Uw x r K L→Calls Φ 39 #[.agg #[Λ (some ⟨r,0,none⟩) nn K,I J (a:Int),I J (d:Int)],Ψ ⟨#[40]⟩] x (fun e w'=>e=η (.bool true)∧Below x.heap.size x w'):=fun x h=>by rw[←hb];exact qIs x r K L nn a d Zab HN.out.1 h HN.out.2
  have hj1:∀(x:World)(us:List Value),Zu x r K L→RPv r K L (Ji (downV L (.ok a d)) (Zpa (.ok a d))) us→Calls Φ 21 #[.agg us.toArray,Ψ ⟨#[40]⟩] x (PPo x r K L (Zaa L Zab (.ok a d))):=fun x us h1 h2=>by
    rw[deep_note L Zab _ hop]at h2;exact Jh x r K L _ us Zab h1 h2
  have hex:∀(x:World)(us:List Value),Zu x r K L→RPv r K L (Zaa L Zab (.ok a d)) us→Calls Φ 94 #[.agg us.toArray] x (PTo x r K L (Yj 3 L n (Zaa L Zab (.ok a d))).2 (Yj 3 L n (Zaa L Zab (.ok a d))).1.ds):=fun x us h1 h2=>ih x r K L _ us h1 h2 (by omega) (by omega)
  rw[heq];generalize Yj 3 L n (Zaa L Zab (.ok a d))=x at *;have HX:=Hh x.1.ds_len;have hj2:∀(y:World)(us:List Value),Zu y r K L→RPv r K L x.2 us→Calls Φ 21 #[.agg us.toArray,Ψ ⟨#[41]⟩] y (PPo y r K L (Zz L Zeq x.2)):=fun y us h1 h2=>Jh y r K L _ us Zeq h1 h2
  show Calls _ _ _ _ (PTo w r K L (upS (Zz L Zeq x.2)) x.1.ds);generalize Zz L Zeq x.2=s4 at *;generalize Zaa L Zab (.ok a d)=s2 at *;clear hb hop hdn heq hn hLn;go_enter Tryz.func147,Tryz.ntmps147;go_wp2_with(first
 |((with_reducible refine Zd 1 ?_);refine Zf T0.out 51 _ ([Λ (some ⟨r,0,none⟩) nn K,I J (a:Int),I J (d:Int),I J 0,I J 0,I J 0]) rfl rfl rfl ?_;intro w1 g0 t1
   have T1:=Hh (t1);clear t1)
 |((with_reducible refine Zd 2 ?_);refine Zb T1.out 51 _ rfl rfl z_P ?_;intro w2 g1 t2
   have T2:=Hh (t2);clear t2)
 |((with_reducible refine Zd 3 ?_);refine Zb T2.out 81 _ rfl rfl Zfh ?_;intro w3 g2 t3
   have T3:=Hh (t3);clear t3)
 |((with_reducible refine Zd 4 ?_);refine Zb T3.out 81 _ rfl rfl Zfh ?_;intro w4 g3 t4
   have T4:=Hh (t4);clear t4)
 |((with_reducible refine Zg 4 9 ?_);refine Za 81 _ _ 81 g3 _ ([I J 0,I J 0,I J 0,I J 0,I J 0,I J 0,Λ none 0 0,I J 0,I J 0,I J 0,I J 0,Λ none 0 0]) (T4.out.get 3 rfl) rfl Yi (by simp[Γ]) rfl rfl rfl rfl rfl ?_
   intro w5 p5;have T5:=Hh (T4.out.put 3 rfl p5);obtain⟨c0,c1,c2,c3,c4,c5⟩:=Xu (T5.out.get 0 rfl);clear p5)
 |(go_at_call 39;refine(his _ (HR.out.below T5.out.below)).mono ?_;rintro e w6 ⟨rfl,b6⟩
   have T6:=Hh (T5.out.call b6);clear b6)
 |((with_reducible refine Zd 20 ?_);refine Zc 51 _ 51 g0 _ (T6.out.get 0 rfl) Zm Yc rfl rfl rfl ?_)
 |(go_at_call 119;refine(qdeeper _ r K L (.ok a d) [Λ (some ⟨r,0,none⟩) nn K,I J (a:Int),I J (d:Int),I J 0,I J 0,I J 0] (ho.below T6.out.below) HP.out).mono ?_;rintro e w7 ⟨v1,rfl,h1,b7⟩
   have T7:=Hh (T6.out.call b7);clear b7)
 |(go_at_call 21;(with_reducible refine(hj1 _ v1 (ho.below T7.out.below) h1).mono ?_);rintro e w8 ⟨v2,rfl,h2,b8⟩
   have T8:=Hh (T7.out.call b8);clear b8)
 |(go_at_call 94;refine(hex _ v2 (ho.below T8.out.below) h2).mono ?_;rintro e w9 ⟨v3,u3,rfl,h3,d3,b9⟩
   have T9:=Hh (T8.out.tree b9 d3);have l3:=(d3.len.trans HX.out)
   have o3:=Hh d3.one;clear d3;clear b9)
 |((with_reducible refine Zd 5 ?_);refine Zb T9.out 51 _ rfl rfl z_P ?_;intro w10 g4 t10
   have T10:=Hh (t10);clear t10)
 |((with_reducible refine Zd 6 ?_);refine Zb T10.out 81 _ rfl rfl Zfh ?_;intro w11 g5 t11
   have T11:=Hh (t11);clear t11)
 |((with_reducible refine Zg 5 24 ?_);refine Za 51 _ _ 51 g4 _ (v3) (T11.out.get 4 rfl) h3.len (Ze h3.len) h3.one rfl rfl rfl rfl rfl ?_
   intro w12 p12;have T12:=Hh (T11.out.put 4 rfl p12);clear p12)
 |((with_reducible refine Zg 6 25 ?_);refine Za 81 _ _ 81 g5 _ (u3) (T12.out.get 5 rfl) l3 (Wo l3) o3.out rfl rfl rfl rfl rfl ?_
   intro w13 p13;have T13:=Hh (T12.out.put 5 rfl p13);clear p13)
 |((with_reducible refine Zd 26 ?_);refine Zc 51 _ 51 g4 _ (T13.out.get 4 rfl) Zm (Ze h3.len) rfl rfl rfl ?_)
 |(go_at_call 21;(with_reducible refine(hj2 _ v3 (ho.below T13.out.below) h3).mono ?_);rintro e w14 ⟨v4,rfl,h4,b14⟩
   obtain⟨A4,n4,k4,a4,d4,rfl,hd4,_⟩:=h4.form;have T14:=Hh (T13.out.call b14);clear b14)
 |((with_reducible refine Zg 5 27 ?_);refine Za 51 _ _ 51 g4 _ ([Λ A4 n4 k4,I J (a4:Int),I J (d4:Int),I J (Xb s4).1,I J ((Xb s4).2.1:Int),I J ((Xb s4).2.2:Int)]) (T14.out.get 4 rfl) (h3.len.symm) Yc (by simp[Γ]) rfl rfl rfl rfl rfl ?_
   intro w15 p15;have T15:=Hh (T14.out.put 4 rfl p15);clear p15)
 |((with_reducible refine Zd 29 ?_);refine Xn 49 _ 51 g4 0 ([]) ([Λ A4 n4 k4,I J (a4:Int),I J (d4:Int)]) ([I J (Xb s4).1,I J ((Xb s4).2.1:Int),I J ((Xb s4).2.2:Int)]) (T15.out.get 4 rfl) rfl Zbh Wl rfl rfl rfl ?_)
 |(go_at_call 120;refine(qUpA _ A4 n4 k4 a4 d4 hd4).mono ?_;rintro e w16 ⟨rfl,b16⟩
   have T16:=Hh (T15.out.call b16);clear b16)
 |((with_reducible refine Zg 31 30 ?_);refine Xs 49 _ _ 51 g4 0 ([]) ([Λ A4 n4 k4,I J (a4:Int),I J (d4:Int)]) ([I J (Xb s4).1,I J ((Xb s4).2.1:Int),I J ((Xb s4).2.2:Int)]) ([Λ A4 n4 k4,I J (a4:Int),I J ((d4 - 1:Nat):Int)]) (T16.out.get 4 rfl) rfl rfl Wl (by simp[Γ]) rfl rfl rfl rfl rfl ?_
   intro w17 p17;have T17:Hid (Env w [(g0,51,[Λ (some ⟨r,0,none⟩) nn K,I J (a:Int),I J (d:Int),I J 0,I J 0,I J 0]),(g1,51,[Λ none 0 0,I J 0,I J 0,I J 0,I J 0,I J 0]),(g2,81,[I J 0,I J 0,I J 0,I J 0,I J 0,I J 0,Λ none 0 0,I J 0,I J 0,I J 0,I J 0,Λ none 0 0]),(g3,81,[I J 0,I J 0,I J 0,I J 0,I J 0,I J 0,Λ none 0 0,I J 0,I J 0,I J 0,I J 0,Λ none 0 0]),(g4,51,[Λ A4 n4 k4,I J (a4:Int),I J ((d4 - 1:Nat):Int),I J (Xb s4).1,I J ((Xb s4).2.1:Int),I J ((Xb s4).2.2:Int)]),(g5,81,u3)] [] [(x.1.ds,u3)] w17):=Hh (T16.out.put 4 rfl p17);clear p17))
  refine ret2 mixed (by kernel_rfl) (by kernel_rfl) (by kernel_rfl) (by kernel_rfl) (by kernel_rfl) (by kernel_rfl) (by kernel_rfl) (by kernel_rfl) rfl rfl rfl rfl rfl rfl rfl rfl rfl rfl g4 g5 g1 g2 ([Λ A4 n4 k4,I J (a4:Int),I J ((d4 - 1:Nat):Int),I J (Xb s4).1,I J ((Xb s4).2.1:Int),I J ((Xb s4).2.2:Int)]) (u3) ([Λ none 0 0,I J 0,I J 0,I J 0,I J 0,I J 0]) ([I J 0,I J 0,I J 0,I J 0,I J 0,I J 0,Λ none 0 0,I J 0,I J 0,I J 0,I J 0,Λ none 0 0]) (T17.out.get 4 rfl) (T17.out.get 5 rfl) (T17.out.get 1 rfl) (T17.out.get 2 rfl) rfl l3 (by simp[Γ]) o3.out (T17.out.ne 4 1 (by decide) rfl rfl) (T17.out.ne 4 2 (by decide) rfl rfl) (T17.out.ne 5 1 (by decide) rfl rfl) (T17.out.ne 5 2 (by decide) rfl rfl) (T17.out.ne 1 2 (by decide) rfl rfl) Zm Yc Yy (Wo l3) rfl rfl rfl rfl rfl rfl ?_;intro wz hR;have HZ:=Hh hR;clear hR;go_wp2
  obtain⟨dz,bz⟩:=T17.out.ret2 1 2 rfl rfl HZ.out;refine Yp 2 51 3 81 51 81 _ _ _ _ rfl HZ.out.one HZ.out.two Zm Yc Yy (Wo l3) rfl rfl rfl ?_;exact⟨_,u3,rfl,h4.up,dz (_,u3) (List.mem_singleton.2 rfl),bz⟩
end Go.Proofs.YtbdecchpleiepaaGreat
