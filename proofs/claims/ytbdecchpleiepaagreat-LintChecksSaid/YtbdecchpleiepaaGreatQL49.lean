/- Parts of the proof. No conditions but those that each names. -/
import Derived.Test.YtbdecchpleiepaaGreatQL46
set_option maxRecDepth 20000
set_option maxHeartbeats 99000000
set_option linter.unusedVariables false
set_option linter.unusedSimpArgs false
namespace Go.Proofs.YtbdecchpleiepaaGreat
open Go.Value renaming int→I,slice→Λ,string→Ψ,oneCell'→Γ
open Go.IntKind renaming i64→J
open _root_.Go.Proofs.Tryz renaming prog→Φ
open And renaming intro→ζ
open Go.Ending renaming returned→η
open Go.ChangeShapes Go.WideShapes Go.ChangeAt Go.RowKit
def QActsOK(n:Nat):Prop:=∀(w:World)(r K:Nat)(L:List TokV)(st:St)(vs:List Value),Zu w r K L→RPv r K L st vs→8*Zx L st+8≤n→Zx L st≤68719476736 →
 Calls Φ 45 #[.agg vs.toArray] w (PRo w r K L (Xm 3 L n st).2 (Xm 3 L n st).1.len (Xm 3 L n st).1.ds)
def Zha(n:Nat):Prop:=∀(w:World)(r K:Nat)(L:List TokV)(st:St)(vs:List Value),Zu w r K L→RPv r K L st vs→8*Zx L st+9≤n→Zx L st≤68719476736 →
 Calls Φ 96 #[.agg vs.toArray] w (PRo w r K L (Yt 3 L n st).2 (Yt 3 L n st).1.len (Yt 3 L n st).1.ds)
def QActOK(n:Nat):Prop:=∀(w:World)(r K:Nat)(L:List TokV)(st:St)(vs:List Value)(k:Nat)(l c:Int),Zu w r K L→RPv r K L st vs→1≤k→k≤15→8*Zx L st+11≤n→Zx L st≤68719476736 →
 Calls Φ 63 #[.agg vs.toArray,.agg (Zbu k l c).toArray] w (PTo w r K L (Ud 3 L n (AH.zero k l c) k st).st (Ud 3 L n (AH.zero k l c) k st).ds)
theorem isS_deep_not(L:List TokV)(t:ByteArray)(st:St)(h:isS L t st=false):Zaa L t st=Zz L t st:=by unfold Zaa;rw[deep_not L t st h]
theorem qblock(n:Nat)(ih:QActsOK n):Zha (n+1):=by
 intro w r K L st vs ho hp hn hLn;have T0:=Hh (Env.start w);have hr:=Zln L Yu st;rw[Yt];have hac:∀(x:World)(us:List Value),Zu x r K L→RPv r K L (Zaa L Yu st) us→Calls Φ 45 #[.agg us.toArray] x (PRo x r K L (Xm 3 L n (Zaa L Yu st)).2 (Xm 3 L n (Zaa L Yu st)).1.len (Xm 3 L n (Zaa L Yu st)).1.ds):=fun x us h1 h2=>ih x r K L _ us h1 h2 (by omega) (by omega)
 have HP0:=Hh hp;have hdn:∀(x:World)(us:List Value),Zu x r K L→isS L Yu st=false→RPv r K L st us→Calls Φ 21 #[.agg us.toArray,Ψ ⟨#[123]⟩] x (PPo x r K L (Zaa L Yu st)):=fun x us h1 hs h2=>by rw[isS_deep_not L Yu st hs];exact Jh x r K L _ us Yu h1 h2
 have hdy:∀(x:World)(us:List Value),Zu x r K L→isS L Yu st=true→RPv r K L (Ji (downV L st) (Zpa st)) us→Calls Φ 21 #[.agg us.toArray,Ψ ⟨#[123]⟩] x (PPo x r K L (Zaa L Yu st)):=fun x us h1 hs h2=>by
  rw[deep_note L Yu _ hs]at h2;exact Jh x r K L _ us Yu h1 h2
 generalize hs2:Zaa L Yu st=s2 at *;show Calls _ _ _ _ (PRo w r K L (upS (Zz L Xl (Xm 3 L n s2).2)) (Xm 3 L n s2).1.len (Xm 3 L n s2).1.ds);generalize Xm 3 L n s2=x at *;have hj2:∀(y:World)(us:List Value),Zu y r K L→RPv r K L x.2 us→Calls Φ 21 #[.agg us.toArray,Ψ ⟨#[125]⟩] y (PPo y r K L (Zz L Xl x.2)):=fun y us h1 h2=>Jh y r K L _ us Xl h1 h2
 generalize Zz L Xl x.2=s4 at *;clear hs2 hn hLn hr;cases st with
 |bad F=>
  have hj1:=fun(x:World)(us:List Value)(h1:Zu x r K L)=>hdn x us h1 rfl
  obtain⟨A,nb,kb,a,d,rfl,hd,hF⟩:=hp.bad;have HP:=Hh HP0.out;clear HP0 hp hdn hdy;obtain⟨f0,f1,f2⟩:=F;have z0:(f0 == 0)=false:=by rw[beq_eq_false_iff_ne];exact hF
  clear hF;go_enter Tryz.func96,Tryz.ntmps96;go_wp2_with(first
 |((with_reducible refine Zd 1 ?_);refine Zf T0.out 51 _ ([Λ A nb kb,I J (a:Int),I J (d:Int),I J f0,I J (f1:Int),I J (f2:Int)]) rfl rfl rfl ?_;intro w1 g0 t1
   have T1:=Hh (t1);clear t1)
 |((with_reducible refine Zd 2 ?_);refine Zb T1.out 51 _ rfl rfl z_P ?_;intro w2 g1 t2
   have T2:=Hh (t2);obtain⟨c0,c1,c2,c3,c4,c5⟩:=Xu (T2.out.get 0 rfl);clear t2)
 |((with_reducible refine Zd 17 ?_);refine Zc 51 _ 51 g0 _ (T2.out.get 0 rfl) Zm Yc rfl rfl rfl ?_)
 |(go_at_call 21;(with_reducible refine(hj1 _ _ (ho.below T2.out.below) HP.out).mono ?_);rintro e w3 ⟨v2,rfl,h2,b3⟩
   have T3:=Hh (T2.out.call b3);clear b3)
 |(go_at_call 45;refine(hac _ v2 (ho.below T3.out.below) h2).mono ?_;rintro e w4 ⟨v3,f3,rfl,h3,d3,b4⟩
   have T4:=Hh (T3.out.tree b4 d3);clear d3;clear b4)
 |((with_reducible refine Zg 1 20 ?_);refine Za 51 _ _ 51 g0 _ (v3) (T4.out.get 0 rfl) h3.len (Ze h3.len) h3.one rfl rfl rfl rfl rfl ?_
   intro w5 p5;have T5:=Hh (T4.out.put 0 rfl p5);clear p5)
 |((with_reducible refine Zd 22 ?_);refine Zc 51 _ 51 g0 _ (T5.out.get 0 rfl) Zm (Ze h3.len) rfl rfl rfl ?_)
 |(go_at_call 21;(with_reducible refine(hj2 _ v3 (ho.below T5.out.below) h3).mono ?_);rintro e w6 ⟨v4,rfl,h4,b6⟩
   obtain⟨A4,n4,k4,a4,d4,rfl,hd4,_⟩:=h4.form;have T6:=Hh (T5.out.call b6);clear b6)
 |((with_reducible refine Zg 1 23 ?_);refine Za 51 _ _ 51 g0 _ ([Λ A4 n4 k4,I J (a4:Int),I J (d4:Int),I J (Xb s4).1,I J ((Xb s4).2.1:Int),I J ((Xb s4).2.2:Int)]) (T6.out.get 0 rfl) h3.len.symm Yc (by simp[Γ]) rfl rfl rfl rfl rfl ?_
   intro w7 p7;have T7:=Hh (T6.out.put 0 rfl p7);clear p7)
 |((with_reducible refine Zd 25 ?_);refine Xn 49 _ 51 g0 0 ([]) ([Λ A4 n4 k4,I J (a4:Int),I J (d4:Int)]) ([I J (Xb s4).1,I J ((Xb s4).2.1:Int),I J ((Xb s4).2.2:Int)]) (T7.out.get 0 rfl) rfl Zbh Wl rfl rfl rfl ?_)
 |(go_at_call 120;refine(qUpA _ A4 n4 k4 a4 d4 hd4).mono ?_;rintro e w8 ⟨rfl,b8⟩
   have T8:=Hh (T7.out.call b8);clear b8)
 |((with_reducible refine Zg 27 26 ?_);refine Xs 49 _ _ 51 g0 0 ([]) ([Λ A4 n4 k4,I J (a4:Int),I J (d4:Int)]) ([I J (Xb s4).1,I J ((Xb s4).2.1:Int),I J ((Xb s4).2.2:Int)]) ([Λ A4 n4 k4,I J (a4:Int),I J ((d4 - 1:Nat):Int)]) (T8.out.get 0 rfl) rfl rfl Wl (by simp[Γ]) rfl rfl rfl rfl rfl ?_
   intro w9 p9;have T9:=Hh (T8.out.put 0 rfl p9);clear p9)
 |((with_reducible refine Zd 28 ?_);refine Zc 51 _ 51 g0 _ (T9.out.get 0 rfl) Zm Yc rfl rfl rfl ?_)
 |((with_reducible refine Zg 2 28 ?_);refine Za 51 _ _ 51 g1 _ ([Λ A4 n4 k4,I J (a4:Int),I J ((d4 - 1:Nat):Int),I J (Xb s4).1,I J ((Xb s4).2.1:Int),I J ((Xb s4).2.2:Int)]) (T9.out.get 1 rfl) rfl Yc (by simp[Γ]) rfl rfl rfl rfl rfl ?_
   intro w10 p10;have T10:Hid (Env w [(g0,51,[Λ A4 n4 k4,I J (a4:Int),I J ((d4 - 1:Nat):Int),I J (Xb s4).1,I J ((Xb s4).2.1:Int),I J ((Xb s4).2.2:Int)]),(g1,51,[Λ A4 n4 k4,I J (a4:Int),I J ((d4 - 1:Nat):Int),I J (Xb s4).1,I J ((Xb s4).2.1:Int),I J ((Xb s4).2.2:Int)])] [] [(.row x.1.len x.1.ds .nil,[f3])] w10):=Hh (T9.out.put 1 rfl p10);clear p10))
  exact Xd 2 51 3 51 _ _ _ rfl (T10.out.get 1 rfl) Zm Yc rfl rfl rfl ⟨_,_,rfl,h4.up,T10.out.leaf 0 rfl,T10.out.below⟩
 |ok a d=>
  obtain⟨nn,hnn,rfl,ha,hd⟩:=hp.ok;have HP:=Hh HP0.out;have hrow:=ho (by omega);have HR:=Hh hrow;have HN:=Hh (ζ hnn ha);have his:∀ x,Uw x r K L→Calls Φ 39 #[.agg #[Λ (some ⟨r,0,none⟩) nn K,I J (a:Int),I J (d:Int)],Ψ ⟨#[123]⟩] x (fun e w'=>e=η (.bool (isT (Yb L a) Yu))∧Below x.heap.size x w'):=fun x h=>qIs x r K L nn a d Yu HN.out.1 h HN.out.2
  clear HP0 hp hrow hnn;cases hb:isT (Yb L a) Yu
  · have hj1:=fun(x:World)(us:List Value)(h1:Zu x r K L)=>hdn x us h1 hb
    rw[hb]at his;clear hdn hdy hb;go_enter Tryz.func96,Tryz.ntmps96;go_wp2_with(first
 |((with_reducible refine Zd 1 ?_);refine Zf T0.out 51 _ ([Λ (some ⟨r,0,none⟩) nn K,I J (a:Int),I J (d:Int),I J 0,I J 0,I J 0]) rfl rfl rfl ?_;intro w1 g0 t1
   have T1:=Hh (t1);clear t1)
 |((with_reducible refine Zd 2 ?_);refine Zb T1.out 51 _ rfl rfl z_P ?_;intro w2 g1 t2
   have T2:=Hh (t2);obtain⟨c0,c1,c2,c3,c4,c5⟩:=Xu (T2.out.get 0 rfl);clear t2)
 |(go_at_call 39;refine(his _ (HR.out.below T2.out.below)).mono ?_;rintro e w3 ⟨rfl,b3⟩
   have T3:=Hh (T2.out.call b3);clear b3)
 |((with_reducible refine Zd 17 ?_);refine Zc 51 _ 51 g0 _ (T3.out.get 0 rfl) Zm Yc rfl rfl rfl ?_)
 |(go_at_call 21;(with_reducible refine(hj1 _ _ (ho.below T3.out.below) HP.out).mono ?_);rintro e w4 ⟨v2,rfl,h2,b4⟩
   have T4:=Hh (T3.out.call b4);clear b4)
 |(go_at_call 45;refine(hac _ v2 (ho.below T4.out.below) h2).mono ?_;rintro e w5 ⟨v3,f3,rfl,h3,d3,b5⟩
   have T5:=Hh (T4.out.tree b5 d3);clear d3;clear b5)
 |((with_reducible refine Zg 1 20 ?_);refine Za 51 _ _ 51 g0 _ (v3) (T5.out.get 0 rfl) h3.len (Ze h3.len) h3.one rfl rfl rfl rfl rfl ?_
   intro w6 p6;have T6:=Hh (T5.out.put 0 rfl p6);clear p6)
 |((with_reducible refine Zd 22 ?_);refine Zc 51 _ 51 g0 _ (T6.out.get 0 rfl) Zm (Ze h3.len) rfl rfl rfl ?_)
 |(go_at_call 21;(with_reducible refine(hj2 _ v3 (ho.below T6.out.below) h3).mono ?_);rintro e w7 ⟨v4,rfl,h4,b7⟩
   obtain⟨A4,n4,k4,a4,d4,rfl,hd4,_⟩:=h4.form;have T7:=Hh (T6.out.call b7);clear b7)
 |((with_reducible refine Zg 1 23 ?_);refine Za 51 _ _ 51 g0 _ ([Λ A4 n4 k4,I J (a4:Int),I J (d4:Int),I J (Xb s4).1,I J ((Xb s4).2.1:Int),I J ((Xb s4).2.2:Int)]) (T7.out.get 0 rfl) h3.len.symm Yc (by simp[Γ]) rfl rfl rfl rfl rfl ?_
   intro w8 p8;have T8:=Hh (T7.out.put 0 rfl p8);clear p8)
 |((with_reducible refine Zd 25 ?_);refine Xn 49 _ 51 g0 0 ([]) ([Λ A4 n4 k4,I J (a4:Int),I J (d4:Int)]) ([I J (Xb s4).1,I J ((Xb s4).2.1:Int),I J ((Xb s4).2.2:Int)]) (T8.out.get 0 rfl) rfl Zbh Wl rfl rfl rfl ?_)
 |(go_at_call 120;refine(qUpA _ A4 n4 k4 a4 d4 hd4).mono ?_;rintro e w9 ⟨rfl,b9⟩
   have T9:=Hh (T8.out.call b9);clear b9)
 |((with_reducible refine Zg 27 26 ?_);refine Xs 49 _ _ 51 g0 0 ([]) ([Λ A4 n4 k4,I J (a4:Int),I J (d4:Int)]) ([I J (Xb s4).1,I J ((Xb s4).2.1:Int),I J ((Xb s4).2.2:Int)]) ([Λ A4 n4 k4,I J (a4:Int),I J ((d4 - 1:Nat):Int)]) (T9.out.get 0 rfl) rfl rfl Wl (by simp[Γ]) rfl rfl rfl rfl rfl ?_
   intro w10 p10;have T10:=Hh (T9.out.put 0 rfl p10);clear p10)
 |((with_reducible refine Zd 28 ?_);refine Zc 51 _ 51 g0 _ (T10.out.get 0 rfl) Zm Yc rfl rfl rfl ?_)
 |((with_reducible refine Zg 2 28 ?_);refine Za 51 _ _ 51 g1 _ ([Λ A4 n4 k4,I J (a4:Int),I J ((d4 - 1:Nat):Int),I J (Xb s4).1,I J ((Xb s4).2.1:Int),I J ((Xb s4).2.2:Int)]) (T10.out.get 1 rfl) rfl Yc (by simp[Γ]) rfl rfl rfl rfl rfl ?_
   intro w11 p11;have T11:Hid (Env w [(g0,51,[Λ A4 n4 k4,I J (a4:Int),I J ((d4 - 1:Nat):Int),I J (Xb s4).1,I J ((Xb s4).2.1:Int),I J ((Xb s4).2.2:Int)]),(g1,51,[Λ A4 n4 k4,I J (a4:Int),I J ((d4 - 1:Nat):Int),I J (Xb s4).1,I J ((Xb s4).2.1:Int),I J ((Xb s4).2.2:Int)])] [] [(.row x.1.len x.1.ds .nil,[f3])] w11):=Hh (T10.out.put 1 rfl p11)
   clear p11))
    exact Xd 2 51 3 51 _ _ _ rfl (T11.out.get 1 rfl) Zm Yc rfl rfl rfl ⟨_,_,rfl,h4.up,T11.out.leaf 0 rfl,T11.out.below⟩
  · have hj1:=fun(x:World)(us:List Value)(h1:Zu x r K L)=>hdy x us h1 hb
    rw[hb]at his;clear hdn hdy hb;go_enter Tryz.func96,Tryz.ntmps96;go_wp2_with(first
 |((with_reducible refine Zd 1 ?_);refine Zf T0.out 51 _ ([Λ (some ⟨r,0,none⟩) nn K,I J (a:Int),I J (d:Int),I J 0,I J 0,I J 0]) rfl rfl rfl ?_;intro w1 g0 t1
   have T1:=Hh (t1);clear t1)
 |((with_reducible refine Zd 2 ?_);refine Zb T1.out 51 _ rfl rfl z_P ?_;intro w2 g1 t2
   have T2:=Hh (t2);obtain⟨c0,c1,c2,c3,c4,c5⟩:=Xu (T2.out.get 0 rfl);clear t2)
 |(go_at_call 39;refine(his _ (HR.out.below T2.out.below)).mono ?_;rintro e w3 ⟨rfl,b3⟩
   have T3:=Hh (T2.out.call b3);clear b3)
 |((with_reducible refine Zd 14 ?_);refine Zc 51 _ 51 g0 _ (T3.out.get 0 rfl) Zm Yc rfl rfl rfl ?_)
 |(go_at_call 119;refine(qdeeper _ r K L _ _ (ho.below T3.out.below) HP.out).mono ?_;rintro e w4 ⟨v1,rfl,h1,b4⟩
   have T4:=Hh (T3.out.call b4);clear b4)
 |((with_reducible refine Zg 1 15 ?_);refine Za 51 _ _ 51 g0 _ (v1) (T4.out.get 0 rfl) h1.len (Ze h1.len) h1.one rfl rfl rfl rfl rfl ?_
   intro w5 p5;have T5:=Hh (T4.out.put 0 rfl p5);clear p5)
 |((with_reducible refine Zd 17 ?_);refine Zc 51 _ 51 g0 _ (T5.out.get 0 rfl) Zm (Ze h1.len) rfl rfl rfl ?_)
 |(go_at_call 21;(with_reducible refine(hj1 _ v1 (ho.below T5.out.below) h1).mono ?_);rintro e w6 ⟨v2,rfl,h2,b6⟩
   have T6:=Hh (T5.out.call b6);clear b6)
 |(go_at_call 45;refine(hac _ v2 (ho.below T6.out.below) h2).mono ?_;rintro e w7 ⟨v3,f3,rfl,h3,d3,b7⟩
   have T7:=Hh (T6.out.tree b7 d3);clear d3;clear b7)
 |((with_reducible refine Zg 1 20 ?_);refine Za 51 _ _ 51 g0 _ (v3) (T7.out.get 0 rfl) (h3.len.trans h1.len.symm) (Ze h3.len) h3.one rfl rfl rfl rfl rfl ?_
   intro w8 p8;have T8:=Hh (T7.out.put 0 rfl p8);clear p8)
 |((with_reducible refine Zd 22 ?_);refine Zc 51 _ 51 g0 _ (T8.out.get 0 rfl) Zm (Ze h3.len) rfl rfl rfl ?_)
 |(go_at_call 21;(with_reducible refine(hj2 _ v3 (ho.below T8.out.below) h3).mono ?_);rintro e w9 ⟨v4,rfl,h4,b9⟩
   obtain⟨A4,n4,k4,a4,d4,rfl,hd4,_⟩:=h4.form;have T9:=Hh (T8.out.call b9);clear b9)
 |((with_reducible refine Zg 1 23 ?_);refine Za 51 _ _ 51 g0 _ ([Λ A4 n4 k4,I J (a4:Int),I J (d4:Int),I J (Xb s4).1,I J ((Xb s4).2.1:Int),I J ((Xb s4).2.2:Int)]) (T9.out.get 0 rfl) h3.len.symm Yc (by simp[Γ]) rfl rfl rfl rfl rfl ?_
   intro w10 p10;have T10:=Hh (T9.out.put 0 rfl p10);clear p10)
 |((with_reducible refine Zd 25 ?_);refine Xn 49 _ 51 g0 0 ([]) ([Λ A4 n4 k4,I J (a4:Int),I J (d4:Int)]) ([I J (Xb s4).1,I J ((Xb s4).2.1:Int),I J ((Xb s4).2.2:Int)]) (T10.out.get 0 rfl) rfl Zbh Wl rfl rfl rfl ?_)
 |(go_at_call 120;refine(qUpA _ A4 n4 k4 a4 d4 hd4).mono ?_;rintro e w11 ⟨rfl,b11⟩
   have T11:=Hh (T10.out.call b11);clear b11)
 |((with_reducible refine Zg 27 26 ?_);refine Xs 49 _ _ 51 g0 0 ([]) ([Λ A4 n4 k4,I J (a4:Int),I J (d4:Int)]) ([I J (Xb s4).1,I J ((Xb s4).2.1:Int),I J ((Xb s4).2.2:Int)]) ([Λ A4 n4 k4,I J (a4:Int),I J ((d4 - 1:Nat):Int)]) (T11.out.get 0 rfl) rfl rfl Wl (by simp[Γ]) rfl rfl rfl rfl rfl ?_
   intro w12 p12;have T12:=Hh (T11.out.put 0 rfl p12);clear p12)
 |((with_reducible refine Zd 28 ?_);refine Zc 51 _ 51 g0 _ (T12.out.get 0 rfl) Zm Yc rfl rfl rfl ?_)
 |((with_reducible refine Zg 2 28 ?_);refine Za 51 _ _ 51 g1 _ ([Λ A4 n4 k4,I J (a4:Int),I J ((d4 - 1:Nat):Int),I J (Xb s4).1,I J ((Xb s4).2.1:Int),I J ((Xb s4).2.2:Int)]) (T12.out.get 1 rfl) rfl Yc (by simp[Γ]) rfl rfl rfl rfl rfl ?_
   intro w13 p13;have T13:Hid (Env w [(g0,51,[Λ A4 n4 k4,I J (a4:Int),I J ((d4 - 1:Nat):Int),I J (Xb s4).1,I J ((Xb s4).2.1:Int),I J ((Xb s4).2.2:Int)]),(g1,51,[Λ A4 n4 k4,I J (a4:Int),I J ((d4 - 1:Nat):Int),I J (Xb s4).1,I J ((Xb s4).2.1:Int),I J ((Xb s4).2.2:Int)])] [] [(.row x.1.len x.1.ds .nil,[f3])] w13):=Hh (T12.out.put 1 rfl p13)
   clear p13))
    exact Xd 2 51 3 51 _ _ _ rfl (T13.out.get 1 rfl) Zm Yc rfl rfl rfl ⟨_,_,rfl,h4.up,T13.out.leaf 0 rfl,T13.out.below⟩
end Go.Proofs.YtbdecchpleiepaaGreat
