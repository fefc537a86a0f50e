/- Parts of the proof. No conditions but those that each names. -/
import Derived.Test.YtbdecchpleiepaaGreatQL45
set_option maxRecDepth 20000
set_option maxHeartbeats 99000000
set_option linter.unusedVariables false
set_option linter.unusedSimpArgs false
namespace Go.Proofs.YtbdecchpleiepaaGreat
open Go.Value renaming int→I,slice→Λ,string→Ψ
open Go.IntKind renaming i64→J
open _root_.Go.Proofs.Tryz renaming prog→Φ
open Go.Ending renaming returned→η
open Go.ChangeShapes Go.WideShapes Go.ChangeAt Go.RowKit
def Zbu(k l c:Int):List Value:=Ym k l c zseL zexL 0 0 0 0 ⟨#[]⟩ 0 zexL zexL (Λ none 0 0) (Λ none 0 0)
def PRo(w:World)(r K:Nat)(L:List TokV)(st:St)(n:Nat)(ds:Ds)(e:Ending)(w':World):Prop:=
 ∃(vs:List Value)(v:Value),e=η (.tuple #[.agg vs.toArray,v])∧RPv r K L st vs∧Zs (fun k=>w.heap.size≤k) w' (.row n ds .nil) [v]∧Below w.heap.size w w'
theorem qplain1(w:World)(r K:Nat)(L:List TokV)(st:St)(vs:List Value)(l c:Int)(n:Nat)(ho:Zu w r K L)(hp:RPv r K L st vs)(hn:4*Zx L st+3≤n)(hLn:Zx L st≤68719476736) :
  Calls Φ 63 #[.agg vs.toArray,.agg (Zbu 1 l c).toArray] w (PTo w r K L (Zz L Xg (Xi 3 L n (AH.zero 1 l c) 1 st).2) ((Xi 3 L n (AH.zero 1 l c) 1 st).1.dsr 0 .nil 0 .nil)):=by
  have T0:=Hh (Env.start w);unfold Zbu;show Calls _ _ _ _ (PTo w r K L (Zz L Xg ((Yj 3 L n ((Xz 3 L n st).2)).2)) ((⟨1,l,c,(Xz 3 L n st).1,(Yj 3 L n ((Xz 3 L n st).2)).1,0,0,0,0,⟨#[]⟩,0,zEx,zEx⟩:AH).dsr 0 .nil 0 .nil));have hr1:=Zal L 3 n st;have hse:∀(x:World)(us:List Value),Zu x r K L→RPv r K L (st) us→Calls Φ 91 #[.agg us.toArray] x (PTo x r K L (Xz 3 L n st).2 (Xz 3 L n st).1.ds):=fun x us h1 h2=>qSel x r K L _ us n h1 h2 (by omega) (by omega)
  generalize Xz 3 L n st=xs at *;have hex:∀(x:World)(us:List Value),Zu x r K L→RPv r K L (xs.2) us→Calls Φ 94 #[.agg us.toArray] x (PTo x r K L (Yj 3 L n (xs.2)).2 (Yj 3 L n (xs.2)).1.ds):=fun x us h1 h2=>Zkd x r K L _ us n h1 h2 (by omega) (by omega)
  generalize Yj 3 L n (xs.2)=xn at *;have hju:∀(x:World)(us:List Value),Zu x r K L→RPv r K L (xn.2) us→Calls Φ 21 #[.agg us.toArray,Ψ ⟨#[59]⟩] x (PPo x r K L (Zz L Xg (xn.2))):=fun x us h1 h2=>Jh x r K L _ us Xg h1 h2
  clear hn hLn;go_enter Tryz.func63,Tryz.ntmps63;go_wp2_with(first
 |((with_reducible refine Zd 2 ?_);refine Zf T0.out 51 _ (vs) rfl rfl rfl ?_;intro w1 g0 t1
   have T1:=Hh (t1);clear t1)
 |((with_reducible refine Zd 3 ?_);refine Zf T1.out 85 _ (Ym 1 l c zseL zexL 0 0 0 0 ⟨#[]⟩ 0 zexL zexL (Λ none 0 0) (Λ none 0 0)) rfl rfl rfl ?_;intro w2 g1 t2
   have T2:=Hh (t2);clear t2)
 |((with_reducible refine Zd 4 ?_);refine Zb T2.out 51 _ rfl rfl z_P ?_;intro w3 g2 t3
   have T3:=Hh (t3);clear t3)
 |((with_reducible refine Zd 5 ?_);refine Zb T3.out 85 _ rfl rfl Zeg ?_;intro w4 g3 t4
   have T4:=Hh (t4);have hk0:=T4.out.cell 1 0 rfl rfl;clear t4)
 |((with_reducible refine Zd 34 ?_);refine Zc 51 _ 51 g0 _ (T4.out.get 0 rfl) Zm (Ze hp.len) rfl rfl rfl ?_)
 |(go_at_call 91;refine(hse _ vs (ho.below T4.out.below) hp).mono ?_;rintro e w5 ⟨v5,u5,rfl,h5,d5,b5⟩
   have ls:=d5.len6;have os:=Hh d5.one;have T5:=Hh (T4.out.tree b5 d5);clear b5)
 |((with_reducible refine Zg 2 36 ?_);refine Za 51 _ _ 51 g0 _ (v5) (T5.out.get 0 rfl) (h5.len.trans hp.len.symm) (Ze h5.len) h5.one rfl rfl rfl rfl rfl ?_
   intro w6 p6;have T6:=Hh (T5.out.put 0 rfl p6);clear p6)
 |((with_reducible refine Zg 38 37 ?_);refine Zfz 76 _ _ 85 g1 (T6.out.get 1 rfl) rfl ls Vi os.out rfl rfl rfl rfl rfl ?_
   intro w7 p7;have T7:=Hh (T6.out.put 1 rfl p7);clear p7)
 |((with_reducible refine Zd 119 ?_);refine Zc 51 _ 51 g0 _ (T7.out.get 0 rfl) Zm (Ze h5.len) rfl rfl rfl ?_)
 |(go_at_call 94;refine(hex _ v5 (ho.below T7.out.below) h5).mono ?_;rintro e w8 ⟨v8,u8,rfl,h8,d8,b8⟩
   have le:=d8.len12;have oe:=Hh d8.one;have T8:=Hh (T7.out.tree b8 d8);clear b8)
 |((with_reducible refine Zg 2 121 ?_);refine Za 51 _ _ 51 g0 _ (v8) (T8.out.get 0 rfl) (h8.len.trans h5.len.symm) (Ze h8.len) h8.one rfl rfl rfl rfl rfl ?_
   intro w9 p9;have T9:=Hh (T8.out.put 0 rfl p9);clear p9)
 |((with_reducible refine Zg 123 122 ?_);refine Zhk 81 _ _ 85 g1 (T9.out.get 1 rfl) ls rfl le Yi oe.out rfl rfl rfl rfl rfl ?_
   intro w10 p10;have T10:Hid (Env w [(g0,51,v8),(g1,85,Ym 1 l c u5 u8 0 0 0 0 ⟨#[]⟩ 0 zexL zexL (Λ none 0 0) (Λ none 0 0)),(g2,51,[Λ none 0 0,I J 0,I J 0,I J 0,I J 0,I J 0]),(g3,85,Vg)] [] [(xs.1.ds,u5),(xn.1.ds,u8)] w10):=Hh (T9.out.put 1 rfl p10);clear p10))
  have D10:=Hh (show Zs (fun k=>w.heap.size≤k) w10 (((⟨1,l,c,xs.1,xn.1,0,0,0,0,⟨#[]⟩,0,zEx,zEx⟩:AH)).dsr 0 .nil 0 .nil) (Ym 1 l c u5 u8 0 0 0 0 ⟨#[]⟩ 0 zexL zexL (Λ none 0 0) (Λ none 0 0))from(Xc _ _ _ _ _ _ _ _ _ (T10.out.leaf 0 rfl) (T10.out.leaf 1 rfl) (Zv _ _) (Zv _ _) (Yd _ _) (Yd _ _)));refine Zkp mixed (by kernel_rfl) (by kernel_rfl) (by kernel_rfl) (by kernel_rfl) (by kernel_rfl) (by kernel_rfl) (by kernel_rfl) (by kernel_rfl) (by kernel_rfl) rfl rfl rfl rfl rfl rfl rfl rfl rfl rfl rfl g0 g1 g2 g3 (v8) (Ym 1 l c u5 u8 0 0 0 0 ⟨#[]⟩ 0 zexL zexL (Λ none 0 0) (Λ none 0 0)) ([Λ none 0 0,I J 0,I J 0,I J 0,I J 0,I J 0]) (Vg) (T10.out.get 0 rfl) (T10.out.get 1 rfl) (T10.out.get 2 rfl) (T10.out.get 3 rfl) 21 #[.agg v8.toArray,Ψ ⟨#[59]⟩] (fun l=>RPv r K L (Zz L Xg (xn.2)) l) (fun _=>by first | kernel_rfl | (go_simp;done) | (simp[go_sem,execOp];done)) (hju _ v8 (ho.below T10.out.drew.below) h8) (fun _ hh=>hh.len) (D10.out.len.trans (AH.dsr_len _ _ _ _ _)) (fun _ hh=>hh.one) D10.out.one (T10.out.ne 0 2 (by decide) rfl rfl) (T10.out.ne 0 3 (by decide) rfl rfl) (T10.out.ne 1 2 (by decide) rfl rfl) (T10.out.ne 1 3 (by decide) rfl rfl) (T10.out.ne 2 3 (by decide) rfl rfl) h8.len Zm (Ze h8.len) Xk (Yn (D10.out.len.trans (AH.dsr_len _ _ _ _ _))) rfl rfl (fun _=>rfl) (fun _=>rfl) (fun _=>rfl) (fun _=>rfl) ?_;intro vz wz hz hR;have HZ:=Hh hR;clear hR;go_wp2
  obtain⟨dz,bz⟩:=T10.out.ret2 2 3 rfl rfl HZ.out;refine Yp 4 51 5 85 51 85 _ _ _ _ rfl HZ.out.one HZ.out.two Zm (Ze hz.len) Xk (Yn (D10.out.len.trans (AH.dsr_len _ _ _ _ _))) rfl rfl rfl ?_;exact⟨_,_,rfl,hz,(Xc _ _ _ _ _ _ _ _ _ (dz _ (List.mem_of_getElem? (i:=0) rfl)) (dz _ (List.mem_of_getElem? (i:=1) rfl)) (Zv _ _) (Zv _ _) (Yd _ _) (Yd _ _)),bz⟩
theorem qplain2(w:World)(r K:Nat)(L:List TokV)(st:St)(vs:List Value)(l c:Int)(n:Nat)(ho:Zu w r K L)(hp:RPv r K L st vs)(hn:4*Zx L st+3≤n)(hLn:Zx L st≤68719476736) :
  Calls Φ 63 #[.agg vs.toArray,.agg (Zbu 2 l c).toArray] w (PTo w r K L (Zz L Xg (Xi 3 L n (AH.zero 2 l c) 2 st).2) ((Xi 3 L n (AH.zero 2 l c) 2 st).1.dsr 0 .nil 0 .nil)):=by
  have T0:=Hh (Env.start w);unfold Zbu;show Calls _ _ _ _ (PTo w r K L (Zz L Xg ((Yj 3 L n ((Xz 3 L n st).2)).2)) ((⟨2,l,c,(Xz 3 L n st).1,(Yj 3 L n ((Xz 3 L n st).2)).1,0,0,0,0,⟨#[]⟩,0,zEx,zEx⟩:AH).dsr 0 .nil 0 .nil));have hr1:=Zal L 3 n st;have hse:∀(x:World)(us:List Value),Zu x r K L→RPv r K L (st) us→Calls Φ 91 #[.agg us.toArray] x (PTo x r K L (Xz 3 L n st).2 (Xz 3 L n st).1.ds):=fun x us h1 h2=>qSel x r K L _ us n h1 h2 (by omega) (by omega)
  generalize Xz 3 L n st=xs at *;have hex:∀(x:World)(us:List Value),Zu x r K L→RPv r K L (xs.2) us→Calls Φ 94 #[.agg us.toArray] x (PTo x r K L (Yj 3 L n (xs.2)).2 (Yj 3 L n (xs.2)).1.ds):=fun x us h1 h2=>Zkd x r K L _ us n h1 h2 (by omega) (by omega)
  generalize Yj 3 L n (xs.2)=xn at *;have hju:∀(x:World)(us:List Value),Zu x r K L→RPv r K L (xn.2) us→Calls Φ 21 #[.agg us.toArray,Ψ ⟨#[59]⟩] x (PPo x r K L (Zz L Xg (xn.2))):=fun x us h1 h2=>Jh x r K L _ us Xg h1 h2
  clear hn hLn;go_enter Tryz.func63,Tryz.ntmps63;go_wp2_with(first
 |((with_reducible refine Zd 2 ?_);refine Zf T0.out 51 _ (vs) rfl rfl rfl ?_;intro w1 g0 t1
   have T1:=Hh (t1);clear t1)
 |((with_reducible refine Zd 3 ?_);refine Zf T1.out 85 _ (Ym 2 l c zseL zexL 0 0 0 0 ⟨#[]⟩ 0 zexL zexL (Λ none 0 0) (Λ none 0 0)) rfl rfl rfl ?_;intro w2 g1 t2
   have T2:=Hh (t2);clear t2)
 |((with_reducible refine Zd 4 ?_);refine Zb T2.out 51 _ rfl rfl z_P ?_;intro w3 g2 t3
   have T3:=Hh (t3);clear t3)
 |((with_reducible refine Zd 5 ?_);refine Zb T3.out 85 _ rfl rfl Zeg ?_;intro w4 g3 t4
   have T4:=Hh (t4);have hk0:=T4.out.cell 1 0 rfl rfl;clear t4)
 |((with_reducible refine Zd 34 ?_);refine Zc 51 _ 51 g0 _ (T4.out.get 0 rfl) Zm (Ze hp.len) rfl rfl rfl ?_)
 |(go_at_call 91;refine(hse _ vs (ho.below T4.out.below) hp).mono ?_;rintro e w5 ⟨v5,u5,rfl,h5,d5,b5⟩
   have ls:=d5.len6;have os:=Hh d5.one;have T5:=Hh (T4.out.tree b5 d5);clear b5)
 |((with_reducible refine Zg 2 36 ?_);refine Za 51 _ _ 51 g0 _ (v5) (T5.out.get 0 rfl) (h5.len.trans hp.len.symm) (Ze h5.len) h5.one rfl rfl rfl rfl rfl ?_
   intro w6 p6;have T6:=Hh (T5.out.put 0 rfl p6);clear p6)
 |((with_reducible refine Zg 38 37 ?_);refine Zfz 76 _ _ 85 g1 (T6.out.get 1 rfl) rfl ls Vi os.out rfl rfl rfl rfl rfl ?_
   intro w7 p7;have T7:=Hh (T6.out.put 1 rfl p7);clear p7)
 |((with_reducible refine Zd 119 ?_);refine Zc 51 _ 51 g0 _ (T7.out.get 0 rfl) Zm (Ze h5.len) rfl rfl rfl ?_)
 |(go_at_call 94;refine(hex _ v5 (ho.below T7.out.below) h5).mono ?_;rintro e w8 ⟨v8,u8,rfl,h8,d8,b8⟩
   have le:=d8.len12;have oe:=Hh d8.one;have T8:=Hh (T7.out.tree b8 d8);clear b8)
 |((with_reducible refine Zg 2 121 ?_);refine Za 51 _ _ 51 g0 _ (v8) (T8.out.get 0 rfl) (h8.len.trans h5.len.symm) (Ze h8.len) h8.one rfl rfl rfl rfl rfl ?_
   intro w9 p9;have T9:=Hh (T8.out.put 0 rfl p9);clear p9)
 |((with_reducible refine Zg 123 122 ?_);refine Zhk 81 _ _ 85 g1 (T9.out.get 1 rfl) ls rfl le Yi oe.out rfl rfl rfl rfl rfl ?_
   intro w10 p10;have T10:Hid (Env w [(g0,51,v8),(g1,85,Ym 2 l c u5 u8 0 0 0 0 ⟨#[]⟩ 0 zexL zexL (Λ none 0 0) (Λ none 0 0)),(g2,51,[Λ none 0 0,I J 0,I J 0,I J 0,I J 0,I J 0]),(g3,85,Vg)] [] [(xs.1.ds,u5),(xn.1.ds,u8)] w10):=Hh (T9.out.put 1 rfl p10);clear p10))
  have D10:=Hh (show Zs (fun k=>w.heap.size≤k) w10 (((⟨2,l,c,xs.1,xn.1,0,0,0,0,⟨#[]⟩,0,zEx,zEx⟩:AH)).dsr 0 .nil 0 .nil) (Ym 2 l c u5 u8 0 0 0 0 ⟨#[]⟩ 0 zexL zexL (Λ none 0 0) (Λ none 0 0))from(Xc _ _ _ _ _ _ _ _ _ (T10.out.leaf 0 rfl) (T10.out.leaf 1 rfl) (Zv _ _) (Zv _ _) (Yd _ _) (Yd _ _)));refine Zkp mixed (by kernel_rfl) (by kernel_rfl) (by kernel_rfl) (by kernel_rfl) (by kernel_rfl) (by kernel_rfl) (by kernel_rfl) (by kernel_rfl) (by kernel_rfl) rfl rfl rfl rfl rfl rfl rfl rfl rfl rfl rfl g0 g1 g2 g3 (v8) (Ym 2 l c u5 u8 0 0 0 0 ⟨#[]⟩ 0 zexL zexL (Λ none 0 0) (Λ none 0 0)) ([Λ none 0 0,I J 0,I J 0,I J 0,I J 0,I J 0]) (Vg) (T10.out.get 0 rfl) (T10.out.get 1 rfl) (T10.out.get 2 rfl) (T10.out.get 3 rfl) 21 #[.agg v8.toArray,Ψ ⟨#[59]⟩] (fun l=>RPv r K L (Zz L Xg (xn.2)) l) (fun _=>by first | kernel_rfl | (go_simp;done) | (simp[go_sem,execOp];done)) (hju _ v8 (ho.below T10.out.drew.below) h8) (fun _ hh=>hh.len) (D10.out.len.trans (AH.dsr_len _ _ _ _ _)) (fun _ hh=>hh.one) D10.out.one (T10.out.ne 0 2 (by decide) rfl rfl) (T10.out.ne 0 3 (by decide) rfl rfl) (T10.out.ne 1 2 (by decide) rfl rfl) (T10.out.ne 1 3 (by decide) rfl rfl) (T10.out.ne 2 3 (by decide) rfl rfl) h8.len Zm (Ze h8.len) Xk (Yn (D10.out.len.trans (AH.dsr_len _ _ _ _ _))) rfl rfl (fun _=>rfl) (fun _=>rfl) (fun _=>rfl) (fun _=>rfl) ?_;intro vz wz hz hR;have HZ:=Hh hR;clear hR;go_wp2
  obtain⟨dz,bz⟩:=T10.out.ret2 2 3 rfl rfl HZ.out;refine Yp 4 51 5 85 51 85 _ _ _ _ rfl HZ.out.one HZ.out.two Zm (Ze hz.len) Xk (Yn (D10.out.len.trans (AH.dsr_len _ _ _ _ _))) rfl rfl rfl ?_;exact⟨_,_,rfl,hz,(Xc _ _ _ _ _ _ _ _ _ (dz _ (List.mem_of_getElem? (i:=0) rfl)) (dz _ (List.mem_of_getElem? (i:=1) rfl)) (Zv _ _) (Zv _ _) (Yd _ _) (Yd _ _)),bz⟩
theorem qplain12(w:World)(r K:Nat)(L:List TokV)(st:St)(vs:List Value)(l c:Int)(n:Nat)(ho:Zu w r K L)(hp:RPv r K L st vs)(hn:4*Zx L st+3≤n)(hLn:Zx L st≤68719476736) :
  Calls Φ 63 #[.agg vs.toArray,.agg (Zbu 12 l c).toArray] w (PTo w r K L (Zz L Xg (Xi 3 L n (AH.zero 12 l c) 12 st).2) ((Xi 3 L n (AH.zero 12 l c) 12 st).1.dsr 0 .nil 0 .nil)):=by
  have T0:=Hh (Env.start w);unfold Zbu;show Calls _ _ _ _ (PTo w r K L (Zz L Xg ((Yj 3 L n ((Xz 3 L n st).2)).2)) ((⟨12,l,c,(Xz 3 L n st).1,(Yj 3 L n ((Xz 3 L n st).2)).1,0,0,0,0,⟨#[]⟩,0,zEx,zEx⟩:AH).dsr 0 .nil 0 .nil));have hr1:=Zal L 3 n st;have hse:∀(x:World)(us:List Value),Zu x r K L→RPv r K L (st) us→Calls Φ 91 #[.agg us.toArray] x (PTo x r K L (Xz 3 L n st).2 (Xz 3 L n st).1.ds):=fun x us h1 h2=>qSel x r K L _ us n h1 h2 (by omega) (by omega)
  generalize Xz 3 L n st=xs at *;have hex:∀(x:World)(us:List Value),Zu x r K L→RPv r K L (xs.2) us→Calls Φ 94 #[.agg us.toArray] x (PTo x r K L (Yj 3 L n (xs.2)).2 (Yj 3 L n (xs.2)).1.ds):=fun x us h1 h2=>Zkd x r K L _ us n h1 h2 (by omega) (by omega)
  generalize Yj 3 L n (xs.2)=xn at *;have hju:∀(x:World)(us:List Value),Zu x r K L→RPv r K L (xn.2) us→Calls Φ 21 #[.agg us.toArray,Ψ ⟨#[59]⟩] x (PPo x r K L (Zz L Xg (xn.2))):=fun x us h1 h2=>Jh x r K L _ us Xg h1 h2
  clear hn hLn;go_enter Tryz.func63,Tryz.ntmps63;go_wp2_with(first
 |((with_reducible refine Zd 2 ?_);refine Zf T0.out 51 _ (vs) rfl rfl rfl ?_;intro w1 g0 t1
   have T1:=Hh (t1);clear t1)
 |((with_reducible refine Zd 3 ?_);refine Zf T1.out 85 _ (Ym 12 l c zseL zexL 0 0 0 0 ⟨#[]⟩ 0 zexL zexL (Λ none 0 0) (Λ none 0 0)) rfl rfl rfl ?_;intro w2 g1 t2
   have T2:=Hh (t2);clear t2)
 |((with_reducible refine Zd 4 ?_);refine Zb T2.out 51 _ rfl rfl z_P ?_;intro w3 g2 t3
   have T3:=Hh (t3);clear t3)
 |((with_reducible refine Zd 5 ?_);refine Zb T3.out 85 _ rfl rfl Zeg ?_;intro w4 g3 t4
   have T4:=Hh (t4);have hk0:=T4.out.cell 1 0 rfl rfl;clear t4)
 |((with_reducible refine Zd 34 ?_);refine Zc 51 _ 51 g0 _ (T4.out.get 0 rfl) Zm (Ze hp.len) rfl rfl rfl ?_)
 |(go_at_call 91;refine(hse _ vs (ho.below T4.out.below) hp).mono ?_;rintro e w5 ⟨v5,u5,rfl,h5,d5,b5⟩
   have ls:=d5.len6;have os:=Hh d5.one;have T5:=Hh (T4.out.tree b5 d5);clear b5)
 |((with_reducible refine Zg 2 36 ?_);refine Za 51 _ _ 51 g0 _ (v5) (T5.out.get 0 rfl) (h5.len.trans hp.len.symm) (Ze h5.len) h5.one rfl rfl rfl rfl rfl ?_
   intro w6 p6;have T6:=Hh (T5.out.put 0 rfl p6);clear p6)
 |((with_reducible refine Zg 38 37 ?_);refine Zfz 76 _ _ 85 g1 (T6.out.get 1 rfl) rfl ls Vi os.out rfl rfl rfl rfl rfl ?_
   intro w7 p7;have T7:=Hh (T6.out.put 1 rfl p7);clear p7)
 |((with_reducible refine Zd 119 ?_);refine Zc 51 _ 51 g0 _ (T7.out.get 0 rfl) Zm (Ze h5.len) rfl rfl rfl ?_)
 |(go_at_call 94;refine(hex _ v5 (ho.below T7.out.below) h5).mono ?_;rintro e w8 ⟨v8,u8,rfl,h8,d8,b8⟩
   have le:=d8.len12;have oe:=Hh d8.one;have T8:=Hh (T7.out.tree b8 d8);clear b8)
 |((with_reducible refine Zg 2 121 ?_);refine Za 51 _ _ 51 g0 _ (v8) (T8.out.get 0 rfl) (h8.len.trans h5.len.symm) (Ze h8.len) h8.one rfl rfl rfl rfl rfl ?_
   intro w9 p9;have T9:=Hh (T8.out.put 0 rfl p9);clear p9)
 |((with_reducible refine Zg 123 122 ?_);refine Zhk 81 _ _ 85 g1 (T9.out.get 1 rfl) ls rfl le Yi oe.out rfl rfl rfl rfl rfl ?_
   intro w10 p10;have T10:Hid (Env w [(g0,51,v8),(g1,85,Ym 12 l c u5 u8 0 0 0 0 ⟨#[]⟩ 0 zexL zexL (Λ none 0 0) (Λ none 0 0)),(g2,51,[Λ none 0 0,I J 0,I J 0,I J 0,I J 0,I J 0]),(g3,85,Vg)] [] [(xs.1.ds,u5),(xn.1.ds,u8)] w10):=Hh (T9.out.put 1 rfl p10);clear p10))
  have D10:=Hh (show Zs (fun k=>w.heap.size≤k) w10 (((⟨12,l,c,xs.1,xn.1,0,0,0,0,⟨#[]⟩,0,zEx,zEx⟩:AH)).dsr 0 .nil 0 .nil) (Ym 12 l c u5 u8 0 0 0 0 ⟨#[]⟩ 0 zexL zexL (Λ none 0 0) (Λ none 0 0))from(Xc _ _ _ _ _ _ _ _ _ (T10.out.leaf 0 rfl) (T10.out.leaf 1 rfl) (Zv _ _) (Zv _ _) (Yd _ _) (Yd _ _)));refine Zkp mixed (by kernel_rfl) (by kernel_rfl) (by kernel_rfl) (by kernel_rfl) (by kernel_rfl) (by kernel_rfl) (by kernel_rfl) (by kernel_rfl) (by kernel_rfl) rfl rfl rfl rfl rfl rfl rfl rfl rfl rfl rfl g0 g1 g2 g3 (v8) (Ym 12 l c u5 u8 0 0 0 0 ⟨#[]⟩ 0 zexL zexL (Λ none 0 0) (Λ none 0 0)) ([Λ none 0 0,I J 0,I J 0,I J 0,I J 0,I J 0]) (Vg) (T10.out.get 0 rfl) (T10.out.get 1 rfl) (T10.out.get 2 rfl) (T10.out.get 3 rfl) 21 #[.agg v8.toArray,Ψ ⟨#[59]⟩] (fun l=>RPv r K L (Zz L Xg (xn.2)) l) (fun _=>by first | kernel_rfl | (go_simp;done) | (simp[go_sem,execOp];done)) (hju _ v8 (ho.below T10.out.drew.below) h8) (fun _ hh=>hh.len) (D10.out.len.trans (AH.dsr_len _ _ _ _ _)) (fun _ hh=>hh.one) D10.out.one (T10.out.ne 0 2 (by decide) rfl rfl) (T10.out.ne 0 3 (by decide) rfl rfl) (T10.out.ne 1 2 (by decide) rfl rfl) (T10.out.ne 1 3 (by decide) rfl rfl) (T10.out.ne 2 3 (by decide) rfl rfl) h8.len Zm (Ze h8.len) Xk (Yn (D10.out.len.trans (AH.dsr_len _ _ _ _ _))) rfl rfl (fun _=>rfl) (fun _=>rfl) (fun _=>rfl) (fun _=>rfl) ?_;intro vz wz hz hR;have HZ:=Hh hR;clear hR;go_wp2
  obtain⟨dz,bz⟩:=T10.out.ret2 2 3 rfl rfl HZ.out;refine Yp 4 51 5 85 51 85 _ _ _ _ rfl HZ.out.one HZ.out.two Zm (Ze hz.len) Xk (Yn (D10.out.len.trans (AH.dsr_len _ _ _ _ _))) rfl rfl rfl ?_;exact⟨_,_,rfl,hz,(Xc _ _ _ _ _ _ _ _ _ (dz _ (List.mem_of_getElem? (i:=0) rfl)) (dz _ (List.mem_of_getElem? (i:=1) rfl)) (Zv _ _) (Zv _ _) (Yd _ _) (Yd _ _)),bz⟩
theorem qplain3(w:World)(r K:Nat)(L:List TokV)(st:St)(vs:List Value)(l c:Int)(n:Nat)(ho:Zu w r K L)(hp:RPv r K L st vs)(hn:4*Zx L st+3≤n)(hLn:Zx L st≤68719476736) :
  Calls Φ 63 #[.agg vs.toArray,.agg (Zbu 3 l c).toArray] w (PTo w r K L (Zz L Xg (Xi 3 L n (AH.zero 3 l c) 3 st).2) ((Xi 3 L n (AH.zero 3 l c) 3 st).1.dsr 0 .nil 0 .nil)):=by
  have T0:=Hh (Env.start w);unfold Zbu;show Calls _ _ _ _ (PTo w r K L (Zz L Xg ((Xz 3 L n st).2)) ((⟨3,l,c,(Xz 3 L n st).1,zEx,0,0,0,0,⟨#[]⟩,0,zEx,zEx⟩:AH).dsr 0 .nil 0 .nil));have hr1:=Zal L 3 n st;have hse:∀(x:World)(us:List Value),Zu x r K L→RPv r K L (st) us→Calls Φ 91 #[.agg us.toArray] x (PTo x r K L (Xz 3 L n st).2 (Xz 3 L n st).1.ds):=fun x us h1 h2=>qSel x r K L _ us n h1 h2 (by omega) (by omega)
  generalize Xz 3 L n st=xs at *;have hju:∀(x:World)(us:List Value),Zu x r K L→RPv r K L (xs.2) us→Calls Φ 21 #[.agg us.toArray,Ψ ⟨#[59]⟩] x (PPo x r K L (Zz L Xg (xs.2))):=fun x us h1 h2=>Jh x r K L _ us Xg h1 h2
  clear hn hLn;go_enter Tryz.func63,Tryz.ntmps63;go_wp2_with(first
 |((with_reducible refine Zd 2 ?_);refine Zf T0.out 51 _ (vs) rfl rfl rfl ?_;intro w1 g0 t1
   have T1:=Hh (t1);clear t1)
 |((with_reducible refine Zd 3 ?_);refine Zf T1.out 85 _ (Ym 3 l c zseL zexL 0 0 0 0 ⟨#[]⟩ 0 zexL zexL (Λ none 0 0) (Λ none 0 0)) rfl rfl rfl ?_;intro w2 g1 t2
   have T2:=Hh (t2);clear t2)
 |((with_reducible refine Zd 4 ?_);refine Zb T2.out 51 _ rfl rfl z_P ?_;intro w3 g2 t3
   have T3:=Hh (t3);clear t3)
 |((with_reducible refine Zd 5 ?_);refine Zb T3.out 85 _ rfl rfl Zeg ?_;intro w4 g3 t4
   have T4:=Hh (t4);have hk0:=T4.out.cell 1 0 rfl rfl;clear t4)
 |((with_reducible refine Zd 34 ?_);refine Zc 51 _ 51 g0 _ (T4.out.get 0 rfl) Zm (Ze hp.len) rfl rfl rfl ?_)
 |(go_at_call 91;refine(hse _ vs (ho.below T4.out.below) hp).mono ?_;rintro e w5 ⟨v5,u5,rfl,h5,d5,b5⟩
   have ls:=d5.len6;have os:=Hh d5.one;have T5:=Hh (T4.out.tree b5 d5);clear b5)
 |((with_reducible refine Zg 2 36 ?_);refine Za 51 _ _ 51 g0 _ (v5) (T5.out.get 0 rfl) (h5.len.trans hp.len.symm) (Ze h5.len) h5.one rfl rfl rfl rfl rfl ?_
   intro w6 p6;have T6:=Hh (T5.out.put 0 rfl p6);clear p6)
 |((with_reducible refine Zg 38 37 ?_);refine Zfz 76 _ _ 85 g1 (T6.out.get 1 rfl) rfl ls Vi os.out rfl rfl rfl rfl rfl ?_
   intro w7 p7;have T7:Hid (Env w [(g0,51,v5),(g1,85,Ym 3 l c u5 zexL 0 0 0 0 ⟨#[]⟩ 0 zexL zexL (Λ none 0 0) (Λ none 0 0)),(g2,51,[Λ none 0 0,I J 0,I J 0,I J 0,I J 0,I J 0]),(g3,85,Vg)] [] [(xs.1.ds,u5)] w7):=Hh (T6.out.put 1 rfl p7);clear p7))
  have D7:=Hh (show Zs (fun k=>w.heap.size≤k) w7 (((⟨3,l,c,xs.1,zEx,0,0,0,0,⟨#[]⟩,0,zEx,zEx⟩:AH)).dsr 0 .nil 0 .nil) (Ym 3 l c u5 zexL 0 0 0 0 ⟨#[]⟩ 0 zexL zexL (Λ none 0 0) (Λ none 0 0))from(Xc _ _ _ _ _ _ _ _ _ (T7.out.leaf 0 rfl) (Zv _ _) (Zv _ _) (Zv _ _) (Yd _ _) (Yd _ _)));refine Zkp mixed (by kernel_rfl) (by kernel_rfl) (by kernel_rfl) (by kernel_rfl) (by kernel_rfl) (by kernel_rfl) (by kernel_rfl) (by kernel_rfl) (by kernel_rfl) rfl rfl rfl rfl rfl rfl rfl rfl rfl rfl rfl g0 g1 g2 g3 (v5) (Ym 3 l c u5 zexL 0 0 0 0 ⟨#[]⟩ 0 zexL zexL (Λ none 0 0) (Λ none 0 0)) ([Λ none 0 0,I J 0,I J 0,I J 0,I J 0,I J 0]) (Vg) (T7.out.get 0 rfl) (T7.out.get 1 rfl) (T7.out.get 2 rfl) (T7.out.get 3 rfl) 21 #[.agg v5.toArray,Ψ ⟨#[59]⟩] (fun l=>RPv r K L (Zz L Xg (xs.2)) l) (fun _=>by first | kernel_rfl | (go_simp;done) | (simp[go_sem,execOp];done)) (hju _ v5 (ho.below T7.out.drew.below) h5) (fun _ hh=>hh.len) (D7.out.len.trans (AH.dsr_len _ _ _ _ _)) (fun _ hh=>hh.one) D7.out.one (T7.out.ne 0 2 (by decide) rfl rfl) (T7.out.ne 0 3 (by decide) rfl rfl) (T7.out.ne 1 2 (by decide) rfl rfl) (T7.out.ne 1 3 (by decide) rfl rfl) (T7.out.ne 2 3 (by decide) rfl rfl) h5.len Zm (Ze h5.len) Xk (Yn (D7.out.len.trans (AH.dsr_len _ _ _ _ _))) rfl rfl (fun _=>rfl) (fun _=>rfl) (fun _=>rfl) (fun _=>rfl) ?_;intro vz wz hz hR;have HZ:=Hh hR;clear hR;go_wp2
  obtain⟨dz,bz⟩:=T7.out.ret2 2 3 rfl rfl HZ.out;refine Yp 4 51 5 85 51 85 _ _ _ _ rfl HZ.out.one HZ.out.two Zm (Ze hz.len) Xk (Yn (D7.out.len.trans (AH.dsr_len _ _ _ _ _))) rfl rfl rfl ?_;exact⟨_,_,rfl,hz,(Xc _ _ _ _ _ _ _ _ _ (dz _ (List.mem_of_getElem? (i:=0) rfl)) (Zv _ _) (Zv _ _) (Zv _ _) (Yd _ _) (Yd _ _)),bz⟩
theorem qplain5(w:World)(r K:Nat)(L:List TokV)(st:St)(vs:List Value)(l c:Int)(n:Nat)(ho:Zu w r K L)(hp:RPv r K L st vs)(hn:4*Zx L st+3≤n)(hLn:Zx L st≤68719476736) :
  Calls Φ 63 #[.agg vs.toArray,.agg (Zbu 5 l c).toArray] w (PTo w r K L (Zz L Xg (Xi 3 L n (AH.zero 5 l c) 5 st).2) ((Xi 3 L n (AH.zero 5 l c) 5 st).1.dsr 0 .nil 0 .nil)):=by
  have T0:=Hh (Env.start w);unfold Zbu;show Calls _ _ _ _ (PTo w r K L (Zz L Xg ((Xz 3 L n st).2)) ((⟨5,l,c,(Xz 3 L n st).1,zEx,0,0,0,0,⟨#[]⟩,0,zEx,zEx⟩:AH).dsr 0 .nil 0 .nil));have hr1:=Zal L 3 n st;have hse:∀(x:World)(us:List Value),Zu x r K L→RPv r K L (st) us→Calls Φ 91 #[.agg us.toArray] x (PTo x r K L (Xz 3 L n st).2 (Xz 3 L n st).1.ds):=fun x us h1 h2=>qSel x r K L _ us n h1 h2 (by omega) (by omega)
  generalize Xz 3 L n st=xs at *;have hju:∀(x:World)(us:List Value),Zu x r K L→RPv r K L (xs.2) us→Calls Φ 21 #[.agg us.toArray,Ψ ⟨#[59]⟩] x (PPo x r K L (Zz L Xg (xs.2))):=fun x us h1 h2=>Jh x r K L _ us Xg h1 h2
  clear hn hLn;go_enter Tryz.func63,Tryz.ntmps63;go_wp2_with(first
 |((with_reducible refine Zd 2 ?_);refine Zf T0.out 51 _ (vs) rfl rfl rfl ?_;intro w1 g0 t1
   have T1:=Hh (t1);clear t1)
 |((with_reducible refine Zd 3 ?_);refine Zf T1.out 85 _ (Ym 5 l c zseL zexL 0 0 0 0 ⟨#[]⟩ 0 zexL zexL (Λ none 0 0) (Λ none 0 0)) rfl rfl rfl ?_;intro w2 g1 t2
   have T2:=Hh (t2);clear t2)
 |((with_reducible refine Zd 4 ?_);refine Zb T2.out 51 _ rfl rfl z_P ?_;intro w3 g2 t3
   have T3:=Hh (t3);clear t3)
 |((with_reducible refine Zd 5 ?_);refine Zb T3.out 85 _ rfl rfl Zeg ?_;intro w4 g3 t4
   have T4:=Hh (t4);have hk0:=T4.out.cell 1 0 rfl rfl;clear t4)
 |((with_reducible refine Zd 34 ?_);refine Zc 51 _ 51 g0 _ (T4.out.get 0 rfl) Zm (Ze hp.len) rfl rfl rfl ?_)
 |(go_at_call 91;refine(hse _ vs (ho.below T4.out.below) hp).mono ?_;rintro e w5 ⟨v5,u5,rfl,h5,d5,b5⟩
   have ls:=d5.len6;have os:=Hh d5.one;have T5:=Hh (T4.out.tree b5 d5);clear b5)
 |((with_reducible refine Zg 2 36 ?_);refine Za 51 _ _ 51 g0 _ (v5) (T5.out.get 0 rfl) (h5.len.trans hp.len.symm) (Ze h5.len) h5.one rfl rfl rfl rfl rfl ?_
   intro w6 p6;have T6:=Hh (T5.out.put 0 rfl p6);clear p6)
 |((with_reducible refine Zg 38 37 ?_);refine Zfz 76 _ _ 85 g1 (T6.out.get 1 rfl) rfl ls Vi os.out rfl rfl rfl rfl rfl ?_
   intro w7 p7;have T7:Hid (Env w [(g0,51,v5),(g1,85,Ym 5 l c u5 zexL 0 0 0 0 ⟨#[]⟩ 0 zexL zexL (Λ none 0 0) (Λ none 0 0)),(g2,51,[Λ none 0 0,I J 0,I J 0,I J 0,I J 0,I J 0]),(g3,85,Vg)] [] [(xs.1.ds,u5)] w7):=Hh (T6.out.put 1 rfl p7);clear p7))
  have D7:=Hh (show Zs (fun k=>w.heap.size≤k) w7 (((⟨5,l,c,xs.1,zEx,0,0,0,0,⟨#[]⟩,0,zEx,zEx⟩:AH)).dsr 0 .nil 0 .nil) (Ym 5 l c u5 zexL 0 0 0 0 ⟨#[]⟩ 0 zexL zexL (Λ none 0 0) (Λ none 0 0))from(Xc _ _ _ _ _ _ _ _ _ (T7.out.leaf 0 rfl) (Zv _ _) (Zv _ _) (Zv _ _) (Yd _ _) (Yd _ _)));refine Zkp mixed (by kernel_rfl) (by kernel_rfl) (by kernel_rfl) (by kernel_rfl) (by kernel_rfl) (by kernel_rfl) (by kernel_rfl) (by kernel_rfl) (by kernel_rfl) rfl rfl rfl rfl rfl rfl rfl rfl rfl rfl rfl g0 g1 g2 g3 (v5) (Ym 5 l c u5 zexL 0 0 0 0 ⟨#[]⟩ 0 zexL zexL (Λ none 0 0) (Λ none 0 0)) ([Λ none 0 0,I J 0,I J 0,I J 0,I J 0,I J 0]) (Vg) (T7.out.get 0 rfl) (T7.out.get 1 rfl) (T7.out.get 2 rfl) (T7.out.get 3 rfl) 21 #[.agg v5.toArray,Ψ ⟨#[59]⟩] (fun l=>RPv r K L (Zz L Xg (xs.2)) l) (fun _=>by first | kernel_rfl | (go_simp;done) | (simp[go_sem,execOp];done)) (hju _ v5 (ho.below T7.out.drew.below) h5) (fun _ hh=>hh.len) (D7.out.len.trans (AH.dsr_len _ _ _ _ _)) (fun _ hh=>hh.one) D7.out.one (T7.out.ne 0 2 (by decide) rfl rfl) (T7.out.ne 0 3 (by decide) rfl rfl) (T7.out.ne 1 2 (by decide) rfl rfl) (T7.out.ne 1 3 (by decide) rfl rfl) (T7.out.ne 2 3 (by decide) rfl rfl) h5.len Zm (Ze h5.len) Xk (Yn (D7.out.len.trans (AH.dsr_len _ _ _ _ _))) rfl rfl (fun _=>rfl) (fun _=>rfl) (fun _=>rfl) (fun _=>rfl) ?_;intro vz wz hz hR;have HZ:=Hh hR;clear hR;go_wp2
  obtain⟨dz,bz⟩:=T7.out.ret2 2 3 rfl rfl HZ.out;refine Yp 4 51 5 85 51 85 _ _ _ _ rfl HZ.out.one HZ.out.two Zm (Ze hz.len) Xk (Yn (D7.out.len.trans (AH.dsr_len _ _ _ _ _))) rfl rfl rfl ?_;exact⟨_,_,rfl,hz,(Xc _ _ _ _ _ _ _ _ _ (dz _ (List.mem_of_getElem? (i:=0) rfl)) (Zv _ _) (Zv _ _) (Zv _ _) (Yd _ _) (Yd _ _)),bz⟩
end Go.Proofs.YtbdecchpleiepaaGreat
