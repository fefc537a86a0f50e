/- Parts of the proof. No conditions but those that each names. -/
import Derived.Test.YtbdecchpleiepaaGreatQL46
set_option maxRecDepth 20000
set_option maxHeartbeats 99000000
set_option linter.unusedVariables false
set_option linter.unusedSimpArgs false
namespace Go.Proofs.YtbdecchpleiepaaGreat
open Go.Value renaming int→I,slice→Λ,string→Ψ
open Go.IntKind renaming i64→J
open _root_.Go.Proofs.Tryz renaming prog→Φ
open Go.ChangeShapes Go.WideShapes Go.ChangeAt Go.RowKit
theorem qplain14(w:World)(r K:Nat)(L:List TokV)(st:St)(vs:List Value)(l c:Int)(n:Nat)(ho:Zu w r K L)(hp:RPv r K L st vs)(hn:4*Zx L st+3≤n)(hLn:Zx L st≤68719476736) :
  Calls Φ 63 #[.agg vs.toArray,.agg (Zbu 14 l c).toArray] w (PTo w r K L (Zz L Xg (Xi 3 L n (AH.zero 14 l c) 14 st).2) ((Xi 3 L n (AH.zero 14 l c) 14 st).1.dsr 0 .nil 0 .nil)):=by
  have T0:=Hh (Env.start w);unfold Zbu;show Calls _ _ _ _ (PTo w r K L (Zz L Xg ((Xz 3 L n st).2)) ((⟨14,l,c,(Xz 3 L n st).1,zEx,0,0,0,0,⟨#[]⟩,0,zEx,zEx⟩:AH).dsr 0 .nil 0 .nil));have hr1:=Zal L 3 n st;have hse:∀(x:World)(us:List Value),Zu x r K L→RPv r K L (st) us→Calls Φ 91 #[.agg us.toArray] x (PTo x r K L (Xz 3 L n st).2 (Xz 3 L n st).1.ds):=fun x us h1 h2=>qSel x r K L _ us n h1 h2 (by omega) (by omega)
  generalize Xz 3 L n st=xs at *;have hju:∀(x:World)(us:List Value),Zu x r K L→RPv r K L (xs.2) us→Calls Φ 21 #[.agg us.toArray,Ψ ⟨#[59]⟩] x (PPo x r K L (Zz L Xg (xs.2))):=fun x us h1 h2=>Jh x r K L _ us Xg h1 h2
  clear hn hLn;go_enter Tryz.func63,Tryz.ntmps63;go_wp2_with(first
 |((with_reducible refine Zd 2 ?_);refine Zf T0.out 51 _ (vs) rfl rfl rfl ?_;intro w1 g0 t1
   have T1:=Hh (t1);clear t1)
 |((with_reducible refine Zd 3 ?_);refine Zf T1.out 85 _ (Ym 14 l c zseL zexL 0 0 0 0 ⟨#[]⟩ 0 zexL zexL (Λ none 0 0) (Λ none 0 0)) rfl rfl rfl ?_;intro w2 g1 t2
   have T2:=Hh (t2);clear t2)
 |((with_reducible refine Zd 4 ?_);refine Zb T2.out 51 _ rfl rfl z_P ?_;intro w3 g2 t3
   have T3:=Hh (t3);clear t3)
 |((with_reducible refine Zd 5 ?_);refine Zb T3.out 85 _ rfl rfl Zeg ?_;intro w4 g3 t4
   have T4:=Hh (t4);have hk0:=T4.out.cell 1 0 rfl rfl;clear t4)
 |((with_reducible refine Zd 34 ?_);refine Zc 51 _ 51 g0 _ (T4.out.get 0 rfl) Zm (Ze hp.len) rfl rfl rfl ?_)
 |(go_at_call 91;refine(hse _ vs (ho.below T4.out.below) hp).mono ?_;rintro e w5 ⟨v5,u5,rfl,h5,d5,b5⟩
   have ls:=d5.len6;have os:=Hh d5.one;have T5:=Hh (T4.out.tree b5 d5);clear b5)
 |((with_reducible refine Zg 2 36 ?_);refine Za 51 _ _ 51 g0 _ (v5) (T5.out.get 0 rfl) (h5.len.trans hp.len.symm) (Ze h5.len) h5.one rfl rfl rfl rfl rfl ?_
   intro w6 p6;have T6:=Hh (T5.out.put 0 rfl p6);clear p6)
 |((with_reducible refine Zg 38 37 ?_);refine Zfz 76 _ _ 85 g1 (T6.out.get 1 rfl) rfl ls Vi os.out rfl rfl rfl rfl rfl ?_
   intro w7 p7;have T7:Hid (Env w [(g0,51,v5),(g1,85,Ym 14 l c u5 zexL 0 0 0 0 ⟨#[]⟩ 0 zexL zexL (Λ none 0 0) (Λ none 0 0)),(g2,51,[Λ none 0 0,I J 0,I J 0,I J 0,I J 0,I J 0]),(g3,85,Vg)] [] [(xs.1.ds,u5)] w7):=Hh (T6.out.put 1 rfl p7);clear p7))
  have D7:=Hh (show Zs (fun k=>w.heap.size≤k) w7 (((⟨14,l,c,xs.1,zEx,0,0,0,0,⟨#[]⟩,0,zEx,zEx⟩:AH)).dsr 0 .nil 0 .nil) (Ym 14 l c u5 zexL 0 0 0 0 ⟨#[]⟩ 0 zexL zexL (Λ none 0 0) (Λ none 0 0))from(Xc _ _ _ _ _ _ _ _ _ (T7.out.leaf 0 rfl) (Zv _ _) (Zv _ _) (Zv _ _) (Yd _ _) (Yd _ _)));refine Zkp mixed (by kernel_rfl) (by kernel_rfl) (by kernel_rfl) (by kernel_rfl) (by kernel_rfl) (by kernel_rfl) (by kernel_rfl) (by kernel_rfl) (by kernel_rfl) rfl rfl rfl rfl rfl rfl rfl rfl rfl rfl rfl g0 g1 g2 g3 (v5) (Ym 14 l c u5 zexL 0 0 0 0 ⟨#[]⟩ 0 zexL zexL (Λ none 0 0) (Λ none 0 0)) ([Λ none 0 0,I J 0,I J 0,I J 0,I J 0,I J 0]) (Vg) (T7.out.get 0 rfl) (T7.out.get 1 rfl) (T7.out.get 2 rfl) (T7.out.get 3 rfl) 21 #[.agg v5.toArray,Ψ ⟨#[59]⟩] (fun l=>RPv r K L (Zz L Xg (xs.2)) l) (fun _=>by first | kernel_rfl | (go_simp;done) | (simp[go_sem,execOp];done)) (hju _ v5 (ho.below T7.out.drew.below) h5) (fun _ hh=>hh.len) (D7.out.len.trans (AH.dsr_len _ _ _ _ _)) (fun _ hh=>hh.one) D7.out.one (T7.out.ne 0 2 (by decide) rfl rfl) (T7.out.ne 0 3 (by decide) rfl rfl) (T7.out.ne 1 2 (by decide) rfl rfl) (T7.out.ne 1 3 (by decide) rfl rfl) (T7.out.ne 2 3 (by decide) rfl rfl) h5.len Zm (Ze h5.len) Xk (Yn (D7.out.len.trans (AH.dsr_len _ _ _ _ _))) rfl rfl (fun _=>rfl) (fun _=>rfl) (fun _=>rfl) (fun _=>rfl) ?_;intro vz wz hz hR;have HZ:=Hh hR;clear hR;go_wp2
  obtain⟨dz,bz⟩:=T7.out.ret2 2 3 rfl rfl HZ.out;refine Yp 4 51 5 85 51 85 _ _ _ _ rfl HZ.out.one HZ.out.two Zm (Ze hz.len) Xk (Yn (D7.out.len.trans (AH.dsr_len _ _ _ _ _))) rfl rfl rfl ?_;exact⟨_,_,rfl,hz,(Xc _ _ _ _ _ _ _ _ _ (dz _ (List.mem_of_getElem? (i:=0) rfl)) (Zv _ _) (Zv _ _) (Zv _ _) (Yd _ _) (Yd _ _)),bz⟩
theorem qplain4(w:World)(r K:Nat)(L:List TokV)(st:St)(vs:List Value)(l c:Int)(n:Nat)(ho:Zu w r K L)(hp:RPv r K L st vs)(hn:4*Zx L st+3≤n)(hLn:Zx L st≤68719476736) :
  Calls Φ 63 #[.agg vs.toArray,.agg (Zbu 4 l c).toArray] w (PTo w r K L (Zz L Xg (Xi 3 L n (AH.zero 4 l c) 4 st).2) ((Xi 3 L n (AH.zero 4 l c) 4 st).1.dsr 0 .nil 0 .nil)):=by
  have T0:=Hh (Env.start w);unfold Zbu;show Calls _ _ _ _ (PTo w r K L (Zz L Xg (toS L (Xz 3 L n st).2)) ((⟨4,l,c,(Xz 3 L n st).1,zEx,0,toK L (Xz 3 L n st).2,toL L (Xz 3 L n st).2,0,⟨#[]⟩,0,zEx,zEx⟩:AH).dsr 0 .nil 0 .nil));have hr1:=Zal L 3 n st;have hse:∀(x:World)(us:List Value),Zu x r K L→RPv r K L (st) us→Calls Φ 91 #[.agg us.toArray] x (PTo x r K L (Xz 3 L n st).2 (Xz 3 L n st).1.ds):=fun x us h1 h2=>qSel x r K L _ us n h1 h2 (by omega) (by omega)
  generalize Xz 3 L n st=xs at *;have hr3:=Zhh L (xs.2);have hto:∀(x:World)(us:List Value),Zu x r K L→RPv r K L (xs.2) us→Calls Φ 93 #[.agg us.toArray] x (PTo x r K L (toS L (xs.2)) (.int (toK L (xs.2)) (.int (toL L (xs.2)) .nil))):=fun x us h1 h2=>qto x r K L _ us h1 h2
  generalize toK L (xs.2)=tk at *;generalize toL L (xs.2)=tl at *;generalize toS L (xs.2)=s3 at *;have hju:∀(x:World)(us:List Value),Zu x r K L→RPv r K L (s3) us→Calls Φ 21 #[.agg us.toArray,Ψ ⟨#[59]⟩] x (PPo x r K L (Zz L Xg (s3))):=fun x us h1 h2=>Jh x r K L _ us Xg h1 h2
  clear hn hLn;go_enter Tryz.func63,Tryz.ntmps63;go_wp2_with(first
 |((with_reducible refine Zd 2 ?_);refine Zf T0.out 51 _ (vs) rfl rfl rfl ?_;intro w1 g0 t1
   have T1:=Hh (t1);clear t1)
 |((with_reducible refine Zd 3 ?_);refine Zf T1.out 85 _ (Ym 4 l c zseL zexL 0 0 0 0 ⟨#[]⟩ 0 zexL zexL (Λ none 0 0) (Λ none 0 0)) rfl rfl rfl ?_;intro w2 g1 t2
   have T2:=Hh (t2);clear t2)
 |((with_reducible refine Zd 4 ?_);refine Zb T2.out 51 _ rfl rfl z_P ?_;intro w3 g2 t3
   have T3:=Hh (t3);clear t3)
 |((with_reducible refine Zd 5 ?_);refine Zb T3.out 85 _ rfl rfl Zeg ?_;intro w4 g3 t4
   have T4:=Hh (t4);have hk0:=T4.out.cell 1 0 rfl rfl;clear t4)
 |((with_reducible refine Zd 34 ?_);refine Zc 51 _ 51 g0 _ (T4.out.get 0 rfl) Zm (Ze hp.len) rfl rfl rfl ?_)
 |(go_at_call 91;refine(hse _ vs (ho.below T4.out.below) hp).mono ?_;rintro e w5 ⟨v5,u5,rfl,h5,d5,b5⟩
   have ls:=d5.len6;have os:=Hh d5.one;have T5:=Hh (T4.out.tree b5 d5);clear b5)
 |((with_reducible refine Zg 2 36 ?_);refine Za 51 _ _ 51 g0 _ (v5) (T5.out.get 0 rfl) (h5.len.trans hp.len.symm) (Ze h5.len) h5.one rfl rfl rfl rfl rfl ?_
   intro w6 p6;have T6:=Hh (T5.out.put 0 rfl p6);clear p6)
 |((with_reducible refine Zg 38 37 ?_);refine Zfz 76 _ _ 85 g1 (T6.out.get 1 rfl) rfl ls Vi os.out rfl rfl rfl rfl rfl ?_
   intro w7 p7;have T7:=Hh (T6.out.put 1 rfl p7);clear p7)
 |((with_reducible refine Zd 82 ?_);refine Zc 51 _ 51 g0 _ (T7.out.get 0 rfl) Zm (Ze h5.len) rfl rfl rfl ?_)
 |(go_at_call 93;refine(hto _ v5 (ho.below T7.out.below) h5).mono ?_;rintro e w8 ⟨v8,u8,rfl,h8,d8,b8⟩
   obtain⟨_,rfl,_,rfl,rfl⟩:=d8;have T8:=Hh (T7.out.call b8);clear b8)
 |((with_reducible refine Zg 2 84 ?_);refine Za 51 _ _ 51 g0 _ (v8) (T8.out.get 0 rfl) (h8.len.trans h5.len.symm) (Ze h8.len) h8.one rfl rfl rfl rfl rfl ?_
   intro w9 p9;have T9:=Hh (T8.out.put 0 rfl p9);clear p9)
 |((with_reducible refine Zg 86 85 ?_);refine put_to 78 _ _ 85 g1 (T9.out.get 1 rfl) ls rfl Zdc rfl rfl rfl rfl rfl ?_
   intro w10 p10;have T10:Hid (Env w [(g0,51,v8),(g1,85,Ym 4 l c u5 zexL 0 tk tl 0 ⟨#[]⟩ 0 zexL zexL (Λ none 0 0) (Λ none 0 0)),(g2,51,[Λ none 0 0,I J 0,I J 0,I J 0,I J 0,I J 0]),(g3,85,Vg)] [] [(xs.1.ds,u5)] w10):=Hh (T9.out.put 1 rfl p10);clear p10))
  have D10:=Hh (show Zs (fun k=>w.heap.size≤k) w10 (((⟨4,l,c,xs.1,zEx,0,tk,tl,0,⟨#[]⟩,0,zEx,zEx⟩:AH)).dsr 0 .nil 0 .nil) (Ym 4 l c u5 zexL 0 tk tl 0 ⟨#[]⟩ 0 zexL zexL (Λ none 0 0) (Λ none 0 0))from(Xc _ _ _ _ _ _ _ _ _ (T10.out.leaf 0 rfl) (Zv _ _) (Zv _ _) (Zv _ _) (Yd _ _) (Yd _ _)));refine Zkp mixed (by kernel_rfl) (by kernel_rfl) (by kernel_rfl) (by kernel_rfl) (by kernel_rfl) (by kernel_rfl) (by kernel_rfl) (by kernel_rfl) (by kernel_rfl) rfl rfl rfl rfl rfl rfl rfl rfl rfl rfl rfl g0 g1 g2 g3 (v8) (Ym 4 l c u5 zexL 0 tk tl 0 ⟨#[]⟩ 0 zexL zexL (Λ none 0 0) (Λ none 0 0)) ([Λ none 0 0,I J 0,I J 0,I J 0,I J 0,I J 0]) (Vg) (T10.out.get 0 rfl) (T10.out.get 1 rfl) (T10.out.get 2 rfl) (T10.out.get 3 rfl) 21 #[.agg v8.toArray,Ψ ⟨#[59]⟩] (fun l=>RPv r K L (Zz L Xg (s3)) l) (fun _=>by first | kernel_rfl | (go_simp;done) | (simp[go_sem,execOp];done)) (hju _ v8 (ho.below T10.out.drew.below) h8) (fun _ hh=>hh.len) (D10.out.len.trans (AH.dsr_len _ _ _ _ _)) (fun _ hh=>hh.one) D10.out.one (T10.out.ne 0 2 (by decide) rfl rfl) (T10.out.ne 0 3 (by decide) rfl rfl) (T10.out.ne 1 2 (by decide) rfl rfl) (T10.out.ne 1 3 (by decide) rfl rfl) (T10.out.ne 2 3 (by decide) rfl rfl) h8.len Zm (Ze h8.len) Xk (Yn (D10.out.len.trans (AH.dsr_len _ _ _ _ _))) rfl rfl (fun _=>rfl) (fun _=>rfl) (fun _=>rfl) (fun _=>rfl) ?_;intro vz wz hz hR;have HZ:=Hh hR;clear hR;go_wp2
  obtain⟨dz,bz⟩:=T10.out.ret2 2 3 rfl rfl HZ.out;refine Yp 4 51 5 85 51 85 _ _ _ _ rfl HZ.out.one HZ.out.two Zm (Ze hz.len) Xk (Yn (D10.out.len.trans (AH.dsr_len _ _ _ _ _))) rfl rfl rfl ?_;exact⟨_,_,rfl,hz,(Xc _ _ _ _ _ _ _ _ _ (dz _ (List.mem_of_getElem? (i:=0) rfl)) (Zv _ _) (Zv _ _) (Zv _ _) (Yd _ _) (Yd _ _)),bz⟩
theorem qplain6(w:World)(r K:Nat)(L:List TokV)(st:St)(vs:List Value)(l c:Int)(n:Nat)(ho:Zu w r K L)(hp:RPv r K L st vs)(hn:4*Zx L st+3≤n)(hLn:Zx L st≤68719476736) :
  Calls Φ 63 #[.agg vs.toArray,.agg (Zbu 6 l c).toArray] w (PTo w r K L (Zz L Xg (Xi 3 L n (AH.zero 6 l c) 6 st).2) ((Xi 3 L n (AH.zero 6 l c) 6 st).1.dsr 0 .nil 0 .nil)):=by
  have T0:=Hh (Env.start w);unfold Zbu;show Calls _ _ _ _ (PTo w r K L (Zz L Xg ((Yj 3 L n (toS L (Zn L Zq (Wp L st)))).2)) ((⟨6,l,c,zSe,(Yj 3 L n (toS L (Zn L Zq (Wp L st)))).1,(Zk L Zq (Wp L st):Int),toK L (Zn L Zq (Wp L st)),toL L (Zn L Zq (Wp L st)),0,Zct L st,0,zEx,zEx⟩:AH).dsr 0 .nil 0 .nil));have hr4:=Zbi L (st);have hna:∀(x:World)(us:List Value),Zu x r K L→RPv r K L (st) us→Calls Φ 19 #[.agg us.toArray] x (PVo x r K L (Wp L (st)) (Ψ (Zct L (st)))):=fun x us h1 h2=>qname x r K L _ us h1 h2
  generalize Zct L (st)=nm at *;generalize Wp L (st)=s4 at *;have hr2:=Xy L Zq (s4);have hsi:∀(x:World)(us:List Value),Zu x r K L→RPv r K L (s4) us→Calls Φ 92 #[.agg us.toArray] x (PVo x r K L (Zn L Zq (s4)) (I J (Zk L Zq (s4):Int))):=fun x us h1 h2=>Zkb x r K L _ us h1 h2
  generalize(Zk L Zq (s4):Int)=sd at *;generalize Zn L Zq (s4)=s2 at *;have hr3:=Zhh L (s2);have hto:∀(x:World)(us:List Value),Zu x r K L→RPv r K L (s2) us→Calls Φ 93 #[.agg us.toArray] x (PTo x r K L (toS L (s2)) (.int (toK L (s2)) (.int (toL L (s2)) .nil))):=fun x us h1 h2=>qto x r K L _ us h1 h2
  generalize toK L (s2)=tk at *;generalize toL L (s2)=tl at *;generalize toS L (s2)=s3 at *;have hex:∀(x:World)(us:List Value),Zu x r K L→RPv r K L (s3) us→Calls Φ 94 #[.agg us.toArray] x (PTo x r K L (Yj 3 L n (s3)).2 (Yj 3 L n (s3)).1.ds):=fun x us h1 h2=>Zkd x r K L _ us n h1 h2 (by omega) (by omega)
  generalize Yj 3 L n (s3)=xn at *;have hju:∀(x:World)(us:List Value),Zu x r K L→RPv r K L (xn.2) us→Calls Φ 21 #[.agg us.toArray,Ψ ⟨#[59]⟩] x (PPo x r K L (Zz L Xg (xn.2))):=fun x us h1 h2=>Jh x r K L _ us Xg h1 h2
  clear hn hLn;go_enter Tryz.func63,Tryz.ntmps63;go_wp2_with(first
 |((with_reducible refine Zd 2 ?_);refine Zf T0.out 51 _ (vs) rfl rfl rfl ?_;intro w1 g0 t1
   have T1:=Hh (t1);clear t1)
 |((with_reducible refine Zd 3 ?_);refine Zf T1.out 85 _ (Ym 6 l c zseL zexL 0 0 0 0 ⟨#[]⟩ 0 zexL zexL (Λ none 0 0) (Λ none 0 0)) rfl rfl rfl ?_;intro w2 g1 t2
   have T2:=Hh (t2);clear t2)
 |((with_reducible refine Zd 4 ?_);refine Zb T2.out 51 _ rfl rfl z_P ?_;intro w3 g2 t3
   have T3:=Hh (t3);clear t3)
 |((with_reducible refine Zd 5 ?_);refine Zb T3.out 85 _ rfl rfl Zeg ?_;intro w4 g3 t4
   have T4:=Hh (t4);have hk0:=T4.out.cell 1 0 rfl rfl;clear t4)
 |((with_reducible refine Zd 14 ?_);refine Zc 51 _ 51 g0 _ (T4.out.get 0 rfl) Zm (Ze hp.len) rfl rfl rfl ?_)
 |(go_at_call 19;refine(hna _ vs (ho.below T4.out.below) hp).mono ?_;rintro e w5 ⟨v5,rfl,h5,b5⟩
   have T5:=Hh (T4.out.call b5);clear b5)
 |((with_reducible refine Zg 2 16 ?_);refine Za 51 _ _ 51 g0 _ (v5) (T5.out.get 0 rfl) (h5.len.trans hp.len.symm) (Ze h5.len) h5.one rfl rfl rfl rfl rfl ?_
   intro w6 p6;have T6:=Hh (T5.out.put 0 rfl p6);clear p6)
 |((with_reducible refine Zg 18 17 ?_);refine put_nm 9 _ _ 85 g1 (T6.out.get 1 rfl) rfl rfl Zij rfl rfl rfl rfl rfl rfl ?_
   intro w7 p7;have T7:=Hh (T6.out.put 1 rfl p7);clear p7)
 |((with_reducible refine Zd 62 ?_);refine Zc 51 _ 51 g0 _ (T7.out.get 0 rfl) Zm (Ze h5.len) rfl rfl rfl ?_)
 |(go_at_call 92;refine(hsi _ v5 (ho.below T7.out.below) h5).mono ?_;rintro e w8 ⟨v8,rfl,h8,b8⟩
   have T8:=Hh (T7.out.call b8);clear b8)
 |((with_reducible refine Zg 2 64 ?_);refine Za 51 _ _ 51 g0 _ (v8) (T8.out.get 0 rfl) (h8.len.trans h5.len.symm) (Ze h8.len) h8.one rfl rfl rfl rfl rfl ?_
   intro w9 p9;have T9:=Hh (T8.out.put 0 rfl p9);clear p9)
 |((with_reducible refine Zg 66 65 ?_);refine Zks 3 _ _ 85 g1 (T9.out.get 1 rfl) rfl rfl Yw rfl rfl rfl rfl rfl rfl ?_
   intro w10 p10;have T10:=Hh (T9.out.put 1 rfl p10);clear p10)
 |((with_reducible refine Zd 82 ?_);refine Zc 51 _ 51 g0 _ (T10.out.get 0 rfl) Zm (Ze h8.len) rfl rfl rfl ?_)
 |(go_at_call 93;refine(hto _ v8 (ho.below T10.out.below) h8).mono ?_;rintro e w11 ⟨v11,u11,rfl,h11,d11,b11⟩
   obtain⟨_,rfl,_,rfl,rfl⟩:=d11;have T11:=Hh (T10.out.call b11);clear b11)
 |((with_reducible refine Zg 2 84 ?_);refine Za 51 _ _ 51 g0 _ (v11) (T11.out.get 0 rfl) (h11.len.trans h8.len.symm) (Ze h11.len) h11.one rfl rfl rfl rfl rfl ?_
   intro w12 p12;have T12:=Hh (T11.out.put 0 rfl p12);clear p12)
 |((with_reducible refine Zg 86 85 ?_);refine put_to 78 _ _ 85 g1 (T12.out.get 1 rfl) rfl rfl Zdc rfl rfl rfl rfl rfl ?_
   intro w13 p13;have T13:=Hh (T12.out.put 1 rfl p13);clear p13)
 |((with_reducible refine Zd 119 ?_);refine Zc 51 _ 51 g0 _ (T13.out.get 0 rfl) Zm (Ze h11.len) rfl rfl rfl ?_)
 |(go_at_call 94;refine(hex _ v11 (ho.below T13.out.below) h11).mono ?_;rintro e w14 ⟨v14,u14,rfl,h14,d14,b14⟩
   have le:=d14.len12;have oe:=Hh d14.one;have T14:=Hh (T13.out.tree b14 d14);clear b14)
 |((with_reducible refine Zg 2 121 ?_);refine Za 51 _ _ 51 g0 _ (v14) (T14.out.get 0 rfl) (h14.len.trans h11.len.symm) (Ze h14.len) h14.one rfl rfl rfl rfl rfl ?_
   intro w15 p15;have T15:=Hh (T14.out.put 0 rfl p15);clear p15)
 |((with_reducible refine Zg 123 122 ?_);refine Zhk 81 _ _ 85 g1 (T15.out.get 1 rfl) rfl rfl le Yi oe.out rfl rfl rfl rfl rfl ?_
   intro w16 p16;have T16:Hid (Env w [(g0,51,v14),(g1,85,Ym 6 l c zseL u14 sd tk tl 0 nm 0 zexL zexL (Λ none 0 0) (Λ none 0 0)),(g2,51,[Λ none 0 0,I J 0,I J 0,I J 0,I J 0,I J 0]),(g3,85,Vg)] [] [(xn.1.ds,u14)] w16):=Hh (T15.out.put 1 rfl p16);clear p16))
  have D16:=Hh (show Zs (fun k=>w.heap.size≤k) w16 (((⟨6,l,c,zSe,xn.1,sd,tk,tl,0,nm,0,zEx,zEx⟩:AH)).dsr 0 .nil 0 .nil) (Ym 6 l c zseL u14 sd tk tl 0 nm 0 zexL zexL (Λ none 0 0) (Λ none 0 0))from(Xc _ _ _ _ _ _ _ _ _ (Wn _ _) (T16.out.leaf 0 rfl) (Zv _ _) (Zv _ _) (Yd _ _) (Yd _ _)));refine Zkp mixed (by kernel_rfl) (by kernel_rfl) (by kernel_rfl) (by kernel_rfl) (by kernel_rfl) (by kernel_rfl) (by kernel_rfl) (by kernel_rfl) (by kernel_rfl) rfl rfl rfl rfl rfl rfl rfl rfl rfl rfl rfl g0 g1 g2 g3 (v14) (Ym 6 l c zseL u14 sd tk tl 0 nm 0 zexL zexL (Λ none 0 0) (Λ none 0 0)) ([Λ none 0 0,I J 0,I J 0,I J 0,I J 0,I J 0]) (Vg) (T16.out.get 0 rfl) (T16.out.get 1 rfl) (T16.out.get 2 rfl) (T16.out.get 3 rfl) 21 #[.agg v14.toArray,Ψ ⟨#[59]⟩] (fun l=>RPv r K L (Zz L Xg (xn.2)) l) (fun _=>by first | kernel_rfl | (go_simp;done) | (simp[go_sem,execOp];done)) (hju _ v14 (ho.below T16.out.drew.below) h14) (fun _ hh=>hh.len) (D16.out.len.trans (AH.dsr_len _ _ _ _ _)) (fun _ hh=>hh.one) D16.out.one (T16.out.ne 0 2 (by decide) rfl rfl) (T16.out.ne 0 3 (by decide) rfl rfl) (T16.out.ne 1 2 (by decide) rfl rfl) (T16.out.ne 1 3 (by decide) rfl rfl) (T16.out.ne 2 3 (by decide) rfl rfl) h14.len Zm (Ze h14.len) Xk (Yn (D16.out.len.trans (AH.dsr_len _ _ _ _ _))) rfl rfl (fun _=>rfl) (fun _=>rfl) (fun _=>rfl) (fun _=>rfl) ?_;intro vz wz hz hR;have HZ:=Hh hR;clear hR;go_wp2
  obtain⟨dz,bz⟩:=T16.out.ret2 2 3 rfl rfl HZ.out;refine Yp 4 51 5 85 51 85 _ _ _ _ rfl HZ.out.one HZ.out.two Zm (Ze hz.len) Xk (Yn (D16.out.len.trans (AH.dsr_len _ _ _ _ _))) rfl rfl rfl ?_;exact⟨_,_,rfl,hz,(Xc _ _ _ _ _ _ _ _ _ (Wn _ _) (dz _ (List.mem_of_getElem? (i:=0) rfl)) (Zv _ _) (Zv _ _) (Yd _ _) (Yd _ _)),bz⟩
theorem qplain7(w:World)(r K:Nat)(L:List TokV)(st:St)(vs:List Value)(l c:Int)(n:Nat)(ho:Zu w r K L)(hp:RPv r K L st vs)(hn:4*Zx L st+3≤n)(hLn:Zx L st≤68719476736) :
  Calls Φ 63 #[.agg vs.toArray,.agg (Zbu 7 l c).toArray] w (PTo w r K L (Zz L Xg (Xi 3 L n (AH.zero 7 l c) 7 st).2) ((Xi 3 L n (AH.zero 7 l c) 7 st).1.dsr 0 .nil 0 .nil)):=by
  have T0:=Hh (Env.start w);unfold Zbu;show Calls _ _ _ _ (PTo w r K L (Zz L Xg ((Yj 3 L n (Zn L Zq st)).2)) ((⟨7,l,c,zSe,(Yj 3 L n (Zn L Zq st)).1,(Zk L Zq st:Int),0,0,0,⟨#[]⟩,0,zEx,zEx⟩:AH).dsr 0 .nil 0 .nil));have hr2:=Xy L Zq (st);have hsi:∀(x:World)(us:List Value),Zu x r K L→RPv r K L (st) us→Calls Φ 92 #[.agg us.toArray] x (PVo x r K L (Zn L Zq (st)) (I J (Zk L Zq (st):Int))):=fun x us h1 h2=>Zkb x r K L _ us h1 h2
  generalize(Zk L Zq (st):Int)=sd at *;generalize Zn L Zq (st)=s2 at *;have hex:∀(x:World)(us:List Value),Zu x r K L→RPv r K L (s2) us→Calls Φ 94 #[.agg us.toArray] x (PTo x r K L (Yj 3 L n (s2)).2 (Yj 3 L n (s2)).1.ds):=fun x us h1 h2=>Zkd x r K L _ us n h1 h2 (by omega) (by omega)
  generalize Yj 3 L n (s2)=xn at *;have hju:∀(x:World)(us:List Value),Zu x r K L→RPv r K L (xn.2) us→Calls Φ 21 #[.agg us.toArray,Ψ ⟨#[59]⟩] x (PPo x r K L (Zz L Xg (xn.2))):=fun x us h1 h2=>Jh x r K L _ us Xg h1 h2
  clear hn hLn;go_enter Tryz.func63,Tryz.ntmps63;go_wp2_with(first
 |((with_reducible refine Zd 2 ?_);refine Zf T0.out 51 _ (vs) rfl rfl rfl ?_;intro w1 g0 t1
   have T1:=Hh (t1);clear t1)
 |((with_reducible refine Zd 3 ?_);refine Zf T1.out 85 _ (Ym 7 l c zseL zexL 0 0 0 0 ⟨#[]⟩ 0 zexL zexL (Λ none 0 0) (Λ none 0 0)) rfl rfl rfl ?_;intro w2 g1 t2
   have T2:=Hh (t2);clear t2)
 |((with_reducible refine Zd 4 ?_);refine Zb T2.out 51 _ rfl rfl z_P ?_;intro w3 g2 t3
   have T3:=Hh (t3);clear t3)
 |((with_reducible refine Zd 5 ?_);refine Zb T3.out 85 _ rfl rfl Zeg ?_;intro w4 g3 t4
   have T4:=Hh (t4);have hk0:=T4.out.cell 1 0 rfl rfl;clear t4)
 |((with_reducible refine Zd 62 ?_);refine Zc 51 _ 51 g0 _ (T4.out.get 0 rfl) Zm (Ze hp.len) rfl rfl rfl ?_)
 |(go_at_call 92;refine(hsi _ vs (ho.below T4.out.below) hp).mono ?_;rintro e w5 ⟨v5,rfl,h5,b5⟩
   have T5:=Hh (T4.out.call b5);clear b5)
 |((with_reducible refine Zg 2 64 ?_);refine Za 51 _ _ 51 g0 _ (v5) (T5.out.get 0 rfl) (h5.len.trans hp.len.symm) (Ze h5.len) h5.one rfl rfl rfl rfl rfl ?_
   intro w6 p6;have T6:=Hh (T5.out.put 0 rfl p6);clear p6)
 |((with_reducible refine Zg 66 65 ?_);refine Zks 3 _ _ 85 g1 (T6.out.get 1 rfl) rfl rfl Yw rfl rfl rfl rfl rfl rfl ?_
   intro w7 p7;have T7:=Hh (T6.out.put 1 rfl p7);clear p7)
 |((with_reducible refine Zd 119 ?_);refine Zc 51 _ 51 g0 _ (T7.out.get 0 rfl) Zm (Ze h5.len) rfl rfl rfl ?_)
 |(go_at_call 94;refine(hex _ v5 (ho.below T7.out.below) h5).mono ?_;rintro e w8 ⟨v8,u8,rfl,h8,d8,b8⟩
   have le:=d8.len12;have oe:=Hh d8.one;have T8:=Hh (T7.out.tree b8 d8);clear b8)
 |((with_reducible refine Zg 2 121 ?_);refine Za 51 _ _ 51 g0 _ (v8) (T8.out.get 0 rfl) (h8.len.trans h5.len.symm) (Ze h8.len) h8.one rfl rfl rfl rfl rfl ?_
   intro w9 p9;have T9:=Hh (T8.out.put 0 rfl p9);clear p9)
 |((with_reducible refine Zg 123 122 ?_);refine Zhk 81 _ _ 85 g1 (T9.out.get 1 rfl) rfl rfl le Yi oe.out rfl rfl rfl rfl rfl ?_
   intro w10 p10;have T10:Hid (Env w [(g0,51,v8),(g1,85,Ym 7 l c zseL u8 sd 0 0 0 ⟨#[]⟩ 0 zexL zexL (Λ none 0 0) (Λ none 0 0)),(g2,51,[Λ none 0 0,I J 0,I J 0,I J 0,I J 0,I J 0]),(g3,85,Vg)] [] [(xn.1.ds,u8)] w10):=Hh (T9.out.put 1 rfl p10);clear p10))
  have D10:=Hh (show Zs (fun k=>w.heap.size≤k) w10 (((⟨7,l,c,zSe,xn.1,sd,0,0,0,⟨#[]⟩,0,zEx,zEx⟩:AH)).dsr 0 .nil 0 .nil) (Ym 7 l c zseL u8 sd 0 0 0 ⟨#[]⟩ 0 zexL zexL (Λ none 0 0) (Λ none 0 0))from(Xc _ _ _ _ _ _ _ _ _ (Wn _ _) (T10.out.leaf 0 rfl) (Zv _ _) (Zv _ _) (Yd _ _) (Yd _ _)));refine Zkp mixed (by kernel_rfl) (by kernel_rfl) (by kernel_rfl) (by kernel_rfl) (by kernel_rfl) (by kernel_rfl) (by kernel_rfl) (by kernel_rfl) (by kernel_rfl) rfl rfl rfl rfl rfl rfl rfl rfl rfl rfl rfl g0 g1 g2 g3 (v8) (Ym 7 l c zseL u8 sd 0 0 0 ⟨#[]⟩ 0 zexL zexL (Λ none 0 0) (Λ none 0 0)) ([Λ none 0 0,I J 0,I J 0,I J 0,I J 0,I J 0]) (Vg) (T10.out.get 0 rfl) (T10.out.get 1 rfl) (T10.out.get 2 rfl) (T10.out.get 3 rfl) 21 #[.agg v8.toArray,Ψ ⟨#[59]⟩] (fun l=>RPv r K L (Zz L Xg (xn.2)) l) (fun _=>by first | kernel_rfl | (go_simp;done) | (simp[go_sem,execOp];done)) (hju _ v8 (ho.below T10.out.drew.below) h8) (fun _ hh=>hh.len) (D10.out.len.trans (AH.dsr_len _ _ _ _ _)) (fun _ hh=>hh.one) D10.out.one (T10.out.ne 0 2 (by decide) rfl rfl) (T10.out.ne 0 3 (by decide) rfl rfl) (T10.out.ne 1 2 (by decide) rfl rfl) (T10.out.ne 1 3 (by decide) rfl rfl) (T10.out.ne 2 3 (by decide) rfl rfl) h8.len Zm (Ze h8.len) Xk (Yn (D10.out.len.trans (AH.dsr_len _ _ _ _ _))) rfl rfl (fun _=>rfl) (fun _=>rfl) (fun _=>rfl) (fun _=>rfl) ?_;intro vz wz hz hR;have HZ:=Hh hR;clear hR;go_wp2
  obtain⟨dz,bz⟩:=T10.out.ret2 2 3 rfl rfl HZ.out;refine Yp 4 51 5 85 51 85 _ _ _ _ rfl HZ.out.one HZ.out.two Zm (Ze hz.len) Xk (Yn (D10.out.len.trans (AH.dsr_len _ _ _ _ _))) rfl rfl rfl ?_;exact⟨_,_,rfl,hz,(Xc _ _ _ _ _ _ _ _ _ (Wn _ _) (dz _ (List.mem_of_getElem? (i:=0) rfl)) (Zv _ _) (Zv _ _) (Yd _ _) (Yd _ _)),bz⟩
end Go.Proofs.YtbdecchpleiepaaGreat
