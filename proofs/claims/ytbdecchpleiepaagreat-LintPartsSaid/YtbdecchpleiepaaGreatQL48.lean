/- Parts of the proof. No conditions but those that each names. -/
import Derived.Test.YtbdecchpleiepaaGreatQL46
set_option maxRecDepth 20000
set_option maxHeartbeats 99000000
set_option linter.unusedVariables false
set_option linter.unusedSimpArgs false
namespace Go.Proofs.YtbdecchpleiepaaGreat
open Go.Value renaming int→I,slice→Λ,string→Ψ
open Go.IntKind renaming i64→J
open _root_.Go.Proofs.Tryz renaming prog→Φ
open Go.ChangeShapes Go.WideShapes Go.ChangeAt Go.RowKit
theorem qplain8(w:World)(r K:Nat)(L:List TokV)(st:St)(vs:List Value)(l c:Int)(n:Nat)(ho:Zu w r K L)(hp:RPv r K L st vs)(hn:4*Zx L st+3≤n)(hLn:Zx L st≤68719476736) :
  Calls Φ 63 #[.agg vs.toArray,.agg (Zbu 8 l c).toArray] w (PTo w r K L (Zz L Xg (Xi 3 L n (AH.zero 8 l c) 8 st).2) ((Xi 3 L n (AH.zero 8 l c) 8 st).1.dsr 0 .nil 0 .nil)):=by
  have T0:=Hh (Env.start w);unfold Zbu;show Calls _ _ _ _ (PTo w r K L (Zz L Xg (Zn L wHow (Zn L Zq st))) ((⟨8,l,c,zSe,zEx,(Zk L Zq st:Int),0,0,(Zk L wHow (Zn L Zq st):Int),⟨#[]⟩,0,zEx,zEx⟩:AH).dsr 0 .nil 0 .nil));have hr2:=Xy L Zq (st);have hsi:∀(x:World)(us:List Value),Zu x r K L→RPv r K L (st) us→Calls Φ 92 #[.agg us.toArray] x (PVo x r K L (Zn L Zq (st)) (I J (Zk L Zq (st):Int))):=fun x us h1 h2=>Zkb x r K L _ us h1 h2
  generalize(Zk L Zq (st):Int)=sd at *;generalize Zn L Zq (st)=s2 at *;have hho:∀(x:World)(us:List Value),Zu x r K L→RPv r K L (s2) us→Calls Φ 43 #[.agg us.toArray,Λ (some ⟨x.heap.size,0,none⟩) 4 4] (x.alloc (.cells #[Ψ ⟨#[102,105,114,115,116]⟩,Ψ ⟨#[108,97,115,116]⟩,Ψ ⟨#[99,104,101,97,112,101,115,116]⟩,Ψ ⟨#[99,111,115,116,108,105,101,115,116]⟩] 9)) (PVo x r K L (Zn L wHow (s2)) (I J (Zk L wHow (s2):Int))):=fun x us h1 h2=>Zer x r K _ L (s2) us wHow 4 4 _ rfl rfl h1 h2 rfl (by decide)
  generalize(Zk L wHow (s2):Int)=how at *;generalize Zn L wHow (s2)=s5 at *;have hju:∀(x:World)(us:List Value),Zu x r K L→RPv r K L (s5) us→Calls Φ 21 #[.agg us.toArray,Ψ ⟨#[59]⟩] x (PPo x r K L (Zz L Xg (s5))):=fun x us h1 h2=>Jh x r K L _ us Xg h1 h2
  clear hn hLn;go_enter Tryz.func63,Tryz.ntmps63;go_wp2_with(first
 |((with_reducible refine Zd 2 ?_);refine Zf T0.out 51 _ (vs) rfl rfl rfl ?_;intro w1 g0 t1
   have T1:=Hh (t1);clear t1)
 |((with_reducible refine Zd 3 ?_);refine Zf T1.out 85 _ (Ym 8 l c zseL zexL 0 0 0 0 ⟨#[]⟩ 0 zexL zexL (Λ none 0 0) (Λ none 0 0)) rfl rfl rfl ?_;intro w2 g1 t2
   have T2:=Hh (t2);clear t2)
 |((with_reducible refine Zd 4 ?_);refine Zb T2.out 51 _ rfl rfl z_P ?_;intro w3 g2 t3
   have T3:=Hh (t3);clear t3)
 |((with_reducible refine Zd 5 ?_);refine Zb T3.out 85 _ rfl rfl Zeg ?_;intro w4 g3 t4
   have T4:=Hh (t4);have hk0:=T4.out.cell 1 0 rfl rfl;clear t4)
 |((with_reducible refine Zd 62 ?_);refine Zc 51 _ 51 g0 _ (T4.out.get 0 rfl) Zm (Ze hp.len) rfl rfl rfl ?_)
 |(go_at_call 92;refine(hsi _ vs (ho.below T4.out.below) hp).mono ?_;rintro e w5 ⟨v5,rfl,h5,b5⟩
   have T5:=Hh (T4.out.call b5);clear b5)
 |((with_reducible refine Zg 2 64 ?_);refine Za 51 _ _ 51 g0 _ (v5) (T5.out.get 0 rfl) (h5.len.trans hp.len.symm) (Ze h5.len) h5.one rfl rfl rfl rfl rfl ?_
   intro w6 p6;have T6:=Hh (T5.out.put 0 rfl p6);clear p6)
 |((with_reducible refine Zg 66 65 ?_);refine Zks 3 _ _ 85 g1 (T6.out.get 1 rfl) rfl rfl Yw rfl rfl rfl rfl rfl rfl ?_
   intro w7 p7;have T7:=Hh (T6.out.put 1 rfl p7);clear p7)
 |((with_reducible refine Zd 90 ?_);refine Zc 51 _ 51 g0 _ (T7.out.get 0 rfl) Zm (Ze h5.len) rfl rfl rfl ?_)
 |(go_at_call 43;refine(hho _ v5 (ho.below T7.out.below) h5).mono ?_;rintro e w8 ⟨v8,rfl,h8,b8⟩
   have T8:=Hh (T7.out.call b8);clear b8)
 |((with_reducible refine Zg 2 93 ?_);refine Za 51 _ _ 51 g0 _ (v8) (T8.out.get 0 rfl) (h8.len.trans h5.len.symm) (Ze h8.len) h8.one rfl rfl rfl rfl rfl ?_
   intro w9 p9;have T9:=Hh (T8.out.put 0 rfl p9);clear p9)
 |((with_reducible refine Zg 95 94 ?_);refine put_how 3 _ _ 85 g1 (T9.out.get 1 rfl) rfl rfl Yw rfl rfl rfl rfl rfl rfl ?_
   intro w10 p10;have T10:Hid (Env w [(g0,51,v8),(g1,85,Ym 8 l c zseL zexL sd 0 0 how ⟨#[]⟩ 0 zexL zexL (Λ none 0 0) (Λ none 0 0)),(g2,51,[Λ none 0 0,I J 0,I J 0,I J 0,I J 0,I J 0]),(g3,85,Vg)] [] [] w10):=Hh (T9.out.put 1 rfl p10);clear p10))
  have D10:=Hh (show Zs (fun k=>w.heap.size≤k) w10 (((⟨8,l,c,zSe,zEx,sd,0,0,how,⟨#[]⟩,0,zEx,zEx⟩:AH)).dsr 0 .nil 0 .nil) (Ym 8 l c zseL zexL sd 0 0 how ⟨#[]⟩ 0 zexL zexL (Λ none 0 0) (Λ none 0 0))from(Xc _ _ _ _ _ _ _ _ _ (Wn _ _) (Zv _ _) (Zv _ _) (Zv _ _) (Yd _ _) (Yd _ _)));refine Zkp mixed (by kernel_rfl) (by kernel_rfl) (by kernel_rfl) (by kernel_rfl) (by kernel_rfl) (by kernel_rfl) (by kernel_rfl) (by kernel_rfl) (by kernel_rfl) rfl rfl rfl rfl rfl rfl rfl rfl rfl rfl rfl g0 g1 g2 g3 (v8) (Ym 8 l c zseL zexL sd 0 0 how ⟨#[]⟩ 0 zexL zexL (Λ none 0 0) (Λ none 0 0)) ([Λ none 0 0,I J 0,I J 0,I J 0,I J 0,I J 0]) (Vg) (T10.out.get 0 rfl) (T10.out.get 1 rfl) (T10.out.get 2 rfl) (T10.out.get 3 rfl) 21 #[.agg v8.toArray,Ψ ⟨#[59]⟩] (fun l=>RPv r K L (Zz L Xg (s5)) l) (fun _=>by first | kernel_rfl | (go_simp;done) | (simp[go_sem,execOp];done)) (hju _ v8 (ho.below T10.out.drew.below) h8) (fun _ hh=>hh.len) (D10.out.len.trans (AH.dsr_len _ _ _ _ _)) (fun _ hh=>hh.one) D10.out.one (T10.out.ne 0 2 (by decide) rfl rfl) (T10.out.ne 0 3 (by decide) rfl rfl) (T10.out.ne 1 2 (by decide) rfl rfl) (T10.out.ne 1 3 (by decide) rfl rfl) (T10.out.ne 2 3 (by decide) rfl rfl) h8.len Zm (Ze h8.len) Xk (Yn (D10.out.len.trans (AH.dsr_len _ _ _ _ _))) rfl rfl (fun _=>rfl) (fun _=>rfl) (fun _=>rfl) (fun _=>rfl) ?_;intro vz wz hz hR;have HZ:=Hh hR;clear hR;go_wp2
  obtain⟨dz,bz⟩:=T10.out.ret2 2 3 rfl rfl HZ.out;refine Yp 4 51 5 85 51 85 _ _ _ _ rfl HZ.out.one HZ.out.two Zm (Ze hz.len) Xk (Yn (D10.out.len.trans (AH.dsr_len _ _ _ _ _))) rfl rfl rfl ?_;exact⟨_,_,rfl,hz,(Xc _ _ _ _ _ _ _ _ _ (Wn _ _) (Zv _ _) (Zv _ _) (Zv _ _) (Yd _ _) (Yd _ _)),bz⟩
theorem qplain9(w:World)(r K:Nat)(L:List TokV)(st:St)(vs:List Value)(l c:Int)(n:Nat)(ho:Zu w r K L)(hp:RPv r K L st vs)(hn:4*Zx L st+3≤n)(hLn:Zx L st≤68719476736) :
  Calls Φ 63 #[.agg vs.toArray,.agg (Zbu 9 l c).toArray] w (PTo w r K L (Zz L Xg (Xi 3 L n (AH.zero 9 l c) 9 st).2) ((Xi 3 L n (AH.zero 9 l c) 9 st).1.dsr 0 .nil 0 .nil)):=by
  have T0:=Hh (Env.start w);unfold Zbu;show Calls _ _ _ _ (PTo w r K L (Zz L Xg ((Yj 3 L n (Zn L Zq st)).2)) ((⟨9,l,c,zSe,(Yj 3 L n (Zn L Zq st)).1,(Zk L Zq st:Int),0,0,0,⟨#[]⟩,0,zEx,zEx⟩:AH).dsr 0 .nil 0 .nil));have hr2:=Xy L Zq (st);have hsi:∀(x:World)(us:List Value),Zu x r K L→RPv r K L (st) us→Calls Φ 92 #[.agg us.toArray] x (PVo x r K L (Zn L Zq (st)) (I J (Zk L Zq (st):Int))):=fun x us h1 h2=>Zkb x r K L _ us h1 h2
  generalize(Zk L Zq (st):Int)=sd at *;generalize Zn L Zq (st)=s2 at *;have hex:∀(x:World)(us:List Value),Zu x r K L→RPv r K L (s2) us→Calls Φ 94 #[.agg us.toArray] x (PTo x r K L (Yj 3 L n (s2)).2 (Yj 3 L n (s2)).1.ds):=fun x us h1 h2=>Zkd x r K L _ us n h1 h2 (by omega) (by omega)
  generalize Yj 3 L n (s2)=xn at *;have hju:∀(x:World)(us:List Value),Zu x r K L→RPv r K L (xn.2) us→Calls Φ 21 #[.agg us.toArray,Ψ ⟨#[59]⟩] x (PPo x r K L (Zz L Xg (xn.2))):=fun x us h1 h2=>Jh x r K L _ us Xg h1 h2
  clear hn hLn;go_enter Tryz.func63,Tryz.ntmps63;go_wp2_with(first
 |((with_reducible refine Zd 2 ?_);refine Zf T0.out 51 _ (vs) rfl rfl rfl ?_;intro w1 g0 t1
   have T1:=Hh (t1);clear t1)
 |((with_reducible refine Zd 3 ?_);refine Zf T1.out 85 _ (Ym 9 l c zseL zexL 0 0 0 0 ⟨#[]⟩ 0 zexL zexL (Λ none 0 0) (Λ none 0 0)) rfl rfl rfl ?_;intro w2 g1 t2
   have T2:=Hh (t2);clear t2)
 |((with_reducible refine Zd 4 ?_);refine Zb T2.out 51 _ rfl rfl z_P ?_;intro w3 g2 t3
   have T3:=Hh (t3);clear t3)
 |((with_reducible refine Zd 5 ?_);refine Zb T3.out 85 _ rfl rfl Zeg ?_;intro w4 g3 t4
   have T4:=Hh (t4);have hk0:=T4.out.cell 1 0 rfl rfl;clear t4)
 |((with_reducible refine Zd 62 ?_);refine Zc 51 _ 51 g0 _ (T4.out.get 0 rfl) Zm (Ze hp.len) rfl rfl rfl ?_)
 |(go_at_call 92;refine(hsi _ vs (ho.below T4.out.below) hp).mono ?_;rintro e w5 ⟨v5,rfl,h5,b5⟩
   have T5:=Hh (T4.out.call b5);clear b5)
 |((with_reducible refine Zg 2 64 ?_);refine Za 51 _ _ 51 g0 _ (v5) (T5.out.get 0 rfl) (h5.len.trans hp.len.symm) (Ze h5.len) h5.one rfl rfl rfl rfl rfl ?_
   intro w6 p6;have T6:=Hh (T5.out.put 0 rfl p6);clear p6)
 |((with_reducible refine Zg 66 65 ?_);refine Zks 3 _ _ 85 g1 (T6.out.get 1 rfl) rfl rfl Yw rfl rfl rfl rfl rfl rfl ?_
   intro w7 p7;have T7:=Hh (T6.out.put 1 rfl p7);clear p7)
 |((with_reducible refine Zd 119 ?_);refine Zc 51 _ 51 g0 _ (T7.out.get 0 rfl) Zm (Ze h5.len) rfl rfl rfl ?_)
 |(go_at_call 94;refine(hex _ v5 (ho.below T7.out.below) h5).mono ?_;rintro e w8 ⟨v8,u8,rfl,h8,d8,b8⟩
   have le:=d8.len12;have oe:=Hh d8.one;have T8:=Hh (T7.out.tree b8 d8);clear b8)
 |((with_reducible refine Zg 2 121 ?_);refine Za 51 _ _ 51 g0 _ (v8) (T8.out.get 0 rfl) (h8.len.trans h5.len.symm) (Ze h8.len) h8.one rfl rfl rfl rfl rfl ?_
   intro w9 p9;have T9:=Hh (T8.out.put 0 rfl p9);clear p9)
 |((with_reducible refine Zg 123 122 ?_);refine Zhk 81 _ _ 85 g1 (T9.out.get 1 rfl) rfl rfl le Yi oe.out rfl rfl rfl rfl rfl ?_
   intro w10 p10;have T10:Hid (Env w [(g0,51,v8),(g1,85,Ym 9 l c zseL u8 sd 0 0 0 ⟨#[]⟩ 0 zexL zexL (Λ none 0 0) (Λ none 0 0)),(g2,51,[Λ none 0 0,I J 0,I J 0,I J 0,I J 0,I J 0]),(g3,85,Vg)] [] [(xn.1.ds,u8)] w10):=Hh (T9.out.put 1 rfl p10);clear p10))
  have D10:=Hh (show Zs (fun k=>w.heap.size≤k) w10 (((⟨9,l,c,zSe,xn.1,sd,0,0,0,⟨#[]⟩,0,zEx,zEx⟩:AH)).dsr 0 .nil 0 .nil) (Ym 9 l c zseL u8 sd 0 0 0 ⟨#[]⟩ 0 zexL zexL (Λ none 0 0) (Λ none 0 0))from(Xc _ _ _ _ _ _ _ _ _ (Wn _ _) (T10.out.leaf 0 rfl) (Zv _ _) (Zv _ _) (Yd _ _) (Yd _ _)));refine Zkp mixed (by kernel_rfl) (by kernel_rfl) (by kernel_rfl) (by kernel_rfl) (by kernel_rfl) (by kernel_rfl) (by kernel_rfl) (by kernel_rfl) (by kernel_rfl) rfl rfl rfl rfl rfl rfl rfl rfl rfl rfl rfl g0 g1 g2 g3 (v8) (Ym 9 l c zseL u8 sd 0 0 0 ⟨#[]⟩ 0 zexL zexL (Λ none 0 0) (Λ none 0 0)) ([Λ none 0 0,I J 0,I J 0,I J 0,I J 0,I J 0]) (Vg) (T10.out.get 0 rfl) (T10.out.get 1 rfl) (T10.out.get 2 rfl) (T10.out.get 3 rfl) 21 #[.agg v8.toArray,Ψ ⟨#[59]⟩] (fun l=>RPv r K L (Zz L Xg (xn.2)) l) (fun _=>by first | kernel_rfl | (go_simp;done) | (simp[go_sem,execOp];done)) (hju _ v8 (ho.below T10.out.drew.below) h8) (fun _ hh=>hh.len) (D10.out.len.trans (AH.dsr_len _ _ _ _ _)) (fun _ hh=>hh.one) D10.out.one (T10.out.ne 0 2 (by decide) rfl rfl) (T10.out.ne 0 3 (by decide) rfl rfl) (T10.out.ne 1 2 (by decide) rfl rfl) (T10.out.ne 1 3 (by decide) rfl rfl) (T10.out.ne 2 3 (by decide) rfl rfl) h8.len Zm (Ze h8.len) Xk (Yn (D10.out.len.trans (AH.dsr_len _ _ _ _ _))) rfl rfl (fun _=>rfl) (fun _=>rfl) (fun _=>rfl) (fun _=>rfl) ?_;intro vz wz hz hR;have HZ:=Hh hR;clear hR;go_wp2
  obtain⟨dz,bz⟩:=T10.out.ret2 2 3 rfl rfl HZ.out;refine Yp 4 51 5 85 51 85 _ _ _ _ rfl HZ.out.one HZ.out.two Zm (Ze hz.len) Xk (Yn (D10.out.len.trans (AH.dsr_len _ _ _ _ _))) rfl rfl rfl ?_;exact⟨_,_,rfl,hz,(Xc _ _ _ _ _ _ _ _ _ (Wn _ _) (dz _ (List.mem_of_getElem? (i:=0) rfl)) (Zv _ _) (Zv _ _) (Yd _ _) (Yd _ _)),bz⟩
theorem qplain13(w:World)(r K:Nat)(L:List TokV)(st:St)(vs:List Value)(l c:Int)(n:Nat)(ho:Zu w r K L)(hp:RPv r K L st vs)(hn:4*Zx L st+3≤n)(hLn:Zx L st≤68719476736) :
  Calls Φ 63 #[.agg vs.toArray,.agg (Zbu 13 l c).toArray] w (PTo w r K L (Zz L Xg (Xi 3 L n (AH.zero 13 l c) 13 st).2) ((Xi 3 L n (AH.zero 13 l c) 13 st).1.dsr 0 .nil 0 .nil)):=by
  have T0:=Hh (Env.start w);unfold Zbu;show Calls _ _ _ _ (PTo w r K L (Zz L Xg (toS L (Zn L Zq st))) ((⟨13,l,c,zSe,zEx,(Zk L Zq st:Int),toK L (Zn L Zq st),toL L (Zn L Zq st),0,⟨#[]⟩,0,zEx,zEx⟩:AH).dsr 0 .nil 0 .nil));have hr2:=Xy L Zq (st);have hsi:∀(x:World)(us:List Value),Zu x r K L→RPv r K L (st) us→Calls Φ 92 #[.agg us.toArray] x (PVo x r K L (Zn L Zq (st)) (I J (Zk L Zq (st):Int))):=fun x us h1 h2=>Zkb x r K L _ us h1 h2
  generalize(Zk L Zq (st):Int)=sd at *;generalize Zn L Zq (st)=s2 at *;have hr3:=Zhh L (s2);have hto:∀(x:World)(us:List Value),Zu x r K L→RPv r K L (s2) us→Calls Φ 93 #[.agg us.toArray] x (PTo x r K L (toS L (s2)) (.int (toK L (s2)) (.int (toL L (s2)) .nil))):=fun x us h1 h2=>qto x r K L _ us h1 h2
  generalize toK L (s2)=tk at *;generalize toL L (s2)=tl at *;generalize toS L (s2)=s3 at *;have hju:∀(x:World)(us:List Value),Zu x r K L→RPv r K L (s3) us→Calls Φ 21 #[.agg us.toArray,Ψ ⟨#[59]⟩] x (PPo x r K L (Zz L Xg (s3))):=fun x us h1 h2=>Jh x r K L _ us Xg h1 h2
  clear hn hLn;go_enter Tryz.func63,Tryz.ntmps63;go_wp2_with(first
 |((with_reducible refine Zd 2 ?_);refine Zf T0.out 51 _ (vs) rfl rfl rfl ?_;intro w1 g0 t1
   have T1:=Hh (t1);clear t1)
 |((with_reducible refine Zd 3 ?_);refine Zf T1.out 85 _ (Ym 13 l c zseL zexL 0 0 0 0 ⟨#[]⟩ 0 zexL zexL (Λ none 0 0) (Λ none 0 0)) rfl rfl rfl ?_;intro w2 g1 t2
   have T2:=Hh (t2);clear t2)
 |((with_reducible refine Zd 4 ?_);refine Zb T2.out 51 _ rfl rfl z_P ?_;intro w3 g2 t3
   have T3:=Hh (t3);clear t3)
 |((with_reducible refine Zd 5 ?_);refine Zb T3.out 85 _ rfl rfl Zeg ?_;intro w4 g3 t4
   have T4:=Hh (t4);have hk0:=T4.out.cell 1 0 rfl rfl;clear t4)
 |((with_reducible refine Zd 62 ?_);refine Zc 51 _ 51 g0 _ (T4.out.get 0 rfl) Zm (Ze hp.len) rfl rfl rfl ?_)
 |(go_at_call 92;refine(hsi _ vs (ho.below T4.out.below) hp).mono ?_;rintro e w5 ⟨v5,rfl,h5,b5⟩
   have T5:=Hh (T4.out.call b5);clear b5)
 |((with_reducible refine Zg 2 64 ?_);refine Za 51 _ _ 51 g0 _ (v5) (T5.out.get 0 rfl) (h5.len.trans hp.len.symm) (Ze h5.len) h5.one rfl rfl rfl rfl rfl ?_
   intro w6 p6;have T6:=Hh (T5.out.put 0 rfl p6);clear p6)
 |((with_reducible refine Zg 66 65 ?_);refine Zks 3 _ _ 85 g1 (T6.out.get 1 rfl) rfl rfl Yw rfl rfl rfl rfl rfl rfl ?_
   intro w7 p7;have T7:=Hh (T6.out.put 1 rfl p7);clear p7)
 |((with_reducible refine Zd 82 ?_);refine Zc 51 _ 51 g0 _ (T7.out.get 0 rfl) Zm (Ze h5.len) rfl rfl rfl ?_)
 |(go_at_call 93;refine(hto _ v5 (ho.below T7.out.below) h5).mono ?_;rintro e w8 ⟨v8,u8,rfl,h8,d8,b8⟩
   obtain⟨_,rfl,_,rfl,rfl⟩:=d8;have T8:=Hh (T7.out.call b8);clear b8)
 |((with_reducible refine Zg 2 84 ?_);refine Za 51 _ _ 51 g0 _ (v8) (T8.out.get 0 rfl) (h8.len.trans h5.len.symm) (Ze h8.len) h8.one rfl rfl rfl rfl rfl ?_
   intro w9 p9;have T9:=Hh (T8.out.put 0 rfl p9);clear p9)
 |((with_reducible refine Zg 86 85 ?_);refine put_to 78 _ _ 85 g1 (T9.out.get 1 rfl) rfl rfl Zdc rfl rfl rfl rfl rfl ?_
   intro w10 p10;have T10:Hid (Env w [(g0,51,v8),(g1,85,Ym 13 l c zseL zexL sd tk tl 0 ⟨#[]⟩ 0 zexL zexL (Λ none 0 0) (Λ none 0 0)),(g2,51,[Λ none 0 0,I J 0,I J 0,I J 0,I J 0,I J 0]),(g3,85,Vg)] [] [] w10):=Hh (T9.out.put 1 rfl p10);clear p10))
  have D10:=Hh (show Zs (fun k=>w.heap.size≤k) w10 (((⟨13,l,c,zSe,zEx,sd,tk,tl,0,⟨#[]⟩,0,zEx,zEx⟩:AH)).dsr 0 .nil 0 .nil) (Ym 13 l c zseL zexL sd tk tl 0 ⟨#[]⟩ 0 zexL zexL (Λ none 0 0) (Λ none 0 0))from(Xc _ _ _ _ _ _ _ _ _ (Wn _ _) (Zv _ _) (Zv _ _) (Zv _ _) (Yd _ _) (Yd _ _)));refine Zkp mixed (by kernel_rfl) (by kernel_rfl) (by kernel_rfl) (by kernel_rfl) (by kernel_rfl) (by kernel_rfl) (by kernel_rfl) (by kernel_rfl) (by kernel_rfl) rfl rfl rfl rfl rfl rfl rfl rfl rfl rfl rfl g0 g1 g2 g3 (v8) (Ym 13 l c zseL zexL sd tk tl 0 ⟨#[]⟩ 0 zexL zexL (Λ none 0 0) (Λ none 0 0)) ([Λ none 0 0,I J 0,I J 0,I J 0,I J 0,I J 0]) (Vg) (T10.out.get 0 rfl) (T10.out.get 1 rfl) (T10.out.get 2 rfl) (T10.out.get 3 rfl) 21 #[.agg v8.toArray,Ψ ⟨#[59]⟩] (fun l=>RPv r K L (Zz L Xg (s3)) l) (fun _=>by first | kernel_rfl | (go_simp;done) | (simp[go_sem,execOp];done)) (hju _ v8 (ho.below T10.out.drew.below) h8) (fun _ hh=>hh.len) (D10.out.len.trans (AH.dsr_len _ _ _ _ _)) (fun _ hh=>hh.one) D10.out.one (T10.out.ne 0 2 (by decide) rfl rfl) (T10.out.ne 0 3 (by decide) rfl rfl) (T10.out.ne 1 2 (by decide) rfl rfl) (T10.out.ne 1 3 (by decide) rfl rfl) (T10.out.ne 2 3 (by decide) rfl rfl) h8.len Zm (Ze h8.len) Xk (Yn (D10.out.len.trans (AH.dsr_len _ _ _ _ _))) rfl rfl (fun _=>rfl) (fun _=>rfl) (fun _=>rfl) (fun _=>rfl) ?_;intro vz wz hz hR;have HZ:=Hh hR;clear hR;go_wp2
  obtain⟨dz,bz⟩:=T10.out.ret2 2 3 rfl rfl HZ.out;refine Yp 4 51 5 85 51 85 _ _ _ _ rfl HZ.out.one HZ.out.two Zm (Ze hz.len) Xk (Yn (D10.out.len.trans (AH.dsr_len _ _ _ _ _))) rfl rfl rfl ?_;exact⟨_,_,rfl,hz,(Xc _ _ _ _ _ _ _ _ _ (Wn _ _) (Zv _ _) (Zv _ _) (Zv _ _) (Yd _ _) (Yd _ _)),bz⟩
theorem qplain15(w:World)(r K:Nat)(L:List TokV)(st:St)(vs:List Value)(l c:Int)(n:Nat)(ho:Zu w r K L)(hp:RPv r K L st vs)(hn:4*Zx L st+3≤n)(hLn:Zx L st≤68719476736) :
  Calls Φ 63 #[.agg vs.toArray,.agg (Zbu 15 l c).toArray] w (PTo w r K L (Zz L Xg (Xi 3 L n (AH.zero 15 l c) 15 st).2) ((Xi 3 L n (AH.zero 15 l c) 15 st).1.dsr 0 .nil 0 .nil)):=by
  have T0:=Hh (Env.start w);unfold Zbu;show Calls _ _ _ _ (PTo w r K L (Zz L Xg (toS L (Zn L Zq st))) ((⟨15,l,c,zSe,zEx,(Zk L Zq st:Int),toK L (Zn L Zq st),toL L (Zn L Zq st),0,⟨#[]⟩,0,zEx,zEx⟩:AH).dsr 0 .nil 0 .nil));have hr2:=Xy L Zq (st);have hsi:∀(x:World)(us:List Value),Zu x r K L→RPv r K L (st) us→Calls Φ 92 #[.agg us.toArray] x (PVo x r K L (Zn L Zq (st)) (I J (Zk L Zq (st):Int))):=fun x us h1 h2=>Zkb x r K L _ us h1 h2
  generalize(Zk L Zq (st):Int)=sd at *;generalize Zn L Zq (st)=s2 at *;have hr3:=Zhh L (s2);have hto:∀(x:World)(us:List Value),Zu x r K L→RPv r K L (s2) us→Calls Φ 93 #[.agg us.toArray] x (PTo x r K L (toS L (s2)) (.int (toK L (s2)) (.int (toL L (s2)) .nil))):=fun x us h1 h2=>qto x r K L _ us h1 h2
  generalize toK L (s2)=tk at *;generalize toL L (s2)=tl at *;generalize toS L (s2)=s3 at *;have hju:∀(x:World)(us:List Value),Zu x r K L→RPv r K L (s3) us→Calls Φ 21 #[.agg us.toArray,Ψ ⟨#[59]⟩] x (PPo x r K L (Zz L Xg (s3))):=fun x us h1 h2=>Jh x r K L _ us Xg h1 h2
  clear hn hLn;go_enter Tryz.func63,Tryz.ntmps63;go_wp2_with(first
 |((with_reducible refine Zd 2 ?_);refine Zf T0.out 51 _ (vs) rfl rfl rfl ?_;intro w1 g0 t1
   have T1:=Hh (t1);clear t1)
 |((with_reducible refine Zd 3 ?_);refine Zf T1.out 85 _ (Ym 15 l c zseL zexL 0 0 0 0 ⟨#[]⟩ 0 zexL zexL (Λ none 0 0) (Λ none 0 0)) rfl rfl rfl ?_;intro w2 g1 t2
   have T2:=Hh (t2);clear t2)
 |((with_reducible refine Zd 4 ?_);refine Zb T2.out 51 _ rfl rfl z_P ?_;intro w3 g2 t3
   have T3:=Hh (t3);clear t3)
 |((with_reducible refine Zd 5 ?_);refine Zb T3.out 85 _ rfl rfl Zeg ?_;intro w4 g3 t4
   have T4:=Hh (t4);have hk0:=T4.out.cell 1 0 rfl rfl;clear t4)
 |((with_reducible refine Zd 62 ?_);refine Zc 51 _ 51 g0 _ (T4.out.get 0 rfl) Zm (Ze hp.len) rfl rfl rfl ?_)
 |(go_at_call 92;refine(hsi _ vs (ho.below T4.out.below) hp).mono ?_;rintro e w5 ⟨v5,rfl,h5,b5⟩
   have T5:=Hh (T4.out.call b5);clear b5)
 |((with_reducible refine Zg 2 64 ?_);refine Za 51 _ _ 51 g0 _ (v5) (T5.out.get 0 rfl) (h5.len.trans hp.len.symm) (Ze h5.len) h5.one rfl rfl rfl rfl rfl ?_
   intro w6 p6;have T6:=Hh (T5.out.put 0 rfl p6);clear p6)
 |((with_reducible refine Zg 66 65 ?_);refine Zks 3 _ _ 85 g1 (T6.out.get 1 rfl) rfl rfl Yw rfl rfl rfl rfl rfl rfl ?_
   intro w7 p7;have T7:=Hh (T6.out.put 1 rfl p7);clear p7)
 |((with_reducible refine Zd 82 ?_);refine Zc 51 _ 51 g0 _ (T7.out.get 0 rfl) Zm (Ze h5.len) rfl rfl rfl ?_)
 |(go_at_call 93;refine(hto _ v5 (ho.below T7.out.below) h5).mono ?_;rintro e w8 ⟨v8,u8,rfl,h8,d8,b8⟩
   obtain⟨_,rfl,_,rfl,rfl⟩:=d8;have T8:=Hh (T7.out.call b8);clear b8)
 |((with_reducible refine Zg 2 84 ?_);refine Za 51 _ _ 51 g0 _ (v8) (T8.out.get 0 rfl) (h8.len.trans h5.len.symm) (Ze h8.len) h8.one rfl rfl rfl rfl rfl ?_
   intro w9 p9;have T9:=Hh (T8.out.put 0 rfl p9);clear p9)
 |((with_reducible refine Zg 86 85 ?_);refine put_to 78 _ _ 85 g1 (T9.out.get 1 rfl) rfl rfl Zdc rfl rfl rfl rfl rfl ?_
   intro w10 p10;have T10:Hid (Env w [(g0,51,v8),(g1,85,Ym 15 l c zseL zexL sd tk tl 0 ⟨#[]⟩ 0 zexL zexL (Λ none 0 0) (Λ none 0 0)),(g2,51,[Λ none 0 0,I J 0,I J 0,I J 0,I J 0,I J 0]),(g3,85,Vg)] [] [] w10):=Hh (T9.out.put 1 rfl p10);clear p10))
  have D10:=Hh (show Zs (fun k=>w.heap.size≤k) w10 (((⟨15,l,c,zSe,zEx,sd,tk,tl,0,⟨#[]⟩,0,zEx,zEx⟩:AH)).dsr 0 .nil 0 .nil) (Ym 15 l c zseL zexL sd tk tl 0 ⟨#[]⟩ 0 zexL zexL (Λ none 0 0) (Λ none 0 0))from(Xc _ _ _ _ _ _ _ _ _ (Wn _ _) (Zv _ _) (Zv _ _) (Zv _ _) (Yd _ _) (Yd _ _)));refine Zkp mixed (by kernel_rfl) (by kernel_rfl) (by kernel_rfl) (by kernel_rfl) (by kernel_rfl) (by kernel_rfl) (by kernel_rfl) (by kernel_rfl) (by kernel_rfl) rfl rfl rfl rfl rfl rfl rfl rfl rfl rfl rfl g0 g1 g2 g3 (v8) (Ym 15 l c zseL zexL sd tk tl 0 ⟨#[]⟩ 0 zexL zexL (Λ none 0 0) (Λ none 0 0)) ([Λ none 0 0,I J 0,I J 0,I J 0,I J 0,I J 0]) (Vg) (T10.out.get 0 rfl) (T10.out.get 1 rfl) (T10.out.get 2 rfl) (T10.out.get 3 rfl) 21 #[.agg v8.toArray,Ψ ⟨#[59]⟩] (fun l=>RPv r K L (Zz L Xg (s3)) l) (fun _=>by first | kernel_rfl | (go_simp;done) | (simp[go_sem,execOp];done)) (hju _ v8 (ho.below T10.out.drew.below) h8) (fun _ hh=>hh.len) (D10.out.len.trans (AH.dsr_len _ _ _ _ _)) (fun _ hh=>hh.one) D10.out.one (T10.out.ne 0 2 (by decide) rfl rfl) (T10.out.ne 0 3 (by decide) rfl rfl) (T10.out.ne 1 2 (by decide) rfl rfl) (T10.out.ne 1 3 (by decide) rfl rfl) (T10.out.ne 2 3 (by decide) rfl rfl) h8.len Zm (Ze h8.len) Xk (Yn (D10.out.len.trans (AH.dsr_len _ _ _ _ _))) rfl rfl (fun _=>rfl) (fun _=>rfl) (fun _=>rfl) (fun _=>rfl) ?_;intro vz wz hz hR;have HZ:=Hh hR;clear hR;go_wp2
  obtain⟨dz,bz⟩:=T10.out.ret2 2 3 rfl rfl HZ.out;refine Yp 4 51 5 85 51 85 _ _ _ _ rfl HZ.out.one HZ.out.two Zm (Ze hz.len) Xk (Yn (D10.out.len.trans (AH.dsr_len _ _ _ _ _))) rfl rfl rfl ?_;exact⟨_,_,rfl,hz,(Xc _ _ _ _ _ _ _ _ _ (Wn _ _) (Zv _ _) (Zv _ _) (Zv _ _) (Yd _ _) (Yd _ _)),bz⟩
end Go.Proofs.YtbdecchpleiepaaGreat
