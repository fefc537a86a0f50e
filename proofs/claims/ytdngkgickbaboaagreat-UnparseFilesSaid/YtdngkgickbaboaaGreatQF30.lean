/- Parts of the proof. No conditions but those that each names. -/
import Derived.Test.YtdngkgickbaboaaGreatQF28
set_option maxRecDepth 20000
set_option maxHeartbeats 12800000
set_option linter.unusedVariables false
set_option linter.unusedSimpArgs false
namespace Go.Proofs.YtdngkgickbaboaaGreat
open Go.Value renaming int→I,slice→Λ,string→Ψ
open Go.IntKind renaming i64→J
open _root_.Go.Proofs.Tryz renaming prog→Φ
open Go.ChangeShapes Go.WideShapes Go.ChangeAt Go.RowKit
theorem qplain8(w:World)(r K:Nat)(L:List TokV)(st:St)(vs:List Value)(l c:Int)(n:Nat)(ho:Zv w r K L)(hp:RPv r K L st vs)(hn:4*Zw L st+3≤n)(hLn:Zw L st≤68719476736) :
  Calls Φ 83 #[.agg vs.toArray,.agg (Zcz 8 l c).toArray] w (PTo w r K L (Yb L Xj (Wq 3 L n (AH.zero 8 l c) 8 st).2) ((Wq 3 L n (AH.zero 8 l c) 8 st).1.dsr 0 .nil 0 .nil)):=by
  have T0:=Hh (Env.start w);unfold Zcz;show Calls _ _ _ _ (PTo w r K L (Yb L Xj (Zp L Zde (Zp L Zg st))) ((⟨8,l,c,zSe,zEx,(Zh L Zg st:Int),0,0,(Zh L Zde (Zp L Zg st):Int),⟨#[]⟩,0,zEx,zEx⟩:AH).dsr 0 .nil 0 .nil));have hr2:=Xy L Zg (st);have hsi:∀(x:World)(us:List Value),Zv x r K L→RPv r K L (st) us→Calls Φ 108 #[.agg us.toArray] x (PVo x r K L (Zp L Zg (st)) (I J (Zh L Zg (st):Int))):=fun x us h1 h2=>Zlz x r K L _ us h1 h2
  generalize(Zh L Zg (st):Int)=sd at *;generalize Zp L Zg (st)=s2 at *;have hho:∀(x:World)(us:List Value),Zv x r K L→RPv r K L (s2) us→Calls Φ 51 #[.agg us.toArray,Λ (some ⟨x.heap.size,0,none⟩) 4 4] (x.alloc (.cells #[Ψ ⟨#[102,105,114,115,116]⟩,Ψ ⟨#[108,97,115,116]⟩,Ψ ⟨#[99,104,101,97,112,101,115,116]⟩,Ψ ⟨#[99,111,115,116,108,105,101,115,116]⟩] 9)) (PVo x r K L (Zp L Zde (s2)) (I J (Zh L Zde (s2):Int))):=fun x us h1 h2=>Zgh x r K _ L (s2) us Zde 4 4 _ rfl rfl h1 h2 rfl (by decide)
  generalize(Zh L Zde (s2):Int)=how at *;generalize Zp L Zde (s2)=s5 at *;have hju:∀(x:World)(us:List Value),Zv x r K L→RPv r K L (s5) us→Calls Φ 23 #[.agg us.toArray,Ψ ⟨#[59]⟩] x (PPo x r K L (Yb L Xj (s5))):=fun x us h1 h2=>Zan x r K L _ us Xj h1 h2
  clear hn hLn;go_enter Tryz.func83,Tryz.ntmps83;go_wp2_with(first
 |((with_reducible refine Zd 2 ?_);refine Zk T0.out 66 _ (vs) rfl rfl rfl ?_;intro w1 g0 t1
   have T1:=Hh (t1);clear t1)
 |((with_reducible refine Zd 3 ?_);refine Zk T1.out 58 _ (Xa 8 l c zseL zexL 0 0 0 0 ⟨#[]⟩ 0 zexL zexL (Λ none 0 0) (Λ none 0 0)) rfl rfl rfl ?_;intro w2 g1 t2
   have T2:=Hh (t2);clear t2)
 |((with_reducible refine Zd 4 ?_);refine Zc T2.out 66 _ rfl rfl z_P ?_;intro w3 g2 t3
   have T3:=Hh (t3);clear t3)
 |((with_reducible refine Zd 5 ?_);refine Zc T3.out 58 _ rfl rfl Zfs ?_;intro w4 g3 t4
   have T4:=Hh (t4);have hk0:=T4.out.cell 1 0 rfl rfl;clear t4)
 |((with_reducible refine Zd 62 ?_);refine Zb 66 _ 66 g0 _ (T4.out.get 0 rfl) Zo (Zf hp.len) rfl rfl rfl ?_)
 |(go_at_call 108;refine(hsi _ vs (ho.below T4.out.below) hp).mono ?_;rintro e w5 ⟨v5,rfl,h5,b5⟩
   have T5:=Hh (T4.out.call b5);clear b5)
 |((with_reducible refine Zi 2 64 ?_);refine Za 66 _ _ 66 g0 _ (v5) (T5.out.get 0 rfl) (h5.len.trans hp.len.symm) (Zf h5.len) h5.one rfl rfl rfl rfl rfl ?_
   intro w6 p6;have T6:=Hh (T5.out.put 0 rfl p6);clear p6)
 |((with_reducible refine Zi 66 65 ?_);refine Zou 3 _ _ 58 g1 (T6.out.get 1 rfl) rfl rfl Yk rfl rfl rfl rfl rfl rfl ?_
   intro w7 p7;have T7:=Hh (T6.out.put 1 rfl p7);clear p7)
 |((with_reducible refine Zd 90 ?_);refine Zb 66 _ 66 g0 _ (T7.out.get 0 rfl) Zo (Zf h5.len) rfl rfl rfl ?_)
 |(go_at_call 51;refine(hho _ v5 (ho.below T7.out.below) h5).mono ?_;rintro e w8 ⟨v8,rfl,h8,b8⟩
   have T8:=Hh (T7.out.call b8);clear b8)
 |((with_reducible refine Zi 2 93 ?_);refine Za 66 _ _ 66 g0 _ (v8) (T8.out.get 0 rfl) (h8.len.trans h5.len.symm) (Zf h8.len) h8.one rfl rfl rfl rfl rfl ?_
   intro w9 p9;have T9:=Hh (T8.out.put 0 rfl p9);clear p9)
 |((with_reducible refine Zi 95 94 ?_);refine put_how 3 _ _ 58 g1 (T9.out.get 1 rfl) rfl rfl Yk rfl rfl rfl rfl rfl rfl ?_
   intro w10 p10;have T10:Hid (Env w [(g0,66,v8),(g1,58,Xa 8 l c zseL zexL sd 0 0 how ⟨#[]⟩ 0 zexL zexL (Λ none 0 0) (Λ none 0 0)),(g2,66,[Λ none 0 0,I J 0,I J 0,I J 0,I J 0,I J 0]),(g3,58,Jq)] [] [] w10):=Hh (T9.out.put 1 rfl p10);clear p10))
  have D10:=Hh (show Zt (fun k=>w.heap.size≤k) w10 (((⟨8,l,c,zSe,zEx,sd,0,0,how,⟨#[]⟩,0,zEx,zEx⟩:AH)).dsr 0 .nil 0 .nil) (Xa 8 l c zseL zexL sd 0 0 how ⟨#[]⟩ 0 zexL zexL (Λ none 0 0) (Λ none 0 0))from(Xv _ _ _ _ _ _ _ _ _ (Jp _ _) (Ya _ _) (Ya _ _) (Ya _ _) (Yn _ _) (Yn _ _)));refine Zmn mixed (by kernel_rfl) (by kernel_rfl) (by kernel_rfl) (by kernel_rfl) (by kernel_rfl) (by kernel_rfl) (by kernel_rfl) (by kernel_rfl) (by kernel_rfl) rfl rfl rfl rfl rfl rfl rfl rfl rfl rfl rfl g0 g1 g2 g3 (v8) (Xa 8 l c zseL zexL sd 0 0 how ⟨#[]⟩ 0 zexL zexL (Λ none 0 0) (Λ none 0 0)) ([Λ none 0 0,I J 0,I J 0,I J 0,I J 0,I J 0]) (Jq) (T10.out.get 0 rfl) (T10.out.get 1 rfl) (T10.out.get 2 rfl) (T10.out.get 3 rfl) 23 #[.agg v8.toArray,Ψ ⟨#[59]⟩] (fun l=>RPv r K L (Yb L Xj (s5)) l) (fun _=>by first | kernel_rfl | (go_simp;done) | (simp[go_sem,execOp];done)) (hju _ v8 (ho.below T10.out.drew.below) h8) (fun _ hh=>hh.len) (D10.out.len.trans (AH.dsr_len _ _ _ _ _)) (fun _ hh=>hh.one) D10.out.one (T10.out.ne 0 2 (by decide) rfl rfl) (T10.out.ne 0 3 (by decide) rfl rfl) (T10.out.ne 1 2 (by decide) rfl rfl) (T10.out.ne 1 3 (by decide) rfl rfl) (T10.out.ne 2 3 (by decide) rfl rfl) h8.len Zo (Zf h8.len) Wn (Xe (D10.out.len.trans (AH.dsr_len _ _ _ _ _))) rfl rfl (fun _=>rfl) (fun _=>rfl) (fun _=>rfl) (fun _=>rfl) ?_;intro vz wz hz hR;have HZ:=Hh hR;clear hR;go_wp2
  obtain⟨dz,bz⟩:=T10.out.ret2 2 3 rfl rfl HZ.out;refine Yt 4 66 5 58 66 58 _ _ _ _ rfl HZ.out.one HZ.out.two Zo (Zf hz.len) Wn (Xe (D10.out.len.trans (AH.dsr_len _ _ _ _ _))) rfl rfl rfl ?_;exact⟨_,_,rfl,hz,(Xv _ _ _ _ _ _ _ _ _ (Jp _ _) (Ya _ _) (Ya _ _) (Ya _ _) (Yn _ _) (Yn _ _)),bz⟩
theorem qplain9(w:World)(r K:Nat)(L:List TokV)(st:St)(vs:List Value)(l c:Int)(n:Nat)(ho:Zv w r K L)(hp:RPv r K L st vs)(hn:4*Zw L st+3≤n)(hLn:Zw L st≤68719476736) :
  Calls Φ 83 #[.agg vs.toArray,.agg (Zcz 9 l c).toArray] w (PTo w r K L (Yb L Xj (Wq 3 L n (AH.zero 9 l c) 9 st).2) ((Wq 3 L n (AH.zero 9 l c) 9 st).1.dsr 0 .nil 0 .nil)):=by
  have T0:=Hh (Env.start w);unfold Zcz;show Calls _ _ _ _ (PTo w r K L (Yb L Xj ((Yh 3 L n (Zp L Zg st)).2)) ((⟨9,l,c,zSe,(Yh 3 L n (Zp L Zg st)).1,(Zh L Zg st:Int),0,0,0,⟨#[]⟩,0,zEx,zEx⟩:AH).dsr 0 .nil 0 .nil));have hr2:=Xy L Zg (st);have hsi:∀(x:World)(us:List Value),Zv x r K L→RPv r K L (st) us→Calls Φ 108 #[.agg us.toArray] x (PVo x r K L (Zp L Zg (st)) (I J (Zh L Zg (st):Int))):=fun x us h1 h2=>Zlz x r K L _ us h1 h2
  generalize(Zh L Zg (st):Int)=sd at *;generalize Zp L Zg (st)=s2 at *;have hex:∀(x:World)(us:List Value),Zv x r K L→RPv r K L (s2) us→Calls Φ 110 #[.agg us.toArray] x (PTo x r K L (Yh 3 L n (s2)).2 (Yh 3 L n (s2)).1.ds):=fun x us h1 h2=>Zmb x r K L _ us n h1 h2 (by omega) (by omega)
  generalize Yh 3 L n (s2)=xn at *;have hju:∀(x:World)(us:List Value),Zv x r K L→RPv r K L (xn.2) us→Calls Φ 23 #[.agg us.toArray,Ψ ⟨#[59]⟩] x (PPo x r K L (Yb L Xj (xn.2))):=fun x us h1 h2=>Zan x r K L _ us Xj h1 h2
  clear hn hLn;go_enter Tryz.func83,Tryz.ntmps83;go_wp2_with(first
 |((with_reducible refine Zd 2 ?_);refine Zk T0.out 66 _ (vs) rfl rfl rfl ?_;intro w1 g0 t1
   have T1:=Hh (t1);clear t1)
 |((with_reducible refine Zd 3 ?_);refine Zk T1.out 58 _ (Xa 9 l c zseL zexL 0 0 0 0 ⟨#[]⟩ 0 zexL zexL (Λ none 0 0) (Λ none 0 0)) rfl rfl rfl ?_;intro w2 g1 t2
   have T2:=Hh (t2);clear t2)
 |((with_reducible refine Zd 4 ?_);refine Zc T2.out 66 _ rfl rfl z_P ?_;intro w3 g2 t3
   have T3:=Hh (t3);clear t3)
 |((with_reducible refine Zd 5 ?_);refine Zc T3.out 58 _ rfl rfl Zfs ?_;intro w4 g3 t4
   have T4:=Hh (t4);have hk0:=T4.out.cell 1 0 rfl rfl;clear t4)
 |((with_reducible refine Zd 62 ?_);refine Zb 66 _ 66 g0 _ (T4.out.get 0 rfl) Zo (Zf hp.len) rfl rfl rfl ?_)
 |(go_at_call 108;refine(hsi _ vs (ho.below T4.out.below) hp).mono ?_;rintro e w5 ⟨v5,rfl,h5,b5⟩
   have T5:=Hh (T4.out.call b5);clear b5)
 |((with_reducible refine Zi 2 64 ?_);refine Za 66 _ _ 66 g0 _ (v5) (T5.out.get 0 rfl) (h5.len.trans hp.len.symm) (Zf h5.len) h5.one rfl rfl rfl rfl rfl ?_
   intro w6 p6;have T6:=Hh (T5.out.put 0 rfl p6);clear p6)
 |((with_reducible refine Zi 66 65 ?_);refine Zou 3 _ _ 58 g1 (T6.out.get 1 rfl) rfl rfl Yk rfl rfl rfl rfl rfl rfl ?_
   intro w7 p7;have T7:=Hh (T6.out.put 1 rfl p7);clear p7)
 |((with_reducible refine Zd 119 ?_);refine Zb 66 _ 66 g0 _ (T7.out.get 0 rfl) Zo (Zf h5.len) rfl rfl rfl ?_)
 |(go_at_call 110;refine(hex _ v5 (ho.below T7.out.below) h5).mono ?_;rintro e w8 ⟨v8,u8,rfl,h8,d8,b8⟩
   have le:=d8.len12;have oe:=Hh d8.one;have T8:=Hh (T7.out.tree b8 d8);clear b8)
 |((with_reducible refine Zi 2 121 ?_);refine Za 66 _ _ 66 g0 _ (v8) (T8.out.get 0 rfl) (h8.len.trans h5.len.symm) (Zf h8.len) h8.one rfl rfl rfl rfl rfl ?_
   intro w9 p9;have T9:=Hh (T8.out.put 0 rfl p9);clear p9)
 |((with_reducible refine Zi 123 122 ?_);refine Zlq 54 _ _ 58 g1 (T9.out.get 1 rfl) rfl rfl le Ym oe.out rfl rfl rfl rfl rfl ?_
   intro w10 p10;have T10:Hid (Env w [(g0,66,v8),(g1,58,Xa 9 l c zseL u8 sd 0 0 0 ⟨#[]⟩ 0 zexL zexL (Λ none 0 0) (Λ none 0 0)),(g2,66,[Λ none 0 0,I J 0,I J 0,I J 0,I J 0,I J 0]),(g3,58,Jq)] [] [(xn.1.ds,u8)] w10):=Hh (T9.out.put 1 rfl p10);clear p10))
  have D10:=Hh (show Zt (fun k=>w.heap.size≤k) w10 (((⟨9,l,c,zSe,xn.1,sd,0,0,0,⟨#[]⟩,0,zEx,zEx⟩:AH)).dsr 0 .nil 0 .nil) (Xa 9 l c zseL u8 sd 0 0 0 ⟨#[]⟩ 0 zexL zexL (Λ none 0 0) (Λ none 0 0))from(Xv _ _ _ _ _ _ _ _ _ (Jp _ _) (T10.out.leaf 0 rfl) (Ya _ _) (Ya _ _) (Yn _ _) (Yn _ _)));refine Zmn mixed (by kernel_rfl) (by kernel_rfl) (by kernel_rfl) (by kernel_rfl) (by kernel_rfl) (by kernel_rfl) (by kernel_rfl) (by kernel_rfl) (by kernel_rfl) rfl rfl rfl rfl rfl rfl rfl rfl rfl rfl rfl g0 g1 g2 g3 (v8) (Xa 9 l c zseL u8 sd 0 0 0 ⟨#[]⟩ 0 zexL zexL (Λ none 0 0) (Λ none 0 0)) ([Λ none 0 0,I J 0,I J 0,I J 0,I J 0,I J 0]) (Jq) (T10.out.get 0 rfl) (T10.out.get 1 rfl) (T10.out.get 2 rfl) (T10.out.get 3 rfl) 23 #[.agg v8.toArray,Ψ ⟨#[59]⟩] (fun l=>RPv r K L (Yb L Xj (xn.2)) l) (fun _=>by first | kernel_rfl | (go_simp;done) | (simp[go_sem,execOp];done)) (hju _ v8 (ho.below T10.out.drew.below) h8) (fun _ hh=>hh.len) (D10.out.len.trans (AH.dsr_len _ _ _ _ _)) (fun _ hh=>hh.one) D10.out.one (T10.out.ne 0 2 (by decide) rfl rfl) (T10.out.ne 0 3 (by decide) rfl rfl) (T10.out.ne 1 2 (by decide) rfl rfl) (T10.out.ne 1 3 (by decide) rfl rfl) (T10.out.ne 2 3 (by decide) rfl rfl) h8.len Zo (Zf h8.len) Wn (Xe (D10.out.len.trans (AH.dsr_len _ _ _ _ _))) rfl rfl (fun _=>rfl) (fun _=>rfl) (fun _=>rfl) (fun _=>rfl) ?_;intro vz wz hz hR;have HZ:=Hh hR;clear hR;go_wp2
  obtain⟨dz,bz⟩:=T10.out.ret2 2 3 rfl rfl HZ.out;refine Yt 4 66 5 58 66 58 _ _ _ _ rfl HZ.out.one HZ.out.two Zo (Zf hz.len) Wn (Xe (D10.out.len.trans (AH.dsr_len _ _ _ _ _))) rfl rfl rfl ?_;exact⟨_,_,rfl,hz,(Xv _ _ _ _ _ _ _ _ _ (Jp _ _) (dz _ (List.mem_of_getElem? (i:=0) rfl)) (Ya _ _) (Ya _ _) (Yn _ _) (Yn _ _)),bz⟩
theorem qplain13(w:World)(r K:Nat)(L:List TokV)(st:St)(vs:List Value)(l c:Int)(n:Nat)(ho:Zv w r K L)(hp:RPv r K L st vs)(hn:4*Zw L st+3≤n)(hLn:Zw L st≤68719476736) :
  Calls Φ 83 #[.agg vs.toArray,.agg (Zcz 13 l c).toArray] w (PTo w r K L (Yb L Xj (Wq 3 L n (AH.zero 13 l c) 13 st).2) ((Wq 3 L n (AH.zero 13 l c) 13 st).1.dsr 0 .nil 0 .nil)):=by
  have T0:=Hh (Env.start w);unfold Zcz;show Calls _ _ _ _ (PTo w r K L (Yb L Xj (toS L (Zp L Zg st))) ((⟨13,l,c,zSe,zEx,(Zh L Zg st:Int),toK L (Zp L Zg st),toL L (Zp L Zg st),0,⟨#[]⟩,0,zEx,zEx⟩:AH).dsr 0 .nil 0 .nil));have hr2:=Xy L Zg (st);have hsi:∀(x:World)(us:List Value),Zv x r K L→RPv r K L (st) us→Calls Φ 108 #[.agg us.toArray] x (PVo x r K L (Zp L Zg (st)) (I J (Zh L Zg (st):Int))):=fun x us h1 h2=>Zlz x r K L _ us h1 h2
  generalize(Zh L Zg (st):Int)=sd at *;generalize Zp L Zg (st)=s2 at *;have hr3:=Zig L (s2);have hto:∀(x:World)(us:List Value),Zv x r K L→RPv r K L (s2) us→Calls Φ 109 #[.agg us.toArray] x (PTo x r K L (toS L (s2)) (.int (toK L (s2)) (.int (toL L (s2)) .nil))):=fun x us h1 h2=>qto x r K L _ us h1 h2
  generalize toK L (s2)=tk at *;generalize toL L (s2)=tl at *;generalize toS L (s2)=s3 at *;have hju:∀(x:World)(us:List Value),Zv x r K L→RPv r K L (s3) us→Calls Φ 23 #[.agg us.toArray,Ψ ⟨#[59]⟩] x (PPo x r K L (Yb L Xj (s3))):=fun x us h1 h2=>Zan x r K L _ us Xj h1 h2
  clear hn hLn;go_enter Tryz.func83,Tryz.ntmps83;go_wp2_with(first
 |((with_reducible refine Zd 2 ?_);refine Zk T0.out 66 _ (vs) rfl rfl rfl ?_;intro w1 g0 t1
   have T1:=Hh (t1);clear t1)
 |((with_reducible refine Zd 3 ?_);refine Zk T1.out 58 _ (Xa 13 l c zseL zexL 0 0 0 0 ⟨#[]⟩ 0 zexL zexL (Λ none 0 0) (Λ none 0 0)) rfl rfl rfl ?_;intro w2 g1 t2
   have T2:=Hh (t2);clear t2)
 |((with_reducible refine Zd 4 ?_);refine Zc T2.out 66 _ rfl rfl z_P ?_;intro w3 g2 t3
   have T3:=Hh (t3);clear t3)
 |((with_reducible refine Zd 5 ?_);refine Zc T3.out 58 _ rfl rfl Zfs ?_;intro w4 g3 t4
   have T4:=Hh (t4);have hk0:=T4.out.cell 1 0 rfl rfl;clear t4)
 |((with_reducible refine Zd 62 ?_);refine Zb 66 _ 66 g0 _ (T4.out.get 0 rfl) Zo (Zf hp.len) rfl rfl rfl ?_)
 |(go_at_call 108;refine(hsi _ vs (ho.below T4.out.below) hp).mono ?_;rintro e w5 ⟨v5,rfl,h5,b5⟩
   have T5:=Hh (T4.out.call b5);clear b5)
 |((with_reducible refine Zi 2 64 ?_);refine Za 66 _ _ 66 g0 _ (v5) (T5.out.get 0 rfl) (h5.len.trans hp.len.symm) (Zf h5.len) h5.one rfl rfl rfl rfl rfl ?_
   intro w6 p6;have T6:=Hh (T5.out.put 0 rfl p6);clear p6)
 |((with_reducible refine Zi 66 65 ?_);refine Zou 3 _ _ 58 g1 (T6.out.get 1 rfl) rfl rfl Yk rfl rfl rfl rfl rfl rfl ?_
   intro w7 p7;have T7:=Hh (T6.out.put 1 rfl p7);clear p7)
 |((with_reducible refine Zd 82 ?_);refine Zb 66 _ 66 g0 _ (T7.out.get 0 rfl) Zo (Zf h5.len) rfl rfl rfl ?_)
 |(go_at_call 109;refine(hto _ v5 (ho.below T7.out.below) h5).mono ?_;rintro e w8 ⟨v8,u8,rfl,h8,d8,b8⟩
   obtain⟨_,rfl,_,rfl,rfl⟩:=d8;have T8:=Hh (T7.out.call b8);clear b8)
 |((with_reducible refine Zi 2 84 ?_);refine Za 66 _ _ 66 g0 _ (v8) (T8.out.get 0 rfl) (h8.len.trans h5.len.symm) (Zf h8.len) h8.one rfl rfl rfl rfl rfl ?_
   intro w9 p9;have T9:=Hh (T8.out.put 0 rfl p9);clear p9)
 |((with_reducible refine Zi 86 85 ?_);refine put_to 51 _ _ 58 g1 (T9.out.get 1 rfl) rfl rfl Zad rfl rfl rfl rfl rfl ?_
   intro w10 p10;have T10:Hid (Env w [(g0,66,v8),(g1,58,Xa 13 l c zseL zexL sd tk tl 0 ⟨#[]⟩ 0 zexL zexL (Λ none 0 0) (Λ none 0 0)),(g2,66,[Λ none 0 0,I J 0,I J 0,I J 0,I J 0,I J 0]),(g3,58,Jq)] [] [] w10):=Hh (T9.out.put 1 rfl p10);clear p10))
  have D10:=Hh (show Zt (fun k=>w.heap.size≤k) w10 (((⟨13,l,c,zSe,zEx,sd,tk,tl,0,⟨#[]⟩,0,zEx,zEx⟩:AH)).dsr 0 .nil 0 .nil) (Xa 13 l c zseL zexL sd tk tl 0 ⟨#[]⟩ 0 zexL zexL (Λ none 0 0) (Λ none 0 0))from(Xv _ _ _ _ _ _ _ _ _ (Jp _ _) (Ya _ _) (Ya _ _) (Ya _ _) (Yn _ _) (Yn _ _)));refine Zmn mixed (by kernel_rfl) (by kernel_rfl) (by kernel_rfl) (by kernel_rfl) (by kernel_rfl) (by kernel_rfl) (by kernel_rfl) (by kernel_rfl) (by kernel_rfl) rfl rfl rfl rfl rfl rfl rfl rfl rfl rfl rfl g0 g1 g2 g3 (v8) (Xa 13 l c zseL zexL sd tk tl 0 ⟨#[]⟩ 0 zexL zexL (Λ none 0 0) (Λ none 0 0)) ([Λ none 0 0,I J 0,I J 0,I J 0,I J 0,I J 0]) (Jq) (T10.out.get 0 rfl) (T10.out.get 1 rfl) (T10.out.get 2 rfl) (T10.out.get 3 rfl) 23 #[.agg v8.toArray,Ψ ⟨#[59]⟩] (fun l=>RPv r K L (Yb L Xj (s3)) l) (fun _=>by first | kernel_rfl | (go_simp;done) | (simp[go_sem,execOp];done)) (hju _ v8 (ho.below T10.out.drew.below) h8) (fun _ hh=>hh.len) (D10.out.len.trans (AH.dsr_len _ _ _ _ _)) (fun _ hh=>hh.one) D10.out.one (T10.out.ne 0 2 (by decide) rfl rfl) (T10.out.ne 0 3 (by decide) rfl rfl) (T10.out.ne 1 2 (by decide) rfl rfl) (T10.out.ne 1 3 (by decide) rfl rfl) (T10.out.ne 2 3 (by decide) rfl rfl) h8.len Zo (Zf h8.len) Wn (Xe (D10.out.len.trans (AH.dsr_len _ _ _ _ _))) rfl rfl (fun _=>rfl) (fun _=>rfl) (fun _=>rfl) (fun _=>rfl) ?_;intro vz wz hz hR;have HZ:=Hh hR;clear hR;go_wp2
  obtain⟨dz,bz⟩:=T10.out.ret2 2 3 rfl rfl HZ.out;refine Yt 4 66 5 58 66 58 _ _ _ _ rfl HZ.out.one HZ.out.two Zo (Zf hz.len) Wn (Xe (D10.out.len.trans (AH.dsr_len _ _ _ _ _))) rfl rfl rfl ?_;exact⟨_,_,rfl,hz,(Xv _ _ _ _ _ _ _ _ _ (Jp _ _) (Ya _ _) (Ya _ _) (Ya _ _) (Yn _ _) (Yn _ _)),bz⟩
theorem qplain15(w:World)(r K:Nat)(L:List TokV)(st:St)(vs:List Value)(l c:Int)(n:Nat)(ho:Zv w r K L)(hp:RPv r K L st vs)(hn:4*Zw L st+3≤n)(hLn:Zw L st≤68719476736) :
  Calls Φ 83 #[.agg vs.toArray,.agg (Zcz 15 l c).toArray] w (PTo w r K L (Yb L Xj (Wq 3 L n (AH.zero 15 l c) 15 st).2) ((Wq 3 L n (AH.zero 15 l c) 15 st).1.dsr 0 .nil 0 .nil)):=by
  have T0:=Hh (Env.start w);unfold Zcz;show Calls _ _ _ _ (PTo w r K L (Yb L Xj (toS L (Zp L Zg st))) ((⟨15,l,c,zSe,zEx,(Zh L Zg st:Int),toK L (Zp L Zg st),toL L (Zp L Zg st),0,⟨#[]⟩,0,zEx,zEx⟩:AH).dsr 0 .nil 0 .nil));have hr2:=Xy L Zg (st);have hsi:∀(x:World)(us:List Value),Zv x r K L→RPv r K L (st) us→Calls Φ 108 #[.agg us.toArray] x (PVo x r K L (Zp L Zg (st)) (I J (Zh L Zg (st):Int))):=fun x us h1 h2=>Zlz x r K L _ us h1 h2
  generalize(Zh L Zg (st):Int)=sd at *;generalize Zp L Zg (st)=s2 at *;have hr3:=Zig L (s2);have hto:∀(x:World)(us:List Value),Zv x r K L→RPv r K L (s2) us→Calls Φ 109 #[.agg us.toArray] x (PTo x r K L (toS L (s2)) (.int (toK L (s2)) (.int (toL L (s2)) .nil))):=fun x us h1 h2=>qto x r K L _ us h1 h2
  generalize toK L (s2)=tk at *;generalize toL L (s2)=tl at *;generalize toS L (s2)=s3 at *;have hju:∀(x:World)(us:List Value),Zv x r K L→RPv r K L (s3) us→Calls Φ 23 #[.agg us.toArray,Ψ ⟨#[59]⟩] x (PPo x r K L (Yb L Xj (s3))):=fun x us h1 h2=>Zan x r K L _ us Xj h1 h2
  clear hn hLn;go_enter Tryz.func83,Tryz.ntmps83;go_wp2_with(first
 |((with_reducible refine Zd 2 ?_);refine Zk T0.out 66 _ (vs) rfl rfl rfl ?_;intro w1 g0 t1
   have T1:=Hh (t1);clear t1)
 |((with_reducible refine Zd 3 ?_);refine Zk T1.out 58 _ (Xa 15 l c zseL zexL 0 0 0 0 ⟨#[]⟩ 0 zexL zexL (Λ none 0 0) (Λ none 0 0)) rfl rfl rfl ?_;intro w2 g1 t2
   have T2:=Hh (t2);clear t2)
 |((with_reducible refine Zd 4 ?_);refine Zc T2.out 66 _ rfl rfl z_P ?_;intro w3 g2 t3
   have T3:=Hh (t3);clear t3)
 |((with_reducible refine Zd 5 ?_);refine Zc T3.out 58 _ rfl rfl Zfs ?_;intro w4 g3 t4
   have T4:=Hh (t4);have hk0:=T4.out.cell 1 0 rfl rfl;clear t4)
 |((with_reducible refine Zd 62 ?_);refine Zb 66 _ 66 g0 _ (T4.out.get 0 rfl) Zo (Zf hp.len) rfl rfl rfl ?_)
 |(go_at_call 108;refine(hsi _ vs (ho.below T4.out.below) hp).mono ?_;rintro e w5 ⟨v5,rfl,h5,b5⟩
   have T5:=Hh (T4.out.call b5);clear b5)
 |((with_reducible refine Zi 2 64 ?_);refine Za 66 _ _ 66 g0 _ (v5) (T5.out.get 0 rfl) (h5.len.trans hp.len.symm) (Zf h5.len) h5.one rfl rfl rfl rfl rfl ?_
   intro w6 p6;have T6:=Hh (T5.out.put 0 rfl p6);clear p6)
 |((with_reducible refine Zi 66 65 ?_);refine Zou 3 _ _ 58 g1 (T6.out.get 1 rfl) rfl rfl Yk rfl rfl rfl rfl rfl rfl ?_
   intro w7 p7;have T7:=Hh (T6.out.put 1 rfl p7);clear p7)
 |((with_reducible refine Zd 82 ?_);refine Zb 66 _ 66 g0 _ (T7.out.get 0 rfl) Zo (Zf h5.len) rfl rfl rfl ?_)
 |(go_at_call 109;refine(hto _ v5 (ho.below T7.out.below) h5).mono ?_;rintro e w8 ⟨v8,u8,rfl,h8,d8,b8⟩
   obtain⟨_,rfl,_,rfl,rfl⟩:=d8;have T8:=Hh (T7.out.call b8);clear b8)
 |((with_reducible refine Zi 2 84 ?_);refine Za 66 _ _ 66 g0 _ (v8) (T8.out.get 0 rfl) (h8.len.trans h5.len.symm) (Zf h8.len) h8.one rfl rfl rfl rfl rfl ?_
   intro w9 p9;have T9:=Hh (T8.out.put 0 rfl p9);clear p9)
 |((with_reducible refine Zi 86 85 ?_);refine put_to 51 _ _ 58 g1 (T9.out.get 1 rfl) rfl rfl Zad rfl rfl rfl rfl rfl ?_
   intro w10 p10;have T10:Hid (Env w [(g0,66,v8),(g1,58,Xa 15 l c zseL zexL sd tk tl 0 ⟨#[]⟩ 0 zexL zexL (Λ none 0 0) (Λ none 0 0)),(g2,66,[Λ none 0 0,I J 0,I J 0,I J 0,I J 0,I J 0]),(g3,58,Jq)] [] [] w10):=Hh (T9.out.put 1 rfl p10);clear p10))
  have D10:=Hh (show Zt (fun k=>w.heap.size≤k) w10 (((⟨15,l,c,zSe,zEx,sd,tk,tl,0,⟨#[]⟩,0,zEx,zEx⟩:AH)).dsr 0 .nil 0 .nil) (Xa 15 l c zseL zexL sd tk tl 0 ⟨#[]⟩ 0 zexL zexL (Λ none 0 0) (Λ none 0 0))from(Xv _ _ _ _ _ _ _ _ _ (Jp _ _) (Ya _ _) (Ya _ _) (Ya _ _) (Yn _ _) (Yn _ _)));refine Zmn mixed (by kernel_rfl) (by kernel_rfl) (by kernel_rfl) (by kernel_rfl) (by kernel_rfl) (by kernel_rfl) (by kernel_rfl) (by kernel_rfl) (by kernel_rfl) rfl rfl rfl rfl rfl rfl rfl rfl rfl rfl rfl g0 g1 g2 g3 (v8) (Xa 15 l c zseL zexL sd tk tl 0 ⟨#[]⟩ 0 zexL zexL (Λ none 0 0) (Λ none 0 0)) ([Λ none 0 0,I J 0,I J 0,I J 0,I J 0,I J 0]) (Jq) (T10.out.get 0 rfl) (T10.out.get 1 rfl) (T10.out.get 2 rfl) (T10.out.get 3 rfl) 23 #[.agg v8.toArray,Ψ ⟨#[59]⟩] (fun l=>RPv r K L (Yb L Xj (s3)) l) (fun _=>by first | kernel_rfl | (go_simp;done) | (simp[go_sem,execOp];done)) (hju _ v8 (ho.below T10.out.drew.below) h8) (fun _ hh=>hh.len) (D10.out.len.trans (AH.dsr_len _ _ _ _ _)) (fun _ hh=>hh.one) D10.out.one (T10.out.ne 0 2 (by decide) rfl rfl) (T10.out.ne 0 3 (by decide) rfl rfl) (T10.out.ne 1 2 (by decide) rfl rfl) (T10.out.ne 1 3 (by decide) rfl rfl) (T10.out.ne 2 3 (by decide) rfl rfl) h8.len Zo (Zf h8.len) Wn (Xe (D10.out.len.trans (AH.dsr_len _ _ _ _ _))) rfl rfl (fun _=>rfl) (fun _=>rfl) (fun _=>rfl) (fun _=>rfl) ?_;intro vz wz hz hR;have HZ:=Hh hR;clear hR;go_wp2
  obtain⟨dz,bz⟩:=T10.out.ret2 2 3 rfl rfl HZ.out;refine Yt 4 66 5 58 66 58 _ _ _ _ rfl HZ.out.one HZ.out.two Zo (Zf hz.len) Wn (Xe (D10.out.len.trans (AH.dsr_len _ _ _ _ _))) rfl rfl rfl ?_;exact⟨_,_,rfl,hz,(Xv _ _ _ _ _ _ _ _ _ (Jp _ _) (Ya _ _) (Ya _ _) (Ya _ _) (Yn _ _) (Yn _ _)),bz⟩
end Go.Proofs.YtdngkgickbaboaaGreat
