/- Parts of the proof. No conditions but those that each names. -/
import Derived.Test.YtdngkgickbaboaaGreatQF27
set_option maxRecDepth 20000
set_option maxHeartbeats 12800000
set_option linter.unusedVariables false
set_option linter.unusedSimpArgs false
namespace Go.Proofs.YtdngkgickbaboaaGreat
open Go.Value renaming int→I,slice→Λ,string→Ψ
open Go.IntKind renaming i64→J
open _root_.Go.Proofs.Tryz renaming prog→Φ
open Go.Ending renaming returned→η
open Go.ChangeShapes Go.WideShapes Go.ChangeAt Go.RowKit
def Zcz(k l c:Int):List Value:=Xa k l c zseL zexL 0 0 0 0 ⟨#[]⟩ 0 zexL zexL (Λ none 0 0) (Λ none 0 0)
def PRo(w:World)(r K:Nat)(L:List TokV)(st:St)(n:Nat)(ds:Ds)(e:Ending)(w':World):Prop:=
 ∃(vs:List Value)(v:Value),e=η (.tuple #[.agg vs.toArray,v])∧RPv r K L st vs∧Zt (fun k=>w.heap.size≤k) w' (.row n ds .nil) [v]∧Below w.heap.size w w'
theorem qplain1(w:World)(r K:Nat)(L:List TokV)(st:St)(vs:List Value)(l c:Int)(n:Nat)(ho:Zv w r K L)(hp:RPv r K L st vs)(hn:4*Zw L st+3≤n)(hLn:Zw L st≤68719476736) :
  Calls Φ 83 #[.agg vs.toArray,.agg (Zcz 1 l c).toArray] w (PTo w r K L (Yb L Xj (Wq 3 L n (AH.zero 1 l c) 1 st).2) ((Wq 3 L n (AH.zero 1 l c) 1 st).1.dsr 0 .nil 0 .nil)):=by
  have T0:=Hh (Env.start w);unfold Zcz;show Calls _ _ _ _ (PTo w r K L (Yb L Xj ((Yh 3 L n ((Wa 3 L n st).2)).2)) ((⟨1,l,c,(Wa 3 L n st).1,(Yh 3 L n ((Wa 3 L n st).2)).1,0,0,0,0,⟨#[]⟩,0,zEx,zEx⟩:AH).dsr 0 .nil 0 .nil));have hr1:=Zal L 3 n st;have hse:∀(x:World)(us:List Value),Zv x r K L→RPv r K L (st) us→Calls Φ 107 #[.agg us.toArray] x (PTo x r K L (Wa 3 L n st).2 (Wa 3 L n st).1.ds):=fun x us h1 h2=>qSel x r K L _ us n h1 h2 (by omega) (by omega)
  generalize Wa 3 L n st=xs at *;have hex:∀(x:World)(us:List Value),Zv x r K L→RPv r K L (xs.2) us→Calls Φ 110 #[.agg us.toArray] x (PTo x r K L (Yh 3 L n (xs.2)).2 (Yh 3 L n (xs.2)).1.ds):=fun x us h1 h2=>Zmb x r K L _ us n h1 h2 (by omega) (by omega)
  generalize Yh 3 L n (xs.2)=xn at *;have hju:∀(x:World)(us:List Value),Zv x r K L→RPv r K L (xn.2) us→Calls Φ 23 #[.agg us.toArray,Ψ ⟨#[59]⟩] x (PPo x r K L (Yb L Xj (xn.2))):=fun x us h1 h2=>Zan x r K L _ us Xj h1 h2
  clear hn hLn;go_enter Tryz.func83,Tryz.ntmps83;go_wp2_with(first
 |((with_reducible refine Zd 2 ?_);refine Zk T0.out 66 _ (vs) rfl rfl rfl ?_;intro w1 g0 t1
   have T1:=Hh (t1);clear t1)
 |((with_reducible refine Zd 3 ?_);refine Zk T1.out 58 _ (Xa 1 l c zseL zexL 0 0 0 0 ⟨#[]⟩ 0 zexL zexL (Λ none 0 0) (Λ none 0 0)) rfl rfl rfl ?_;intro w2 g1 t2
   have T2:=Hh (t2);clear t2)
 |((with_reducible refine Zd 4 ?_);refine Zc T2.out 66 _ rfl rfl z_P ?_;intro w3 g2 t3
   have T3:=Hh (t3);clear t3)
 |((with_reducible refine Zd 5 ?_);refine Zc T3.out 58 _ rfl rfl Zfs ?_;intro w4 g3 t4
   have T4:=Hh (t4);have hk0:=T4.out.cell 1 0 rfl rfl;clear t4)
 |((with_reducible refine Zd 34 ?_);refine Zb 66 _ 66 g0 _ (T4.out.get 0 rfl) Zo (Zf hp.len) rfl rfl rfl ?_)
 |(go_at_call 107;refine(hse _ vs (ho.below T4.out.below) hp).mono ?_;rintro e w5 ⟨v5,u5,rfl,h5,d5,b5⟩
   have ls:=d5.len6;have os:=Hh d5.one;have T5:=Hh (T4.out.tree b5 d5);clear b5)
 |((with_reducible refine Zi 2 36 ?_);refine Za 66 _ _ 66 g0 _ (v5) (T5.out.get 0 rfl) (h5.len.trans hp.len.symm) (Zf h5.len) h5.one rfl rfl rfl rfl rfl ?_
   intro w6 p6;have T6:=Hh (T5.out.put 0 rfl p6);clear p6)
 |((with_reducible refine Zi 38 37 ?_);refine Zhs 49 _ _ 58 g1 (T6.out.get 1 rfl) rfl ls Wd os.out rfl rfl rfl rfl rfl ?_
   intro w7 p7;have T7:=Hh (T6.out.put 1 rfl p7);clear p7)
 |((with_reducible refine Zd 119 ?_);refine Zb 66 _ 66 g0 _ (T7.out.get 0 rfl) Zo (Zf h5.len) rfl rfl rfl ?_)
 |(go_at_call 110;refine(hex _ v5 (ho.below T7.out.below) h5).mono ?_;rintro e w8 ⟨v8,u8,rfl,h8,d8,b8⟩
   have le:=d8.len12;have oe:=Hh d8.one;have T8:=Hh (T7.out.tree b8 d8);clear b8)
 |((with_reducible refine Zi 2 121 ?_);refine Za 66 _ _ 66 g0 _ (v8) (T8.out.get 0 rfl) (h8.len.trans h5.len.symm) (Zf h8.len) h8.one rfl rfl rfl rfl rfl ?_
   intro w9 p9;have T9:=Hh (T8.out.put 0 rfl p9);clear p9)
 |((with_reducible refine Zi 123 122 ?_);refine Zlq 54 _ _ 58 g1 (T9.out.get 1 rfl) ls rfl le Ym oe.out rfl rfl rfl rfl rfl ?_
   intro w10 p10;have T10:Hid (Env w [(g0,66,v8),(g1,58,Xa 1 l c u5 u8 0 0 0 0 ⟨#[]⟩ 0 zexL zexL (Λ none 0 0) (Λ none 0 0)),(g2,66,[Λ none 0 0,I J 0,I J 0,I J 0,I J 0,I J 0]),(g3,58,Jq)] [] [(xs.1.ds,u5),(xn.1.ds,u8)] w10):=Hh (T9.out.put 1 rfl p10);clear p10))
  have D10:=Hh (show Zt (fun k=>w.heap.size≤k) w10 (((⟨1,l,c,xs.1,xn.1,0,0,0,0,⟨#[]⟩,0,zEx,zEx⟩:AH)).dsr 0 .nil 0 .nil) (Xa 1 l c u5 u8 0 0 0 0 ⟨#[]⟩ 0 zexL zexL (Λ none 0 0) (Λ none 0 0))from(Xv _ _ _ _ _ _ _ _ _ (T10.out.leaf 0 rfl) (T10.out.leaf 1 rfl) (Ya _ _) (Ya _ _) (Yn _ _) (Yn _ _)));refine Zmn mixed (by kernel_rfl) (by kernel_rfl) (by kernel_rfl) (by kernel_rfl) (by kernel_rfl) (by kernel_rfl) (by kernel_rfl) (by kernel_rfl) (by kernel_rfl) rfl rfl rfl rfl rfl rfl rfl rfl rfl rfl rfl g0 g1 g2 g3 (v8) (Xa 1 l c u5 u8 0 0 0 0 ⟨#[]⟩ 0 zexL zexL (Λ none 0 0) (Λ none 0 0)) ([Λ none 0 0,I J 0,I J 0,I J 0,I J 0,I J 0]) (Jq) (T10.out.get 0 rfl) (T10.out.get 1 rfl) (T10.out.get 2 rfl) (T10.out.get 3 rfl) 23 #[.agg v8.toArray,Ψ ⟨#[59]⟩] (fun l=>RPv r K L (Yb L Xj (xn.2)) l) (fun _=>by first | kernel_rfl | (go_simp;done) | (simp[go_sem,execOp];done)) (hju _ v8 (ho.below T10.out.drew.below) h8) (fun _ hh=>hh.len) (D10.out.len.trans (AH.dsr_len _ _ _ _ _)) (fun _ hh=>hh.one) D10.out.one (T10.out.ne 0 2 (by decide) rfl rfl) (T10.out.ne 0 3 (by decide) rfl rfl) (T10.out.ne 1 2 (by decide) rfl rfl) (T10.out.ne 1 3 (by decide) rfl rfl) (T10.out.ne 2 3 (by decide) rfl rfl) h8.len Zo (Zf h8.len) Wn (Xe (D10.out.len.trans (AH.dsr_len _ _ _ _ _))) rfl rfl (fun _=>rfl) (fun _=>rfl) (fun _=>rfl) (fun _=>rfl) ?_;intro vz wz hz hR;have HZ:=Hh hR;clear hR;go_wp2
  obtain⟨dz,bz⟩:=T10.out.ret2 2 3 rfl rfl HZ.out;refine Yt 4 66 5 58 66 58 _ _ _ _ rfl HZ.out.one HZ.out.two Zo (Zf hz.len) Wn (Xe (D10.out.len.trans (AH.dsr_len _ _ _ _ _))) rfl rfl rfl ?_;exact⟨_,_,rfl,hz,(Xv _ _ _ _ _ _ _ _ _ (dz _ (List.mem_of_getElem? (i:=0) rfl)) (dz _ (List.mem_of_getElem? (i:=1) rfl)) (Ya _ _) (Ya _ _) (Yn _ _) (Yn _ _)),bz⟩
theorem qplain2(w:World)(r K:Nat)(L:List TokV)(st:St)(vs:List Value)(l c:Int)(n:Nat)(ho:Zv w r K L)(hp:RPv r K L st vs)(hn:4*Zw L st+3≤n)(hLn:Zw L st≤68719476736) :
  Calls Φ 83 #[.agg vs.toArray,.agg (Zcz 2 l c).toArray] w (PTo w r K L (Yb L Xj (Wq 3 L n (AH.zero 2 l c) 2 st).2) ((Wq 3 L n (AH.zero 2 l c) 2 st).1.dsr 0 .nil 0 .nil)):=by
  have T0:=Hh (Env.start w);unfold Zcz;show Calls _ _ _ _ (PTo w r K L (Yb L Xj ((Yh 3 L n ((Wa 3 L n st).2)).2)) ((⟨2,l,c,(Wa 3 L n st).1,(Yh 3 L n ((Wa 3 L n st).2)).1,0,0,0,0,⟨#[]⟩,0,zEx,zEx⟩:AH).dsr 0 .nil 0 .nil));have hr1:=Zal L 3 n st;have hse:∀(x:World)(us:List Value),Zv x r K L→RPv r K L (st) us→Calls Φ 107 #[.agg us.toArray] x (PTo x r K L (Wa 3 L n st).2 (Wa 3 L n st).1.ds):=fun x us h1 h2=>qSel x r K L _ us n h1 h2 (by omega) (by omega)
  generalize Wa 3 L n st=xs at *;have hex:∀(x:World)(us:List Value),Zv x r K L→RPv r K L (xs.2) us→Calls Φ 110 #[.agg us.toArray] x (PTo x r K L (Yh 3 L n (xs.2)).2 (Yh 3 L n (xs.2)).1.ds):=fun x us h1 h2=>Zmb x r K L _ us n h1 h2 (by omega) (by omega)
  generalize Yh 3 L n (xs.2)=xn at *;have hju:∀(x:World)(us:List Value),Zv x r K L→RPv r K L (xn.2) us→Calls Φ 23 #[.agg us.toArray,Ψ ⟨#[59]⟩] x (PPo x r K L (Yb L Xj (xn.2))):=fun x us h1 h2=>Zan x r K L _ us Xj h1 h2
  clear hn hLn;go_enter Tryz.func83,Tryz.ntmps83;go_wp2_with(first
 |((with_reducible refine Zd 2 ?_);refine Zk T0.out 66 _ (vs) rfl rfl rfl ?_;intro w1 g0 t1
   have T1:=Hh (t1);clear t1)
 |((with_reducible refine Zd 3 ?_);refine Zk T1.out 58 _ (Xa 2 l c zseL zexL 0 0 0 0 ⟨#[]⟩ 0 zexL zexL (Λ none 0 0) (Λ none 0 0)) rfl rfl rfl ?_;intro w2 g1 t2
   have T2:=Hh (t2);clear t2)
 |((with_reducible refine Zd 4 ?_);refine Zc T2.out 66 _ rfl rfl z_P ?_;intro w3 g2 t3
   have T3:=Hh (t3);clear t3)
 |((with_reducible refine Zd 5 ?_);refine Zc T3.out 58 _ rfl rfl Zfs ?_;intro w4 g3 t4
   have T4:=Hh (t4);have hk0:=T4.out.cell 1 0 rfl rfl;clear t4)
 |((with_reducible refine Zd 34 ?_);refine Zb 66 _ 66 g0 _ (T4.out.get 0 rfl) Zo (Zf hp.len) rfl rfl rfl ?_)
 |(go_at_call 107;refine(hse _ vs (ho.below T4.out.below) hp).mono ?_;rintro e w5 ⟨v5,u5,rfl,h5,d5,b5⟩
   have ls:=d5.len6;have os:=Hh d5.one;have T5:=Hh (T4.out.tree b5 d5);clear b5)
 |((with_reducible refine Zi 2 36 ?_);refine Za 66 _ _ 66 g0 _ (v5) (T5.out.get 0 rfl) (h5.len.trans hp.len.symm) (Zf h5.len) h5.one rfl rfl rfl rfl rfl ?_
   intro w6 p6;have T6:=Hh (T5.out.put 0 rfl p6);clear p6)
 |((with_reducible refine Zi 38 37 ?_);refine Zhs 49 _ _ 58 g1 (T6.out.get 1 rfl) rfl ls Wd os.out rfl rfl rfl rfl rfl ?_
   intro w7 p7;have T7:=Hh (T6.out.put 1 rfl p7);clear p7)
 |((with_reducible refine Zd 119 ?_);refine Zb 66 _ 66 g0 _ (T7.out.get 0 rfl) Zo (Zf h5.len) rfl rfl rfl ?_)
 |(go_at_call 110;refine(hex _ v5 (ho.below T7.out.below) h5).mono ?_;rintro e w8 ⟨v8,u8,rfl,h8,d8,b8⟩
   have le:=d8.len12;have oe:=Hh d8.one;have T8:=Hh (T7.out.tree b8 d8);clear b8)
 |((with_reducible refine Zi 2 121 ?_);refine Za 66 _ _ 66 g0 _ (v8) (T8.out.get 0 rfl) (h8.len.trans h5.len.symm) (Zf h8.len) h8.one rfl rfl rfl rfl rfl ?_
   intro w9 p9;have T9:=Hh (T8.out.put 0 rfl p9);clear p9)
 |((with_reducible refine Zi 123 122 ?_);refine Zlq 54 _ _ 58 g1 (T9.out.get 1 rfl) ls rfl le Ym oe.out rfl rfl rfl rfl rfl ?_
   intro w10 p10;have T10:Hid (Env w [(g0,66,v8),(g1,58,Xa 2 l c u5 u8 0 0 0 0 ⟨#[]⟩ 0 zexL zexL (Λ none 0 0) (Λ none 0 0)),(g2,66,[Λ none 0 0,I J 0,I J 0,I J 0,I J 0,I J 0]),(g3,58,Jq)] [] [(xs.1.ds,u5),(xn.1.ds,u8)] w10):=Hh (T9.out.put 1 rfl p10);clear p10))
  have D10:=Hh (show Zt (fun k=>w.heap.size≤k) w10 (((⟨2,l,c,xs.1,xn.1,0,0,0,0,⟨#[]⟩,0,zEx,zEx⟩:AH)).dsr 0 .nil 0 .nil) (Xa 2 l c u5 u8 0 0 0 0 ⟨#[]⟩ 0 zexL zexL (Λ none 0 0) (Λ none 0 0))from(Xv _ _ _ _ _ _ _ _ _ (T10.out.leaf 0 rfl) (T10.out.leaf 1 rfl) (Ya _ _) (Ya _ _) (Yn _ _) (Yn _ _)));refine Zmn mixed (by kernel_rfl) (by kernel_rfl) (by kernel_rfl) (by kernel_rfl) (by kernel_rfl) (by kernel_rfl) (by kernel_rfl) (by kernel_rfl) (by kernel_rfl) rfl rfl rfl rfl rfl rfl rfl rfl rfl rfl rfl g0 g1 g2 g3 (v8) (Xa 2 l c u5 u8 0 0 0 0 ⟨#[]⟩ 0 zexL zexL (Λ none 0 0) (Λ none 0 0)) ([Λ none 0 0,I J 0,I J 0,I J 0,I J 0,I J 0]) (Jq) (T10.out.get 0 rfl) (T10.out.get 1 rfl) (T10.out.get 2 rfl) (T10.out.get 3 rfl) 23 #[.agg v8.toArray,Ψ ⟨#[59]⟩] (fun l=>RPv r K L (Yb L Xj (xn.2)) l) (fun _=>by first | kernel_rfl | (go_simp;done) | (simp[go_sem,execOp];done)) (hju _ v8 (ho.below T10.out.drew.below) h8) (fun _ hh=>hh.len) (D10.out.len.trans (AH.dsr_len _ _ _ _ _)) (fun _ hh=>hh.one) D10.out.one (T10.out.ne 0 2 (by decide) rfl rfl) (T10.out.ne 0 3 (by decide) rfl rfl) (T10.out.ne 1 2 (by decide) rfl rfl) (T10.out.ne 1 3 (by decide) rfl rfl) (T10.out.ne 2 3 (by decide) rfl rfl) h8.len Zo (Zf h8.len) Wn (Xe (D10.out.len.trans (AH.dsr_len _ _ _ _ _))) rfl rfl (fun _=>rfl) (fun _=>rfl) (fun _=>rfl) (fun _=>rfl) ?_;intro vz wz hz hR;have HZ:=Hh hR;clear hR;go_wp2
  obtain⟨dz,bz⟩:=T10.out.ret2 2 3 rfl rfl HZ.out;refine Yt 4 66 5 58 66 58 _ _ _ _ rfl HZ.out.one HZ.out.two Zo (Zf hz.len) Wn (Xe (D10.out.len.trans (AH.dsr_len _ _ _ _ _))) rfl rfl rfl ?_;exact⟨_,_,rfl,hz,(Xv _ _ _ _ _ _ _ _ _ (dz _ (List.mem_of_getElem? (i:=0) rfl)) (dz _ (List.mem_of_getElem? (i:=1) rfl)) (Ya _ _) (Ya _ _) (Yn _ _) (Yn _ _)),bz⟩
theorem qplain12(w:World)(r K:Nat)(L:List TokV)(st:St)(vs:List Value)(l c:Int)(n:Nat)(ho:Zv w r K L)(hp:RPv r K L st vs)(hn:4*Zw L st+3≤n)(hLn:Zw L st≤68719476736) :
  Calls Φ 83 #[.agg vs.toArray,.agg (Zcz 12 l c).toArray] w (PTo w r K L (Yb L Xj (Wq 3 L n (AH.zero 12 l c) 12 st).2) ((Wq 3 L n (AH.zero 12 l c) 12 st).1.dsr 0 .nil 0 .nil)):=by
  have T0:=Hh (Env.start w);unfold Zcz;show Calls _ _ _ _ (PTo w r K L (Yb L Xj ((Yh 3 L n ((Wa 3 L n st).2)).2)) ((⟨12,l,c,(Wa 3 L n st).1,(Yh 3 L n ((Wa 3 L n st).2)).1,0,0,0,0,⟨#[]⟩,0,zEx,zEx⟩:AH).dsr 0 .nil 0 .nil));have hr1:=Zal L 3 n st;have hse:∀(x:World)(us:List Value),Zv x r K L→RPv r K L (st) us→Calls Φ 107 #[.agg us.toArray] x (PTo x r K L (Wa 3 L n st).2 (Wa 3 L n st).1.ds):=fun x us h1 h2=>qSel x r K L _ us n h1 h2 (by omega) (by omega)
  generalize Wa 3 L n st=xs at *;have hex:∀(x:World)(us:List Value),Zv x r K L→RPv r K L (xs.2) us→Calls Φ 110 #[.agg us.toArray] x (PTo x r K L (Yh 3 L n (xs.2)).2 (Yh 3 L n (xs.2)).1.ds):=fun x us h1 h2=>Zmb x r K L _ us n h1 h2 (by omega) (by omega)
  generalize Yh 3 L n (xs.2)=xn at *;have hju:∀(x:World)(us:List Value),Zv x r K L→RPv r K L (xn.2) us→Calls Φ 23 #[.agg us.toArray,Ψ ⟨#[59]⟩] x (PPo x r K L (Yb L Xj (xn.2))):=fun x us h1 h2=>Zan x r K L _ us Xj h1 h2
  clear hn hLn;go_enter Tryz.func83,Tryz.ntmps83;go_wp2_with(first
 |((with_reducible refine Zd 2 ?_);refine Zk T0.out 66 _ (vs) rfl rfl rfl ?_;intro w1 g0 t1
   have T1:=Hh (t1);clear t1)
 |((with_reducible refine Zd 3 ?_);refine Zk T1.out 58 _ (Xa 12 l c zseL zexL 0 0 0 0 ⟨#[]⟩ 0 zexL zexL (Λ none 0 0) (Λ none 0 0)) rfl rfl rfl ?_;intro w2 g1 t2
   have T2:=Hh (t2);clear t2)
 |((with_reducible refine Zd 4 ?_);refine Zc T2.out 66 _ rfl rfl z_P ?_;intro w3 g2 t3
   have T3:=Hh (t3);clear t3)
 |((with_reducible refine Zd 5 ?_);refine Zc T3.out 58 _ rfl rfl Zfs ?_;intro w4 g3 t4
   have T4:=Hh (t4);have hk0:=T4.out.cell 1 0 rfl rfl;clear t4)
 |((with_reducible refine Zd 34 ?_);refine Zb 66 _ 66 g0 _ (T4.out.get 0 rfl) Zo (Zf hp.len) rfl rfl rfl ?_)
 |(go_at_call 107;refine(hse _ vs (ho.below T4.out.below) hp).mono ?_;rintro e w5 ⟨v5,u5,rfl,h5,d5,b5⟩
   have ls:=d5.len6;have os:=Hh d5.one;have T5:=Hh (T4.out.tree b5 d5);clear b5)
 |((with_reducible refine Zi 2 36 ?_);refine Za 66 _ _ 66 g0 _ (v5) (T5.out.get 0 rfl) (h5.len.trans hp.len.symm) (Zf h5.len) h5.one rfl rfl rfl rfl rfl ?_
   intro w6 p6;have T6:=Hh (T5.out.put 0 rfl p6);clear p6)
 |((with_reducible refine Zi 38 37 ?_);refine Zhs 49 _ _ 58 g1 (T6.out.get 1 rfl) rfl ls Wd os.out rfl rfl rfl rfl rfl ?_
   intro w7 p7;have T7:=Hh (T6.out.put 1 rfl p7);clear p7)
 |((with_reducible refine Zd 119 ?_);refine Zb 66 _ 66 g0 _ (T7.out.get 0 rfl) Zo (Zf h5.len) rfl rfl rfl ?_)
 |(go_at_call 110;refine(hex _ v5 (ho.below T7.out.below) h5).mono ?_;rintro e w8 ⟨v8,u8,rfl,h8,d8,b8⟩
   have le:=d8.len12;have oe:=Hh d8.one;have T8:=Hh (T7.out.tree b8 d8);clear b8)
 |((with_reducible refine Zi 2 121 ?_);refine Za 66 _ _ 66 g0 _ (v8) (T8.out.get 0 rfl) (h8.len.trans h5.len.symm) (Zf h8.len) h8.one rfl rfl rfl rfl rfl ?_
   intro w9 p9;have T9:=Hh (T8.out.put 0 rfl p9);clear p9)
 |((with_reducible refine Zi 123 122 ?_);refine Zlq 54 _ _ 58 g1 (T9.out.get 1 rfl) ls rfl le Ym oe.out rfl rfl rfl rfl rfl ?_
   intro w10 p10;have T10:Hid (Env w [(g0,66,v8),(g1,58,Xa 12 l c u5 u8 0 0 0 0 ⟨#[]⟩ 0 zexL zexL (Λ none 0 0) (Λ none 0 0)),(g2,66,[Λ none 0 0,I J 0,I J 0,I J 0,I J 0,I J 0]),(g3,58,Jq)] [] [(xs.1.ds,u5),(xn.1.ds,u8)] w10):=Hh (T9.out.put 1 rfl p10);clear p10))
  have D10:=Hh (show Zt (fun k=>w.heap.size≤k) w10 (((⟨12,l,c,xs.1,xn.1,0,0,0,0,⟨#[]⟩,0,zEx,zEx⟩:AH)).dsr 0 .nil 0 .nil) (Xa 12 l c u5 u8 0 0 0 0 ⟨#[]⟩ 0 zexL zexL (Λ none 0 0) (Λ none 0 0))from(Xv _ _ _ _ _ _ _ _ _ (T10.out.leaf 0 rfl) (T10.out.leaf 1 rfl) (Ya _ _) (Ya _ _) (Yn _ _) (Yn _ _)));refine Zmn mixed (by kernel_rfl) (by kernel_rfl) (by kernel_rfl) (by kernel_rfl) (by kernel_rfl) (by kernel_rfl) (by kernel_rfl) (by kernel_rfl) (by kernel_rfl) rfl rfl rfl rfl rfl rfl rfl rfl rfl rfl rfl g0 g1 g2 g3 (v8) (Xa 12 l c u5 u8 0 0 0 0 ⟨#[]⟩ 0 zexL zexL (Λ none 0 0) (Λ none 0 0)) ([Λ none 0 0,I J 0,I J 0,I J 0,I J 0,I J 0]) (Jq) (T10.out.get 0 rfl) (T10.out.get 1 rfl) (T10.out.get 2 rfl) (T10.out.get 3 rfl) 23 #[.agg v8.toArray,Ψ ⟨#[59]⟩] (fun l=>RPv r K L (Yb L Xj (xn.2)) l) (fun _=>by first | kernel_rfl | (go_simp;done) | (simp[go_sem,execOp];done)) (hju _ v8 (ho.below T10.out.drew.below) h8) (fun _ hh=>hh.len) (D10.out.len.trans (AH.dsr_len _ _ _ _ _)) (fun _ hh=>hh.one) D10.out.one (T10.out.ne 0 2 (by decide) rfl rfl) (T10.out.ne 0 3 (by decide) rfl rfl) (T10.out.ne 1 2 (by decide) rfl rfl) (T10.out.ne 1 3 (by decide) rfl rfl) (T10.out.ne 2 3 (by decide) rfl rfl) h8.len Zo (Zf h8.len) Wn (Xe (D10.out.len.trans (AH.dsr_len _ _ _ _ _))) rfl rfl (fun _=>rfl) (fun _=>rfl) (fun _=>rfl) (fun _=>rfl) ?_;intro vz wz hz hR;have HZ:=Hh hR;clear hR;go_wp2
  obtain⟨dz,bz⟩:=T10.out.ret2 2 3 rfl rfl HZ.out;refine Yt 4 66 5 58 66 58 _ _ _ _ rfl HZ.out.one HZ.out.two Zo (Zf hz.len) Wn (Xe (D10.out.len.trans (AH.dsr_len _ _ _ _ _))) rfl rfl rfl ?_;exact⟨_,_,rfl,hz,(Xv _ _ _ _ _ _ _ _ _ (dz _ (List.mem_of_getElem? (i:=0) rfl)) (dz _ (List.mem_of_getElem? (i:=1) rfl)) (Ya _ _) (Ya _ _) (Yn _ _) (Yn _ _)),bz⟩
theorem qplain3(w:World)(r K:Nat)(L:List TokV)(st:St)(vs:List Value)(l c:Int)(n:Nat)(ho:Zv w r K L)(hp:RPv r K L st vs)(hn:4*Zw L st+3≤n)(hLn:Zw L st≤68719476736) :
  Calls Φ 83 #[.agg vs.toArray,.agg (Zcz 3 l c).toArray] w (PTo w r K L (Yb L Xj (Wq 3 L n (AH.zero 3 l c) 3 st).2) ((Wq 3 L n (AH.zero 3 l c) 3 st).1.dsr 0 .nil 0 .nil)):=by
  have T0:=Hh (Env.start w);unfold Zcz;show Calls _ _ _ _ (PTo w r K L (Yb L Xj ((Wa 3 L n st).2)) ((⟨3,l,c,(Wa 3 L n st).1,zEx,0,0,0,0,⟨#[]⟩,0,zEx,zEx⟩:AH).dsr 0 .nil 0 .nil));have hr1:=Zal L 3 n st;have hse:∀(x:World)(us:List Value),Zv x r K L→RPv r K L (st) us→Calls Φ 107 #[.agg us.toArray] x (PTo x r K L (Wa 3 L n st).2 (Wa 3 L n st).1.ds):=fun x us h1 h2=>qSel x r K L _ us n h1 h2 (by omega) (by omega)
  generalize Wa 3 L n st=xs at *;have hju:∀(x:World)(us:List Value),Zv x r K L→RPv r K L (xs.2) us→Calls Φ 23 #[.agg us.toArray,Ψ ⟨#[59]⟩] x (PPo x r K L (Yb L Xj (xs.2))):=fun x us h1 h2=>Zan x r K L _ us Xj h1 h2
  clear hn hLn;go_enter Tryz.func83,Tryz.ntmps83;go_wp2_with(first
 |((with_reducible refine Zd 2 ?_);refine Zk T0.out 66 _ (vs) rfl rfl rfl ?_;intro w1 g0 t1
   have T1:=Hh (t1);clear t1)
 |((with_reducible refine Zd 3 ?_);refine Zk T1.out 58 _ (Xa 3 l c zseL zexL 0 0 0 0 ⟨#[]⟩ 0 zexL zexL (Λ none 0 0) (Λ none 0 0)) rfl rfl rfl ?_;intro w2 g1 t2
   have T2:=Hh (t2);clear t2)
 |((with_reducible refine Zd 4 ?_);refine Zc T2.out 66 _ rfl rfl z_P ?_;intro w3 g2 t3
   have T3:=Hh (t3);clear t3)
 |((with_reducible refine Zd 5 ?_);refine Zc T3.out 58 _ rfl rfl Zfs ?_;intro w4 g3 t4
   have T4:=Hh (t4);have hk0:=T4.out.cell 1 0 rfl rfl;clear t4)
 |((with_reducible refine Zd 34 ?_);refine Zb 66 _ 66 g0 _ (T4.out.get 0 rfl) Zo (Zf hp.len) rfl rfl rfl ?_)
 |(go_at_call 107;refine(hse _ vs (ho.below T4.out.below) hp).mono ?_;rintro e w5 ⟨v5,u5,rfl,h5,d5,b5⟩
   have ls:=d5.len6;have os:=Hh d5.one;have T5:=Hh (T4.out.tree b5 d5);clear b5)
 |((with_reducible refine Zi 2 36 ?_);refine Za 66 _ _ 66 g0 _ (v5) (T5.out.get 0 rfl) (h5.len.trans hp.len.symm) (Zf h5.len) h5.one rfl rfl rfl rfl rfl ?_
   intro w6 p6;have T6:=Hh (T5.out.put 0 rfl p6);clear p6)
 |((with_reducible refine Zi 38 37 ?_);refine Zhs 49 _ _ 58 g1 (T6.out.get 1 rfl) rfl ls Wd os.out rfl rfl rfl rfl rfl ?_
   intro w7 p7;have T7:Hid (Env w [(g0,66,v5),(g1,58,Xa 3 l c u5 zexL 0 0 0 0 ⟨#[]⟩ 0 zexL zexL (Λ none 0 0) (Λ none 0 0)),(g2,66,[Λ none 0 0,I J 0,I J 0,I J 0,I J 0,I J 0]),(g3,58,Jq)] [] [(xs.1.ds,u5)] w7):=Hh (T6.out.put 1 rfl p7);clear p7))
  have D7:=Hh (show Zt (fun k=>w.heap.size≤k) w7 (((⟨3,l,c,xs.1,zEx,0,0,0,0,⟨#[]⟩,0,zEx,zEx⟩:AH)).dsr 0 .nil 0 .nil) (Xa 3 l c u5 zexL 0 0 0 0 ⟨#[]⟩ 0 zexL zexL (Λ none 0 0) (Λ none 0 0))from(Xv _ _ _ _ _ _ _ _ _ (T7.out.leaf 0 rfl) (Ya _ _) (Ya _ _) (Ya _ _) (Yn _ _) (Yn _ _)));refine Zmn mixed (by kernel_rfl) (by kernel_rfl) (by kernel_rfl) (by kernel_rfl) (by kernel_rfl) (by kernel_rfl) (by kernel_rfl) (by kernel_rfl) (by kernel_rfl) rfl rfl rfl rfl rfl rfl rfl rfl rfl rfl rfl g0 g1 g2 g3 (v5) (Xa 3 l c u5 zexL 0 0 0 0 ⟨#[]⟩ 0 zexL zexL (Λ none 0 0) (Λ none 0 0)) ([Λ none 0 0,I J 0,I J 0,I J 0,I J 0,I J 0]) (Jq) (T7.out.get 0 rfl) (T7.out.get 1 rfl) (T7.out.get 2 rfl) (T7.out.get 3 rfl) 23 #[.agg v5.toArray,Ψ ⟨#[59]⟩] (fun l=>RPv r K L (Yb L Xj (xs.2)) l) (fun _=>by first | kernel_rfl | (go_simp;done) | (simp[go_sem,execOp];done)) (hju _ v5 (ho.below T7.out.drew.below) h5) (fun _ hh=>hh.len) (D7.out.len.trans (AH.dsr_len _ _ _ _ _)) (fun _ hh=>hh.one) D7.out.one (T7.out.ne 0 2 (by decide) rfl rfl) (T7.out.ne 0 3 (by decide) rfl rfl) (T7.out.ne 1 2 (by decide) rfl rfl) (T7.out.ne 1 3 (by decide) rfl rfl) (T7.out.ne 2 3 (by decide) rfl rfl) h5.len Zo (Zf h5.len) Wn (Xe (D7.out.len.trans (AH.dsr_len _ _ _ _ _))) rfl rfl (fun _=>rfl) (fun _=>rfl) (fun _=>rfl) (fun _=>rfl) ?_;intro vz wz hz hR;have HZ:=Hh hR;clear hR;go_wp2
  obtain⟨dz,bz⟩:=T7.out.ret2 2 3 rfl rfl HZ.out;refine Yt 4 66 5 58 66 58 _ _ _ _ rfl HZ.out.one HZ.out.two Zo (Zf hz.len) Wn (Xe (D7.out.len.trans (AH.dsr_len _ _ _ _ _))) rfl rfl rfl ?_;exact⟨_,_,rfl,hz,(Xv _ _ _ _ _ _ _ _ _ (dz _ (List.mem_of_getElem? (i:=0) rfl)) (Ya _ _) (Ya _ _) (Ya _ _) (Yn _ _) (Yn _ _)),bz⟩
theorem qplain5(w:World)(r K:Nat)(L:List TokV)(st:St)(vs:List Value)(l c:Int)(n:Nat)(ho:Zv w r K L)(hp:RPv r K L st vs)(hn:4*Zw L st+3≤n)(hLn:Zw L st≤68719476736) :
  Calls Φ 83 #[.agg vs.toArray,.agg (Zcz 5 l c).toArray] w (PTo w r K L (Yb L Xj (Wq 3 L n (AH.zero 5 l c) 5 st).2) ((Wq 3 L n (AH.zero 5 l c) 5 st).1.dsr 0 .nil 0 .nil)):=by
  have T0:=Hh (Env.start w);unfold Zcz;show Calls _ _ _ _ (PTo w r K L (Yb L Xj ((Wa 3 L n st).2)) ((⟨5,l,c,(Wa 3 L n st).1,zEx,0,0,0,0,⟨#[]⟩,0,zEx,zEx⟩:AH).dsr 0 .nil 0 .nil));have hr1:=Zal L 3 n st;have hse:∀(x:World)(us:List Value),Zv x r K L→RPv r K L (st) us→Calls Φ 107 #[.agg us.toArray] x (PTo x r K L (Wa 3 L n st).2 (Wa 3 L n st).1.ds):=fun x us h1 h2=>qSel x r K L _ us n h1 h2 (by omega) (by omega)
  generalize Wa 3 L n st=xs at *;have hju:∀(x:World)(us:List Value),Zv x r K L→RPv r K L (xs.2) us→Calls Φ 23 #[.agg us.toArray,Ψ ⟨#[59]⟩] x (PPo x r K L (Yb L Xj (xs.2))):=fun x us h1 h2=>Zan x r K L _ us Xj h1 h2
  clear hn hLn;go_enter Tryz.func83,Tryz.ntmps83;go_wp2_with(first
 |((with_reducible refine Zd 2 ?_);refine Zk T0.out 66 _ (vs) rfl rfl rfl ?_;intro w1 g0 t1
   have T1:=Hh (t1);clear t1)
 |((with_reducible refine Zd 3 ?_);refine Zk T1.out 58 _ (Xa 5 l c zseL zexL 0 0 0 0 ⟨#[]⟩ 0 zexL zexL (Λ none 0 0) (Λ none 0 0)) rfl rfl rfl ?_;intro w2 g1 t2
   have T2:=Hh (t2);clear t2)
 |((with_reducible refine Zd 4 ?_);refine Zc T2.out 66 _ rfl rfl z_P ?_;intro w3 g2 t3
   have T3:=Hh (t3);clear t3)
 |((with_reducible refine Zd 5 ?_);refine Zc T3.out 58 _ rfl rfl Zfs ?_;intro w4 g3 t4
   have T4:=Hh (t4);have hk0:=T4.out.cell 1 0 rfl rfl;clear t4)
 |((with_reducible refine Zd 34 ?_);refine Zb 66 _ 66 g0 _ (T4.out.get 0 rfl) Zo (Zf hp.len) rfl rfl rfl ?_)
 |(go_at_call 107;refine(hse _ vs (ho.below T4.out.below) hp).mono ?_;rintro e w5 ⟨v5,u5,rfl,h5,d5,b5⟩
   have ls:=d5.len6;have os:=Hh d5.one;have T5:=Hh (T4.out.tree b5 d5);clear b5)
 |((with_reducible refine Zi 2 36 ?_);refine Za 66 _ _ 66 g0 _ (v5) (T5.out.get 0 rfl) (h5.len.trans hp.len.symm) (Zf h5.len) h5.one rfl rfl rfl rfl rfl ?_
   intro w6 p6;have T6:=Hh (T5.out.put 0 rfl p6);clear p6)
 |((with_reducible refine Zi 38 37 ?_);refine Zhs 49 _ _ 58 g1 (T6.out.get 1 rfl) rfl ls Wd os.out rfl rfl rfl rfl rfl ?_
   intro w7 p7;have T7:Hid (Env w [(g0,66,v5),(g1,58,Xa 5 l c u5 zexL 0 0 0 0 ⟨#[]⟩ 0 zexL zexL (Λ none 0 0) (Λ none 0 0)),(g2,66,[Λ none 0 0,I J 0,I J 0,I J 0,I J 0,I J 0]),(g3,58,Jq)] [] [(xs.1.ds,u5)] w7):=Hh (T6.out.put 1 rfl p7);clear p7))
  have D7:=Hh (show Zt (fun k=>w.heap.size≤k) w7 (((⟨5,l,c,xs.1,zEx,0,0,0,0,⟨#[]⟩,0,zEx,zEx⟩:AH)).dsr 0 .nil 0 .nil) (Xa 5 l c u5 zexL 0 0 0 0 ⟨#[]⟩ 0 zexL zexL (Λ none 0 0) (Λ none 0 0))from(Xv _ _ _ _ _ _ _ _ _ (T7.out.leaf 0 rfl) (Ya _ _) (Ya _ _) (Ya _ _) (Yn _ _) (Yn _ _)));refine Zmn mixed (by kernel_rfl) (by kernel_rfl) (by kernel_rfl) (by kernel_rfl) (by kernel_rfl) (by kernel_rfl) (by kernel_rfl) (by kernel_rfl) (by kernel_rfl) rfl rfl rfl rfl rfl rfl rfl rfl rfl rfl rfl g0 g1 g2 g3 (v5) (Xa 5 l c u5 zexL 0 0 0 0 ⟨#[]⟩ 0 zexL zexL (Λ none 0 0) (Λ none 0 0)) ([Λ none 0 0,I J 0,I J 0,I J 0,I J 0,I J 0]) (Jq) (T7.out.get 0 rfl) (T7.out.get 1 rfl) (T7.out.get 2 rfl) (T7.out.get 3 rfl) 23 #[.agg v5.toArray,Ψ ⟨#[59]⟩] (fun l=>RPv r K L (Yb L Xj (xs.2)) l) (fun _=>by first | kernel_rfl | (go_simp;done) | (simp[go_sem,execOp];done)) (hju _ v5 (ho.below T7.out.drew.below) h5) (fun _ hh=>hh.len) (D7.out.len.trans (AH.dsr_len _ _ _ _ _)) (fun _ hh=>hh.one) D7.out.one (T7.out.ne 0 2 (by decide) rfl rfl) (T7.out.ne 0 3 (by decide) rfl rfl) (T7.out.ne 1 2 (by decide) rfl rfl) (T7.out.ne 1 3 (by decide) rfl rfl) (T7.out.ne 2 3 (by decide) rfl rfl) h5.len Zo (Zf h5.len) Wn (Xe (D7.out.len.trans (AH.dsr_len _ _ _ _ _))) rfl rfl (fun _=>rfl) (fun _=>rfl) (fun _=>rfl) (fun _=>rfl) ?_;intro vz wz hz hR;have HZ:=Hh hR;clear hR;go_wp2
  obtain⟨dz,bz⟩:=T7.out.ret2 2 3 rfl rfl HZ.out;refine Yt 4 66 5 58 66 58 _ _ _ _ rfl HZ.out.one HZ.out.two Zo (Zf hz.len) Wn (Xe (D7.out.len.trans (AH.dsr_len _ _ _ _ _))) rfl rfl rfl ?_;exact⟨_,_,rfl,hz,(Xv _ _ _ _ _ _ _ _ _ (dz _ (List.mem_of_getElem? (i:=0) rfl)) (Ya _ _) (Ya _ _) (Ya _ _) (Yn _ _) (Yn _ _)),bz⟩
end Go.Proofs.YtdngkgickbaboaaGreat
