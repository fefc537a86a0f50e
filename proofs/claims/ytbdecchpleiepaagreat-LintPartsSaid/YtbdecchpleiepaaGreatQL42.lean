/- Parts of the proof. No conditions but those that each names. -/
import Derived.Test.YtbdecchpleiepaaGreatQL41
set_option maxRecDepth 20000
set_option maxHeartbeats 99000000
set_option linter.unusedVariables false
set_option linter.unusedSimpArgs false
namespace Go.Proofs.YtbdecchpleiepaaGreat
open Go.Value renaming int→I,slice→Λ,string→Ψ,oneCell'→Γ
open Go.IntKind renaming i64→J
open _root_.Go.Proofs.Tryz renaming prog→Φ
open Nat renaming le_refl→Θ
open And renaming intro→ζ
open Go.ChangeShapes Go.WideShapes Go.ChangeAt Go.RowKit
theorem z_se:(Tryz.prog.info? 76).map (fun i=>i.zero.map Value.cells)=some (some ([I J 0,I J 0,I J 0,I J 0,Λ none 0 0,I J 0]:List Value).toArray):=by kernel_rfl
theorem qSel(w:World)(r K:Nat)(L:List TokV)(st:St)(vs:List Value)(n:Nat)(ho:Zu w r K L)(hp:RPv r K L st vs)(hn:Zx L st+1≤n)(hLn:Zx L st≤68719476736) :
  Calls Φ 91 #[.agg vs.toArray] w (PTo w r K L (Xz 3 L n st).2 (Xz 3 L n st).1.ds):=by
 have T0:=Hh (Env.start w);have m1:∀(x:World)(us:List Value),Zu x r K L→RPv r K L (st) us→Calls Φ 43 #[.agg us.toArray,Λ (some ⟨x.heap.size,0,none⟩) 3 3] (x.alloc (.cells #[Ψ ⟨#[109,101]⟩,Ψ ⟨#[105,116]⟩,Ψ ⟨#[40]⟩] 9)) (PVo x r K L (Zn L Yr (st)) (I J (Zk L Yr (st)))):=fun x us h1 h2=>Zer x r K _ L (st) us Yr 3 3 _ rfl rfl h1 h2 rfl (by decide)
 by_cases h3:Zk L Yr st=3
 ·have e3:((Zk L Yr st:Int) != 3)=false:=by rw[h3];rfl
  have hse:Xz 3 L n st=(⟨3,(Zai L (Zn L Yr st)).1,(Zai L (Zn L Yr st)).2.1,(Zai L (Zn L Yr st)).2.2,(Yk 3 L n (Zcy L (Zn L Yr st))).1,Zk L Zdo (Yk 3 L n (Zcy L (Zn L Yr st))).2⟩,Zz L Zeq (Zn L Zdo (Yk 3 L n (Zcy L (Zn L Yr st))).2)):=if_pos h3;have hr0:=Xy L Yr st;have hr1:=rem_where L (Zn L Yr st);have H3:=Hh (ζ h3 hse);by_cases h4:Zk L Yq (Zn L Zq (Zn L Yr st))=3
  · have e4:((Zk L Yq (Zn L Zq (Zn L Yr st)):Int) == 3)=true:=by rw[h4];rfl
    have hws:Zcy L (Zn L Yr st)=(Zbt L (Zn L Yq (Zn L Zq (Zn L Yr st)))):=if_pos h4;have hwn:Zai L (Zn L Yr st)=((Zk L Zq (Zn L Yr st):Int),(Zk L Yq (Zn L Zq (Zn L Yr st)):Int),Zgr L (Zn L Yq (Zn L Zq (Zn L Yr st)))):=by unfold Zai;rw[if_pos h4]
    have HN:=Hh (show Zx L (Zbt L (Zn L Yq (Zn L Zq (Zn L Yr st))))+1≤n∧Zx L (Zbt L (Zn L Yq (Zn L Zq (Zn L Yr st))))≤68719476736 by rw[←hws];omega);have HW:=Hh (ζ hws hwn);clear h3 hse hr0 hr1 h4 hws hwn hn hLn;have m2:∀(x:World)(us:List Value),Zu x r K L→RPv r K L ((Zn L Zq (Zn L Yr st))) us→Calls Φ 43 #[.agg us.toArray,Λ (some ⟨x.heap.size,0,none⟩) 4 4] (x.alloc (.cells #[Ψ ⟨#[104,101,114,101]⟩,Ψ ⟨#[97,119,97,121]⟩,Ψ ⟨#[108,97,110,101]⟩,Ψ ⟨#[97,110,121,119,104,101,114,101]⟩] 9)) (PVo x r K L (Zn L Yq ((Zn L Zq (Zn L Yr st)))) (I J (Zk L Yq ((Zn L Zq (Zn L Yr st)))))):=fun x us h1 h2=>Zer x r K _ L ((Zn L Zq (Zn L Yr st))) us Yq 4 4 _ rfl rfl h1 h2 rfl (by decide)
    have m3:∀(x:World)(us:List Value),Zu x r K L→RPv r K L ((Yk 3 L n (Zbt L (Zn L Yq (Zn L Zq (Zn L Yr st))))).2) us→Calls Φ 43 #[.agg us.toArray,Λ (some ⟨x.heap.size,0,none⟩) 5 5] (x.alloc (.cells #[Ψ ⟨#[97,108,108]⟩,Ψ ⟨#[102,105,114,115,116]⟩,Ψ ⟨#[108,97,115,116]⟩,Ψ ⟨#[119,101,97,107,101,115,116]⟩,Ψ ⟨#[115,116,114,111,110,103,101,115,116]⟩] 9)) (PVo x r K L (Zn L Zdo ((Yk 3 L n (Zbt L (Zn L Yq (Zn L Zq (Zn L Yr st))))).2)) (I J (Zk L Zdo ((Yk 3 L n (Zbt L (Zn L Yq (Zn L Zq (Zn L Yr st))))).2)))):=fun x us h1 h2=>Zer x r K _ L ((Yk 3 L n (Zbt L (Zn L Yq (Zn L Zq (Zn L Yr st))))).2) us Zdo 5 5 _ rfl rfl h1 h2 rfl (by decide)
    go_enter Tryz.func91,Tryz.ntmps91;go_wp2_with(first
 |((with_reducible refine Zd 1 ?_);refine Zf T0.out 51 _ (vs) rfl rfl rfl ?_;intro w1 g0 t1
   have T1:=Hh (t1);clear t1)
 |((with_reducible refine Zd 2 ?_);refine Zb T1.out 51 _ rfl rfl z_P ?_;intro w2 g1 t2
   have T2:=Hh (t2);clear t2)
 |((with_reducible refine Zd 3 ?_);refine Zb T2.out 76 _ rfl rfl z_se ?_;intro w3 g2 t3
   have T3:=Hh (t3);clear t3)
 |((with_reducible refine Zd 4 ?_);refine Zb T3.out 76 _ rfl rfl z_se ?_;intro w4 g3 t4
   have T4:=Hh (t4);clear t4)
 |((with_reducible refine Zg 4 5 ?_);refine Za 76 _ _ 76 g3 _ ([I J 0,I J 0,I J 0,I J 0,Λ none 0 0,I J 0]) (T4.out.get 3 rfl) rfl Vi (by simp[Γ]) rfl rfl rfl rfl rfl ?_
   intro w5 p5;have T5:=Hh (T4.out.put 3 rfl p5);clear p5)
 |((with_reducible refine Zd 7 ?_);refine Zc 51 _ 51 g0 _ (T5.out.get 0 rfl) Zm (Ze hp.len) rfl rfl rfl ?_)
 |(go_at_call 43;(with_reducible refine(m1 _ vs (ho.below T5.out.below) hp).mono ?_);rintro e w6 ⟨v6,rfl,h6,b6⟩
   have T6:=Hh (T5.out.call b6);clear b6)
 |((with_reducible refine Zg 1 10 ?_);refine Za 51 _ _ 51 g0 _ (v6) (T6.out.get 0 rfl) (h6.len.trans hp.len.symm) (Ze h6.len) h6.one rfl rfl rfl rfl rfl ?_
   intro w7 p7;have T7:=Hh (T6.out.put 0 rfl p7);clear p7)
 |((with_reducible refine Zg 12 11 ?_);refine Zp 3 _ _ 76 g3 0 [] (I J 0) (I J (Zk L Yr st:Int)) [I J 0,I J 0,I J 0,Λ none 0 0,I J 0] (T7.out.get 3 rfl) rfl Yw rfl rfl rfl rfl rfl rfl ?_
   intro w8 p8;have T8:=Hh (T7.out.put 3 rfl p8);have hc8:=T8.out.cell 3 0 rfl rfl;clear p8)
 |((with_reducible refine Zd 19 ?_);refine Zc 51 _ 51 g0 _ (T8.out.get 0 rfl) Zm (Ze h6.len) rfl rfl rfl ?_)
 |(go_at_call 92;refine(Zkb _ r K L _ v6 (ho.below T8.out.below) h6).mono ?_;rintro e w9 ⟨v9,rfl,h9,b9⟩
   have T9:=Hh (T8.out.call b9);clear b9)
 |((with_reducible refine Zg 1 21 ?_);refine Za 51 _ _ 51 g0 _ (v9) (T9.out.get 0 rfl) (h9.len.trans h6.len.symm) (Ze h9.len) h9.one rfl rfl rfl rfl rfl ?_
   intro w10 p10;have T10:=Hh (T9.out.put 0 rfl p10);clear p10)
 |((with_reducible refine Zg 23 22 ?_);refine Zp 3 _ _ 76 g3 1 [I J (Zk L Yr st:Int)] (I J 0) (I J (Zk L Zq (Zn L Yr st):Int)) [I J 0,I J 0,Λ none 0 0,I J 0] (T10.out.get 3 rfl) rfl Yw rfl rfl rfl rfl rfl rfl ?_
   intro w11 p11;have T11:=Hh (T10.out.put 3 rfl p11);clear p11)
 |((with_reducible refine Zd 25 ?_);refine Zc 51 _ 51 g0 _ (T11.out.get 0 rfl) Zm (Ze h9.len) rfl rfl rfl ?_)
 |(go_at_call 43;(with_reducible refine(m2 _ v9 (ho.below T11.out.below) h9).mono ?_);rintro e w12 ⟨v12,rfl,h12,b12⟩
   have T12:=Hh (T11.out.call b12);clear b12)
 |((with_reducible refine Zg 1 28 ?_);refine Za 51 _ _ 51 g0 _ (v12) (T12.out.get 0 rfl) (h12.len.trans h9.len.symm) (Ze h12.len) h12.one rfl rfl rfl rfl rfl ?_
   intro w13 p13;have T13:=Hh (T12.out.put 0 rfl p13);clear p13)
 |((with_reducible refine Zg 30 29 ?_);refine Zp 3 _ _ 76 g3 2 [I J (Zk L Yr st:Int),I J (Zk L Zq (Zn L Yr st):Int)] (I J 0) (I J (Zk L Yq (Zn L Zq (Zn L Yr st)):Int)) [I J 0,Λ none 0 0,I J 0] (T13.out.get 3 rfl) rfl Yw rfl rfl rfl rfl rfl rfl ?_
   intro w14 p14;have T14:Hid (Env w [(g0,51,v12),(g1,51,[Λ none 0 0,I J 0,I J 0,I J 0,I J 0,I J 0]),(g2,76,[I J 0,I J 0,I J 0,I J 0,Λ none 0 0,I J 0]),(g3,76,[I J (Zk L Yr st:Int),I J (Zk L Zq (Zn L Yr st):Int),I J (Zk L Yq (Zn L Zq (Zn L Yr st)):Int),I J 0,Λ none 0 0,I J 0])] [] [] w14):=Hh (T13.out.put 3 rfl p14);have hd14:=T14.out.cell 3 2 rfl rfl;clear p14)
 |((with_reducible refine Zd 35 ?_);refine Zc 51 _ 51 g0 _ (T14.out.get 0 rfl) Zm (Ze h12.len) rfl rfl rfl ?_)
 |(go_at_call 20;refine(Zom _ r K L _ v12 (ho.below T14.out.below) h12).mono ?_;rintro e w15 ⟨v15,rfl,h15,b15⟩
   have T15:=Hh (T14.out.call b15);clear b15)
 |((with_reducible refine Zg 1 37 ?_);refine Za 51 _ _ 51 g0 _ (v15) (T15.out.get 0 rfl) (h15.len.trans h12.len.symm) (Ze h15.len) h15.one rfl rfl rfl rfl rfl ?_
   intro w16 p16;have T16:=Hh (T15.out.put 0 rfl p16);clear p16)
 |((with_reducible refine Zg 39 38 ?_);refine Zp 3 _ _ 76 g3 3 [I J (Zk L Yr st:Int),I J (Zk L Zq (Zn L Yr st):Int),I J (Zk L Yq (Zn L Zq (Zn L Yr st)):Int)] (I J 0) (I J (Zgr L (Zn L Yq (Zn L Zq (Zn L Yr st))))) [Λ none 0 0,I J 0] (T16.out.get 3 rfl) rfl Yw rfl rfl rfl rfl rfl rfl ?_
   intro w17 p17;have T17:=Hh (T16.out.put 3 rfl p17);clear p17)
 |((with_reducible refine Zd 41 ?_);refine Zc 51 _ 51 g0 _ (T17.out.get 0 rfl) Zm (Ze h15.len) rfl rfl rfl ?_)
 |(go_at_call 117;refine(qfilters _ r K L _ v15 n (ho.below T17.out.below) h15 HN.out.1 HN.out.2).mono ?_;rintro e w18 ⟨f5,v5,rfl,h5,o5,b18⟩
   obtain⟨A5,c5,rfl,_,_,_⟩:=Yx o5;have T18:=Hh (T17.out.tree b18 (Zs.rowOf o5 (fun k h=>h) (fls_deep _ _ _)));clear b18)
 |((with_reducible refine Zg 1 43 ?_);refine Za 51 _ _ 51 g0 _ (v5) (T18.out.get 0 rfl) (h5.len.trans h15.len.symm) (Ze h5.len) h5.one rfl rfl rfl rfl rfl ?_
   intro w19 p19;have T19:=Hh (T18.out.put 0 rfl p19);clear p19)
 |((with_reducible refine Zg 45 44 ?_);refine Zp 74 _ _ 76 g3 4 [I J (Zk L Yr st:Int),I J (Zk L Zq (Zn L Yr st):Int),I J (Zk L Yq (Zn L Zq (Zn L Yr st)):Int),I J (Zgr L (Zn L Yq (Zn L Zq (Zn L Yr st))))] (Λ none 0 0) (.slice A5 (Yk 3 L n (Zbt L (Zn L Yq (Zn L Zq (Zn L Yr st))))).1.length c5) [I J 0] (T19.out.get 3 rfl) rfl size_fls rfl rfl rfl rfl rfl rfl ?_
   intro w20 p20;have T20:=Hh (T19.out.put 3 rfl p20);clear p20)
 |((with_reducible refine Zd 47 ?_);refine Zc 51 _ 51 g0 _ (T20.out.get 0 rfl) Zm (Ze h5.len) rfl rfl rfl ?_)
 |(go_at_call 43;(with_reducible refine(m3 _ v5 (ho.below T20.out.below) h5).mono ?_);rintro e w21 ⟨v21,rfl,h21,b21⟩
   have T21:=Hh (T20.out.call b21);clear b21)
 |((with_reducible refine Zg 1 50 ?_);refine Za 51 _ _ 51 g0 _ (v21) (T21.out.get 0 rfl) (h21.len.trans h5.len.symm) (Ze h21.len) h21.one rfl rfl rfl rfl rfl ?_
   intro w22 p22;have T22:=Hh (T21.out.put 0 rfl p22);clear p22)
 |((with_reducible refine Zg 52 51 ?_);refine Zp 3 _ _ 76 g3 5 [I J (Zk L Yr st:Int),I J (Zk L Zq (Zn L Yr st):Int),I J (Zk L Yq (Zn L Zq (Zn L Yr st)):Int),I J (Zgr L (Zn L Yq (Zn L Zq (Zn L Yr st)))),.slice A5 (Yk 3 L n (Zbt L (Zn L Yq (Zn L Zq (Zn L Yr st))))).1.length c5] (I J 0) (I J (Zk L Zdo (Yk 3 L n (Zbt L (Zn L Yq (Zn L Zq (Zn L Yr st))))).2:Int)) [] (T22.out.get 3 rfl) rfl Yw rfl rfl rfl rfl rfl rfl ?_
   intro w23 p23;have T23:Hid (Env w [(g0,51,v21),(g1,51,[Λ none 0 0,I J 0,I J 0,I J 0,I J 0,I J 0]),(g2,76,[I J 0,I J 0,I J 0,I J 0,Λ none 0 0,I J 0]),(g3,76,[I J (Zk L Yr st:Int),I J (Zk L Zq (Zn L Yr st):Int),I J (Zk L Yq (Zn L Zq (Zn L Yr st)):Int),I J (Zgr L (Zn L Yq (Zn L Zq (Zn L Yr st)))),.slice A5 (Yk 3 L n (Zbt L (Zn L Yq (Zn L Zq (Zn L Yr st))))).1.length c5,I J (Zk L Zdo (Yk 3 L n (Zbt L (Zn L Yq (Zn L Zq (Zn L Yr st))))).2:Int)])] [] [(.row (Yk 3 L n (Zbt L (Zn L Yq (Zn L Zq (Zn L Yr st))))).1.length (Znt (Yk 3 L n (Zbt L (Zn L Yq (Zn L Zq (Zn L Yr st))))).1) .nil,[.slice A5 (Yk 3 L n (Zbt L (Zn L Yq (Zn L Zq (Zn L Yr st))))).1.length c5])] w23):=Hh (T22.out.put 3 rfl p23)
   clear p23))
    refine Zkp mixed (by kernel_rfl) (by kernel_rfl) (by kernel_rfl) (by kernel_rfl) (by kernel_rfl) (by kernel_rfl) (by kernel_rfl) (by kernel_rfl) (by kernel_rfl) rfl rfl rfl rfl rfl rfl rfl rfl rfl rfl rfl g0 g3 g1 g2 (v21) ([I J (Zk L Yr st:Int),I J (Zk L Zq (Zn L Yr st):Int),I J (Zk L Yq (Zn L Zq (Zn L Yr st)):Int),I J (Zgr L (Zn L Yq (Zn L Zq (Zn L Yr st)))),.slice A5 (Yk 3 L n (Zbt L (Zn L Yq (Zn L Zq (Zn L Yr st))))).1.length c5,I J (Zk L Zdo (Yk 3 L n (Zbt L (Zn L Yq (Zn L Zq (Zn L Yr st))))).2:Int)]) ([Λ none 0 0,I J 0,I J 0,I J 0,I J 0,I J 0]) ([I J 0,I J 0,I J 0,I J 0,Λ none 0 0,I J 0]) (T23.out.get 0 rfl) (T23.out.get 3 rfl) (T23.out.get 1 rfl) (T23.out.get 2 rfl) 21 #[.agg v21.toArray,Ψ ⟨#[41]⟩] (fun l=>RPv r K L (Zz L Zeq (Zn L Zdo (Yk 3 L n (Zbt L (Zn L Yq (Zn L Zq (Zn L Yr st))))).2)) l) (fun _=>by first | kernel_rfl | (go_simp;done) | (simp[go_sem,execOp];done)) (Jh _ r K L _ v21 Zeq (ho.below T23.out.drew.below) h21) (fun _ hh=>hh.len) rfl (fun _ hh=>hh.one) (by simp[Γ]) (T23.out.ne 0 1 (by decide) rfl rfl) (T23.out.ne 0 2 (by decide) rfl rfl) (T23.out.ne 3 1 (by decide) rfl rfl) (T23.out.ne 3 2 (by decide) rfl rfl) (T23.out.ne 1 2 (by decide) rfl rfl) h21.len Zm (Ze h21.len) Zjk Vi rfl rfl (fun _=>rfl) (fun _=>rfl) (fun _=>rfl) (fun _=>rfl) ?_;intro vz wz hz hR;have HZ:=Hh hR;clear hR;go_wp2
    obtain⟨dz,bz⟩:=T23.out.ret2 1 2 rfl rfl HZ.out;refine Yp 2 51 3 76 51 76 _ _ _ _ rfl HZ.out.one HZ.out.two Zm (Ze hz.len) Zjk Vi rfl rfl rfl ?_;rw[H3.out.2,HW.out.1,HW.out.2];refine⟨_,_,rfl,hz,⟨_,by rw[H3.out.1];rfl,_,rfl,_,rfl,_,rfl,?_⟩,bz⟩;exact Zs.app (y:=.int _ .nil) ⟨_,rfl,rfl⟩ (dz _ (List.mem_singleton.2 rfl))
  · have e4:((Zk L Yq (Zn L Zq (Zn L Yr st)):Int) == 3)=false:=by rw[beq_eq_false_iff_ne];omega
    have hws:Zcy L (Zn L Yr st)=(Zn L Yq (Zn L Zq (Zn L Yr st))):=if_neg h4;have hwn:Zai L (Zn L Yr st)=((Zk L Zq (Zn L Yr st):Int),(Zk L Yq (Zn L Zq (Zn L Yr st)):Int),0):=by unfold Zai;rw[if_neg h4]
    have HN:=Hh (show Zx L (Zn L Yq (Zn L Zq (Zn L Yr st)))+1≤n∧Zx L (Zn L Yq (Zn L Zq (Zn L Yr st)))≤68719476736 by rw[←hws];omega);have HW:=Hh (ζ hws hwn);clear h3 hse hr0 hr1 h4 hws hwn hn hLn;have m2:∀(x:World)(us:List Value),Zu x r K L→RPv r K L ((Zn L Zq (Zn L Yr st))) us→Calls Φ 43 #[.agg us.toArray,Λ (some ⟨x.heap.size,0,none⟩) 4 4] (x.alloc (.cells #[Ψ ⟨#[104,101,114,101]⟩,Ψ ⟨#[97,119,97,121]⟩,Ψ ⟨#[108,97,110,101]⟩,Ψ ⟨#[97,110,121,119,104,101,114,101]⟩] 9)) (PVo x r K L (Zn L Yq ((Zn L Zq (Zn L Yr st)))) (I J (Zk L Yq ((Zn L Zq (Zn L Yr st)))))):=fun x us h1 h2=>Zer x r K _ L ((Zn L Zq (Zn L Yr st))) us Yq 4 4 _ rfl rfl h1 h2 rfl (by decide)
    have m3:∀(x:World)(us:List Value),Zu x r K L→RPv r K L ((Yk 3 L n (Zn L Yq (Zn L Zq (Zn L Yr st)))).2) us→Calls Φ 43 #[.agg us.toArray,Λ (some ⟨x.heap.size,0,none⟩) 5 5] (x.alloc (.cells #[Ψ ⟨#[97,108,108]⟩,Ψ ⟨#[102,105,114,115,116]⟩,Ψ ⟨#[108,97,115,116]⟩,Ψ ⟨#[119,101,97,107,101,115,116]⟩,Ψ ⟨#[115,116,114,111,110,103,101,115,116]⟩] 9)) (PVo x r K L (Zn L Zdo ((Yk 3 L n (Zn L Yq (Zn L Zq (Zn L Yr st)))).2)) (I J (Zk L Zdo ((Yk 3 L n (Zn L Yq (Zn L Zq (Zn L Yr st)))).2)))):=fun x us h1 h2=>Zer x r K _ L ((Yk 3 L n (Zn L Yq (Zn L Zq (Zn L Yr st)))).2) us Zdo 5 5 _ rfl rfl h1 h2 rfl (by decide)
    go_enter Tryz.func91,Tryz.ntmps91;go_wp2_with(first
 |((with_reducible refine Zd 1 ?_);refine Zf T0.out 51 _ (vs) rfl rfl rfl ?_;intro w1 g0 t1
   have T1:=Hh (t1);clear t1)
 |((with_reducible refine Zd 2 ?_);refine Zb T1.out 51 _ rfl rfl z_P ?_;intro w2 g1 t2
   have T2:=Hh (t2);clear t2)
 |((with_reducible refine Zd 3 ?_);refine Zb T2.out 76 _ rfl rfl z_se ?_;intro w3 g2 t3
   have T3:=Hh (t3);clear t3)
 |((with_reducible refine Zd 4 ?_);refine Zb T3.out 76 _ rfl rfl z_se ?_;intro w4 g3 t4
   have T4:=Hh (t4);clear t4)
 |((with_reducible refine Zg 4 5 ?_);refine Za 76 _ _ 76 g3 _ ([I J 0,I J 0,I J 0,I J 0,Λ none 0 0,I J 0]) (T4.out.get 3 rfl) rfl Vi (by simp[Γ]) rfl rfl rfl rfl rfl ?_
   intro w5 p5;have T5:=Hh (T4.out.put 3 rfl p5);clear p5)
 |((with_reducible refine Zd 7 ?_);refine Zc 51 _ 51 g0 _ (T5.out.get 0 rfl) Zm (Ze hp.len) rfl rfl rfl ?_)
 |(go_at_call 43;(with_reducible refine(m1 _ vs (ho.below T5.out.below) hp).mono ?_);rintro e w6 ⟨v6,rfl,h6,b6⟩
   have T6:=Hh (T5.out.call b6);clear b6)
 |((with_reducible refine Zg 1 10 ?_);refine Za 51 _ _ 51 g0 _ (v6) (T6.out.get 0 rfl) (h6.len.trans hp.len.symm) (Ze h6.len) h6.one rfl rfl rfl rfl rfl ?_
   intro w7 p7;have T7:=Hh (T6.out.put 0 rfl p7);clear p7)
 |((with_reducible refine Zg 12 11 ?_);refine Zp 3 _ _ 76 g3 0 [] (I J 0) (I J (Zk L Yr st:Int)) [I J 0,I J 0,I J 0,Λ none 0 0,I J 0] (T7.out.get 3 rfl) rfl Yw rfl rfl rfl rfl rfl rfl ?_
   intro w8 p8;have T8:=Hh (T7.out.put 3 rfl p8);have hc8:=T8.out.cell 3 0 rfl rfl;clear p8)
 |((with_reducible refine Zd 19 ?_);refine Zc 51 _ 51 g0 _ (T8.out.get 0 rfl) Zm (Ze h6.len) rfl rfl rfl ?_)
 |(go_at_call 92;refine(Zkb _ r K L _ v6 (ho.below T8.out.below) h6).mono ?_;rintro e w9 ⟨v9,rfl,h9,b9⟩
   have T9:=Hh (T8.out.call b9);clear b9)
 |((with_reducible refine Zg 1 21 ?_);refine Za 51 _ _ 51 g0 _ (v9) (T9.out.get 0 rfl) (h9.len.trans h6.len.symm) (Ze h9.len) h9.one rfl rfl rfl rfl rfl ?_
   intro w10 p10;have T10:=Hh (T9.out.put 0 rfl p10);clear p10)
 |((with_reducible refine Zg 23 22 ?_);refine Zp 3 _ _ 76 g3 1 [I J (Zk L Yr st:Int)] (I J 0) (I J (Zk L Zq (Zn L Yr st):Int)) [I J 0,I J 0,Λ none 0 0,I J 0] (T10.out.get 3 rfl) rfl Yw rfl rfl rfl rfl rfl rfl ?_
   intro w11 p11;have T11:=Hh (T10.out.put 3 rfl p11);clear p11)
 |((with_reducible refine Zd 25 ?_);refine Zc 51 _ 51 g0 _ (T11.out.get 0 rfl) Zm (Ze h9.len) rfl rfl rfl ?_)
 |(go_at_call 43;(with_reducible refine(m2 _ v9 (ho.below T11.out.below) h9).mono ?_);rintro e w12 ⟨v12,rfl,h12,b12⟩
   have T12:=Hh (T11.out.call b12);clear b12)
 |((with_reducible refine Zg 1 28 ?_);refine Za 51 _ _ 51 g0 _ (v12) (T12.out.get 0 rfl) (h12.len.trans h9.len.symm) (Ze h12.len) h12.one rfl rfl rfl rfl rfl ?_
   intro w13 p13;have T13:=Hh (T12.out.put 0 rfl p13);clear p13)
 |((with_reducible refine Zg 30 29 ?_);refine Zp 3 _ _ 76 g3 2 [I J (Zk L Yr st:Int),I J (Zk L Zq (Zn L Yr st):Int)] (I J 0) (I J (Zk L Yq (Zn L Zq (Zn L Yr st)):Int)) [I J 0,Λ none 0 0,I J 0] (T13.out.get 3 rfl) rfl Yw rfl rfl rfl rfl rfl rfl ?_
   intro w14 p14;have T14:Hid (Env w [(g0,51,v12),(g1,51,[Λ none 0 0,I J 0,I J 0,I J 0,I J 0,I J 0]),(g2,76,[I J 0,I J 0,I J 0,I J 0,Λ none 0 0,I J 0]),(g3,76,[I J (Zk L Yr st:Int),I J (Zk L Zq (Zn L Yr st):Int),I J (Zk L Yq (Zn L Zq (Zn L Yr st)):Int),I J 0,Λ none 0 0,I J 0])] [] [] w14):=Hh (T13.out.put 3 rfl p14);have hd14:=T14.out.cell 3 2 rfl rfl;clear p14)
 |((with_reducible refine Zd 41 ?_);refine Zc 51 _ 51 g0 _ (T14.out.get 0 rfl) Zm (Ze h12.len) rfl rfl rfl ?_)
 |(go_at_call 117;refine(qfilters _ r K L _ v12 n (ho.below T14.out.below) h12 HN.out.1 HN.out.2).mono ?_;rintro e w15 ⟨f5,v5,rfl,h5,o5,b15⟩
   obtain⟨A5,c5,rfl,_,_,_⟩:=Yx o5;have T15:=Hh (T14.out.tree b15 (Zs.rowOf o5 (fun k h=>h) (fls_deep _ _ _)));clear b15)
 |((with_reducible refine Zg 1 43 ?_);refine Za 51 _ _ 51 g0 _ (v5) (T15.out.get 0 rfl) (h5.len.trans h12.len.symm) (Ze h5.len) h5.one rfl rfl rfl rfl rfl ?_
   intro w16 p16;have T16:=Hh (T15.out.put 0 rfl p16);clear p16)
 |((with_reducible refine Zg 45 44 ?_);refine Zp 74 _ _ 76 g3 4 [I J (Zk L Yr st:Int),I J (Zk L Zq (Zn L Yr st):Int),I J (Zk L Yq (Zn L Zq (Zn L Yr st)):Int),I J 0] (Λ none 0 0) (.slice A5 (Yk 3 L n (Zn L Yq (Zn L Zq (Zn L Yr st)))).1.length c5) [I J 0] (T16.out.get 3 rfl) rfl size_fls rfl rfl rfl rfl rfl rfl ?_
   intro w17 p17;have T17:=Hh (T16.out.put 3 rfl p17);clear p17)
 |((with_reducible refine Zd 47 ?_);refine Zc 51 _ 51 g0 _ (T17.out.get 0 rfl) Zm (Ze h5.len) rfl rfl rfl ?_)
 |(go_at_call 43;(with_reducible refine(m3 _ v5 (ho.below T17.out.below) h5).mono ?_);rintro e w18 ⟨v18,rfl,h18,b18⟩
   have T18:=Hh (T17.out.call b18);clear b18)
 |((with_reducible refine Zg 1 50 ?_);refine Za 51 _ _ 51 g0 _ (v18) (T18.out.get 0 rfl) (h18.len.trans h5.len.symm) (Ze h18.len) h18.one rfl rfl rfl rfl rfl ?_
   intro w19 p19;have T19:=Hh (T18.out.put 0 rfl p19);clear p19)
 |((with_reducible refine Zg 52 51 ?_);refine Zp 3 _ _ 76 g3 5 [I J (Zk L Yr st:Int),I J (Zk L Zq (Zn L Yr st):Int),I J (Zk L Yq (Zn L Zq (Zn L Yr st)):Int),I J 0,.slice A5 (Yk 3 L n (Zn L Yq (Zn L Zq (Zn L Yr st)))).1.length c5] (I J 0) (I J (Zk L Zdo (Yk 3 L n (Zn L Yq (Zn L Zq (Zn L Yr st)))).2:Int)) [] (T19.out.get 3 rfl) rfl Yw rfl rfl rfl rfl rfl rfl ?_
   intro w20 p20;have T20:Hid (Env w [(g0,51,v18),(g1,51,[Λ none 0 0,I J 0,I J 0,I J 0,I J 0,I J 0]),(g2,76,[I J 0,I J 0,I J 0,I J 0,Λ none 0 0,I J 0]),(g3,76,[I J (Zk L Yr st:Int),I J (Zk L Zq (Zn L Yr st):Int),I J (Zk L Yq (Zn L Zq (Zn L Yr st)):Int),I J 0,.slice A5 (Yk 3 L n (Zn L Yq (Zn L Zq (Zn L Yr st)))).1.length c5,I J (Zk L Zdo (Yk 3 L n (Zn L Yq (Zn L Zq (Zn L Yr st)))).2:Int)])] [] [(.row (Yk 3 L n (Zn L Yq (Zn L Zq (Zn L Yr st)))).1.length (Znt (Yk 3 L n (Zn L Yq (Zn L Zq (Zn L Yr st)))).1) .nil,[.slice A5 (Yk 3 L n (Zn L Yq (Zn L Zq (Zn L Yr st)))).1.length c5])] w20):=Hh (T19.out.put 3 rfl p20)
   clear p20))
    refine Zkp mixed (by kernel_rfl) (by kernel_rfl) (by kernel_rfl) (by kernel_rfl) (by kernel_rfl) (by kernel_rfl) (by kernel_rfl) (by kernel_rfl) (by kernel_rfl) rfl rfl rfl rfl rfl rfl rfl rfl rfl rfl rfl g0 g3 g1 g2 (v18) ([I J (Zk L Yr st:Int),I J (Zk L Zq (Zn L Yr st):Int),I J (Zk L Yq (Zn L Zq (Zn L Yr st)):Int),I J 0,.slice A5 (Yk 3 L n (Zn L Yq (Zn L Zq (Zn L Yr st)))).1.length c5,I J (Zk L Zdo (Yk 3 L n (Zn L Yq (Zn L Zq (Zn L Yr st)))).2:Int)]) ([Λ none 0 0,I J 0,I J 0,I J 0,I J 0,I J 0]) ([I J 0,I J 0,I J 0,I J 0,Λ none 0 0,I J 0]) (T20.out.get 0 rfl) (T20.out.get 3 rfl) (T20.out.get 1 rfl) (T20.out.get 2 rfl) 21 #[.agg v18.toArray,Ψ ⟨#[41]⟩] (fun l=>RPv r K L (Zz L Zeq (Zn L Zdo (Yk 3 L n (Zn L Yq (Zn L Zq (Zn L Yr st)))).2)) l) (fun _=>by first | kernel_rfl | (go_simp;done) | (simp[go_sem,execOp];done)) (Jh _ r K L _ v18 Zeq (ho.below T20.out.drew.below) h18) (fun _ hh=>hh.len) rfl (fun _ hh=>hh.one) (by simp[Γ]) (T20.out.ne 0 1 (by decide) rfl rfl) (T20.out.ne 0 2 (by decide) rfl rfl) (T20.out.ne 3 1 (by decide) rfl rfl) (T20.out.ne 3 2 (by decide) rfl rfl) (T20.out.ne 1 2 (by decide) rfl rfl) h18.len Zm (Ze h18.len) Zjk Vi rfl rfl (fun _=>rfl) (fun _=>rfl) (fun _=>rfl) (fun _=>rfl) ?_;intro vz wz hz hR;have HZ:=Hh hR;clear hR;go_wp2
    obtain⟨dz,bz⟩:=T20.out.ret2 1 2 rfl rfl HZ.out;refine Yp 2 51 3 76 51 76 _ _ _ _ rfl HZ.out.one HZ.out.two Zm (Ze hz.len) Zjk Vi rfl rfl rfl ?_;rw[H3.out.2,HW.out.1,HW.out.2];refine⟨_,_,rfl,hz,⟨_,by rw[H3.out.1];rfl,_,rfl,_,rfl,_,rfl,?_⟩,bz⟩;exact Zs.app (y:=.int _ .nil) ⟨_,rfl,rfl⟩ (dz _ (List.mem_singleton.2 rfl))
 ·have e3:((Zk L Yr st:Int) != 3)=true:=by rw[bne_iff_ne];omega
  have hse:Xz 3 L n st=(⟨Zk L Yr st,0,0,0,[],0⟩,Zn L Yr st):=if_neg h3;have H3:=Hh hse;clear h3 hse;go_enter Tryz.func91,Tryz.ntmps91;go_wp2_with(first
 |((with_reducible refine Zd 1 ?_);refine Zf T0.out 51 _ (vs) rfl rfl rfl ?_;intro w1 g0 t1
   have T1:=Hh (t1);clear t1)
 |((with_reducible refine Zd 2 ?_);refine Zb T1.out 51 _ rfl rfl z_P ?_;intro w2 g1 t2
   have T2:=Hh (t2);clear t2)
 |((with_reducible refine Zd 3 ?_);refine Zb T2.out 76 _ rfl rfl z_se ?_;intro w3 g2 t3
   have T3:=Hh (t3);clear t3)
 |((with_reducible refine Zd 4 ?_);refine Zb T3.out 76 _ rfl rfl z_se ?_;intro w4 g3 t4
   have T4:=Hh (t4);clear t4)
 |((with_reducible refine Zg 4 5 ?_);refine Za 76 _ _ 76 g3 _ ([I J 0,I J 0,I J 0,I J 0,Λ none 0 0,I J 0]) (T4.out.get 3 rfl) rfl Vi (by simp[Γ]) rfl rfl rfl rfl rfl ?_
   intro w5 p5;have T5:=Hh (T4.out.put 3 rfl p5);clear p5)
 |((with_reducible refine Zd 7 ?_);refine Zc 51 _ 51 g0 _ (T5.out.get 0 rfl) Zm (Ze hp.len) rfl rfl rfl ?_)
 |(go_at_call 43;(with_reducible refine(m1 _ vs (ho.below T5.out.below) hp).mono ?_);rintro e w6 ⟨v6,rfl,h6,b6⟩
   have T6:=Hh (T5.out.call b6);clear b6)
 |((with_reducible refine Zg 1 10 ?_);refine Za 51 _ _ 51 g0 _ (v6) (T6.out.get 0 rfl) (h6.len.trans hp.len.symm) (Ze h6.len) h6.one rfl rfl rfl rfl rfl ?_
   intro w7 p7;have T7:=Hh (T6.out.put 0 rfl p7);clear p7)
 |((with_reducible refine Zg 12 11 ?_);refine Zp 3 _ _ 76 g3 0 [] (I J 0) (I J (Zk L Yr st:Int)) [I J 0,I J 0,I J 0,Λ none 0 0,I J 0] (T7.out.get 3 rfl) rfl Yw rfl rfl rfl rfl rfl rfl ?_
   intro w8 p8;have T8:Hid (Env w [(g0,51,v6),(g1,51,[Λ none 0 0,I J 0,I J 0,I J 0,I J 0,I J 0]),(g2,76,[I J 0,I J 0,I J 0,I J 0,Λ none 0 0,I J 0]),(g3,76,[I J (Zk L Yr st:Int),I J 0,I J 0,I J 0,Λ none 0 0,I J 0])] [] [] w8):=Hh (T7.out.put 3 rfl p8);have hc8:=T8.out.cell 3 0 rfl rfl;clear p8))
  refine ret2 mixed (by kernel_rfl) (by kernel_rfl) (by kernel_rfl) (by kernel_rfl) (by kernel_rfl) (by kernel_rfl) (by kernel_rfl) (by kernel_rfl) rfl rfl rfl rfl rfl rfl rfl rfl rfl rfl g0 g3 g1 g2 (v6) ([I J (Zk L Yr st:Int),I J 0,I J 0,I J 0,Λ none 0 0,I J 0]) ([Λ none 0 0,I J 0,I J 0,I J 0,I J 0,I J 0]) ([I J 0,I J 0,I J 0,I J 0,Λ none 0 0,I J 0]) (T8.out.get 0 rfl) (T8.out.get 3 rfl) (T8.out.get 1 rfl) (T8.out.get 2 rfl) h6.len rfl h6.one (by simp[Γ]) (T8.out.ne 0 1 (by decide) rfl rfl) (T8.out.ne 0 2 (by decide) rfl rfl) (T8.out.ne 3 1 (by decide) rfl rfl) (T8.out.ne 3 2 (by decide) rfl rfl) (T8.out.ne 1 2 (by decide) rfl rfl) Zm (Ze h6.len) Zjk Vi rfl rfl rfl rfl rfl rfl ?_;intro wz hR;have HZ:=Hh hR;clear hR;go_wp2
  obtain⟨dz,bz⟩:=T8.out.ret2 1 2 rfl rfl HZ.out;refine Yp 2 51 3 76 51 76 _ _ _ _ rfl HZ.out.one HZ.out.two Zm (Ze h6.len) Zjk Vi rfl rfl rfl ?_;rw[H3.out];exact⟨_,_,rfl,h6,⟨_,rfl,_,rfl,_,rfl,_,rfl,_,_,[],_,rfl,⟨Nat.zero_le _,Θ _⟩,.inl rfl,rfl,_,rfl,rfl⟩,bz⟩
end Go.Proofs.YtbdecchpleiepaaGreat
