/- Parts of the proof. No conditions but those that each names. -/
import Derived.Test.YtbdecchpleiepaaGreatQL43
set_option maxRecDepth 20000
set_option maxHeartbeats 99000000
set_option linter.unusedVariables false
set_option linter.unusedSimpArgs false
namespace Go.Proofs.YtbdecchpleiepaaGreat
open Go.Value renaming int→I,slice→Λ,string→Ψ,oneCell'→Γ
open Go.IntKind renaming i64→J
open _root_.Go.Proofs.Tryz renaming prog→Φ
open And renaming intro→ζ
open Go.Ending renaming returned→η
open Go.ChangeShapes Go.WideShapes Go.ChangeAt Go.RowKit
theorem six_vals:∀ vs:List Value,vs.length=6→∃ a b c d e f,vs=[a,b,c,d,e,f]
 |[a,b,c,d,e,f],_=>⟨a,b,c,d,e,f,rfl⟩
theorem qfact_bad(n:Nat)(w:World)(r K:Nat)(L:List TokV)(F:Int×Nat×Nat)(vs:List Value)(ho:Zu w r K L)(hp:RPv r K L (.bad F) vs) :
  Calls Φ 147 #[.agg vs.toArray] w (PTo w r K L (Ww 3 L (n+1) (.bad F)).2 (Ww 3 L (n+1) (.bad F)).1.ds):=by
 have T0:=Hh (Env.start w);have HP0:=Hh hp;obtain⟨A,nb,kb,a,d,rfl,hd,hF⟩:=hp.bad;have HP:=Hh HP0.out;clear HP0 hp;have hmy:∀(x:World)(us:List Value),Zu x r K L→RPv r K L (.bad F) us→Calls Φ 18 #[.agg us.toArray,Λ (some ⟨x.heap.size,0,none⟩) 5 5] (x.alloc (.cells #[Ψ ⟨#[99,111,117,110,116]⟩,Ψ ⟨#[115,117,109]⟩,Ψ ⟨#[114,111,117,110,100]⟩,Ψ ⟨#[104,97,110,100]⟩,Ψ ⟨#[102,114,101,101]⟩] 9)) (PVo x r K L (.bad F) (I J 0)):=fun x us h1 h2=>Zlr x r K _ L (.bad F) us Wa 5 5 _ rfl rfl h1 h2 rfl (by decide)
 have hsg:∀(x:World)(us:List Value),Zu x r K L→RPv r K L (.bad F) us→Calls Φ 22 #[.agg us.toArray] x (PVo x r K L (.bad F) (I J 0)):=fun x us h1 h2=>Zlq x r K L (.bad F) us h1 h2
 obtain⟨f0,f1,f2⟩:=F;have z0:(f0 == 0)=false:=by rw[beq_eq_false_iff_ne];exact hF
 show Calls _ _ _ _ (PTo w r K L (.bad (f0,f1,f2)) (Ex.leaf 1 0 zSe 0 0 0).ds);clear hF;go_enter Tryz.func147,Tryz.ntmps147;go_wp2_with(first
 |((with_reducible refine Zd 1 ?_);refine Zf T0.out 51 _ ([Λ A nb kb,I J (a:Int),I J (d:Int),I J f0,I J (f1:Int),I J (f2:Int)]) rfl rfl rfl ?_;intro w1 g0 t1
   have T1:=Hh (t1);clear t1)
 |((with_reducible refine Zd 2 ?_);refine Zb T1.out 51 _ rfl rfl z_P ?_;intro w2 g1 t2
   have T2:=Hh (t2);clear t2)
 |((with_reducible refine Zd 3 ?_);refine Zb T2.out 81 _ rfl rfl Zfh ?_;intro w3 g2 t3
   have T3:=Hh (t3);clear t3)
 |((with_reducible refine Zd 4 ?_);refine Zb T3.out 81 _ rfl rfl Zfh ?_;intro w4 g3 t4
   have T4:=Hh (t4);clear t4)
 |((with_reducible refine Zg 4 9 ?_);refine Za 81 _ _ 81 g3 _ ([I J 0,I J 0,I J 0,I J 0,I J 0,I J 0,Λ none 0 0,I J 0,I J 0,I J 0,I J 0,Λ none 0 0]) (T4.out.get 3 rfl) rfl Yi (by simp[Γ]) rfl rfl rfl rfl rfl ?_
   intro w5 p5;have T5:=Hh (T4.out.put 3 rfl p5);obtain⟨c0,c1,c2,c3,c4,c5⟩:=Xu (T5.out.get 0 rfl);clear p5)
 |((with_reducible refine Zd 35 ?_);refine Zc 51 _ 51 g0 _ (T5.out.get 0 rfl) Zm Yc rfl rfl rfl ?_)
 |(go_at_call 18;refine(hmy _ _ (ho.below T5.out.below) HP.out).mono ?_;rintro e w6 ⟨v1,rfl,h1,b6⟩
   have T6:=Hh (T5.out.call b6);clear b6)
 |((with_reducible refine Zd 7 ?_);refine Zb T6.out 51 _ rfl rfl z_P ?_;intro w7 g4 t7
   have T7:=Hh (t7);clear t7)
 |((with_reducible refine Zg 7 38 ?_);refine Za 51 _ _ 51 g4 _ (v1) (T7.out.get 4 rfl) h1.len (Ze h1.len) h1.one rfl rfl rfl rfl rfl ?_
   intro w8 p8;have T8:=Hh (T7.out.put 4 rfl p8);clear p8)
 |((with_reducible refine Zd 43 ?_);refine Zc 51 _ 51 g4 _ (T8.out.get 4 rfl) Zm (Ze h1.len) rfl rfl rfl ?_)
 |(go_at_call 22;refine(hsg _ v1 (ho.below T8.out.below) h1).mono ?_;rintro e w9 ⟨v2,rfl,h2,b9⟩
   have T9:=Hh (T8.out.call b9);clear b9)
 |((with_reducible refine Zg 7 45 ?_);refine Za 51 _ _ 51 g4 _ (v2) (T9.out.get 4 rfl) (h2.len.trans h1.len.symm) (Ze h2.len) h2.one rfl rfl rfl rfl rfl ?_
   intro w10 p10;have T10:=Hh (T9.out.put 4 rfl p10);clear p10)
 |((with_reducible refine Zg 47 46 ?_);refine Zp 3 _ _ 81 g3 1 [I J 0] (I J 0) (I J 0) [I J 0,I J 0,I J 0,I J 0,Λ none 0 0,I J 0,I J 0,I J 0,I J 0,Λ none 0 0] (T10.out.get 3 rfl) rfl Yw rfl rfl rfl rfl rfl rfl ?_
   intro w11 p11;have T11:=Hh (T10.out.put 3 rfl p11);clear p11)
 |((with_reducible refine Jb ?_);refine Zp 3 _ (.const (I J 1)) 81 g3 0 [] (I J 0) (I J 1) [I J 0,I J 0,I J 0,I J 0,I J 0,Λ none 0 0,I J 0,I J 0,I J 0,I J 0,Λ none 0 0] (T11.out.get 3 rfl) rfl Yw rfl rfl rfl rfl rfl rfl ?_
   intro w12 p12;have T12:Hid (Env w [(g0,51,[Λ A nb kb,I J (a:Int),I J (d:Int),I J f0,I J (f1:Int),I J (f2:Int)]),(g1,51,[Λ none 0 0,I J 0,I J 0,I J 0,I J 0,I J 0]),(g2,81,[I J 0,I J 0,I J 0,I J 0,I J 0,I J 0,Λ none 0 0,I J 0,I J 0,I J 0,I J 0,Λ none 0 0]),(g3,81,[I J 1,I J 0,I J 0,I J 0,I J 0,I J 0,Λ none 0 0,I J 0,I J 0,I J 0,I J 0,Λ none 0 0]),(g4,51,v2)] [] [] w12):=Hh (T11.out.put 3 rfl p12);clear p12))
 refine ret2 mixed (by kernel_rfl) (by kernel_rfl) (by kernel_rfl) (by kernel_rfl) (by kernel_rfl) (by kernel_rfl) (by kernel_rfl) (by kernel_rfl) rfl rfl rfl rfl rfl rfl rfl rfl rfl rfl g4 g3 g1 g2 (v2) ([I J 1,I J 0,I J 0,I J 0,I J 0,I J 0,Λ none 0 0,I J 0,I J 0,I J 0,I J 0,Λ none 0 0]) ([Λ none 0 0,I J 0,I J 0,I J 0,I J 0,I J 0]) ([I J 0,I J 0,I J 0,I J 0,I J 0,I J 0,Λ none 0 0,I J 0,I J 0,I J 0,I J 0,Λ none 0 0]) (T12.out.get 4 rfl) (T12.out.get 3 rfl) (T12.out.get 1 rfl) (T12.out.get 2 rfl) h2.len rfl h2.one (by simp[Γ]) (T12.out.ne 4 1 (by decide) rfl rfl) (T12.out.ne 4 2 (by decide) rfl rfl) (T12.out.ne 3 1 (by decide) rfl rfl) (T12.out.ne 3 2 (by decide) rfl rfl) (T12.out.ne 1 2 (by decide) rfl rfl) Zm (Ze h2.len) Yy Yi rfl rfl rfl rfl rfl rfl ?_;intro wz hR;have HZ:=Hh hR;clear hR;go_wp2
 obtain⟨dz,bz⟩:=T12.out.ret2 1 2 rfl rfl HZ.out;refine Yp 2 51 3 81 51 81 _ _ _ _ rfl HZ.out.one HZ.out.two Zm (Ze h2.len) Yy Yi rfl rfl rfl ?_;refine⟨_,_,rfl,h2,?_,bz⟩;exact Uq _ _ _ _ _ _ (Zas _ _)
theorem qfact_leaf(n:Nat)(w:World)(r K:Nat)(L:List TokV)(a d:Nat)(vs:List Value)(ho:Zu w r K L)(hp:RPv r K L (.ok a d) vs)(hn:4*Zx L (.ok a d)+1≤n+1)(hLn:Zx L (.ok a d)≤68719476736)(hb:isT (Yb L a) Zab=false) :
  Calls Φ 147 #[.agg vs.toArray] w (PTo w r K L (Ww 3 L (n+1) (.ok a d)).2 (Ww 3 L (n+1) (.ok a d)).1.ds):=by
 have T0:=Hh (Env.start w);have HP0:=Hh hp;obtain⟨nn,hnn,rfl,ha,hd⟩:=hp.ok;have HP:=Hh HP0.out;clear HP0;have hrow:=ho (by omega);have HR:=Hh hrow;have HN:=Hh (ζ hnn ha);have his:∀ x,Uw x r K L→Calls Φ 39 #[.agg #[Λ (some ⟨r,0,none⟩) nn K,I J (a:Int),I J (d:Int)],Ψ ⟨#[40]⟩] x (fun e w'=>e=η (.bool false)∧Below x.heap.size x w'):=fun x h=>by rw[←hb];exact qIs x r K L nn a d Zab HN.out.1 h HN.out.2
 have heq:Ww 3 L (n+1) (.ok a d)=if Zk L Wa (.ok a d)=0 then(.leaf 1 (Zeh L (.ok a d)) zSe 0 0 0,Zbe L (.ok a d))
  else if Zk L Wa (.ok a d)=1∨Zk L Wa (.ok a d)=2 then(.leaf (Zk L Wa (.ok a d)+1) 0 (Xz 3 L n (Ye L Wa (.ok a d))).1 0 0 0,(Xz 3 L n (Ye L Wa (.ok a d))).2)
  else if Zk L Wa (.ok a d)=3 then(.leaf 4 0 zSe 0 0 0,Ye L Wa (.ok a d))
  else if Zk L Wa (.ok a d)=4 then(.leaf 5 0 zSe (Zk L Zq (Ye L Wa (.ok a d))) 0 0,Zn L Zq (Ye L Wa (.ok a d)))
  else(.leaf 6 0 zSe (Zk L Zq (Ye L Wa (.ok a d))) (toK L (Zn L Zq (Ye L Wa (.ok a d)))) (toL L (Zn L Zq (Ye L Wa (.ok a d)))),toS L (Zn L Zq (Ye L Wa (.ok a d)))):=by
  rw[Ww,if_neg (by show ¬(isT (Yb L a) Zab=true);rw[hb];decide)]
 rw[heq];have hfn:=Uh L (ws:=Wa) (st:=.ok a d);have hfr:=Vt (L:=L) (ws:=Wa) (st:=.ok a d);have hle:=Zen L Wa (.ok a d);have hmy:∀(x:World)(us:List Value),Zu x r K L→RPv r K L (.ok a d) us→Calls Φ 18 #[.agg us.toArray,Λ (some ⟨x.heap.size,0,none⟩) 5 5] (x.alloc (.cells #[Ψ ⟨#[99,111,117,110,116]⟩,Ψ ⟨#[115,117,109]⟩,Ψ ⟨#[114,111,117,110,100]⟩,Ψ ⟨#[104,97,110,100]⟩,Ψ ⟨#[102,114,101,101]⟩] 9)) (PVo x r K L (Ye L Wa (.ok a d)) (I J (Zk L Wa (.ok a d)))):=fun x us h1 h2=>Zlr x r K _ L (.ok a d) us Wa 5 5 _ rfl rfl h1 h2 rfl (by decide)
 have hrs:Zx L (.ok a d)=Zx L (.ok a d):=rfl;have HS:=Hh (show 4*Zx L (.ok a d)≤n∧Zx L (.ok a d)≤68719476736 by omega);generalize hk:Zk L Wa (.ok a d)=k at *;generalize hs1:Ye L Wa (.ok a d)=s1 at *;clear hp hrow hnn hn hLn hb heq hrs hk hs1;have hle4:k≤5:=hle;have h6:k=0∨k=1∨k=2∨k=3∨k=4∨k=5:=by omega
 clear hle hle4;rcases h6 with rfl | rfl | rfl | rfl | rfl | rfl
 ·rw[show((0:Nat):Int)=0 from rfl]at hmy
  obtain rfl:=hfn rfl;rw[if_pos rfl];generalize hsn:Zeh L (.ok a d)=sg at *;have hsg:∀(x:World)(us:List Value),Zu x r K L→RPv r K L (.ok a d) us→Calls Φ 22 #[.agg us.toArray] x (PVo x r K L (Zbe L (.ok a d)) (I J sg)):=fun x us h1 h2=>by rw[←hsn];exact Zlq x r K L (.ok a d) us h1 h2
  clear hfr hsn;go_enter Tryz.func147,Tryz.ntmps147;go_wp2_with(first
 |((with_reducible refine Zd 1 ?_);refine Zf T0.out 51 _ ([Λ (some ⟨r,0,none⟩) nn K,I J (a:Int),I J (d:Int),I J 0,I J 0,I J 0]) rfl rfl rfl ?_;intro w1 g0 t1
   have T1:=Hh (t1);clear t1)
 |((with_reducible refine Zd 2 ?_);refine Zb T1.out 51 _ rfl rfl z_P ?_;intro w2 g1 t2
   have T2:=Hh (t2);clear t2)
 |((with_reducible refine Zd 3 ?_);refine Zb T2.out 81 _ rfl rfl Zfh ?_;intro w3 g2 t3
   have T3:=Hh (t3);clear t3)
 |((with_reducible refine Zd 4 ?_);refine Zb T3.out 81 _ rfl rfl Zfh ?_;intro w4 g3 t4
   have T4:=Hh (t4);clear t4)
 |((with_reducible refine Zg 4 9 ?_);refine Za 81 _ _ 81 g3 _ ([I J 0,I J 0,I J 0,I J 0,I J 0,I J 0,Λ none 0 0,I J 0,I J 0,I J 0,I J 0,Λ none 0 0]) (T4.out.get 3 rfl) rfl Yi (by simp[Γ]) rfl rfl rfl rfl rfl ?_
   intro w5 p5;have T5:=Hh (T4.out.put 3 rfl p5);obtain⟨c0,c1,c2,c3,c4,c5⟩:=Xu (T5.out.get 0 rfl);clear p5)
 |(go_at_call 39;refine(his _ (HR.out.below T5.out.below)).mono ?_;rintro e w6 ⟨rfl,b6⟩
   have T6:=Hh (T5.out.call b6);clear b6)
 |((with_reducible refine Zd 35 ?_);refine Zc 51 _ 51 g0 _ (T6.out.get 0 rfl) Zm Yc rfl rfl rfl ?_)
 |(go_at_call 18;refine(hmy _ _ (ho.below T6.out.below) HP.out).mono ?_;rintro e w7 ⟨v1,rfl,h1,b7⟩
   have T7:=Hh (T6.out.call b7);clear b7)
 |((with_reducible refine Zd 7 ?_);refine Zb T7.out 51 _ rfl rfl z_P ?_;intro w8 g4 t8
   have T8:=Hh (t8);clear t8)
 |((with_reducible refine Zg 7 38 ?_);refine Za 51 _ _ 51 g4 _ (v1) (T8.out.get 4 rfl) h1.len (Ze h1.len) h1.one rfl rfl rfl rfl rfl ?_
   intro w9 p9;have T9:=Hh (T8.out.put 4 rfl p9);clear p9)
 |((with_reducible refine Zd 43 ?_);refine Zc 51 _ 51 g4 _ (T9.out.get 4 rfl) Zm (Ze h1.len) rfl rfl rfl ?_)
 |(go_at_call 22;refine(hsg _ v1 (ho.below T9.out.below) h1).mono ?_;rintro e w10 ⟨v2,rfl,h2,b10⟩
   have T10:=Hh (T9.out.call b10);clear b10)
 |((with_reducible refine Zg 7 45 ?_);refine Za 51 _ _ 51 g4 _ (v2) (T10.out.get 4 rfl) (h2.len.trans h1.len.symm) (Ze h2.len) h2.one rfl rfl rfl rfl rfl ?_
   intro w11 p11;have T11:=Hh (T10.out.put 4 rfl p11);clear p11)
 |((with_reducible refine Zg 47 46 ?_);refine Zp 3 _ _ 81 g3 1 [I J 0] (I J 0) (I J sg) [I J 0,I J 0,I J 0,I J 0,Λ none 0 0,I J 0,I J 0,I J 0,I J 0,Λ none 0 0] (T11.out.get 3 rfl) rfl Yw rfl rfl rfl rfl rfl rfl ?_
   intro w12 p12;have T12:=Hh (T11.out.put 3 rfl p12);clear p12)
 |((with_reducible refine Jb ?_);refine Zp 3 _ (.const (I J 1)) 81 g3 0 [] (I J 0) (I J 1) [I J sg,I J 0,I J 0,I J 0,I J 0,Λ none 0 0,I J 0,I J 0,I J 0,I J 0,Λ none 0 0] (T12.out.get 3 rfl) rfl Yw rfl rfl rfl rfl rfl rfl ?_
   intro w13 p13;have T13:Hid (Env w [(g0,51,[Λ (some ⟨r,0,none⟩) nn K,I J (a:Int),I J (d:Int),I J 0,I J 0,I J 0]),(g1,51,[Λ none 0 0,I J 0,I J 0,I J 0,I J 0,I J 0]),(g2,81,[I J 0,I J 0,I J 0,I J 0,I J 0,I J 0,Λ none 0 0,I J 0,I J 0,I J 0,I J 0,Λ none 0 0]),(g3,81,[I J 1,I J sg,I J 0,I J 0,I J 0,I J 0,Λ none 0 0,I J 0,I J 0,I J 0,I J 0,Λ none 0 0]),(g4,51,v2)] [] [] w13):=Hh (T12.out.put 3 rfl p13);clear p13))
  refine ret2 mixed (by kernel_rfl) (by kernel_rfl) (by kernel_rfl) (by kernel_rfl) (by kernel_rfl) (by kernel_rfl) (by kernel_rfl) (by kernel_rfl) rfl rfl rfl rfl rfl rfl rfl rfl rfl rfl g4 g3 g1 g2 (v2) ([I J 1,I J sg,I J 0,I J 0,I J 0,I J 0,Λ none 0 0,I J 0,I J 0,I J 0,I J 0,Λ none 0 0]) ([Λ none 0 0,I J 0,I J 0,I J 0,I J 0,I J 0]) ([I J 0,I J 0,I J 0,I J 0,I J 0,I J 0,Λ none 0 0,I J 0,I J 0,I J 0,I J 0,Λ none 0 0]) (T13.out.get 4 rfl) (T13.out.get 3 rfl) (T13.out.get 1 rfl) (T13.out.get 2 rfl) h2.len rfl h2.one (by simp[Γ]) (T13.out.ne 4 1 (by decide) rfl rfl) (T13.out.ne 4 2 (by decide) rfl rfl) (T13.out.ne 3 1 (by decide) rfl rfl) (T13.out.ne 3 2 (by decide) rfl rfl) (T13.out.ne 1 2 (by decide) rfl rfl) Zm (Ze h2.len) Yy Yi rfl rfl rfl rfl rfl rfl ?_;intro wz hR;have HZ:=Hh hR;clear hR;go_wp2
  obtain⟨dz,bz⟩:=T13.out.ret2 1 2 rfl rfl HZ.out;refine Yp 2 51 3 81 51 81 _ _ _ _ rfl HZ.out.one HZ.out.two Zm (Ze h2.len) Yy Yi rfl rfl rfl ?_;refine⟨_,_,rfl,h2,?_,bz⟩;exact Uq _ _ _ _ _ _ (Zas _ _)
 ·rw[show((1:Nat):Int)=1 from rfl]at hmy
  have hx:=hfr (by decide);have hse:∀(x:World)(us:List Value),Zu x r K L→RPv r K L s1 us→Calls Φ 91 #[.agg us.toArray] x (PTo x r K L (Xz 3 L n s1).2 (Xz 3 L n s1).1.ds):=fun x us h1 h2=>qSel x r K L s1 us n h1 h2 (by have:=HS.out;omega) (by have:=HS.out;omega)
  rw[if_neg (by decide),if_pos (by decide)];generalize Xz 3 L n s1=x at *;clear hfn hfr hx;go_enter Tryz.func147,Tryz.ntmps147;go_wp2_with(first
 |((with_reducible refine Zd 1 ?_);refine Zf T0.out 51 _ ([Λ (some ⟨r,0,none⟩) nn K,I J (a:Int),I J (d:Int),I J 0,I J 0,I J 0]) rfl rfl rfl ?_;intro w1 g0 t1
   have T1:=Hh (t1);clear t1)
 |((with_reducible refine Zd 2 ?_);refine Zb T1.out 51 _ rfl rfl z_P ?_;intro w2 g1 t2
   have T2:=Hh (t2);clear t2)
 |((with_reducible refine Zd 3 ?_);refine Zb T2.out 81 _ rfl rfl Zfh ?_;intro w3 g2 t3
   have T3:=Hh (t3);clear t3)
 |((with_reducible refine Zd 4 ?_);refine Zb T3.out 81 _ rfl rfl Zfh ?_;intro w4 g3 t4
   have T4:=Hh (t4);clear t4)
 |((with_reducible refine Zg 4 9 ?_);refine Za 81 _ _ 81 g3 _ ([I J 0,I J 0,I J 0,I J 0,I J 0,I J 0,Λ none 0 0,I J 0,I J 0,I J 0,I J 0,Λ none 0 0]) (T4.out.get 3 rfl) rfl Yi (by simp[Γ]) rfl rfl rfl rfl rfl ?_
   intro w5 p5;have T5:=Hh (T4.out.put 3 rfl p5);obtain⟨c0,c1,c2,c3,c4,c5⟩:=Xu (T5.out.get 0 rfl);clear p5)
 |(go_at_call 39;refine(his _ (HR.out.below T5.out.below)).mono ?_;rintro e w6 ⟨rfl,b6⟩
   have T6:=Hh (T5.out.call b6);clear b6)
 |((with_reducible refine Zd 35 ?_);refine Zc 51 _ 51 g0 _ (T6.out.get 0 rfl) Zm Yc rfl rfl rfl ?_)
 |(go_at_call 18;refine(hmy _ _ (ho.below T6.out.below) HP.out).mono ?_;rintro e w7 ⟨v1,rfl,h1,b7⟩
   have T7:=Hh (T6.out.call b7);clear b7)
 |((with_reducible refine Zd 7 ?_);refine Zb T7.out 51 _ rfl rfl z_P ?_;intro w8 g4 t8
   have T8:=Hh (t8);clear t8)
 |((with_reducible refine Zg 7 38 ?_);refine Za 51 _ _ 51 g4 _ (v1) (T8.out.get 4 rfl) h1.len (Ze h1.len) h1.one rfl rfl rfl rfl rfl ?_
   intro w9 p9;have T9:=Hh (T8.out.put 4 rfl p9);clear p9)
 |((with_reducible refine Zg 53 52 ?_);refine Zp 3 _ _ 81 g3 0 [] (I J 0) (I J 2) [I J 0,I J 0,I J 0,I J 0,I J 0,Λ none 0 0,I J 0,I J 0,I J 0,I J 0,Λ none 0 0] (T9.out.get 3 rfl) rfl Yw rfl rfl rfl rfl rfl rfl ?_
   intro w10 p10;have T10:=Hh (T9.out.put 3 rfl p10);clear p10)
 |((with_reducible refine Zd 57 ?_);refine Zc 51 _ 51 g4 _ (T10.out.get 4 rfl) Zm (Ze h1.len) rfl rfl rfl ?_)
 |(go_at_call 91;refine(hse _ v1 (ho.below T10.out.below) h1).mono ?_;rintro e w11 ⟨v2,u2,rfl,h2,d2,b11⟩
   have o2:=Hh d2.one;obtain⟨b0,b1,b2,b3,b4,b5,rfl⟩:=six_vals u2 d2.len;have T11:=Hh (T10.out.tree b11 d2);clear d2;clear b11)
 |((with_reducible refine Zg 7 59 ?_);refine Za 51 _ _ 51 g4 _ (v2) (T11.out.get 4 rfl) (h2.len.trans h1.len.symm) (Ze h2.len) h2.one rfl rfl rfl rfl rfl ?_
   intro w12 p12;have T12:=Hh (T11.out.put 4 rfl p12);clear p12)
 |((with_reducible refine Zg 61 60 ?_);refine Xs 76 _ _ 81 g3 2 ([I J 2,I J 0]) ([I J 0,I J 0,I J 0,I J 0,Λ none 0 0,I J 0]) ([I J 0,I J 0,I J 0,Λ none 0 0]) ([b0,b1,b2,b3,b4,b5]) (T12.out.get 3 rfl) rfl rfl Vi o2.out rfl rfl rfl rfl rfl ?_
   intro w13 p13;have T13:Hid (Env w [(g0,51,[Λ (some ⟨r,0,none⟩) nn K,I J (a:Int),I J (d:Int),I J 0,I J 0,I J 0]),(g1,51,[Λ none 0 0,I J 0,I J 0,I J 0,I J 0,I J 0]),(g2,81,[I J 0,I J 0,I J 0,I J 0,I J 0,I J 0,Λ none 0 0,I J 0,I J 0,I J 0,I J 0,Λ none 0 0]),(g3,81,[I J 2,I J 0,b0,b1,b2,b3,b4,b5,I J 0,I J 0,I J 0,Λ none 0 0]),(g4,51,v2)] [] [(x.1.ds,[b0,b1,b2,b3,b4,b5])] w13):=Hh (T12.out.put 3 rfl p13);clear p13))
  refine ret2 mixed (by kernel_rfl) (by kernel_rfl) (by kernel_rfl) (by kernel_rfl) (by kernel_rfl) (by kernel_rfl) (by kernel_rfl) (by kernel_rfl) rfl rfl rfl rfl rfl rfl rfl rfl rfl rfl g4 g3 g1 g2 (v2) ([I J 2,I J 0,b0,b1,b2,b3,b4,b5,I J 0,I J 0,I J 0,Λ none 0 0]) ([Λ none 0 0,I J 0,I J 0,I J 0,I J 0,I J 0]) ([I J 0,I J 0,I J 0,I J 0,I J 0,I J 0,Λ none 0 0,I J 0,I J 0,I J 0,I J 0,Λ none 0 0]) (T13.out.get 4 rfl) (T13.out.get 3 rfl) (T13.out.get 1 rfl) (T13.out.get 2 rfl) h2.len rfl h2.one (by intro z hz;simp only[List.mem_cons,List.not_mem_nil,or_false]at hz;rcases hz with rfl | rfl | rfl | rfl | rfl | rfl | rfl | rfl | rfl | rfl | rfl | rfl<;>first | rfl | exact o2.out _ (by simp)) (T13.out.ne 4 1 (by decide) rfl rfl) (T13.out.ne 4 2 (by decide) rfl rfl) (T13.out.ne 3 1 (by decide) rfl rfl) (T13.out.ne 3 2 (by decide) rfl rfl) (T13.out.ne 1 2 (by decide) rfl rfl) Zm (Ze h2.len) Yy Yi rfl rfl rfl rfl rfl rfl ?_;intro wz hR;have HZ:=Hh hR;clear hR;go_wp2
  obtain⟨dz,bz⟩:=T13.out.ret2 1 2 rfl rfl HZ.out;refine Yp 2 51 3 81 51 81 _ _ _ _ rfl HZ.out.one HZ.out.two Zm (Ze h2.len) Yy Yi rfl rfl rfl ?_;refine⟨_,_,rfl,h2,?_,bz⟩;exact Uq _ _ _ _ _ _ (dz (_,[b0,b1,b2,b3,b4,b5]) (List.mem_singleton.2 rfl))
 ·rw[show((2:Nat):Int)=2 from rfl]at hmy
  have hx:=hfr (by decide);have hse:∀(x:World)(us:List Value),Zu x r K L→RPv r K L s1 us→Calls Φ 91 #[.agg us.toArray] x (PTo x r K L (Xz 3 L n s1).2 (Xz 3 L n s1).1.ds):=fun x us h1 h2=>qSel x r K L s1 us n h1 h2 (by have:=HS.out;omega) (by have:=HS.out;omega)
  rw[if_neg (by decide),if_pos (by decide)];generalize Xz 3 L n s1=x at *;clear hfn hfr hx;go_enter Tryz.func147,Tryz.ntmps147;go_wp2_with(first
 |((with_reducible refine Zd 1 ?_);refine Zf T0.out 51 _ ([Λ (some ⟨r,0,none⟩) nn K,I J (a:Int),I J (d:Int),I J 0,I J 0,I J 0]) rfl rfl rfl ?_;intro w1 g0 t1
   have T1:=Hh (t1);clear t1)
 |((with_reducible refine Zd 2 ?_);refine Zb T1.out 51 _ rfl rfl z_P ?_;intro w2 g1 t2
   have T2:=Hh (t2);clear t2)
 |((with_reducible refine Zd 3 ?_);refine Zb T2.out 81 _ rfl rfl Zfh ?_;intro w3 g2 t3
   have T3:=Hh (t3);clear t3)
 |((with_reducible refine Zd 4 ?_);refine Zb T3.out 81 _ rfl rfl Zfh ?_;intro w4 g3 t4
   have T4:=Hh (t4);clear t4)
 |((with_reducible refine Zg 4 9 ?_);refine Za 81 _ _ 81 g3 _ ([I J 0,I J 0,I J 0,I J 0,I J 0,I J 0,Λ none 0 0,I J 0,I J 0,I J 0,I J 0,Λ none 0 0]) (T4.out.get 3 rfl) rfl Yi (by simp[Γ]) rfl rfl rfl rfl rfl ?_
   intro w5 p5;have T5:=Hh (T4.out.put 3 rfl p5);obtain⟨c0,c1,c2,c3,c4,c5⟩:=Xu (T5.out.get 0 rfl);clear p5)
 |(go_at_call 39;refine(his _ (HR.out.below T5.out.below)).mono ?_;rintro e w6 ⟨rfl,b6⟩
   have T6:=Hh (T5.out.call b6);clear b6)
 |((with_reducible refine Zd 35 ?_);refine Zc 51 _ 51 g0 _ (T6.out.get 0 rfl) Zm Yc rfl rfl rfl ?_)
 |(go_at_call 18;refine(hmy _ _ (ho.below T6.out.below) HP.out).mono ?_;rintro e w7 ⟨v1,rfl,h1,b7⟩
   have T7:=Hh (T6.out.call b7);clear b7)
 |((with_reducible refine Zd 7 ?_);refine Zb T7.out 51 _ rfl rfl z_P ?_;intro w8 g4 t8
   have T8:=Hh (t8);clear t8)
 |((with_reducible refine Zg 7 38 ?_);refine Za 51 _ _ 51 g4 _ (v1) (T8.out.get 4 rfl) h1.len (Ze h1.len) h1.one rfl rfl rfl rfl rfl ?_
   intro w9 p9;have T9:=Hh (T8.out.put 4 rfl p9);clear p9)
 |((with_reducible refine Zg 53 52 ?_);refine Zp 3 _ _ 81 g3 0 [] (I J 0) (I J 3) [I J 0,I J 0,I J 0,I J 0,I J 0,Λ none 0 0,I J 0,I J 0,I J 0,I J 0,Λ none 0 0] (T9.out.get 3 rfl) rfl Yw rfl rfl rfl rfl rfl rfl ?_
   intro w10 p10;have T10:=Hh (T9.out.put 3 rfl p10);clear p10)
 |((with_reducible refine Zd 57 ?_);refine Zc 51 _ 51 g4 _ (T10.out.get 4 rfl) Zm (Ze h1.len) rfl rfl rfl ?_)
 |(go_at_call 91;refine(hse _ v1 (ho.below T10.out.below) h1).mono ?_;rintro e w11 ⟨v2,u2,rfl,h2,d2,b11⟩
   have o2:=Hh d2.one;obtain⟨b0,b1,b2,b3,b4,b5,rfl⟩:=six_vals u2 d2.len;have T11:=Hh (T10.out.tree b11 d2);clear d2;clear b11)
 |((with_reducible refine Zg 7 59 ?_);refine Za 51 _ _ 51 g4 _ (v2) (T11.out.get 4 rfl) (h2.len.trans h1.len.symm) (Ze h2.len) h2.one rfl rfl rfl rfl rfl ?_
   intro w12 p12;have T12:=Hh (T11.out.put 4 rfl p12);clear p12)
 |((with_reducible refine Zg 61 60 ?_);refine Xs 76 _ _ 81 g3 2 ([I J 3,I J 0]) ([I J 0,I J 0,I J 0,I J 0,Λ none 0 0,I J 0]) ([I J 0,I J 0,I J 0,Λ none 0 0]) ([b0,b1,b2,b3,b4,b5]) (T12.out.get 3 rfl) rfl rfl Vi o2.out rfl rfl rfl rfl rfl ?_
   intro w13 p13;have T13:Hid (Env w [(g0,51,[Λ (some ⟨r,0,none⟩) nn K,I J (a:Int),I J (d:Int),I J 0,I J 0,I J 0]),(g1,51,[Λ none 0 0,I J 0,I J 0,I J 0,I J 0,I J 0]),(g2,81,[I J 0,I J 0,I J 0,I J 0,I J 0,I J 0,Λ none 0 0,I J 0,I J 0,I J 0,I J 0,Λ none 0 0]),(g3,81,[I J 3,I J 0,b0,b1,b2,b3,b4,b5,I J 0,I J 0,I J 0,Λ none 0 0]),(g4,51,v2)] [] [(x.1.ds,[b0,b1,b2,b3,b4,b5])] w13):=Hh (T12.out.put 3 rfl p13);clear p13))
  refine ret2 mixed (by kernel_rfl) (by kernel_rfl) (by kernel_rfl) (by kernel_rfl) (by kernel_rfl) (by kernel_rfl) (by kernel_rfl) (by kernel_rfl) rfl rfl rfl rfl rfl rfl rfl rfl rfl rfl g4 g3 g1 g2 (v2) ([I J 3,I J 0,b0,b1,b2,b3,b4,b5,I J 0,I J 0,I J 0,Λ none 0 0]) ([Λ none 0 0,I J 0,I J 0,I J 0,I J 0,I J 0]) ([I J 0,I J 0,I J 0,I J 0,I J 0,I J 0,Λ none 0 0,I J 0,I J 0,I J 0,I J 0,Λ none 0 0]) (T13.out.get 4 rfl) (T13.out.get 3 rfl) (T13.out.get 1 rfl) (T13.out.get 2 rfl) h2.len rfl h2.one (by intro z hz;simp only[List.mem_cons,List.not_mem_nil,or_false]at hz;rcases hz with rfl | rfl | rfl | rfl | rfl | rfl | rfl | rfl | rfl | rfl | rfl | rfl<;>first | rfl | exact o2.out _ (by simp)) (T13.out.ne 4 1 (by decide) rfl rfl) (T13.out.ne 4 2 (by decide) rfl rfl) (T13.out.ne 3 1 (by decide) rfl rfl) (T13.out.ne 3 2 (by decide) rfl rfl) (T13.out.ne 1 2 (by decide) rfl rfl) Zm (Ze h2.len) Yy Yi rfl rfl rfl rfl rfl rfl ?_;intro wz hR;have HZ:=Hh hR;clear hR;go_wp2
  obtain⟨dz,bz⟩:=T13.out.ret2 1 2 rfl rfl HZ.out;refine Yp 2 51 3 81 51 81 _ _ _ _ rfl HZ.out.one HZ.out.two Zm (Ze h2.len) Yy Yi rfl rfl rfl ?_;refine⟨_,_,rfl,h2,?_,bz⟩;exact Uq _ _ _ _ _ _ (dz (_,[b0,b1,b2,b3,b4,b5]) (List.mem_singleton.2 rfl))
 ·rw[show((3:Nat):Int)=3 from rfl]at hmy
  rw[if_neg (by decide),if_neg (by decide),if_pos rfl];clear hfn hfr;go_enter Tryz.func147,Tryz.ntmps147;go_wp2_with(first
 |((with_reducible refine Zd 1 ?_);refine Zf T0.out 51 _ ([Λ (some ⟨r,0,none⟩) nn K,I J (a:Int),I J (d:Int),I J 0,I J 0,I J 0]) rfl rfl rfl ?_;intro w1 g0 t1
   have T1:=Hh (t1);clear t1)
 |((with_reducible refine Zd 2 ?_);refine Zb T1.out 51 _ rfl rfl z_P ?_;intro w2 g1 t2
   have T2:=Hh (t2);clear t2)
 |((with_reducible refine Zd 3 ?_);refine Zb T2.out 81 _ rfl rfl Zfh ?_;intro w3 g2 t3
   have T3:=Hh (t3);clear t3)
 |((with_reducible refine Zd 4 ?_);refine Zb T3.out 81 _ rfl rfl Zfh ?_;intro w4 g3 t4
   have T4:=Hh (t4);clear t4)
 |((with_reducible refine Zg 4 9 ?_);refine Za 81 _ _ 81 g3 _ ([I J 0,I J 0,I J 0,I J 0,I J 0,I J 0,Λ none 0 0,I J 0,I J 0,I J 0,I J 0,Λ none 0 0]) (T4.out.get 3 rfl) rfl Yi (by simp[Γ]) rfl rfl rfl rfl rfl ?_
   intro w5 p5;have T5:=Hh (T4.out.put 3 rfl p5);obtain⟨c0,c1,c2,c3,c4,c5⟩:=Xu (T5.out.get 0 rfl);clear p5)
 |(go_at_call 39;refine(his _ (HR.out.below T5.out.below)).mono ?_;rintro e w6 ⟨rfl,b6⟩
   have T6:=Hh (T5.out.call b6);clear b6)
 |((with_reducible refine Zd 35 ?_);refine Zc 51 _ 51 g0 _ (T6.out.get 0 rfl) Zm Yc rfl rfl rfl ?_)
 |(go_at_call 18;refine(hmy _ _ (ho.below T6.out.below) HP.out).mono ?_;rintro e w7 ⟨v1,rfl,h1,b7⟩
   have T7:=Hh (T6.out.call b7);clear b7)
 |((with_reducible refine Zd 7 ?_);refine Zb T7.out 51 _ rfl rfl z_P ?_;intro w8 g4 t8
   have T8:=Hh (t8);clear t8)
 |((with_reducible refine Zg 7 38 ?_);refine Za 51 _ _ 51 g4 _ (v1) (T8.out.get 4 rfl) h1.len (Ze h1.len) h1.one rfl rfl rfl rfl rfl ?_
   intro w9 p9;have T9:=Hh (T8.out.put 4 rfl p9);clear p9)
 |((with_reducible refine Zg 53 52 ?_);refine Zp 3 _ _ 81 g3 0 [] (I J 0) (I J 4) [I J 0,I J 0,I J 0,I J 0,I J 0,Λ none 0 0,I J 0,I J 0,I J 0,I J 0,Λ none 0 0] (T9.out.get 3 rfl) rfl Yw rfl rfl rfl rfl rfl rfl ?_
   intro w10 p10;have T10:Hid (Env w [(g0,51,[Λ (some ⟨r,0,none⟩) nn K,I J (a:Int),I J (d:Int),I J 0,I J 0,I J 0]),(g1,51,[Λ none 0 0,I J 0,I J 0,I J 0,I J 0,I J 0]),(g2,81,[I J 0,I J 0,I J 0,I J 0,I J 0,I J 0,Λ none 0 0,I J 0,I J 0,I J 0,I J 0,Λ none 0 0]),(g3,81,[I J 4,I J 0,I J 0,I J 0,I J 0,I J 0,Λ none 0 0,I J 0,I J 0,I J 0,I J 0,Λ none 0 0]),(g4,51,v1)] [] [] w10):=Hh (T9.out.put 3 rfl p10);clear p10))
  refine ret2 mixed (by kernel_rfl) (by kernel_rfl) (by kernel_rfl) (by kernel_rfl) (by kernel_rfl) (by kernel_rfl) (by kernel_rfl) (by kernel_rfl) rfl rfl rfl rfl rfl rfl rfl rfl rfl rfl g4 g3 g1 g2 (v1) ([I J 4,I J 0,I J 0,I J 0,I J 0,I J 0,Λ none 0 0,I J 0,I J 0,I J 0,I J 0,Λ none 0 0]) ([Λ none 0 0,I J 0,I J 0,I J 0,I J 0,I J 0]) ([I J 0,I J 0,I J 0,I J 0,I J 0,I J 0,Λ none 0 0,I J 0,I J 0,I J 0,I J 0,Λ none 0 0]) (T10.out.get 4 rfl) (T10.out.get 3 rfl) (T10.out.get 1 rfl) (T10.out.get 2 rfl) h1.len rfl h1.one (by simp[Γ]) (T10.out.ne 4 1 (by decide) rfl rfl) (T10.out.ne 4 2 (by decide) rfl rfl) (T10.out.ne 3 1 (by decide) rfl rfl) (T10.out.ne 3 2 (by decide) rfl rfl) (T10.out.ne 1 2 (by decide) rfl rfl) Zm (Ze h1.len) Yy Yi rfl rfl rfl rfl rfl rfl ?_;intro wz hR;have HZ:=Hh hR;clear hR;go_wp2
  obtain⟨dz,bz⟩:=T10.out.ret2 1 2 rfl rfl HZ.out;refine Yp 2 51 3 81 51 81 _ _ _ _ rfl HZ.out.one HZ.out.two Zm (Ze h1.len) Yy Yi rfl rfl rfl ?_;refine⟨_,_,rfl,h1,?_,bz⟩;exact Uq _ _ _ _ _ _ (Zas _ _)
 ·rw[show((4:Nat):Int)=4 from rfl]at hmy
  rw[if_neg (by decide),if_neg (by decide),if_neg (by decide),if_pos rfl];generalize hsd:Zk L Zq s1=sd at *;have hsi:∀(x:World)(us:List Value),Zu x r K L→RPv r K L s1 us→Calls Φ 92 #[.agg us.toArray] x (PVo x r K L (Zn L Zq s1) (I J (sd:Int))):=fun x us h1 h2=>by rw[←hsd];exact Zkb x r K L s1 us h1 h2
  clear hfn hfr hsd;go_enter Tryz.func147,Tryz.ntmps147;go_wp2_with(first
 |((with_reducible refine Zd 1 ?_);refine Zf T0.out 51 _ ([Λ (some ⟨r,0,none⟩) nn K,I J (a:Int),I J (d:Int),I J 0,I J 0,I J 0]) rfl rfl rfl ?_;intro w1 g0 t1
   have T1:=Hh (t1);clear t1)
 |((with_reducible refine Zd 2 ?_);refine Zb T1.out 51 _ rfl rfl z_P ?_;intro w2 g1 t2
   have T2:=Hh (t2);clear t2)
 |((with_reducible refine Zd 3 ?_);refine Zb T2.out 81 _ rfl rfl Zfh ?_;intro w3 g2 t3
   have T3:=Hh (t3);clear t3)
 |((with_reducible refine Zd 4 ?_);refine Zb T3.out 81 _ rfl rfl Zfh ?_;intro w4 g3 t4
   have T4:=Hh (t4);clear t4)
 |((with_reducible refine Zg 4 9 ?_);refine Za 81 _ _ 81 g3 _ ([I J 0,I J 0,I J 0,I J 0,I J 0,I J 0,Λ none 0 0,I J 0,I J 0,I J 0,I J 0,Λ none 0 0]) (T4.out.get 3 rfl) rfl Yi (by simp[Γ]) rfl rfl rfl rfl rfl ?_
   intro w5 p5;have T5:=Hh (T4.out.put 3 rfl p5);obtain⟨c0,c1,c2,c3,c4,c5⟩:=Xu (T5.out.get 0 rfl);clear p5)
 |(go_at_call 39;refine(his _ (HR.out.below T5.out.below)).mono ?_;rintro e w6 ⟨rfl,b6⟩
   have T6:=Hh (T5.out.call b6);clear b6)
 |((with_reducible refine Zd 35 ?_);refine Zc 51 _ 51 g0 _ (T6.out.get 0 rfl) Zm Yc rfl rfl rfl ?_)
 |(go_at_call 18;refine(hmy _ _ (ho.below T6.out.below) HP.out).mono ?_;rintro e w7 ⟨v1,rfl,h1,b7⟩
   have T7:=Hh (T6.out.call b7);clear b7)
 |((with_reducible refine Zd 7 ?_);refine Zb T7.out 51 _ rfl rfl z_P ?_;intro w8 g4 t8
   have T8:=Hh (t8);clear t8)
 |((with_reducible refine Zg 7 38 ?_);refine Za 51 _ _ 51 g4 _ (v1) (T8.out.get 4 rfl) h1.len (Ze h1.len) h1.one rfl rfl rfl rfl rfl ?_
   intro w9 p9;have T9:=Hh (T8.out.put 4 rfl p9);clear p9)
 |((with_reducible refine Zg 53 52 ?_);refine Zp 3 _ _ 81 g3 0 [] (I J 0) (I J 5) [I J 0,I J 0,I J 0,I J 0,I J 0,Λ none 0 0,I J 0,I J 0,I J 0,I J 0,Λ none 0 0] (T9.out.get 3 rfl) rfl Yw rfl rfl rfl rfl rfl rfl ?_
   intro w10 p10;have T10:=Hh (T9.out.put 3 rfl p10);clear p10)
 |((with_reducible refine Zd 65 ?_);refine Zc 51 _ 51 g4 _ (T10.out.get 4 rfl) Zm (Ze h1.len) rfl rfl rfl ?_)
 |(go_at_call 92;refine(hsi _ v1 (ho.below T10.out.below) h1).mono ?_;rintro e w11 ⟨v2,rfl,h2,b11⟩
   have T11:=Hh (T10.out.call b11);clear b11)
 |((with_reducible refine Zg 7 67 ?_);refine Za 51 _ _ 51 g4 _ (v2) (T11.out.get 4 rfl) (h2.len.trans h1.len.symm) (Ze h2.len) h2.one rfl rfl rfl rfl rfl ?_
   intro w12 p12;have T12:=Hh (T11.out.put 4 rfl p12);clear p12)
 |((with_reducible refine Zg 69 68 ?_);refine Zp 3 _ _ 81 g3 8 [I J 5,I J 0,I J 0,I J 0,I J 0,I J 0,Λ none 0 0,I J 0] (I J 0) (I J (sd:Int)) [I J 0,I J 0,Λ none 0 0] (T12.out.get 3 rfl) rfl Yw rfl rfl rfl rfl rfl rfl ?_
   intro w13 p13;have T13:Hid (Env w [(g0,51,[Λ (some ⟨r,0,none⟩) nn K,I J (a:Int),I J (d:Int),I J 0,I J 0,I J 0]),(g1,51,[Λ none 0 0,I J 0,I J 0,I J 0,I J 0,I J 0]),(g2,81,[I J 0,I J 0,I J 0,I J 0,I J 0,I J 0,Λ none 0 0,I J 0,I J 0,I J 0,I J 0,Λ none 0 0]),(g3,81,[I J 5,I J 0,I J 0,I J 0,I J 0,I J 0,Λ none 0 0,I J 0,I J (sd:Int),I J 0,I J 0,Λ none 0 0]),(g4,51,v2)] [] [] w13):=Hh (T12.out.put 3 rfl p13);clear p13))
  refine ret2 mixed (by kernel_rfl) (by kernel_rfl) (by kernel_rfl) (by kernel_rfl) (by kernel_rfl) (by kernel_rfl) (by kernel_rfl) (by kernel_rfl) rfl rfl rfl rfl rfl rfl rfl rfl rfl rfl g4 g3 g1 g2 (v2) ([I J 5,I J 0,I J 0,I J 0,I J 0,I J 0,Λ none 0 0,I J 0,I J (sd:Int),I J 0,I J 0,Λ none 0 0]) ([Λ none 0 0,I J 0,I J 0,I J 0,I J 0,I J 0]) ([I J 0,I J 0,I J 0,I J 0,I J 0,I J 0,Λ none 0 0,I J 0,I J 0,I J 0,I J 0,Λ none 0 0]) (T13.out.get 4 rfl) (T13.out.get 3 rfl) (T13.out.get 1 rfl) (T13.out.get 2 rfl) h2.len rfl h2.one (by simp[Γ]) (T13.out.ne 4 1 (by decide) rfl rfl) (T13.out.ne 4 2 (by decide) rfl rfl) (T13.out.ne 3 1 (by decide) rfl rfl) (T13.out.ne 3 2 (by decide) rfl rfl) (T13.out.ne 1 2 (by decide) rfl rfl) Zm (Ze h2.len) Yy Yi rfl rfl rfl rfl rfl rfl ?_;intro wz hR;have HZ:=Hh hR;clear hR;go_wp2
  obtain⟨dz,bz⟩:=T13.out.ret2 1 2 rfl rfl HZ.out;refine Yp 2 51 3 81 51 81 _ _ _ _ rfl HZ.out.one HZ.out.two Zm (Ze h2.len) Yy Yi rfl rfl rfl ?_;refine⟨_,_,rfl,h2,?_,bz⟩;exact Uq _ _ _ _ _ _ (Zas _ _)
 ·rw[show((5:Nat):Int)=5 from rfl]at hmy
  rw[if_neg (by decide),if_neg (by decide),if_neg (by decide),if_neg (by decide)];generalize hsd:Zk L Zq s1=sd at *;have hsi:∀(x:World)(us:List Value),Zu x r K L→RPv r K L s1 us→Calls Φ 92 #[.agg us.toArray] x (PVo x r K L (Zn L Zq s1) (I J (sd:Int))):=fun x us h1 h2=>by rw[←hsd];exact Zkb x r K L s1 us h1 h2
  generalize htk:toK L (Zn L Zq s1)=tk at *;generalize htl:toL L (Zn L Zq s1)=tl at *;have hto:∀(x:World)(us:List Value),Zu x r K L→RPv r K L (Zn L Zq s1) us→Calls Φ 93 #[.agg us.toArray] x (PTo x r K L (toS L (Zn L Zq s1)) (.int tk (.int tl .nil))):=fun x us h1 h2=>by rw[←htk,←htl];exact qto x r K L _ us h1 h2
  clear htk htl;clear hfn hfr hsd;go_enter Tryz.func147,Tryz.ntmps147;go_wp2_with(first
 |((with_reducible refine Zd 1 ?_);refine Zf T0.out 51 _ ([Λ (some ⟨r,0,none⟩) nn K,I J (a:Int),I J (d:Int),I J 0,I J 0,I J 0]) rfl rfl rfl ?_;intro w1 g0 t1
   have T1:=Hh (t1);clear t1)
 |((with_reducible refine Zd 2 ?_);refine Zb T1.out 51 _ rfl rfl z_P ?_;intro w2 g1 t2
   have T2:=Hh (t2);clear t2)
 |((with_reducible refine Zd 3 ?_);refine Zb T2.out 81 _ rfl rfl Zfh ?_;intro w3 g2 t3
   have T3:=Hh (t3);clear t3)
 |((with_reducible refine Zd 4 ?_);refine Zb T3.out 81 _ rfl rfl Zfh ?_;intro w4 g3 t4
   have T4:=Hh (t4);clear t4)
 |((with_reducible refine Zg 4 9 ?_);refine Za 81 _ _ 81 g3 _ ([I J 0,I J 0,I J 0,I J 0,I J 0,I J 0,Λ none 0 0,I J 0,I J 0,I J 0,I J 0,Λ none 0 0]) (T4.out.get 3 rfl) rfl Yi (by simp[Γ]) rfl rfl rfl rfl rfl ?_
   intro w5 p5;have T5:=Hh (T4.out.put 3 rfl p5);obtain⟨c0,c1,c2,c3,c4,c5⟩:=Xu (T5.out.get 0 rfl);clear p5)
 |(go_at_call 39;refine(his _ (HR.out.below T5.out.below)).mono ?_;rintro e w6 ⟨rfl,b6⟩
   have T6:=Hh (T5.out.call b6);clear b6)
 |((with_reducible refine Zd 35 ?_);refine Zc 51 _ 51 g0 _ (T6.out.get 0 rfl) Zm Yc rfl rfl rfl ?_)
 |(go_at_call 18;refine(hmy _ _ (ho.below T6.out.below) HP.out).mono ?_;rintro e w7 ⟨v1,rfl,h1,b7⟩
   have T7:=Hh (T6.out.call b7);clear b7)
 |((with_reducible refine Zd 7 ?_);refine Zb T7.out 51 _ rfl rfl z_P ?_;intro w8 g4 t8
   have T8:=Hh (t8);clear t8)
 |((with_reducible refine Zg 7 38 ?_);refine Za 51 _ _ 51 g4 _ (v1) (T8.out.get 4 rfl) h1.len (Ze h1.len) h1.one rfl rfl rfl rfl rfl ?_
   intro w9 p9;have T9:=Hh (T8.out.put 4 rfl p9);clear p9)
 |((with_reducible refine Zg 53 52 ?_);refine Zp 3 _ _ 81 g3 0 [] (I J 0) (I J 6) [I J 0,I J 0,I J 0,I J 0,I J 0,Λ none 0 0,I J 0,I J 0,I J 0,I J 0,Λ none 0 0] (T9.out.get 3 rfl) rfl Yw rfl rfl rfl rfl rfl rfl ?_
   intro w10 p10;have T10:=Hh (T9.out.put 3 rfl p10);clear p10)
 |((with_reducible refine Zd 65 ?_);refine Zc 51 _ 51 g4 _ (T10.out.get 4 rfl) Zm (Ze h1.len) rfl rfl rfl ?_)
 |(go_at_call 92;refine(hsi _ v1 (ho.below T10.out.below) h1).mono ?_;rintro e w11 ⟨v2,rfl,h2,b11⟩
   have T11:=Hh (T10.out.call b11);clear b11)
 |((with_reducible refine Zg 7 67 ?_);refine Za 51 _ _ 51 g4 _ (v2) (T11.out.get 4 rfl) (h2.len.trans h1.len.symm) (Ze h2.len) h2.one rfl rfl rfl rfl rfl ?_
   intro w12 p12;have T12:=Hh (T11.out.put 4 rfl p12);clear p12)
 |((with_reducible refine Zg 69 68 ?_);refine Zp 3 _ _ 81 g3 8 [I J 6,I J 0,I J 0,I J 0,I J 0,I J 0,Λ none 0 0,I J 0] (I J 0) (I J (sd:Int)) [I J 0,I J 0,Λ none 0 0] (T12.out.get 3 rfl) rfl Yw rfl rfl rfl rfl rfl rfl ?_
   intro w13 p13;have T13:=Hh (T12.out.put 3 rfl p13);clear p13)
 |((with_reducible refine Zd 73 ?_);refine Zc 51 _ 51 g4 _ (T13.out.get 4 rfl) Zm (Ze h2.len) rfl rfl rfl ?_)
 |(go_at_call 93;refine(hto _ v2 (ho.below T13.out.below) h2).mono ?_;rintro e w14 ⟨v3,u3,rfl,h3,d3,b14⟩
   obtain⟨_,rfl,_,rfl,rfl⟩:=d3;have T14:=Hh (T13.out.call b14);clear b14)
 |((with_reducible refine Zg 7 75 ?_);refine Za 51 _ _ 51 g4 _ (v3) (T14.out.get 4 rfl) (h3.len.trans h2.len.symm) (Ze h3.len) h3.one rfl rfl rfl rfl rfl ?_
   intro w15 p15;have T15:=Hh (T14.out.put 4 rfl p15);clear p15)
 |((with_reducible refine Zg 77 76 ?_);refine Xs 78 _ _ 81 g3 9 ([I J 6,I J 0,I J 0,I J 0,I J 0,I J 0,Λ none 0 0,I J 0,I J (sd:Int)]) ([I J 0,I J 0]) ([Λ none 0 0]) ([I J tk,I J tl]) (T15.out.get 3 rfl) rfl rfl Zdc (by simp[Γ]) rfl rfl rfl rfl rfl ?_
   intro w16 p16;have T16:Hid (Env w [(g0,51,[Λ (some ⟨r,0,none⟩) nn K,I J (a:Int),I J (d:Int),I J 0,I J 0,I J 0]),(g1,51,[Λ none 0 0,I J 0,I J 0,I J 0,I J 0,I J 0]),(g2,81,[I J 0,I J 0,I J 0,I J 0,I J 0,I J 0,Λ none 0 0,I J 0,I J 0,I J 0,I J 0,Λ none 0 0]),(g3,81,[I J 6,I J 0,I J 0,I J 0,I J 0,I J 0,Λ none 0 0,I J 0,I J (sd:Int),I J tk,I J tl,Λ none 0 0]),(g4,51,v3)] [] [] w16):=Hh (T15.out.put 3 rfl p16);clear p16))
  refine ret2 mixed (by kernel_rfl) (by kernel_rfl) (by kernel_rfl) (by kernel_rfl) (by kernel_rfl) (by kernel_rfl) (by kernel_rfl) (by kernel_rfl) rfl rfl rfl rfl rfl rfl rfl rfl rfl rfl g4 g3 g1 g2 (v3) ([I J 6,I J 0,I J 0,I J 0,I J 0,I J 0,Λ none 0 0,I J 0,I J (sd:Int),I J tk,I J tl,Λ none 0 0]) ([Λ none 0 0,I J 0,I J 0,I J 0,I J 0,I J 0]) ([I J 0,I J 0,I J 0,I J 0,I J 0,I J 0,Λ none 0 0,I J 0,I J 0,I J 0,I J 0,Λ none 0 0]) (T16.out.get 4 rfl) (T16.out.get 3 rfl) (T16.out.get 1 rfl) (T16.out.get 2 rfl) h3.len rfl h3.one (by simp[Γ]) (T16.out.ne 4 1 (by decide) rfl rfl) (T16.out.ne 4 2 (by decide) rfl rfl) (T16.out.ne 3 1 (by decide) rfl rfl) (T16.out.ne 3 2 (by decide) rfl rfl) (T16.out.ne 1 2 (by decide) rfl rfl) Zm (Ze h3.len) Yy Yi rfl rfl rfl rfl rfl rfl ?_;intro wz hR;have HZ:=Hh hR;clear hR;go_wp2
  obtain⟨dz,bz⟩:=T16.out.ret2 1 2 rfl rfl HZ.out;refine Yp 2 51 3 81 51 81 _ _ _ _ rfl HZ.out.one HZ.out.two Zm (Ze h3.len) Yy Yi rfl rfl rfl ?_;refine⟨_,_,rfl,h3,?_,bz⟩;exact Uq _ _ _ _ _ _ (Zas _ _)
theorem qfact(n:Nat)(ih:Zpc n):QFactOK (n+1):=by
 intro w r K L st vs ho hp hn hLn;cases st with
 |bad F=>exact qfact_bad n w r K L F vs ho hp
 |ok a d=>
  cases hb:isT (Yb L a) Zab
  ·exact qfact_leaf n w r K L a d vs ho hp hn hLn hb
  ·exact qfact_open n ih w r K L a d vs ho hp hn hLn hb
end Go.Proofs.YtbdecchpleiepaaGreat
