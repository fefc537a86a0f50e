/- Parts of the proof. No conditions but those that each names. -/
import Derived.Test.YtbdecchpleiepaaGreatQL49
set_option maxRecDepth 20000
set_option maxHeartbeats 99000000
set_option linter.unusedVariables false
set_option linter.unusedSimpArgs false
namespace Go.Proofs.YtbdecchpleiepaaGreat
open Go.Value renaming int→I,slice→Λ,pointer→Ω,string→Ψ
open Go.IntKind renaming i64→J
open _root_.Go.Proofs.Tryz renaming prog→Φ
open Go.ChangeShapes Go.WideShapes Go.ChangeAt Go.RowKit
section
variable {P:Program} {ops:Array Oper} {rest:List Oper} {o:Oper} {a:Act} {w:World} {Q:Exit→Act→World→Prop}
theorem put_acl(T:TypeId)(x y:Operand)(t:TypeId)(g:Nat){k l c:Int}{sel num:List Value}{sd tk tl how:Int}{nm:ByteArray}{cop:Int}{cl cr:List Value}{thn els:Value}{ys:List Value}(hW:Zi w g t (Ym k l c sel num sd tk tl how nm cop cl cr thn els).toArray)(e1:sel.length=6)(e2:num.length=12)(e3:cl.length=12)(hy1:ys.length=12)(hi:(P.info? T).map (·.size)=some 12)(h1:∀ v ∈ ys,v.oneCell'=true)
  (hgd:o.guard=none)(ho:o.op=.store T x y)(hd:o.dst=none)(hx:a.eval x=Ω (some ⟨g,27,none⟩))(hy:a.eval y=.agg ys.toArray)
  (h:∀ w',Put w w' g t (Ym k l c sel num sd tk tl how nm cop ys cr thn els)→wpList P ops Q rest a w'):wpList P ops Q (o::rest) a w:=
 Xs T x y t g 27 ([I J k,I J l,I J c]++sel++num++[I J sd,I J tk,I J tl,I J how,Ψ nm,I J cop]) cl (cr++[thn,els]) ys (by simpa[Ym]using hW) (by rw[hy1,e3]) (by simp[e1,e2]) (by rw[hy1];exact hi) h1 hgd ho hd hx hy
  fun w' p=>h w' ⟨by simpa[Ym]using p.whole,p.keeps⟩
theorem put_acr(T:TypeId)(x y:Operand)(t:TypeId)(g:Nat){k l c:Int}{sel num:List Value}{sd tk tl how:Int}{nm:ByteArray}{cop:Int}{cl cr:List Value}{thn els:Value}{ys:List Value}(hW:Zi w g t (Ym k l c sel num sd tk tl how nm cop cl cr thn els).toArray)(e1:sel.length=6)(e2:num.length=12)(e3:cl.length=12)(e4:cr.length=12)(hy1:ys.length=12)(hi:(P.info? T).map (·.size)=some 12)(h1:∀ v ∈ ys,v.oneCell'=true)
  (hgd:o.guard=none)(ho:o.op=.store T x y)(hd:o.dst=none)(hx:a.eval x=Ω (some ⟨g,39,none⟩))(hy:a.eval y=.agg ys.toArray)
  (h:∀ w',Put w w' g t (Ym k l c sel num sd tk tl how nm cop cl ys thn els)→wpList P ops Q rest a w'):wpList P ops Q (o::rest) a w:=
 Xs T x y t g 39 ([I J k,I J l,I J c]++sel++num++[I J sd,I J tk,I J tl,I J how,Ψ nm,I J cop]++cl) cr [thn,els] ys (by simpa[Ym]using hW) (by rw[hy1,e4]) (by simp[e1,e2,e3]) (by rw[hy1];exact hi) h1 hgd ho hd hx hy
  fun w' p=>h w' ⟨by simpa[Ym]using p.whole,p.keeps⟩
theorem put_acop(T:TypeId)(x y:Operand)(t:TypeId)(g:Nat){k l c:Int}{sel num:List Value}{sd tk tl how:Int}{nm:ByteArray}{cop:Int}{cl cr:List Value}{thn els:Value}{v:Int}(hW:Zi w g t (Ym k l c sel num sd tk tl how nm cop cl cr thn els).toArray)(e1:sel.length=6)(e2:num.length=12)(hi:(P.info? T).map (·.size)=some 1)(h1:(I J v).oneCell'=true)
  (hgd:o.guard=none)(ho:o.op=.store T x y)(hd:o.dst=none)(hx:a.eval x=Ω (some ⟨g,26,none⟩))(hy:a.eval y=I J v)
  (h:∀ w',Put w w' g t (Ym k l c sel num sd tk tl how nm v cl cr thn els)→wpList P ops Q rest a w'):wpList P ops Q (o::rest) a w:=
 Zp T x y t g 26 ([I J k,I J l,I J c]++sel++num++[I J sd,I J tk,I J tl,I J how,Ψ nm]) (I J cop) (I J v) (cl++(cr++[thn,els])) (by simpa[Ym]using hW) (by simp[e1,e2]) hi h1 hgd ho hd hx hy
  fun w' p=>h w' ⟨by simpa[Ym]using p.whole,p.keeps⟩
end
theorem Zop(L:List TokV)(t:ByteArray)(st:St):Zk L [t] st=(if isS L t st=true then 1 else 0)∧Ye L [t] st=(if isS L t st=true then Vu L t st else st):=by
 cases st with
 |bad F=>exact⟨rfl,rfl⟩
 |ok a d=>
  show Zaz (Yb L a) [t]=(if isT (Yb L a) t=true then 1 else 0)∧(if Zaz (Yb L a) [t]=0 then _ else _)=(if isT (Yb L a) t=true then St.ok (Zbz L a t) d else _);unfold Zaz Zaz Zbz;by_cases h:isT (Yb L a) t=true
  ·simp[h]
  ·simp[h]
theorem qeach(w:World)(r K:Nat)(L:List TokV)(st:St)(vs:List Value)(l c:Int)(n:Nat)(ih:Zha n)(ho:Zu w r K L)(hp:RPv r K L st vs)(hn:8*Zx L st+9≤n)(hLn:Zx L st≤68719476736) :
  Calls Φ 63 #[.agg vs.toArray,.agg (Zbu 11 l c).toArray] w (PTo w r K L (Ud 3 L (n+1) (AH.zero 11 l c) 11 st).st (Ud 3 L (n+1) (AH.zero 11 l c) 11 st).ds):=by
  have T0:=Hh (Env.start w);unfold Zbu;rw[Ud,if_neg (by decide),if_pos rfl];show Calls _ _ _ _ (PTo w r K L (Yt 3 L n (Xz 3 L n st).2).2 ((⟨11,l,c,(Xz 3 L n st).1,zEx,0,0,0,0,⟨#[]⟩,0,zEx,zEx⟩:AH).dsr (Yt 3 L n (Xz 3 L n st).2).1.len (Yt 3 L n (Xz 3 L n st).2).1.ds 0 .nil));have hr1:=Zal L 3 n st;have hse:∀(x:World)(us:List Value),Zu x r K L→RPv r K L (st) us→Calls Φ 91 #[.agg us.toArray] x (PTo x r K L (Xz 3 L n st).2 (Xz 3 L n st).1.ds):=fun x us h1 h2=>qSel x r K L _ us n h1 h2 (by omega) (by omega)
  generalize Xz 3 L n st=xs at *;have hbl:∀(x:World)(us:List Value),Zu x r K L→RPv r K L (xs.2) us→Calls Φ 96 #[.agg us.toArray] x (PRo x r K L (Yt 3 L n (xs.2)).2 (Yt 3 L n (xs.2)).1.len (Yt 3 L n (xs.2)).1.ds):=fun x us h1 h2=>ih x r K L _ us h1 h2 (by omega) (by omega)
  have hrhbl:=Zgj L 3 n (xs.2);generalize Yt 3 L n (xs.2)=xb at *;clear hn hLn;go_enter Tryz.func63,Tryz.ntmps63;go_wp2_with(first
 |((with_reducible refine Zd 2 ?_);refine Zf T0.out 51 _ (vs) rfl rfl rfl ?_;intro w1 g0 t1
   have T1:=Hh (t1);clear t1)
 |((with_reducible refine Zd 3 ?_);refine Zf T1.out 85 _ (Ym 11 l c zseL zexL 0 0 0 0 ⟨#[]⟩ 0 zexL zexL (Λ none 0 0) (Λ none 0 0)) rfl rfl rfl ?_;intro w2 g1 t2
   have T2:=Hh (t2);clear t2)
 |((with_reducible refine Zd 4 ?_);refine Zb T2.out 51 _ rfl rfl z_P ?_;intro w3 g2 t3
   have T3:=Hh (t3);clear t3)
 |((with_reducible refine Zd 5 ?_);refine Zb T3.out 85 _ rfl rfl Zeg ?_;intro w4 g3 t4
   have T4:=Hh (t4);have hk0:=T4.out.cell 1 0 rfl rfl;clear t4)
 |((with_reducible refine Zd 34 ?_);refine Zc 51 _ 51 g0 _ (T4.out.get 0 rfl) Zm (Ze hp.len) rfl rfl rfl ?_)
 |(go_at_call 91;refine(hse _ vs (ho.below T4.out.below) hp).mono ?_;rintro e w5 ⟨v5,u5,rfl,h5,d5,b5⟩
   have ls:=d5.len6;have os:=Hh d5.one;have T5:=Hh (T4.out.tree b5 d5);clear b5)
 |((with_reducible refine Zg 2 36 ?_);refine Za 51 _ _ 51 g0 _ (v5) (T5.out.get 0 rfl) (h5.len.trans hp.len.symm) (Ze h5.len) h5.one rfl rfl rfl rfl rfl ?_
   intro w6 p6;have T6:=Hh (T5.out.put 0 rfl p6);clear p6)
 |((with_reducible refine Zg 38 37 ?_);refine Zfz 76 _ _ 85 g1 (T6.out.get 1 rfl) rfl ls Vi os.out rfl rfl rfl rfl rfl ?_
   intro w7 p7;have T7:=Hh (T6.out.put 1 rfl p7);clear p7)
 |((with_reducible refine Zd 157 ?_);refine Zc 51 _ 51 g0 _ (T7.out.get 0 rfl) Zm (Ze h5.len) rfl rfl rfl ?_)
 |(go_at_call 96;(with_reducible refine(hbl _ v5 (ho.below T7.out.below) h5).mono ?_);rintro e w8 ⟨v8,u8,rfl,h8,d8,b8⟩
   have o8:=Hh d8.one;have T8:=Hh (T7.out.tree b8 d8);clear b8)
 |((with_reducible refine Zg 2 159 ?_);refine Za 51 _ _ 51 g0 _ (v8) (T8.out.get 0 rfl) (h8.len.trans h5.len.symm) (Ze h8.len) h8.one rfl rfl rfl rfl rfl ?_
   intro w9 p9;have T9:=Hh (T8.out.put 0 rfl p9);clear p9)
 |((with_reducible refine Zg 161 160 ?_);refine put_thn 39 _ _ 85 g1 (T9.out.get 1 rfl) ls rfl rfl rfl Zdu (o8.out _ (List.mem_singleton.2 rfl)) rfl rfl rfl rfl rfl ?_
   intro w10 p10;have T10:Hid (Env w [(g0,51,v8),(g1,85,Ym 11 l c u5 zexL 0 0 0 0 ⟨#[]⟩ 0 zexL zexL u8 (Λ none 0 0)),(g2,51,[Λ none 0 0,I J 0,I J 0,I J 0,I J 0,I J 0]),(g3,85,Vg)] [] [(xs.1.ds,u5),(.row xb.1.len xb.1.ds .nil,[u8])] w10):=Hh (T9.out.put 1 rfl p10);clear p10))
  have D10:=Hh (show Zs (fun k=>w.heap.size≤k) w10 (((⟨11,l,c,xs.1,zEx,0,0,0,0,⟨#[]⟩,0,zEx,zEx⟩:AH)).dsr (xb.1.len) (xb.1.ds) (0) (.nil)) (Ym 11 l c u5 zexL 0 0 0 0 ⟨#[]⟩ 0 zexL zexL u8 (Λ none 0 0))from(Xc _ _ _ _ _ _ _ _ _ (T10.out.leaf 0 rfl) (Zv _ _) (Zv _ _) (Zv _ _) (T10.out.leaf 1 rfl) (Yd _ _)));refine ret2 mixed (by kernel_rfl) (by kernel_rfl) (by kernel_rfl) (by kernel_rfl) (by kernel_rfl) (by kernel_rfl) (by kernel_rfl) (by kernel_rfl) rfl rfl rfl rfl rfl rfl rfl rfl rfl rfl g0 g1 g2 g3 (v8) (Ym 11 l c u5 zexL 0 0 0 0 ⟨#[]⟩ 0 zexL zexL u8 (Λ none 0 0)) ([Λ none 0 0,I J 0,I J 0,I J 0,I J 0,I J 0]) (Vg) (T10.out.get 0 rfl) (T10.out.get 1 rfl) (T10.out.get 2 rfl) (T10.out.get 3 rfl) h8.len (D10.out.len.trans (AH.dsr_len _ _ _ _ _)) h8.one D10.out.one (T10.out.ne 0 2 (by decide) rfl rfl) (T10.out.ne 0 3 (by decide) rfl rfl) (T10.out.ne 1 2 (by decide) rfl rfl) (T10.out.ne 1 3 (by decide) rfl rfl) (T10.out.ne 2 3 (by decide) rfl rfl) Zm (Ze h8.len) Xk (Yn (D10.out.len.trans (AH.dsr_len _ _ _ _ _))) rfl rfl rfl rfl rfl rfl ?_;intro wz hR;have HZ:=Hh hR;clear hR;go_wp2
  obtain⟨dz,bz⟩:=T10.out.ret2 2 3 rfl rfl HZ.out;refine Yp 4 51 5 85 51 85 _ _ _ _ rfl HZ.out.one HZ.out.two Zm (Ze h8.len) Xk (Yn (D10.out.len.trans (AH.dsr_len _ _ _ _ _))) rfl rfl rfl ?_;exact⟨_,_,rfl,h8,(Xc _ _ _ _ _ _ _ _ _ (dz _ (List.mem_of_getElem? (i:=0) rfl)) (Zv _ _) (Zv _ _) (Zv _ _) (dz _ (List.mem_of_getElem? (i:=1) rfl)) (Yd _ _)),bz⟩
theorem qif(w:World)(r K:Nat)(L:List TokV)(st:St)(vs:List Value)(l c:Int)(n:Nat)(ih:Zha n)(ho:Zu w r K L)(hp:RPv r K L st vs)(hn:8*Zx L st+9≤n)(hLn:Zx L st≤68719476736)(hb:¬ isS L Zbg (Yt 3 L n (Yj 3 L n (Zn L wOp (Yj 3 L n st).2)).2).2=true) :
  Calls Φ 63 #[.agg vs.toArray,.agg (Zbu 10 l c).toArray] w (PTo w r K L (Yt 3 L n (Yj 3 L n (Zn L wOp (Yj 3 L n st).2)).2).2 ((⟨10,l,c,zSe,zEx,0,0,0,0,⟨#[]⟩,(Zk L wOp (Yj 3 L n st).2:Int),(Yj 3 L n st).1,(Yj 3 L n (Zn L wOp (Yj 3 L n st).2)).1⟩:AH).dsr (Yt 3 L n (Yj 3 L n (Zn L wOp (Yj 3 L n st).2)).2).1.len (Yt 3 L n (Yj 3 L n (Zn L wOp (Yj 3 L n st).2)).2).1.ds 0 .nil)):=by
  have T0:=Hh (Env.start w);unfold Zbu;have hx1:∀(x:World)(us:List Value),Zu x r K L→RPv r K L (st) us→Calls Φ 94 #[.agg us.toArray] x (PTo x r K L (Yj 3 L n st).2 (Yj 3 L n st).1.ds):=fun x us h1 h2=>Zkd x r K L _ us n h1 h2 (by omega) (by omega)
  have hr1:=Zcd L 3 n st;generalize Yj 3 L n st=xl at *;have hop:∀(x:World)(us:List Value),Zu x r K L→RPv r K L (xl.2) us→Calls Φ 95 #[.agg us.toArray] x (PVo x r K L (Zn L wOp xl.2) (I J (Zk L wOp xl.2:Int))):=fun x us h1 h2=>qop x r K L _ us h1 h2
  have hr2:=Xy L wOp xl.2;generalize(Zk L wOp xl.2:Int)=op at *;generalize Zn L wOp xl.2=s2 at *;have hx2:∀(x:World)(us:List Value),Zu x r K L→RPv r K L (s2) us→Calls Φ 94 #[.agg us.toArray] x (PTo x r K L (Yj 3 L n s2).2 (Yj 3 L n s2).1.ds):=fun x us h1 h2=>Zkd x r K L _ us n h1 h2 (by omega) (by omega)
  have hr3:=Zcd L 3 n s2;generalize Yj 3 L n s2=xr at *;have hbl:∀(x:World)(us:List Value),Zu x r K L→RPv r K L (xr.2) us→Calls Φ 96 #[.agg us.toArray] x (PRo x r K L (Yt 3 L n (xr.2)).2 (Yt 3 L n (xr.2)).1.len (Yt 3 L n (xr.2)).1.ds):=fun x us h1 h2=>ih x r K L _ us h1 h2 (by omega) (by omega)
  have hrhbl:=Zgj L 3 n (xr.2);generalize Yt 3 L n (xr.2)=xb at *;have hmy:∀(x:World)(us:List Value),Zu x r K L→RPv r K L (xb.2) us→Calls Φ 18 #[.agg us.toArray,Λ (some ⟨x.heap.size,0,none⟩) 1 1] (x.alloc (.cells #[Ψ ⟨#[101,108,115,101]⟩] 9)) (PVo x r K L xb.2 (I J 0)):=fun x us h1 h2=>by have h:=Zlr x r K _ L _ us [Zbg] 1 1 _ rfl rfl h1 h2 rfl (by decide);rw[(Zop L Zbg xb.2).1,(Zop L Zbg xb.2).2]at h;rw[if_neg hb,if_neg hb]at h;exact h
  clear hn hLn hb;go_enter Tryz.func63,Tryz.ntmps63;go_wp2_with(first
 |((with_reducible refine Zd 2 ?_);refine Zf T0.out 51 _ (vs) rfl rfl rfl ?_;intro w1 g0 t1
   have T1:=Hh (t1);clear t1)
 |((with_reducible refine Zd 3 ?_);refine Zf T1.out 85 _ (Ym 10 l c zseL zexL 0 0 0 0 ⟨#[]⟩ 0 zexL zexL (Λ none 0 0) (Λ none 0 0)) rfl rfl rfl ?_;intro w2 g1 t2
   have T2:=Hh (t2);clear t2)
 |((with_reducible refine Zd 4 ?_);refine Zb T2.out 51 _ rfl rfl z_P ?_;intro w3 g2 t3
   have T3:=Hh (t3);clear t3)
 |((with_reducible refine Zd 5 ?_);refine Zb T3.out 85 _ rfl rfl Zeg ?_;intro w4 g3 t4
   have T4:=Hh (t4);have hk0:=T4.out.cell 1 0 rfl rfl;clear t4)
 |((with_reducible refine Zd 136 ?_);refine Zc 51 _ 51 g0 _ (T4.out.get 0 rfl) Zm (Ze hp.len) rfl rfl rfl ?_)
 |(go_at_call 94;(with_reducible refine(hx1 _ vs (ho.below T4.out.below) hp).mono ?_);rintro e w5 ⟨v5,u5,rfl,h5,d5,b5⟩
   have ll:=d5.len12;have ol:=Hh d5.one;have T5:=Hh (T4.out.tree b5 d5);clear b5)
 |((with_reducible refine Zg 2 138 ?_);refine Za 51 _ _ 51 g0 _ (v5) (T5.out.get 0 rfl) (h5.len.trans hp.len.symm) (Ze h5.len) h5.one rfl rfl rfl rfl rfl ?_
   intro w6 p6;have T6:=Hh (T5.out.put 0 rfl p6);clear p6)
 |((with_reducible refine Zg 141 139 ?_);refine put_acl 81 _ _ 85 g1 (T6.out.get 1 rfl) rfl rfl rfl ll Yi ol.out rfl rfl rfl rfl rfl ?_
   intro w7 p7;have T7:=Hh (T6.out.put 1 rfl p7);clear p7)
 |((with_reducible refine Zd 143 ?_);refine Zc 51 _ 51 g0 _ (T7.out.get 0 rfl) Zm (Ze h5.len) rfl rfl rfl ?_)
 |(go_at_call 95;refine(hop _ v5 (ho.below T7.out.below) h5).mono ?_;rintro e w8 ⟨v8,rfl,h8,b8⟩
   have T8:=Hh (T7.out.call b8);clear b8)
 |((with_reducible refine Zg 2 145 ?_);refine Za 51 _ _ 51 g0 _ (v8) (T8.out.get 0 rfl) (h8.len.trans h5.len.symm) (Ze h8.len) h8.one rfl rfl rfl rfl rfl ?_
   intro w9 p9;have T9:=Hh (T8.out.put 0 rfl p9);clear p9)
 |((with_reducible refine Zg 148 146 ?_);refine put_acop 3 _ _ 85 g1 (T9.out.get 1 rfl) rfl rfl Yw rfl rfl rfl rfl rfl rfl ?_
   intro w10 p10;have T10:=Hh (T9.out.put 1 rfl p10);clear p10)
 |((with_reducible refine Zd 150 ?_);refine Zc 51 _ 51 g0 _ (T10.out.get 0 rfl) Zm (Ze h8.len) rfl rfl rfl ?_)
 |(go_at_call 94;(with_reducible refine(hx2 _ v8 (ho.below T10.out.below) h8).mono ?_);rintro e w11 ⟨v11,u11,rfl,h11,d11,b11⟩
   have lr:=d11.len12;have or_:=Hh d11.one;have T11:=Hh (T10.out.tree b11 d11);clear b11)
 |((with_reducible refine Zg 2 152 ?_);refine Za 51 _ _ 51 g0 _ (v11) (T11.out.get 0 rfl) (h11.len.trans h8.len.symm) (Ze h11.len) h11.one rfl rfl rfl rfl rfl ?_
   intro w12 p12;have T12:=Hh (T11.out.put 0 rfl p12);clear p12)
 |((with_reducible refine Zg 155 153 ?_);refine put_acr 81 _ _ 85 g1 (T12.out.get 1 rfl) rfl rfl ll rfl lr Yi or_.out rfl rfl rfl rfl rfl ?_
   intro w13 p13;have T13:=Hh (T12.out.put 1 rfl p13);clear p13)
 |((with_reducible refine Zd 157 ?_);refine Zc 51 _ 51 g0 _ (T13.out.get 0 rfl) Zm (Ze h11.len) rfl rfl rfl ?_)
 |(go_at_call 96;(with_reducible refine(hbl _ v11 (ho.below T13.out.below) h11).mono ?_);rintro e w14 ⟨v14,u14,rfl,h14,d14,b14⟩
   have o14:=Hh d14.one;have T14:=Hh (T13.out.tree b14 d14);clear b14)
 |((with_reducible refine Zg 2 159 ?_);refine Za 51 _ _ 51 g0 _ (v14) (T14.out.get 0 rfl) (h14.len.trans h11.len.symm) (Ze h14.len) h14.one rfl rfl rfl rfl rfl ?_
   intro w15 p15;have T15:=Hh (T14.out.put 0 rfl p15);clear p15)
 |((with_reducible refine Zg 161 160 ?_);refine put_thn 39 _ _ 85 g1 (T15.out.get 1 rfl) rfl rfl ll lr Zdu (o14.out _ (List.mem_singleton.2 rfl)) rfl rfl rfl rfl rfl ?_
   intro w16 p16;have T16:=Hh (T15.out.put 1 rfl p16);clear p16)
 |((with_reducible refine Zd 165 ?_);refine Zc 51 _ 51 g0 _ (T16.out.get 0 rfl) Zm (Ze h14.len) rfl rfl rfl ?_)
 |(go_at_call 18;refine(hmy _ v14 (ho.below T16.out.below) h14).mono ?_;rintro e w17 ⟨v17,rfl,h17,b17⟩
   have T17:=Hh (T16.out.call b17);clear b17)
 |((with_reducible refine Zd 7 ?_);refine Zb T17.out 51 _ rfl rfl z_P ?_;intro w18 g4 t18
   have T18:=Hh (t18);clear t18)
 |((with_reducible refine Zg 7 168 ?_);refine Za 51 _ _ 51 g4 _ (v17) (T18.out.get 4 rfl) h17.len (Ze h17.len) h17.one rfl rfl rfl rfl rfl ?_
   intro w19 p19;have T19:=Hh (T18.out.put 4 rfl p19);clear p19)
 |((with_reducible refine Zd 170 ?_);refine Zc 51 _ 51 g4 _ (T19.out.get 4 rfl) Zm (Ze h17.len) rfl rfl rfl ?_)
 |((with_reducible refine Zg 2 170 ?_);refine Za 51 _ _ 51 g0 _ (v17) (T19.out.get 0 rfl) (h17.len.trans h14.len.symm) (Ze h17.len) h17.one rfl rfl rfl rfl rfl ?_
   intro w20 p20;have T20:Hid (Env w [(g0,51,v17),(g1,85,Ym 10 l c zseL zexL 0 0 0 0 ⟨#[]⟩ op u5 u11 u14 (Λ none 0 0)),(g2,51,[Λ none 0 0,I J 0,I J 0,I J 0,I J 0,I J 0]),(g3,85,Vg),(g4,51,v17)] [] [(xl.1.ds,u5),(xr.1.ds,u11),(.row xb.1.len xb.1.ds .nil,[u14])] w20):=Hh (T19.out.put 0 rfl p20);clear p20))
  have D20:=Hh (show Zs (fun k=>w.heap.size≤k) w20 (((⟨10,l,c,zSe,zEx,0,0,0,0,⟨#[]⟩,op,xl.1,xr.1⟩:AH)).dsr (xb.1.len) (xb.1.ds) (0) (.nil)) (Ym 10 l c zseL zexL 0 0 0 0 ⟨#[]⟩ op u5 u11 u14 (Λ none 0 0))from(Xc _ _ _ _ _ _ _ _ _ (Wn _ _) (Zv _ _) (T20.out.leaf 0 rfl) (T20.out.leaf 1 rfl) (T20.out.leaf 2 rfl) (Yd _ _)));refine ret2 mixed (by kernel_rfl) (by kernel_rfl) (by kernel_rfl) (by kernel_rfl) (by kernel_rfl) (by kernel_rfl) (by kernel_rfl) (by kernel_rfl) rfl rfl rfl rfl rfl rfl rfl rfl rfl rfl g0 g1 g2 g3 (v17) (Ym 10 l c zseL zexL 0 0 0 0 ⟨#[]⟩ op u5 u11 u14 (Λ none 0 0)) ([Λ none 0 0,I J 0,I J 0,I J 0,I J 0,I J 0]) (Vg) (T20.out.get 0 rfl) (T20.out.get 1 rfl) (T20.out.get 2 rfl) (T20.out.get 3 rfl) h17.len (D20.out.len.trans (AH.dsr_len _ _ _ _ _)) h17.one D20.out.one (T20.out.ne 0 2 (by decide) rfl rfl) (T20.out.ne 0 3 (by decide) rfl rfl) (T20.out.ne 1 2 (by decide) rfl rfl) (T20.out.ne 1 3 (by decide) rfl rfl) (T20.out.ne 2 3 (by decide) rfl rfl) Zm (Ze h17.len) Xk (Yn (D20.out.len.trans (AH.dsr_len _ _ _ _ _))) rfl rfl rfl rfl rfl rfl ?_;intro wz hR;have HZ:=Hh hR;clear hR;go_wp2
  obtain⟨dz,bz⟩:=T20.out.ret2 2 3 rfl rfl HZ.out;refine Yp 4 51 5 85 51 85 _ _ _ _ rfl HZ.out.one HZ.out.two Zm (Ze h17.len) Xk (Yn (D20.out.len.trans (AH.dsr_len _ _ _ _ _))) rfl rfl rfl ?_;exact⟨_,_,rfl,h17,(Xc _ _ _ _ _ _ _ _ _ (Wn _ _) (Zv _ _) (dz _ (List.mem_of_getElem? (i:=0) rfl)) (dz _ (List.mem_of_getElem? (i:=1) rfl)) (dz _ (List.mem_of_getElem? (i:=2) rfl)) (Yd _ _)),bz⟩
theorem qif_else(w:World)(r K:Nat)(L:List TokV)(st:St)(vs:List Value)(l c:Int)(n:Nat)(ih:Zha n)(ho:Zu w r K L)(hp:RPv r K L st vs)(hn:8*Zx L st+9≤n)(hLn:Zx L st≤68719476736)(hb:isS L Zbg (Yt 3 L n (Yj 3 L n (Zn L wOp (Yj 3 L n st).2)).2).2=true) :
  Calls Φ 63 #[.agg vs.toArray,.agg (Zbu 10 l c).toArray] w (PTo w r K L (Yt 3 L n (Vu L Zbg (Yt 3 L n (Yj 3 L n (Zn L wOp (Yj 3 L n st).2)).2).2)).2 ((⟨10,l,c,zSe,zEx,0,0,0,0,⟨#[]⟩,(Zk L wOp (Yj 3 L n st).2:Int),(Yj 3 L n st).1,(Yj 3 L n (Zn L wOp (Yj 3 L n st).2)).1⟩:AH).dsr (Yt 3 L n (Yj 3 L n (Zn L wOp (Yj 3 L n st).2)).2).1.len (Yt 3 L n (Yj 3 L n (Zn L wOp (Yj 3 L n st).2)).2).1.ds (Yt 3 L n (Vu L Zbg (Yt 3 L n (Yj 3 L n (Zn L wOp (Yj 3 L n st).2)).2).2)).1.len (Yt 3 L n (Vu L Zbg (Yt 3 L n (Yj 3 L n (Zn L wOp (Yj 3 L n st).2)).2).2)).1.ds)):=by
  have T0:=Hh (Env.start w);unfold Zbu;have hx1:∀(x:World)(us:List Value),Zu x r K L→RPv r K L (st) us→Calls Φ 94 #[.agg us.toArray] x (PTo x r K L (Yj 3 L n st).2 (Yj 3 L n st).1.ds):=fun x us h1 h2=>Zkd x r K L _ us n h1 h2 (by omega) (by omega)
  have hr1:=Zcd L 3 n st;generalize Yj 3 L n st=xl at *;have hop:∀(x:World)(us:List Value),Zu x r K L→RPv r K L (xl.2) us→Calls Φ 95 #[.agg us.toArray] x (PVo x r K L (Zn L wOp xl.2) (I J (Zk L wOp xl.2:Int))):=fun x us h1 h2=>qop x r K L _ us h1 h2
  have hr2:=Xy L wOp xl.2;generalize(Zk L wOp xl.2:Int)=op at *;generalize Zn L wOp xl.2=s2 at *;have hx2:∀(x:World)(us:List Value),Zu x r K L→RPv r K L (s2) us→Calls Φ 94 #[.agg us.toArray] x (PTo x r K L (Yj 3 L n s2).2 (Yj 3 L n s2).1.ds):=fun x us h1 h2=>Zkd x r K L _ us n h1 h2 (by omega) (by omega)
  have hr3:=Zcd L 3 n s2;generalize Yj 3 L n s2=xr at *;have hbl:∀(x:World)(us:List Value),Zu x r K L→RPv r K L (xr.2) us→Calls Φ 96 #[.agg us.toArray] x (PRo x r K L (Yt 3 L n (xr.2)).2 (Yt 3 L n (xr.2)).1.len (Yt 3 L n (xr.2)).1.ds):=fun x us h1 h2=>ih x r K L _ us h1 h2 (by omega) (by omega)
  have hrhbl:=Zgj L 3 n (xr.2);generalize Yt 3 L n (xr.2)=xb at *;have hmy:∀(x:World)(us:List Value),Zu x r K L→RPv r K L (xb.2) us→Calls Φ 18 #[.agg us.toArray,Λ (some ⟨x.heap.size,0,none⟩) 1 1] (x.alloc (.cells #[Ψ ⟨#[101,108,115,101]⟩] 9)) (PVo x r K L (Vu L Zbg xb.2) (I J 1)):=fun x us h1 h2=>by have h:=Zlr x r K _ L _ us [Zbg] 1 1 _ rfl rfl h1 h2 rfl (by decide);rw[(Zop L Zbg xb.2).1,(Zop L Zbg xb.2).2]at h;rw[if_pos hb,if_pos hb]at h;exact h
  have hrt:=Zll L Zbg xb.2;generalize Vu L Zbg xb.2=s6 at *;have hbm:∀(x:World)(us:List Value),Zu x r K L→RPv r K L (s6) us→Calls Φ 96 #[.agg us.toArray] x (PRo x r K L (Yt 3 L n (s6)).2 (Yt 3 L n (s6)).1.len (Yt 3 L n (s6)).1.ds):=fun x us h1 h2=>ih x r K L _ us h1 h2 (by omega) (by omega)
  have hrhbm:=Zgj L 3 n (s6);generalize Yt 3 L n (s6)=xc at *;clear hn hLn hb;go_enter Tryz.func63,Tryz.ntmps63;go_wp2_with(first
 |((with_reducible refine Zd 2 ?_);refine Zf T0.out 51 _ (vs) rfl rfl rfl ?_;intro w1 g0 t1
   have T1:=Hh (t1);clear t1)
 |((with_reducible refine Zd 3 ?_);refine Zf T1.out 85 _ (Ym 10 l c zseL zexL 0 0 0 0 ⟨#[]⟩ 0 zexL zexL (Λ none 0 0) (Λ none 0 0)) rfl rfl rfl ?_;intro w2 g1 t2
   have T2:=Hh (t2);clear t2)
 |((with_reducible refine Zd 4 ?_);refine Zb T2.out 51 _ rfl rfl z_P ?_;intro w3 g2 t3
   have T3:=Hh (t3);clear t3)
 |((with_reducible refine Zd 5 ?_);refine Zb T3.out 85 _ rfl rfl Zeg ?_;intro w4 g3 t4
   have T4:=Hh (t4);have hk0:=T4.out.cell 1 0 rfl rfl;clear t4)
 |((with_reducible refine Zd 136 ?_);refine Zc 51 _ 51 g0 _ (T4.out.get 0 rfl) Zm (Ze hp.len) rfl rfl rfl ?_)
 |(go_at_call 94;(with_reducible refine(hx1 _ vs (ho.below T4.out.below) hp).mono ?_);rintro e w5 ⟨v5,u5,rfl,h5,d5,b5⟩
   have ll:=d5.len12;have ol:=Hh d5.one;have T5:=Hh (T4.out.tree b5 d5);clear b5)
 |((with_reducible refine Zg 2 138 ?_);refine Za 51 _ _ 51 g0 _ (v5) (T5.out.get 0 rfl) (h5.len.trans hp.len.symm) (Ze h5.len) h5.one rfl rfl rfl rfl rfl ?_
   intro w6 p6;have T6:=Hh (T5.out.put 0 rfl p6);clear p6)
 |((with_reducible refine Zg 141 139 ?_);refine put_acl 81 _ _ 85 g1 (T6.out.get 1 rfl) rfl rfl rfl ll Yi ol.out rfl rfl rfl rfl rfl ?_
   intro w7 p7;have T7:=Hh (T6.out.put 1 rfl p7);clear p7)
 |((with_reducible refine Zd 143 ?_);refine Zc 51 _ 51 g0 _ (T7.out.get 0 rfl) Zm (Ze h5.len) rfl rfl rfl ?_)
 |(go_at_call 95;refine(hop _ v5 (ho.below T7.out.below) h5).mono ?_;rintro e w8 ⟨v8,rfl,h8,b8⟩
   have T8:=Hh (T7.out.call b8);clear b8)
 |((with_reducible refine Zg 2 145 ?_);refine Za 51 _ _ 51 g0 _ (v8) (T8.out.get 0 rfl) (h8.len.trans h5.len.symm) (Ze h8.len) h8.one rfl rfl rfl rfl rfl ?_
   intro w9 p9;have T9:=Hh (T8.out.put 0 rfl p9);clear p9)
 |((with_reducible refine Zg 148 146 ?_);refine put_acop 3 _ _ 85 g1 (T9.out.get 1 rfl) rfl rfl Yw rfl rfl rfl rfl rfl rfl ?_
   intro w10 p10;have T10:=Hh (T9.out.put 1 rfl p10);clear p10)
 |((with_reducible refine Zd 150 ?_);refine Zc 51 _ 51 g0 _ (T10.out.get 0 rfl) Zm (Ze h8.len) rfl rfl rfl ?_)
 |(go_at_call 94;(with_reducible refine(hx2 _ v8 (ho.below T10.out.below) h8).mono ?_);rintro e w11 ⟨v11,u11,rfl,h11,d11,b11⟩
   have lr:=d11.len12;have or_:=Hh d11.one;have T11:=Hh (T10.out.tree b11 d11);clear b11)
 |((with_reducible refine Zg 2 152 ?_);refine Za 51 _ _ 51 g0 _ (v11) (T11.out.get 0 rfl) (h11.len.trans h8.len.symm) (Ze h11.len) h11.one rfl rfl rfl rfl rfl ?_
   intro w12 p12;have T12:=Hh (T11.out.put 0 rfl p12);clear p12)
 |((with_reducible refine Zg 155 153 ?_);refine put_acr 81 _ _ 85 g1 (T12.out.get 1 rfl) rfl rfl ll rfl lr Yi or_.out rfl rfl rfl rfl rfl ?_
   intro w13 p13;have T13:=Hh (T12.out.put 1 rfl p13);clear p13)
 |((with_reducible refine Zd 157 ?_);refine Zc 51 _ 51 g0 _ (T13.out.get 0 rfl) Zm (Ze h11.len) rfl rfl rfl ?_)
 |(go_at_call 96;(with_reducible refine(hbl _ v11 (ho.below T13.out.below) h11).mono ?_);rintro e w14 ⟨v14,u14,rfl,h14,d14,b14⟩
   have o14:=Hh d14.one;have T14:=Hh (T13.out.tree b14 d14);clear b14)
 |((with_reducible refine Zg 2 159 ?_);refine Za 51 _ _ 51 g0 _ (v14) (T14.out.get 0 rfl) (h14.len.trans h11.len.symm) (Ze h14.len) h14.one rfl rfl rfl rfl rfl ?_
   intro w15 p15;have T15:=Hh (T14.out.put 0 rfl p15);clear p15)
 |((with_reducible refine Zg 161 160 ?_);refine put_thn 39 _ _ 85 g1 (T15.out.get 1 rfl) rfl rfl ll lr Zdu (o14.out _ (List.mem_singleton.2 rfl)) rfl rfl rfl rfl rfl ?_
   intro w16 p16;have T16:=Hh (T15.out.put 1 rfl p16);clear p16)
 |((with_reducible refine Zd 165 ?_);refine Zc 51 _ 51 g0 _ (T16.out.get 0 rfl) Zm (Ze h14.len) rfl rfl rfl ?_)
 |(go_at_call 18;refine(hmy _ v14 (ho.below T16.out.below) h14).mono ?_;rintro e w17 ⟨v17,rfl,h17,b17⟩
   have T17:=Hh (T16.out.call b17);clear b17)
 |((with_reducible refine Zd 7 ?_);refine Zb T17.out 51 _ rfl rfl z_P ?_;intro w18 g4 t18
   have T18:=Hh (t18);clear t18)
 |((with_reducible refine Zg 7 168 ?_);refine Za 51 _ _ 51 g4 _ (v17) (T18.out.get 4 rfl) h17.len (Ze h17.len) h17.one rfl rfl rfl rfl rfl ?_
   intro w19 p19;have T19:=Hh (T18.out.put 4 rfl p19);clear p19)
 |((with_reducible refine Zd 170 ?_);refine Zc 51 _ 51 g4 _ (T19.out.get 4 rfl) Zm (Ze h17.len) rfl rfl rfl ?_)
 |((with_reducible refine Zg 2 170 ?_);refine Za 51 _ _ 51 g0 _ (v17) (T19.out.get 0 rfl) (h17.len.trans h14.len.symm) (Ze h17.len) h17.one rfl rfl rfl rfl rfl ?_
   intro w20 p20;have T20:=Hh (T19.out.put 0 rfl p20);clear p20)
 |((with_reducible refine Zd 174 ?_);refine Zc 51 _ 51 g0 _ (T20.out.get 0 rfl) Zm (Ze h17.len) rfl rfl rfl ?_)
 |(go_at_call 96;(with_reducible refine(hbm _ v17 (ho.below T20.out.below) h17).mono ?_);rintro e w21 ⟨v21,u21,rfl,h21,d21,b21⟩
   have o21:=Hh d21.one;have T21:=Hh (T20.out.tree b21 d21);clear b21)
 |((with_reducible refine Zg 2 176 ?_);refine Za 51 _ _ 51 g0 _ (v21) (T21.out.get 0 rfl) (h21.len.trans h17.len.symm) (Ze h21.len) h21.one rfl rfl rfl rfl rfl ?_
   intro w22 p22;have T22:=Hh (T21.out.put 0 rfl p22);clear p22)
 |((with_reducible refine Zg 178 177 ?_);refine put_els 39 _ _ 85 g1 (T22.out.get 1 rfl) rfl rfl ll lr Zdu (o21.out _ (List.mem_singleton.2 rfl)) rfl rfl rfl rfl rfl ?_
   intro w23 p23;have T23:Hid (Env w [(g0,51,v21),(g1,85,Ym 10 l c zseL zexL 0 0 0 0 ⟨#[]⟩ op u5 u11 u14 u21),(g2,51,[Λ none 0 0,I J 0,I J 0,I J 0,I J 0,I J 0]),(g3,85,Vg),(g4,51,v17)] [] [(xl.1.ds,u5),(xr.1.ds,u11),(.row xb.1.len xb.1.ds .nil,[u14]),(.row xc.1.len xc.1.ds .nil,[u21])] w23):=Hh (T22.out.put 1 rfl p23);clear p23))
  have D23:=Hh (show Zs (fun k=>w.heap.size≤k) w23 (((⟨10,l,c,zSe,zEx,0,0,0,0,⟨#[]⟩,op,xl.1,xr.1⟩:AH)).dsr (xb.1.len) (xb.1.ds) (xc.1.len) (xc.1.ds)) (Ym 10 l c zseL zexL 0 0 0 0 ⟨#[]⟩ op u5 u11 u14 u21)from(Xc _ _ _ _ _ _ _ _ _ (Wn _ _) (Zv _ _) (T23.out.leaf 0 rfl) (T23.out.leaf 1 rfl) (T23.out.leaf 2 rfl) (T23.out.leaf 3 rfl)));refine ret2 mixed (by kernel_rfl) (by kernel_rfl) (by kernel_rfl) (by kernel_rfl) (by kernel_rfl) (by kernel_rfl) (by kernel_rfl) (by kernel_rfl) rfl rfl rfl rfl rfl rfl rfl rfl rfl rfl g0 g1 g2 g3 (v21) (Ym 10 l c zseL zexL 0 0 0 0 ⟨#[]⟩ op u5 u11 u14 u21) ([Λ none 0 0,I J 0,I J 0,I J 0,I J 0,I J 0]) (Vg) (T23.out.get 0 rfl) (T23.out.get 1 rfl) (T23.out.get 2 rfl) (T23.out.get 3 rfl) h21.len (D23.out.len.trans (AH.dsr_len _ _ _ _ _)) h21.one D23.out.one (T23.out.ne 0 2 (by decide) rfl rfl) (T23.out.ne 0 3 (by decide) rfl rfl) (T23.out.ne 1 2 (by decide) rfl rfl) (T23.out.ne 1 3 (by decide) rfl rfl) (T23.out.ne 2 3 (by decide) rfl rfl) Zm (Ze h21.len) Xk (Yn (D23.out.len.trans (AH.dsr_len _ _ _ _ _))) rfl rfl rfl rfl rfl rfl ?_;intro wz hR;have HZ:=Hh hR;clear hR;go_wp2
  obtain⟨dz,bz⟩:=T23.out.ret2 2 3 rfl rfl HZ.out;refine Yp 4 51 5 85 51 85 _ _ _ _ rfl HZ.out.one HZ.out.two Zm (Ze h21.len) Xk (Yn (D23.out.len.trans (AH.dsr_len _ _ _ _ _))) rfl rfl rfl ?_;exact⟨_,_,rfl,h21,(Xc _ _ _ _ _ _ _ _ _ (Wn _ _) (Zv _ _) (dz _ (List.mem_of_getElem? (i:=0) rfl)) (dz _ (List.mem_of_getElem? (i:=1) rfl)) (dz _ (List.mem_of_getElem? (i:=2) rfl)) (dz _ (List.mem_of_getElem? (i:=3) rfl))),bz⟩
end Go.Proofs.YtbdecchpleiepaaGreat
