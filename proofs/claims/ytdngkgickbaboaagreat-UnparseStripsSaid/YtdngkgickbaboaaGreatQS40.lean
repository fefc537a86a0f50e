/-
  No conditions but those that each theorem names.
-/
import Derived.Test.YtdngkgickbaboaaGreatQS39
set_option maxRecDepth 20000
set_option maxHeartbeats 12800000
namespace Go.Proofs.YtdngkgickbaboaaGreat
open Go.ChangeShapes Go.WideShapes Go.ChangeAt Go.RowKit
set_option linter.unusedVariables false
set_option linter.unusedSimpArgs false
section
variable {P:Program} {ops:Array Oper} {rest:List Oper} {o:Oper} {a:Act} {w:World} {Q:Exit→Act→World→Prop}
theorem put_acl(T:TypeId)(x y:Operand)(t:TypeId)(g:Nat){k l c:Int}{sel num:List Value}{sd tk tl how:Int}{nm:ByteArray}{cop:Int}{cl cr:List Value}{thn els:Value}{ys:List Value}(hW:Zf w g t (Yi k l c sel num sd tk tl how nm cop cl cr thn els).toArray)(e1:sel.length=6)(e2:num.length=12)(e3:cl.length=12)(hy1:ys.length=12)(hi:(P.info? T).map (·.size)=some 12)(h1:∀ v ∈ ys,v.oneCell'=true)
  (hgd:o.guard=none)(ho:o.op=.store T x y)(hd:o.dst=none)(hx:a.eval x=.pointer (some ⟨g,27,none⟩))(hy:a.eval y=.agg ys.toArray)
  (h:∀ w',Put w w' g t (Yi k l c sel num sd tk tl how nm cop ys cr thn els)→wpList P ops Q rest a w'):wpList P ops Q (o::rest) a w:=
 Xf T x y t g 27 ([.int .i64 k,.int .i64 l,.int .i64 c]++sel++num++[.int .i64 sd,.int .i64 tk,.int .i64 tl,.int .i64 how,.string nm,.int .i64 cop]) cl (cr++[thn,els]) ys (by simpa[Yi]using hW) (by rw[hy1,e3]) (by simp[e1,e2]) (by rw[hy1];exact hi) h1 hgd ho hd hx hy
  fun w' p=>h w' ⟨by simpa[Yi]using p.whole,p.keeps⟩
theorem put_acr(T:TypeId)(x y:Operand)(t:TypeId)(g:Nat){k l c:Int}{sel num:List Value}{sd tk tl how:Int}{nm:ByteArray}{cop:Int}{cl cr:List Value}{thn els:Value}{ys:List Value}(hW:Zf w g t (Yi k l c sel num sd tk tl how nm cop cl cr thn els).toArray)(e1:sel.length=6)(e2:num.length=12)(e3:cl.length=12)(e4:cr.length=12)(hy1:ys.length=12)(hi:(P.info? T).map (·.size)=some 12)(h1:∀ v ∈ ys,v.oneCell'=true)
  (hgd:o.guard=none)(ho:o.op=.store T x y)(hd:o.dst=none)(hx:a.eval x=.pointer (some ⟨g,39,none⟩))(hy:a.eval y=.agg ys.toArray)
  (h:∀ w',Put w w' g t (Yi k l c sel num sd tk tl how nm cop cl ys thn els)→wpList P ops Q rest a w'):wpList P ops Q (o::rest) a w:=
 Xf T x y t g 39 ([.int .i64 k,.int .i64 l,.int .i64 c]++sel++num++[.int .i64 sd,.int .i64 tk,.int .i64 tl,.int .i64 how,.string nm,.int .i64 cop]++cl) cr [thn,els] ys (by simpa[Yi]using hW) (by rw[hy1,e4]) (by simp[e1,e2,e3]) (by rw[hy1];exact hi) h1 hgd ho hd hx hy
  fun w' p=>h w' ⟨by simpa[Yi]using p.whole,p.keeps⟩
theorem put_acop(T:TypeId)(x y:Operand)(t:TypeId)(g:Nat){k l c:Int}{sel num:List Value}{sd tk tl how:Int}{nm:ByteArray}{cop:Int}{cl cr:List Value}{thn els:Value}{v:Int}(hW:Zf w g t (Yi k l c sel num sd tk tl how nm cop cl cr thn els).toArray)(e1:sel.length=6)(e2:num.length=12)(hi:(P.info? T).map (·.size)=some 1)(h1:(Value.int .i64 v).oneCell'=true)
  (hgd:o.guard=none)(ho:o.op=.store T x y)(hd:o.dst=none)(hx:a.eval x=.pointer (some ⟨g,26,none⟩))(hy:a.eval y=.int .i64 v)
  (h:∀ w',Put w w' g t (Yi k l c sel num sd tk tl how nm v cl cr thn els)→wpList P ops Q rest a w'):wpList P ops Q (o::rest) a w:=
 Zj T x y t g 26 ([.int .i64 k,.int .i64 l,.int .i64 c]++sel++num++[.int .i64 sd,.int .i64 tk,.int .i64 tl,.int .i64 how,.string nm]) (.int .i64 cop) (.int .i64 v) (cl++(cr++[thn,els])) (by simpa[Yi]using hW) (by simp[e1,e2]) hi h1 hgd ho hd hx hy
  fun w' p=>h w' ⟨by simpa[Yi]using p.whole,p.keeps⟩
end
theorem Zmz(L:List TokV)(t:ByteArray)(st:St):Zh L [t] st=(if isS L t st=true then 1 else 0)∧Zz L [t] st=(if isS L t st=true then Xw L t st else st):=by
 cases st with
 |bad F=>exact⟨rfl,rfl⟩
 |ok a d=>
  show Jl (Zv L a) [t]=(if isT (Zv L a) t=true then 1 else 0)∧(if Jl (Zv L a) [t]=0 then _ else _)=(if isT (Zv L a) t=true then St.ok (Zav L a t) d else _);unfold Jl Jl Zav;by_cases h:isT (Zv L a) t=true
  ·simp[h]
  ·simp[h]
theorem qeach(w:World)(r K:Nat)(L:List TokV)(st:St)(vs:List Value)(l c:Int)(n:Nat)(ih:Zgc n)(ho:Zt w r K L)(hp:RPv r K L st vs)(hn:8*Zu L st+9≤n)(hLn:Zu L st≤68719476736) :
  Calls Tryz.prog 83 #[.agg vs.toArray,.agg (Zbi 11 l c).toArray] w (PTo w r K L (Zaq 3 L (n+1) (AH.zero 11 l c) 11 st).st (Zaq 3 L (n+1) (AH.zero 11 l c) 11 st).ds):=by
  have T0:=Hh (Env.start w);unfold Zbi;rw[Zaq,if_neg (by decide),if_pos rfl];show Calls _ _ _ _ (PTo w r K L (Yp 3 L n (Xp 3 L n st).2).2 ((⟨11,l,c,(Xp 3 L n st).1,zEx,0,0,0,0,⟨#[]⟩,0,zEx,zEx⟩:AH).dsr (Yp 3 L n (Xp 3 L n st).2).1.len (Yp 3 L n (Xp 3 L n st).2).1.ds 0 .nil));have hr1:=Jd L 3 n st;have hse:∀(x:World)(us:List Value),Zt x r K L→RPv r K L (st) us→Calls Tryz.prog 107 #[.agg us.toArray] x (PTo x r K L (Xp 3 L n st).2 (Xp 3 L n st).1.ds):=fun x us h1 h2=>qSel x r K L _ us n h1 h2 (by omega) (by omega)
  generalize Xp 3 L n st=xs at *;have hbl:∀(x:World)(us:List Value),Zt x r K L→RPv r K L (xs.2) us→Calls Tryz.prog 112 #[.agg us.toArray] x (PRo x r K L (Yp 3 L n (xs.2)).2 (Yp 3 L n (xs.2)).1.len (Yp 3 L n (xs.2)).1.ds):=fun x us h1 h2=>ih x r K L _ us h1 h2 (by omega) (by omega)
  have hrhbl:=Zeh L 3 n (xs.2);generalize Yp 3 L n (xs.2)=xb at *;clear hn hLn;go_enter Tryz.func83,Tryz.ntmps83;go_wp2_with(first
 |((with_reducible refine Zd 2 ?_);refine Zo T0.out 66 _ (vs) rfl rfl rfl ?_;intro w1 g0 t1
   have T1:=Hh (t1);clear t1)
 |((with_reducible refine Zd 3 ?_);refine Zo T1.out 58 _ (Yi 11 l c zseL zexL 0 0 0 0 ⟨#[]⟩ 0 zexL zexL (.slice none 0 0) (.slice none 0 0)) rfl rfl rfl ?_;intro w2 g1 t2
   have T2:=Hh (t2);clear t2)
 |((with_reducible refine Zd 4 ?_);refine Zc T2.out 66 _ rfl rfl z_P ?_;intro w3 g2 t3
   have T3:=Hh (t3);clear t3)
 |((with_reducible refine Zd 5 ?_);refine Zc T3.out 58 _ rfl rfl Zcu ?_;intro w4 g3 t4
   have T4:=Hh (t4);have hk0:=T4.out.cell 1 0 rfl rfl;clear t4)
 |((with_reducible refine Zd 34 ?_);refine Zb 66 _ 66 g0 _ (T4.out.get 0 rfl) Zl (Ze hp.len) rfl rfl rfl ?_)
 |(go_at_call 107;refine(hse _ vs (ho.below T4.out.below) hp).mono ?_;rintro e w5 ⟨v5,u5,rfl,h5,d5,b5⟩
   have ls:=d5.len6;have os:=Hh d5.one;have T5:=Hh (T4.out.tree b5 d5);clear b5)
 |((with_reducible refine Zg 2 36 ?_);refine Za 66 _ _ 66 g0 _ (v5) (T5.out.get 0 rfl) (h5.len.trans hp.len.symm) (Ze h5.len) h5.one rfl rfl rfl rfl rfl ?_
   intro w6 p6;have T6:=Hh (T5.out.put 0 rfl p6);clear p6)
 |((with_reducible refine Zg 38 37 ?_);refine Zfg 49 _ _ 58 g1 (T6.out.get 1 rfl) rfl ls Xt os.out rfl rfl rfl rfl rfl ?_
   intro w7 p7;have T7:=Hh (T6.out.put 1 rfl p7);clear p7)
 |((with_reducible refine Zd 157 ?_);refine Zb 66 _ 66 g0 _ (T7.out.get 0 rfl) Zl (Ze h5.len) rfl rfl rfl ?_)
 |(go_at_call 112;(with_reducible refine(hbl _ v5 (ho.below T7.out.below) h5).mono ?_);rintro e w8 ⟨v8,u8,rfl,h8,d8,b8⟩
   have o8:=Hh d8.one;have T8:=Hh (T7.out.tree b8 d8);clear b8)
 |((with_reducible refine Zg 2 159 ?_);refine Za 66 _ _ 66 g0 _ (v8) (T8.out.get 0 rfl) (h8.len.trans h5.len.symm) (Ze h8.len) h8.one rfl rfl rfl rfl rfl ?_
   intro w9 p9;have T9:=Hh (T8.out.put 0 rfl p9);clear p9)
 |((with_reducible refine Zg 161 160 ?_);refine put_thn 44 _ _ 58 g1 (T9.out.get 1 rfl) ls rfl rfl rfl Zeg (o8.out _ (List.mem_singleton.2 rfl)) rfl rfl rfl rfl rfl ?_
   intro w10 p10;have T10:Hid (Env w [(g0,66,v8),(g1,58,Yi 11 l c u5 zexL 0 0 0 0 ⟨#[]⟩ 0 zexL zexL u8 (.slice none 0 0)),(g2,66,[.slice none 0 0,.int .i64 0,.int .i64 0,.int .i64 0,.int .i64 0,.int .i64 0]),(g3,58,Vy)] [] [(xs.1.ds,u5),(.row xb.1.len xb.1.ds .nil,[u8])] w10):=Hh (T9.out.put 1 rfl p10);clear p10))
  have D10:=Hh (show Zn (fun k=>w.heap.size≤k) w10 (((⟨11,l,c,xs.1,zEx,0,0,0,0,⟨#[]⟩,0,zEx,zEx⟩:AH)).dsr (xb.1.len) (xb.1.ds) (0) (.nil)) (Yi 11 l c u5 zexL 0 0 0 0 ⟨#[]⟩ 0 zexL zexL u8 (.slice none 0 0))from(Xj _ _ _ _ _ _ _ _ _ (T10.out.leaf 0 rfl) (Zw _ _) (Zw _ _) (Zw _ _) (T10.out.leaf 1 rfl) (Yj _ _)));refine ret2 mixed (by kernel_rfl) (by kernel_rfl) (by kernel_rfl) (by kernel_rfl) (by kernel_rfl) (by kernel_rfl) (by kernel_rfl) (by kernel_rfl) rfl rfl rfl rfl rfl rfl rfl rfl rfl rfl g0 g1 g2 g3 (v8) (Yi 11 l c u5 zexL 0 0 0 0 ⟨#[]⟩ 0 zexL zexL u8 (.slice none 0 0)) ([.slice none 0 0,.int .i64 0,.int .i64 0,.int .i64 0,.int .i64 0,.int .i64 0]) (Vy) (T10.out.get 0 rfl) (T10.out.get 1 rfl) (T10.out.get 2 rfl) (T10.out.get 3 rfl) h8.len (D10.out.len.trans (AH.dsr_len _ _ _ _ _)) h8.one D10.out.one (T10.out.ne 0 2 (by decide) rfl rfl) (T10.out.ne 0 3 (by decide) rfl rfl) (T10.out.ne 1 2 (by decide) rfl rfl) (T10.out.ne 1 3 (by decide) rfl rfl) (T10.out.ne 2 3 (by decide) rfl rfl) Zl (Ze h8.len) Xu (Yv (D10.out.len.trans (AH.dsr_len _ _ _ _ _))) rfl rfl rfl rfl rfl rfl ?_;intro wz hR;have HZ:=Hh hR;clear hR;go_wp2
  obtain⟨dz,bz⟩:=T10.out.ret2 2 3 rfl rfl HZ.out;refine Yo 4 66 5 58 66 58 _ _ _ _ rfl HZ.out.one HZ.out.two Zl (Ze h8.len) Xu (Yv (D10.out.len.trans (AH.dsr_len _ _ _ _ _))) rfl rfl rfl ?_;exact⟨_,_,rfl,h8,(Xj _ _ _ _ _ _ _ _ _ (dz _ (List.mem_of_getElem? (i:=0) rfl)) (Zw _ _) (Zw _ _) (Zw _ _) (dz _ (List.mem_of_getElem? (i:=1) rfl)) (Yj _ _)),bz⟩
theorem qif(w:World)(r K:Nat)(L:List TokV)(st:St)(vs:List Value)(l c:Int)(n:Nat)(ih:Zgc n)(ho:Zt w r K L)(hp:RPv r K L st vs)(hn:8*Zu L st+9≤n)(hLn:Zu L st≤68719476736)(hb:¬ isS L Jm (Yp 3 L n (Yd 3 L n (Zm L wOp (Yd 3 L n st).2)).2).2=true) :
  Calls Tryz.prog 83 #[.agg vs.toArray,.agg (Zbi 10 l c).toArray] w (PTo w r K L (Yp 3 L n (Yd 3 L n (Zm L wOp (Yd 3 L n st).2)).2).2 ((⟨10,l,c,zSe,zEx,0,0,0,0,⟨#[]⟩,(Zh L wOp (Yd 3 L n st).2:Int),(Yd 3 L n st).1,(Yd 3 L n (Zm L wOp (Yd 3 L n st).2)).1⟩:AH).dsr (Yp 3 L n (Yd 3 L n (Zm L wOp (Yd 3 L n st).2)).2).1.len (Yp 3 L n (Yd 3 L n (Zm L wOp (Yd 3 L n st).2)).2).1.ds 0 .nil)):=by
  have T0:=Hh (Env.start w);unfold Zbi;have hx1:∀(x:World)(us:List Value),Zt x r K L→RPv r K L (st) us→Calls Tryz.prog 110 #[.agg us.toArray] x (PTo x r K L (Yd 3 L n st).2 (Yd 3 L n st).1.ds):=fun x us h1 h2=>Zix x r K L _ us n h1 h2 (by omega) (by omega)
  have hr1:=Zaz L 3 n st;generalize Yd 3 L n st=xl at *;have hop:∀(x:World)(us:List Value),Zt x r K L→RPv r K L (xl.2) us→Calls Tryz.prog 111 #[.agg us.toArray] x (PVo x r K L (Zm L wOp xl.2) (.int .i64 (Zh L wOp xl.2:Int))):=fun x us h1 h2=>qop x r K L _ us h1 h2
  have hr2:=Xo L wOp xl.2;generalize(Zh L wOp xl.2:Int)=op at *;generalize Zm L wOp xl.2=s2 at *;have hx2:∀(x:World)(us:List Value),Zt x r K L→RPv r K L (s2) us→Calls Tryz.prog 110 #[.agg us.toArray] x (PTo x r K L (Yd 3 L n s2).2 (Yd 3 L n s2).1.ds):=fun x us h1 h2=>Zix x r K L _ us n h1 h2 (by omega) (by omega)
  have hr3:=Zaz L 3 n s2;generalize Yd 3 L n s2=xr at *;have hbl:∀(x:World)(us:List Value),Zt x r K L→RPv r K L (xr.2) us→Calls Tryz.prog 112 #[.agg us.toArray] x (PRo x r K L (Yp 3 L n (xr.2)).2 (Yp 3 L n (xr.2)).1.len (Yp 3 L n (xr.2)).1.ds):=fun x us h1 h2=>ih x r K L _ us h1 h2 (by omega) (by omega)
  have hrhbl:=Zeh L 3 n (xr.2);generalize Yp 3 L n (xr.2)=xb at *;have hmy:∀(x:World)(us:List Value),Zt x r K L→RPv r K L (xb.2) us→Calls Tryz.prog 20 #[.agg us.toArray,.slice (some ⟨x.heap.size,0,none⟩) 1 1] (x.alloc (.cells #[.string ⟨#[101,108,115,101]⟩] 9)) (PVo x r K L xb.2 (.int .i64 0)):=fun x us h1 h2=>by have h:=Zkj x r K _ L _ us [Jm] 1 1 _ rfl rfl h1 h2 rfl (by decide);rw[(Zmz L Jm xb.2).1,(Zmz L Jm xb.2).2]at h;rw[if_neg hb,if_neg hb]at h;exact h
  clear hn hLn hb;go_enter Tryz.func83,Tryz.ntmps83;go_wp2_with(first
 |((with_reducible refine Zd 2 ?_);refine Zo T0.out 66 _ (vs) rfl rfl rfl ?_;intro w1 g0 t1
   have T1:=Hh (t1);clear t1)
 |((with_reducible refine Zd 3 ?_);refine Zo T1.out 58 _ (Yi 10 l c zseL zexL 0 0 0 0 ⟨#[]⟩ 0 zexL zexL (.slice none 0 0) (.slice none 0 0)) rfl rfl rfl ?_;intro w2 g1 t2
   have T2:=Hh (t2);clear t2)
 |((with_reducible refine Zd 4 ?_);refine Zc T2.out 66 _ rfl rfl z_P ?_;intro w3 g2 t3
   have T3:=Hh (t3);clear t3)
 |((with_reducible refine Zd 5 ?_);refine Zc T3.out 58 _ rfl rfl Zcu ?_;intro w4 g3 t4
   have T4:=Hh (t4);have hk0:=T4.out.cell 1 0 rfl rfl;clear t4)
 |((with_reducible refine Zd 136 ?_);refine Zb 66 _ 66 g0 _ (T4.out.get 0 rfl) Zl (Ze hp.len) rfl rfl rfl ?_)
 |(go_at_call 110;(with_reducible refine(hx1 _ vs (ho.below T4.out.below) hp).mono ?_);rintro e w5 ⟨v5,u5,rfl,h5,d5,b5⟩
   have ll:=d5.len12;have ol:=Hh d5.one;have T5:=Hh (T4.out.tree b5 d5);clear b5)
 |((with_reducible refine Zg 2 138 ?_);refine Za 66 _ _ 66 g0 _ (v5) (T5.out.get 0 rfl) (h5.len.trans hp.len.symm) (Ze h5.len) h5.one rfl rfl rfl rfl rfl ?_
   intro w6 p6;have T6:=Hh (T5.out.put 0 rfl p6);clear p6)
 |((with_reducible refine Zg 141 139 ?_);refine put_acl 54 _ _ 58 g1 (T6.out.get 1 rfl) rfl rfl rfl ll Yg ol.out rfl rfl rfl rfl rfl ?_
   intro w7 p7;have T7:=Hh (T6.out.put 1 rfl p7);clear p7)
 |((with_reducible refine Zd 143 ?_);refine Zb 66 _ 66 g0 _ (T7.out.get 0 rfl) Zl (Ze h5.len) rfl rfl rfl ?_)
 |(go_at_call 111;refine(hop _ v5 (ho.below T7.out.below) h5).mono ?_;rintro e w8 ⟨v8,rfl,h8,b8⟩
   have T8:=Hh (T7.out.call b8);clear b8)
 |((with_reducible refine Zg 2 145 ?_);refine Za 66 _ _ 66 g0 _ (v8) (T8.out.get 0 rfl) (h8.len.trans h5.len.symm) (Ze h8.len) h8.one rfl rfl rfl rfl rfl ?_
   intro w9 p9;have T9:=Hh (T8.out.put 0 rfl p9);clear p9)
 |((with_reducible refine Zg 148 146 ?_);refine put_acop 3 _ _ 58 g1 (T9.out.get 1 rfl) rfl rfl Yb rfl rfl rfl rfl rfl rfl ?_
   intro w10 p10;have T10:=Hh (T9.out.put 1 rfl p10);clear p10)
 |((with_reducible refine Zd 150 ?_);refine Zb 66 _ 66 g0 _ (T10.out.get 0 rfl) Zl (Ze h8.len) rfl rfl rfl ?_)
 |(go_at_call 110;(with_reducible refine(hx2 _ v8 (ho.below T10.out.below) h8).mono ?_);rintro e w11 ⟨v11,u11,rfl,h11,d11,b11⟩
   have lr:=d11.len12;have or_:=Hh d11.one;have T11:=Hh (T10.out.tree b11 d11);clear b11)
 |((with_reducible refine Zg 2 152 ?_);refine Za 66 _ _ 66 g0 _ (v11) (T11.out.get 0 rfl) (h11.len.trans h8.len.symm) (Ze h11.len) h11.one rfl rfl rfl rfl rfl ?_
   intro w12 p12;have T12:=Hh (T11.out.put 0 rfl p12);clear p12)
 |((with_reducible refine Zg 155 153 ?_);refine put_acr 54 _ _ 58 g1 (T12.out.get 1 rfl) rfl rfl ll rfl lr Yg or_.out rfl rfl rfl rfl rfl ?_
   intro w13 p13;have T13:=Hh (T12.out.put 1 rfl p13);clear p13)
 |((with_reducible refine Zd 157 ?_);refine Zb 66 _ 66 g0 _ (T13.out.get 0 rfl) Zl (Ze h11.len) rfl rfl rfl ?_)
 |(go_at_call 112;(with_reducible refine(hbl _ v11 (ho.below T13.out.below) h11).mono ?_);rintro e w14 ⟨v14,u14,rfl,h14,d14,b14⟩
   have o14:=Hh d14.one;have T14:=Hh (T13.out.tree b14 d14);clear b14)
 |((with_reducible refine Zg 2 159 ?_);refine Za 66 _ _ 66 g0 _ (v14) (T14.out.get 0 rfl) (h14.len.trans h11.len.symm) (Ze h14.len) h14.one rfl rfl rfl rfl rfl ?_
   intro w15 p15;have T15:=Hh (T14.out.put 0 rfl p15);clear p15)
 |((with_reducible refine Zg 161 160 ?_);refine put_thn 44 _ _ 58 g1 (T15.out.get 1 rfl) rfl rfl ll lr Zeg (o14.out _ (List.mem_singleton.2 rfl)) rfl rfl rfl rfl rfl ?_
   intro w16 p16;have T16:=Hh (T15.out.put 1 rfl p16);clear p16)
 |((with_reducible refine Zd 165 ?_);refine Zb 66 _ 66 g0 _ (T16.out.get 0 rfl) Zl (Ze h14.len) rfl rfl rfl ?_)
 |(go_at_call 20;refine(hmy _ v14 (ho.below T16.out.below) h14).mono ?_;rintro e w17 ⟨v17,rfl,h17,b17⟩
   have T17:=Hh (T16.out.call b17);clear b17)
 |((with_reducible refine Zd 7 ?_);refine Zc T17.out 66 _ rfl rfl z_P ?_;intro w18 g4 t18
   have T18:=Hh (t18);clear t18)
 |((with_reducible refine Zg 7 168 ?_);refine Za 66 _ _ 66 g4 _ (v17) (T18.out.get 4 rfl) h17.len (Ze h17.len) h17.one rfl rfl rfl rfl rfl ?_
   intro w19 p19;have T19:=Hh (T18.out.put 4 rfl p19);clear p19)
 |((with_reducible refine Zd 170 ?_);refine Zb 66 _ 66 g4 _ (T19.out.get 4 rfl) Zl (Ze h17.len) rfl rfl rfl ?_)
 |((with_reducible refine Zg 2 170 ?_);refine Za 66 _ _ 66 g0 _ (v17) (T19.out.get 0 rfl) (h17.len.trans h14.len.symm) (Ze h17.len) h17.one rfl rfl rfl rfl rfl ?_
   intro w20 p20;have T20:Hid (Env w [(g0,66,v17),(g1,58,Yi 10 l c zseL zexL 0 0 0 0 ⟨#[]⟩ op u5 u11 u14 (.slice none 0 0)),(g2,66,[.slice none 0 0,.int .i64 0,.int .i64 0,.int .i64 0,.int .i64 0,.int .i64 0]),(g3,58,Vy),(g4,66,v17)] [] [(xl.1.ds,u5),(xr.1.ds,u11),(.row xb.1.len xb.1.ds .nil,[u14])] w20):=Hh (T19.out.put 0 rfl p20);clear p20))
  have D20:=Hh (show Zn (fun k=>w.heap.size≤k) w20 (((⟨10,l,c,zSe,zEx,0,0,0,0,⟨#[]⟩,op,xl.1,xr.1⟩:AH)).dsr (xb.1.len) (xb.1.ds) (0) (.nil)) (Yi 10 l c zseL zexL 0 0 0 0 ⟨#[]⟩ op u5 u11 u14 (.slice none 0 0))from(Xj _ _ _ _ _ _ _ _ _ (Uh _ _) (Zw _ _) (T20.out.leaf 0 rfl) (T20.out.leaf 1 rfl) (T20.out.leaf 2 rfl) (Yj _ _)));refine ret2 mixed (by kernel_rfl) (by kernel_rfl) (by kernel_rfl) (by kernel_rfl) (by kernel_rfl) (by kernel_rfl) (by kernel_rfl) (by kernel_rfl) rfl rfl rfl rfl rfl rfl rfl rfl rfl rfl g0 g1 g2 g3 (v17) (Yi 10 l c zseL zexL 0 0 0 0 ⟨#[]⟩ op u5 u11 u14 (.slice none 0 0)) ([.slice none 0 0,.int .i64 0,.int .i64 0,.int .i64 0,.int .i64 0,.int .i64 0]) (Vy) (T20.out.get 0 rfl) (T20.out.get 1 rfl) (T20.out.get 2 rfl) (T20.out.get 3 rfl) h17.len (D20.out.len.trans (AH.dsr_len _ _ _ _ _)) h17.one D20.out.one (T20.out.ne 0 2 (by decide) rfl rfl) (T20.out.ne 0 3 (by decide) rfl rfl) (T20.out.ne 1 2 (by decide) rfl rfl) (T20.out.ne 1 3 (by decide) rfl rfl) (T20.out.ne 2 3 (by decide) rfl rfl) Zl (Ze h17.len) Xu (Yv (D20.out.len.trans (AH.dsr_len _ _ _ _ _))) rfl rfl rfl rfl rfl rfl ?_;intro wz hR;have HZ:=Hh hR;clear hR;go_wp2
  obtain⟨dz,bz⟩:=T20.out.ret2 2 3 rfl rfl HZ.out;refine Yo 4 66 5 58 66 58 _ _ _ _ rfl HZ.out.one HZ.out.two Zl (Ze h17.len) Xu (Yv (D20.out.len.trans (AH.dsr_len _ _ _ _ _))) rfl rfl rfl ?_;exact⟨_,_,rfl,h17,(Xj _ _ _ _ _ _ _ _ _ (Uh _ _) (Zw _ _) (dz _ (List.mem_of_getElem? (i:=0) rfl)) (dz _ (List.mem_of_getElem? (i:=1) rfl)) (dz _ (List.mem_of_getElem? (i:=2) rfl)) (Yj _ _)),bz⟩
theorem qif_else(w:World)(r K:Nat)(L:List TokV)(st:St)(vs:List Value)(l c:Int)(n:Nat)(ih:Zgc n)(ho:Zt w r K L)(hp:RPv r K L st vs)(hn:8*Zu L st+9≤n)(hLn:Zu L st≤68719476736)(hb:isS L Jm (Yp 3 L n (Yd 3 L n (Zm L wOp (Yd 3 L n st).2)).2).2=true) :
  Calls Tryz.prog 83 #[.agg vs.toArray,.agg (Zbi 10 l c).toArray] w (PTo w r K L (Yp 3 L n (Xw L Jm (Yp 3 L n (Yd 3 L n (Zm L wOp (Yd 3 L n st).2)).2).2)).2 ((⟨10,l,c,zSe,zEx,0,0,0,0,⟨#[]⟩,(Zh L wOp (Yd 3 L n st).2:Int),(Yd 3 L n st).1,(Yd 3 L n (Zm L wOp (Yd 3 L n st).2)).1⟩:AH).dsr (Yp 3 L n (Yd 3 L n (Zm L wOp (Yd 3 L n st).2)).2).1.len (Yp 3 L n (Yd 3 L n (Zm L wOp (Yd 3 L n st).2)).2).1.ds (Yp 3 L n (Xw L Jm (Yp 3 L n (Yd 3 L n (Zm L wOp (Yd 3 L n st).2)).2).2)).1.len (Yp 3 L n (Xw L Jm (Yp 3 L n (Yd 3 L n (Zm L wOp (Yd 3 L n st).2)).2).2)).1.ds)):=by
  have T0:=Hh (Env.start w);unfold Zbi;have hx1:∀(x:World)(us:List Value),Zt x r K L→RPv r K L (st) us→Calls Tryz.prog 110 #[.agg us.toArray] x (PTo x r K L (Yd 3 L n st).2 (Yd 3 L n st).1.ds):=fun x us h1 h2=>Zix x r K L _ us n h1 h2 (by omega) (by omega)
  have hr1:=Zaz L 3 n st;generalize Yd 3 L n st=xl at *;have hop:∀(x:World)(us:List Value),Zt x r K L→RPv r K L (xl.2) us→Calls Tryz.prog 111 #[.agg us.toArray] x (PVo x r K L (Zm L wOp xl.2) (.int .i64 (Zh L wOp xl.2:Int))):=fun x us h1 h2=>qop x r K L _ us h1 h2
  have hr2:=Xo L wOp xl.2;generalize(Zh L wOp xl.2:Int)=op at *;generalize Zm L wOp xl.2=s2 at *;have hx2:∀(x:World)(us:List Value),Zt x r K L→RPv r K L (s2) us→Calls Tryz.prog 110 #[.agg us.toArray] x (PTo x r K L (Yd 3 L n s2).2 (Yd 3 L n s2).1.ds):=fun x us h1 h2=>Zix x r K L _ us n h1 h2 (by omega) (by omega)
  have hr3:=Zaz L 3 n s2;generalize Yd 3 L n s2=xr at *;have hbl:∀(x:World)(us:List Value),Zt x r K L→RPv r K L (xr.2) us→Calls Tryz.prog 112 #[.agg us.toArray] x (PRo x r K L (Yp 3 L n (xr.2)).2 (Yp 3 L n (xr.2)).1.len (Yp 3 L n (xr.2)).1.ds):=fun x us h1 h2=>ih x r K L _ us h1 h2 (by omega) (by omega)
  have hrhbl:=Zeh L 3 n (xr.2);generalize Yp 3 L n (xr.2)=xb at *;have hmy:∀(x:World)(us:List Value),Zt x r K L→RPv r K L (xb.2) us→Calls Tryz.prog 20 #[.agg us.toArray,.slice (some ⟨x.heap.size,0,none⟩) 1 1] (x.alloc (.cells #[.string ⟨#[101,108,115,101]⟩] 9)) (PVo x r K L (Xw L Jm xb.2) (.int .i64 1)):=fun x us h1 h2=>by have h:=Zkj x r K _ L _ us [Jm] 1 1 _ rfl rfl h1 h2 rfl (by decide);rw[(Zmz L Jm xb.2).1,(Zmz L Jm xb.2).2]at h;rw[if_pos hb,if_pos hb]at h;exact h
  have hrt:=Zkd L Jm xb.2;generalize Xw L Jm xb.2=s6 at *;have hbm:∀(x:World)(us:List Value),Zt x r K L→RPv r K L (s6) us→Calls Tryz.prog 112 #[.agg us.toArray] x (PRo x r K L (Yp 3 L n (s6)).2 (Yp 3 L n (s6)).1.len (Yp 3 L n (s6)).1.ds):=fun x us h1 h2=>ih x r K L _ us h1 h2 (by omega) (by omega)
  have hrhbm:=Zeh L 3 n (s6);generalize Yp 3 L n (s6)=xc at *;clear hn hLn hb;go_enter Tryz.func83,Tryz.ntmps83;go_wp2_with(first
 |((with_reducible refine Zd 2 ?_);refine Zo T0.out 66 _ (vs) rfl rfl rfl ?_;intro w1 g0 t1
   have T1:=Hh (t1);clear t1)
 |((with_reducible refine Zd 3 ?_);refine Zo T1.out 58 _ (Yi 10 l c zseL zexL 0 0 0 0 ⟨#[]⟩ 0 zexL zexL (.slice none 0 0) (.slice none 0 0)) rfl rfl rfl ?_;intro w2 g1 t2
   have T2:=Hh (t2);clear t2)
 |((with_reducible refine Zd 4 ?_);refine Zc T2.out 66 _ rfl rfl z_P ?_;intro w3 g2 t3
   have T3:=Hh (t3);clear t3)
 |((with_reducible refine Zd 5 ?_);refine Zc T3.out 58 _ rfl rfl Zcu ?_;intro w4 g3 t4
   have T4:=Hh (t4);have hk0:=T4.out.cell 1 0 rfl rfl;clear t4)
 |((with_reducible refine Zd 136 ?_);refine Zb 66 _ 66 g0 _ (T4.out.get 0 rfl) Zl (Ze hp.len) rfl rfl rfl ?_)
 |(go_at_call 110;(with_reducible refine(hx1 _ vs (ho.below T4.out.below) hp).mono ?_);rintro e w5 ⟨v5,u5,rfl,h5,d5,b5⟩
   have ll:=d5.len12;have ol:=Hh d5.one;have T5:=Hh (T4.out.tree b5 d5);clear b5)
 |((with_reducible refine Zg 2 138 ?_);refine Za 66 _ _ 66 g0 _ (v5) (T5.out.get 0 rfl) (h5.len.trans hp.len.symm) (Ze h5.len) h5.one rfl rfl rfl rfl rfl ?_
   intro w6 p6;have T6:=Hh (T5.out.put 0 rfl p6);clear p6)
 |((with_reducible refine Zg 141 139 ?_);refine put_acl 54 _ _ 58 g1 (T6.out.get 1 rfl) rfl rfl rfl ll Yg ol.out rfl rfl rfl rfl rfl ?_
   intro w7 p7;have T7:=Hh (T6.out.put 1 rfl p7);clear p7)
 |((with_reducible refine Zd 143 ?_);refine Zb 66 _ 66 g0 _ (T7.out.get 0 rfl) Zl (Ze h5.len) rfl rfl rfl ?_)
 |(go_at_call 111;refine(hop _ v5 (ho.below T7.out.below) h5).mono ?_;rintro e w8 ⟨v8,rfl,h8,b8⟩
   have T8:=Hh (T7.out.call b8);clear b8)
 |((with_reducible refine Zg 2 145 ?_);refine Za 66 _ _ 66 g0 _ (v8) (T8.out.get 0 rfl) (h8.len.trans h5.len.symm) (Ze h8.len) h8.one rfl rfl rfl rfl rfl ?_
   intro w9 p9;have T9:=Hh (T8.out.put 0 rfl p9);clear p9)
 |((with_reducible refine Zg 148 146 ?_);refine put_acop 3 _ _ 58 g1 (T9.out.get 1 rfl) rfl rfl Yb rfl rfl rfl rfl rfl rfl ?_
   intro w10 p10;have T10:=Hh (T9.out.put 1 rfl p10);clear p10)
 |((with_reducible refine Zd 150 ?_);refine Zb 66 _ 66 g0 _ (T10.out.get 0 rfl) Zl (Ze h8.len) rfl rfl rfl ?_)
 |(go_at_call 110;(with_reducible refine(hx2 _ v8 (ho.below T10.out.below) h8).mono ?_);rintro e w11 ⟨v11,u11,rfl,h11,d11,b11⟩
   have lr:=d11.len12;have or_:=Hh d11.one;have T11:=Hh (T10.out.tree b11 d11);clear b11)
 |((with_reducible refine Zg 2 152 ?_);refine Za 66 _ _ 66 g0 _ (v11) (T11.out.get 0 rfl) (h11.len.trans h8.len.symm) (Ze h11.len) h11.one rfl rfl rfl rfl rfl ?_
   intro w12 p12;have T12:=Hh (T11.out.put 0 rfl p12);clear p12)
 |((with_reducible refine Zg 155 153 ?_);refine put_acr 54 _ _ 58 g1 (T12.out.get 1 rfl) rfl rfl ll rfl lr Yg or_.out rfl rfl rfl rfl rfl ?_
   intro w13 p13;have T13:=Hh (T12.out.put 1 rfl p13);clear p13)
 |((with_reducible refine Zd 157 ?_);refine Zb 66 _ 66 g0 _ (T13.out.get 0 rfl) Zl (Ze h11.len) rfl rfl rfl ?_)
 |(go_at_call 112;(with_reducible refine(hbl _ v11 (ho.below T13.out.below) h11).mono ?_);rintro e w14 ⟨v14,u14,rfl,h14,d14,b14⟩
   have o14:=Hh d14.one;have T14:=Hh (T13.out.tree b14 d14);clear b14)
 |((with_reducible refine Zg 2 159 ?_);refine Za 66 _ _ 66 g0 _ (v14) (T14.out.get 0 rfl) (h14.len.trans h11.len.symm) (Ze h14.len) h14.one rfl rfl rfl rfl rfl ?_
   intro w15 p15;have T15:=Hh (T14.out.put 0 rfl p15);clear p15)
 |((with_reducible refine Zg 161 160 ?_);refine put_thn 44 _ _ 58 g1 (T15.out.get 1 rfl) rfl rfl ll lr Zeg (o14.out _ (List.mem_singleton.2 rfl)) rfl rfl rfl rfl rfl ?_
   intro w16 p16;have T16:=Hh (T15.out.put 1 rfl p16);clear p16)
 |((with_reducible refine Zd 165 ?_);refine Zb 66 _ 66 g0 _ (T16.out.get 0 rfl) Zl (Ze h14.len) rfl rfl rfl ?_)
 |(go_at_call 20;refine(hmy _ v14 (ho.below T16.out.below) h14).mono ?_;rintro e w17 ⟨v17,rfl,h17,b17⟩
   have T17:=Hh (T16.out.call b17);clear b17)
 |((with_reducible refine Zd 7 ?_);refine Zc T17.out 66 _ rfl rfl z_P ?_;intro w18 g4 t18
   have T18:=Hh (t18);clear t18)
 |((with_reducible refine Zg 7 168 ?_);refine Za 66 _ _ 66 g4 _ (v17) (T18.out.get 4 rfl) h17.len (Ze h17.len) h17.one rfl rfl rfl rfl rfl ?_
   intro w19 p19;have T19:=Hh (T18.out.put 4 rfl p19);clear p19)
 |((with_reducible refine Zd 170 ?_);refine Zb 66 _ 66 g4 _ (T19.out.get 4 rfl) Zl (Ze h17.len) rfl rfl rfl ?_)
 |((with_reducible refine Zg 2 170 ?_);refine Za 66 _ _ 66 g0 _ (v17) (T19.out.get 0 rfl) (h17.len.trans h14.len.symm) (Ze h17.len) h17.one rfl rfl rfl rfl rfl ?_
   intro w20 p20;have T20:=Hh (T19.out.put 0 rfl p20);clear p20)
 |((with_reducible refine Zd 174 ?_);refine Zb 66 _ 66 g0 _ (T20.out.get 0 rfl) Zl (Ze h17.len) rfl rfl rfl ?_)
 |(go_at_call 112;(with_reducible refine(hbm _ v17 (ho.below T20.out.below) h17).mono ?_);rintro e w21 ⟨v21,u21,rfl,h21,d21,b21⟩
   have o21:=Hh d21.one;have T21:=Hh (T20.out.tree b21 d21);clear b21)
 |((with_reducible refine Zg 2 176 ?_);refine Za 66 _ _ 66 g0 _ (v21) (T21.out.get 0 rfl) (h21.len.trans h17.len.symm) (Ze h21.len) h21.one rfl rfl rfl rfl rfl ?_
   intro w22 p22;have T22:=Hh (T21.out.put 0 rfl p22);clear p22)
 |((with_reducible refine Zg 178 177 ?_);refine put_els 44 _ _ 58 g1 (T22.out.get 1 rfl) rfl rfl ll lr Zeg (o21.out _ (List.mem_singleton.2 rfl)) rfl rfl rfl rfl rfl ?_
   intro w23 p23;have T23:Hid (Env w [(g0,66,v21),(g1,58,Yi 10 l c zseL zexL 0 0 0 0 ⟨#[]⟩ op u5 u11 u14 u21),(g2,66,[.slice none 0 0,.int .i64 0,.int .i64 0,.int .i64 0,.int .i64 0,.int .i64 0]),(g3,58,Vy),(g4,66,v17)] [] [(xl.1.ds,u5),(xr.1.ds,u11),(.row xb.1.len xb.1.ds .nil,[u14]),(.row xc.1.len xc.1.ds .nil,[u21])] w23):=Hh (T22.out.put 1 rfl p23);clear p23))
  have D23:=Hh (show Zn (fun k=>w.heap.size≤k) w23 (((⟨10,l,c,zSe,zEx,0,0,0,0,⟨#[]⟩,op,xl.1,xr.1⟩:AH)).dsr (xb.1.len) (xb.1.ds) (xc.1.len) (xc.1.ds)) (Yi 10 l c zseL zexL 0 0 0 0 ⟨#[]⟩ op u5 u11 u14 u21)from(Xj _ _ _ _ _ _ _ _ _ (Uh _ _) (Zw _ _) (T23.out.leaf 0 rfl) (T23.out.leaf 1 rfl) (T23.out.leaf 2 rfl) (T23.out.leaf 3 rfl)));refine ret2 mixed (by kernel_rfl) (by kernel_rfl) (by kernel_rfl) (by kernel_rfl) (by kernel_rfl) (by kernel_rfl) (by kernel_rfl) (by kernel_rfl) rfl rfl rfl rfl rfl rfl rfl rfl rfl rfl g0 g1 g2 g3 (v21) (Yi 10 l c zseL zexL 0 0 0 0 ⟨#[]⟩ op u5 u11 u14 u21) ([.slice none 0 0,.int .i64 0,.int .i64 0,.int .i64 0,.int .i64 0,.int .i64 0]) (Vy) (T23.out.get 0 rfl) (T23.out.get 1 rfl) (T23.out.get 2 rfl) (T23.out.get 3 rfl) h21.len (D23.out.len.trans (AH.dsr_len _ _ _ _ _)) h21.one D23.out.one (T23.out.ne 0 2 (by decide) rfl rfl) (T23.out.ne 0 3 (by decide) rfl rfl) (T23.out.ne 1 2 (by decide) rfl rfl) (T23.out.ne 1 3 (by decide) rfl rfl) (T23.out.ne 2 3 (by decide) rfl rfl) Zl (Ze h21.len) Xu (Yv (D23.out.len.trans (AH.dsr_len _ _ _ _ _))) rfl rfl rfl rfl rfl rfl ?_;intro wz hR;have HZ:=Hh hR;clear hR;go_wp2
  obtain⟨dz,bz⟩:=T23.out.ret2 2 3 rfl rfl HZ.out;refine Yo 4 66 5 58 66 58 _ _ _ _ rfl HZ.out.one HZ.out.two Zl (Ze h21.len) Xu (Yv (D23.out.len.trans (AH.dsr_len _ _ _ _ _))) rfl rfl rfl ?_;exact⟨_,_,rfl,h21,(Xj _ _ _ _ _ _ _ _ _ (Uh _ _) (Zw _ _) (dz _ (List.mem_of_getElem? (i:=0) rfl)) (dz _ (List.mem_of_getElem? (i:=1) rfl)) (dz _ (List.mem_of_getElem? (i:=2) rfl)) (dz _ (List.mem_of_getElem? (i:=3) rfl))),bz⟩
end Go.Proofs.YtdngkgickbaboaaGreat
