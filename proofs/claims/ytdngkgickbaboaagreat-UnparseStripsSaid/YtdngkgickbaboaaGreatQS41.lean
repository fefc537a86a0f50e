/-
  No conditions but those that each theorem names.
-/
import Derived.Test.YtdngkgickbaboaaGreatQS18
set_option maxRecDepth 20000
set_option maxHeartbeats 12800000
namespace Go.Proofs.YtdngkgickbaboaaGreat
open Go.ChangeShapes Go.WideShapes Go.ChangeAt Go.RowKit
set_option linter.unusedVariables false
set_option linter.unusedSimpArgs false
theorem Wb{P:Program}{ops:Array Oper}{rest:List Oper}{o:Oper}{a:Act}{w:World}{Q:Exit→Act→World→Prop}(T:TypeId)(x:Operand)(t:TypeId)(g n:Nat)(pre vs post:List Value)(hW:Zf w g t (pre++vs++post).toArray)(hpn:n=pre.length)
  (hu:(P.underlying T).map TypeDesc.isRow=some true)(hi:(P.info? T).map (·.size)=some vs.length)(hw:Region.wanted o (yielded ops a.tmps)=true)(ho:o.op=.load T x)(hx:a.eval x=.pointer (some ⟨g,n,none⟩))
  (h:wpList P ops Q rest (a.put o.dst (.agg vs.toArray)) w):wpList P ops Q (o::rest) a w:=by
 subst hpn;obtain⟨d,hu,hr⟩:=Option.map_eq_some_iff.1 hu;exact wpList_step fun K hK=>by rw[if_pos hw];exact wp_load_mid T x ho g pre.length hx vs d hW.range hu hr hi (hK _ _ h)
theorem Xb{P:Program}{md:Region.Mode}{ops:Array Oper}{Q:Exit→Act→World→Prop}{S:World→Prop}{i k:Nat}{oi:Oper}{v:Value}{fuel:Nat}{listed:Array Bool}{l:List Value}{d:List Deferred}{w:World}(hi:ops[i]?=some oi)(hd:oi.dst=some k)
  (hs:Region.noSelect ops=true)(hf:Region.free md ops listed i=true)(hr:(Region.ready md ops listed).contains i=true)
  (hQ:∀ c a w,Q (.panic c) (a.put oi.dst v) w→Q (.panic c) a w)(hy:YieldsIf P ops S oi v ⟨l.toArray,d⟩)(hS:S w)
  (h:wpAnyH P md ops Q S fuel (listed.setIfInBounds i true) ⟨(l.set k v).toArray,d⟩ w):wpAnyH P md ops Q S (fuel+1) listed ⟨l.toArray,d⟩ w:=by
 refine wpAnyH_take hi hs hf hr hQ hy hS ?_;rw[hd];simpa[Act.put]using h
def Znl(pl:Bool)(x:Acs):Prop:=∀(y:Acs)(w:World)(N M:Nat→Prop)(v u:Value),Zbc pl x y→Zn N w (.row x.len x.ds .nil) [v]→Zn M w (.row y.len y.ds .nil) [u] →
 Calls Tryz.prog 68 #[v,u,.bool pl] w fun e w'=>e=.returned (.bool true)∧Below w.heap.size w w'
theorem sActs1(pl:Bool)(x:Acs)(ih:∀(k:Nat)(u:AH×Acs×Acs),x.at? k=some u→Znl pl u.2.1∧Znl pl u.2.2):Znl pl x:=by
 intro y w N M v u hs h1 h2;obtain⟨A,c,xs,rfl,hn,hA,hx⟩:=h1.inRow;obtain⟨B,d,ys,rfl,_,hB,hy⟩:=h2.inRow;have hlen:=Zbc.len x y hs;rw[←hlen];have HA:=Hh (And.intro hA hx);have HB:=Hh (And.intro hB hy);have HI:=Hh ih;have HM:=Hh (And.intro hs hlen);clear hA hx hB hy ih hs hlen h1 h2;obtain⟨n,hn0⟩:∃ n,n=x.len:=⟨_,rfl⟩
 rw[←hn0]at hn ⊢;have HN:=Hh hn0;clear hn0;go_enter Tryz.func68,Tryz.ntmps68;go_wp2
 go_loopw [7] (fun i wr=>∃ m:Nat,i=.int .i64 m∧m≤n∧Env w [] [] [] wr) (fun i _=>n - (intOf i).toNat)
 case atStart=>exact⟨0,rfl,by omega,Env.start w⟩
 case round=>
  obtain⟨m,rfl,hm,hE0⟩:=hrel;by_cases hml:m<n
  · obtain⟨u,hu⟩:=x.at_some m (by rw[←HN.out];exact hml)
    obtain⟨u',hu'⟩:=y.at_some m (by rw[←HM.out.2,←HN.out];exact hml);obtain⟨g,av,rfl,hx1,xr,dx⟩:=act_at (HA.out.1.keeps (Zq.of_below (S:=fun _=>False) hE0.below) (fun k _ hn=>⟨id,hn⟩)) (HA.out.2.below hE0.below) hu;obtain⟨g2,bv,rfl,hy1,yr,dy⟩:=act_at (HB.out.1.keeps (Zq.of_below (S:=fun _=>False) hE0.below) (fun k _ hn=>⟨id,hn⟩)) (HB.out.2.below hE0.below) hu';obtain⟨sim,simT,simE⟩:=Zbc.at_ x y HM.out.1 m u u' hu hu';obtain⟨iT,iE⟩:=HI.out m u hu;clear hu hu';obtain⟨⟨x1,x2,x3,x4,x5,x6,x7,x8,x9,x10,x11,x12,x13⟩,t,e⟩:=u;obtain⟨⟨y1,y2,y3,y4,y5,y6,y7,y8,y9,y10,y11,y12,y13⟩,t2,e2⟩:=u';obtain⟨sim,simP⟩:=sim;injection sim with s1 s2 s3 s4 s5 s6 s7 s8 s9 s10 s11 s12 s13;subst s1 s4 s5 s6 s7 s8 s9 s10 s11 s12 s13;clear s2 s3;dsimp only at *;have lxv:av.length=53:=by rw[dx.len,AH.dsr_len]
    have lyv:bv.length=53:=by rw[dy.len,AH.dsr_len]
    have oxv:=dx.one;have oyv:=dy.one;obtain⟨sel,num,cl,cr,thn,els,rfl,k1,k2,k3,k4,k5,k6⟩:=act_of dx;obtain⟨sel2,num2,cl2,cr2,thn2,els2,rfl,j1,j2,j3,j4,j5,j6⟩:=act_of dy;dsimp only at *;have hsel:∀ z,Below wr.heap.size wr z→Calls Tryz.prog 93 #[.agg sel.toArray,.agg sel2.toArray] z fun e w'=>e=.returned (.bool true)∧Below z.heap.size z w':=fun z hb=>sSel x4 z N M _ _ (k1.below hb) (j1.below hb)
    have hnum:∀ z,Below wr.heap.size wr z→Calls Tryz.prog 94 #[.agg num.toArray,.agg num2.toArray] z fun e w'=>e=.returned (.bool true)∧Below z.heap.size z w':=fun z hb=>sExpr x5 z N M _ _ (k2.below hb) (j2.below hb)
    have hcl:∀ z,Below wr.heap.size wr z→Calls Tryz.prog 94 #[.agg cl.toArray,.agg cl2.toArray] z fun e w'=>e=.returned (.bool true)∧Below z.heap.size z w':=fun z hb=>sExpr x12 z N M _ _ (k3.below hb) (j3.below hb)
    have hcr:∀ z,Below wr.heap.size wr z→Calls Tryz.prog 94 #[.agg cr.toArray,.agg cr2.toArray] z fun e w'=>e=.returned (.bool true)∧Below z.heap.size z w':=fun z hb=>sExpr x13 z N M _ _ (k4.below hb) (j4.below hb)
    have hthn:∀ z,Below wr.heap.size wr z→Calls Tryz.prog 68 #[thn,thn2,.bool pl] z fun e w'=>e=.returned (.bool true)∧Below z.heap.size z w':=fun z hb=>iT t2 z N M _ _ simT (k5.below hb) (j5.below hb)
    have hels:∀ z,Below wr.heap.size wr z→Calls Tryz.prog 68 #[els,els2,.bool pl] z fun e w'=>e=.returned (.bool true)∧Below z.heap.size z w':=fun z hb=>iE e2 z N M _ _ simE (k6.below hb) (j6.below hb)
    have HL0:=Hh (show sel.length=6∧num.length=12∧cl.length=12∧cr.length=12 from⟨k1.len.trans (Se.ds_len _),k2.len.trans (Ex.ds_len _),k3.len.trans (Ex.ds_len _),k4.len.trans (Ex.ds_len _)⟩);have HL1:=Hh (show sel2.length=6∧num2.length=12∧cl2.length=12∧cr2.length=12 from⟨j1.len.trans (Se.ds_len _),j2.len.trans (Ex.ds_len _),j3.len.trans (Ex.ds_len _),j4.len.trans (Ex.ds_len _)⟩);have HC0:=Hh (actV_at (k:=x1) (l:=x2) (c:=x3) (sd:=x6) (tk:=x7) (tl:=x8) (how:=x9) (nm:=x10) (cop:=x11) (thn:=thn) (els:=els) HL0.out.1 HL0.out.2.1 HL0.out.2.2.1 HL0.out.2.2.2);have HC1:=Hh (actV_at (k:=x1) (l:=y2) (c:=y3) (sd:=x6) (tk:=x7) (tl:=x8) (how:=x9) (nm:=x10) (cop:=x11) (thn:=thn2) (els:=els2) HL1.out.1 HL1.out.2.1 HL1.out.2.2.1 HL1.out.2.2.2);clear k1 k2 k3 k4 k5 k6 j1 j2 j3 j4 j5 j6 iT iE simT simE dx dy;have lk:(m:Int)<(n:Int):=by omega
    have lk0:(0:Int)≤(m:Int):=by omega
    have hkn:((m:Int)).toNat=m:=by omega
    have hSP:=Hh simP;clear simP;go_wp2_with fail
    refine wp_region_noPanic (wp_region_held_drew (S:=fun y=>Below wr.heap.size wr y) (by kernel_rfl) (Env.start wr).drew.below fun hS=>?_);refine Xb (i:=0) (v:=.slice (some ⟨g,0,none⟩) n c) rfl rfl (by kernel_rfl) (by kernel_rfl) (by kernel_rfl) (fun _ _ _ h=>h) (Uf rfl rfl rfl) hS ?_;simp only[Qy,Qx];refine Xb (i:=1) (v:=.int .i64 (m:Int)) rfl rfl (by kernel_rfl) (by kernel_rfl) (by kernel_rfl) (fun _ _ _ h=>h) (Uf rfl rfl rfl) hS ?_;simp only[Qy,Qx];refine Xb (i:=2) (v:=.pointer (some ⟨g,m*53,none⟩)) rfl rfl (by kernel_rfl) (by kernel_rfl) (by kernel_rfl) (fun _ _ _ h=>h) (Ju rfl rfl rfl rfl hml Zeo Zkb) hS ?_;simp only[Qy,Qx];refine Xb (i:=3) (v:=.agg (Yi x1 x2 x3 sel num x6 x7 x8 x9 x10 x11 cl cr thn els).toArray) rfl rfl (by kernel_rfl) (by kernel_rfl) (by kernel_rfl) (fun _ _ _ h=>h) (Ji rfl rfl rfl (fun y hy=>Vl xr hx1 hy) Xu (Yv lxv)) hS ?_;simp only[Qy,Qx];refine Xb (i:=4) (v:=.slice (some ⟨g2,0,none⟩) n d) rfl rfl (by kernel_rfl) (by kernel_rfl) (by kernel_rfl) (fun _ _ _ h=>h) (Uf rfl rfl rfl) hS ?_;simp only[Qy,Qx];refine Xb (i:=5) (v:=.int .i64 (m:Int)) rfl rfl (by kernel_rfl) (by kernel_rfl) (by kernel_rfl) (fun _ _ _ h=>h) (Uf rfl rfl rfl) hS ?_;simp only[Qy,Qx];refine Xb (i:=6) (v:=.pointer (some ⟨g2,m*53,none⟩)) rfl rfl (by kernel_rfl) (by kernel_rfl) (by kernel_rfl) (fun _ _ _ h=>h) (Ju rfl rfl rfl rfl hml Zeo Zkb) hS ?_;simp only[Qy,Qx];refine Xb (i:=7) (v:=.agg (Yi x1 y2 y3 sel2 num2 x6 x7 x8 x9 x10 x11 cl2 cr2 thn2 els2).toArray) rfl rfl (by kernel_rfl) (by kernel_rfl) (by kernel_rfl) (fun _ _ _ h=>h) (Ji rfl rfl rfl (fun y hy=>Vl yr hy1 hy) Xu (Yv lyv)) hS ?_;simp only[Qy,Qx]
    refine tail4 (x:=wr) (iA:=8) (iB:=9) (iC:=10) (iD:=11) (T:=58) (z:=Vy) (xs:=(Yi x1 x2 x3 sel num x6 x7 x8 x9 x10 x11 cl cr thn els)) (ys:=(Yi x1 y2 y3 sel2 num2 x6 x7 x8 x9 x10 x11 cl2 cr2 thn2 els2)) (a1:=8) (a2:=9) (v1:=24) (v2:=28)
     (by kernel_rfl) (by kernel_rfl) (by kernel_rfl) (by kernel_rfl) (by kernel_rfl) (by kernel_rfl) (by kernel_rfl) (by kernel_rfl) (by kernel_rfl)
     rfl rfl rfl rfl rfl rfl rfl rfl rfl rfl rfl rfl rfl rfl rfl rfl (by decide) Zcu Zkb lxv lyv oxv oyv (fun p q=>⟨rfl,rfl,rfl,rfl⟩) (Env.start wr).drew fun y p q hE=>Zcm (Zkm ?_)
    simp only[Qy,Qx];have T5:Hid (Env wr [(p,58,Yi x1 x2 x3 sel num x6 x7 x8 x9 x10 x11 cl cr thn els),(q,58,Yi x1 y2 y3 sel2 num2 x6 x7 x8 x9 x10 x11 cl2 cr2 thn2 els2)] [] [] y):=Hh hE;have pxa0:=T5.out.cell 0 0 rfl (HC0.out.1);have pxa1:=T5.out.cell 0 1 rfl (HC0.out.2.1);have pxa2:=T5.out.cell 0 2 rfl (HC0.out.2.2.1);have pxa21:=T5.out.cell 0 21 rfl (HC0.out.2.2.2.1);have pxa22:=T5.out.cell 0 22 rfl (HC0.out.2.2.2.2.1);have pxa23:=T5.out.cell 0 23 rfl (HC0.out.2.2.2.2.2.1);have pxa24:=T5.out.cell 0 24 rfl (HC0.out.2.2.2.2.2.2.1);have pxa25:=T5.out.cell 0 25 rfl (HC0.out.2.2.2.2.2.2.2.1);have pxa26:=T5.out.cell 0 26 rfl (HC0.out.2.2.2.2.2.2.2.2.1);have pya0:=T5.out.cell 1 0 rfl (HC1.out.1);have pya1:=T5.out.cell 1 1 rfl (HC1.out.2.1);have pya2:=T5.out.cell 1 2 rfl (HC1.out.2.2.1);have pya21:=T5.out.cell 1 21 rfl (HC1.out.2.2.2.1);have pya22:=T5.out.cell 1 22 rfl (HC1.out.2.2.2.2.1);have pya23:=T5.out.cell 1 23 rfl (HC1.out.2.2.2.2.2.1);have pya24:=T5.out.cell 1 24 rfl (HC1.out.2.2.2.2.2.2.1);have pya25:=T5.out.cell 1 25 rfl (HC1.out.2.2.2.2.2.2.2.1);have pya26:=T5.out.cell 1 26 rfl (HC1.out.2.2.2.2.2.2.2.2.1);have HE0:=Hh hE0;clear hE hE0 hS;have hcmp:(pl=true→x2=y2∧x3=y3):=hSP.out;cases pl
    ·clear hcmp
     go_wp2_with(first
 |((with_reducible refine Zd 88 ?_);refine Wb _ _ 58 p 3 ([.int .i64 x1,.int .i64 x2,.int .i64 x3]) (sel) (num++[.int .i64 x6,.int .i64 x7,.int .i64 x8,.int .i64 x9,.string x10,.int .i64 x11]++cl++cr++[thn,els]) (by have h:=T5.out.get 0 rfl;simpa[Yi]using h) rfl Jn (Zef HL0.out.1) rfl rfl rfl ?_)
 |((with_reducible refine Zd 90 ?_);refine Wb _ _ 58 q 3 ([.int .i64 x1,.int .i64 y2,.int .i64 y3]) (sel2) (num2++[.int .i64 x6,.int .i64 x7,.int .i64 x8,.int .i64 x9,.string x10,.int .i64 x11]++cl2++cr2++[thn2,els2]) (by have h:=T5.out.get 1 rfl;simpa[Yi]using h) rfl Jn (Zef HL1.out.1) rfl rfl rfl ?_)
 |(go_at_call 93;refine(hsel _ T5.out.below).mono ?_;rintro e w6 ⟨rfl,b6⟩
   have T6:Hid (Env wr [(p,58,Yi x1 x2 x3 sel num x6 x7 x8 x9 x10 x11 cl cr thn els),(q,58,Yi x1 y2 y3 sel2 num2 x6 x7 x8 x9 x10 x11 cl2 cr2 thn2 els2)] [] [] w6):=Hh (T5.out.call b6);clear b6)
 |((with_reducible refine Zd 95 ?_);refine Wb _ _ 58 p 9 ([.int .i64 x1,.int .i64 x2,.int .i64 x3]++sel) (num) ([.int .i64 x6,.int .i64 x7,.int .i64 x8,.int .i64 x9,.string x10,.int .i64 x11]++cl++cr++[thn,els]) (by have h:=T6.out.get 0 rfl;simpa[Yi]using h) (by simp[HL0.out.1]) Yr (Yy HL0.out.2.1) rfl rfl rfl ?_)
 |((with_reducible refine Zd 97 ?_);refine Wb _ _ 58 q 9 ([.int .i64 x1,.int .i64 y2,.int .i64 y3]++sel2) (num2) ([.int .i64 x6,.int .i64 x7,.int .i64 x8,.int .i64 x9,.string x10,.int .i64 x11]++cl2++cr2++[thn2,els2]) (by have h:=T6.out.get 1 rfl;simpa[Yi]using h) (by simp[HL1.out.1]) Yr (Yy HL1.out.2.1) rfl rfl rfl ?_)
 |(go_at_call 94;(with_reducible refine(hnum _ T6.out.below).mono ?_);rintro e w7 ⟨rfl,b7⟩
   have T7:Hid (Env wr [(p,58,Yi x1 x2 x3 sel num x6 x7 x8 x9 x10 x11 cl cr thn els),(q,58,Yi x1 y2 y3 sel2 num2 x6 x7 x8 x9 x10 x11 cl2 cr2 thn2 els2)] [] [] w7):=Hh (T6.out.call b7);clear b7)
 |((with_reducible refine Zd 103 ?_);refine Wb _ _ 58 p 27 ([.int .i64 x1,.int .i64 x2,.int .i64 x3]++sel++num++[.int .i64 x6,.int .i64 x7,.int .i64 x8,.int .i64 x9,.string x10,.int .i64 x11]) (cl) (cr++[thn,els]) (by have h:=T7.out.get 0 rfl;simpa[Yi]using h) (by simp[HL0.out.1,HL0.out.2.1]) Yr (Yy HL0.out.2.2.1) rfl rfl rfl ?_)
 |((with_reducible refine Zd 106 ?_);refine Wb _ _ 58 q 27 ([.int .i64 x1,.int .i64 y2,.int .i64 y3]++sel2++num2++[.int .i64 x6,.int .i64 x7,.int .i64 x8,.int .i64 x9,.string x10,.int .i64 x11]) (cl2) (cr2++[thn2,els2]) (by have h:=T7.out.get 1 rfl;simpa[Yi]using h) (by simp[HL1.out.1,HL1.out.2.1]) Yr (Yy HL1.out.2.2.1) rfl rfl rfl ?_)
 |(go_at_call 94;(with_reducible refine(hcl _ T7.out.below).mono ?_);rintro e w8 ⟨rfl,b8⟩
   have T8:Hid (Env wr [(p,58,Yi x1 x2 x3 sel num x6 x7 x8 x9 x10 x11 cl cr thn els),(q,58,Yi x1 y2 y3 sel2 num2 x6 x7 x8 x9 x10 x11 cl2 cr2 thn2 els2)] [] [] w8):=Hh (T7.out.call b8);clear b8)
 |((with_reducible refine Zd 113 ?_);refine Wb _ _ 58 p 39 ([.int .i64 x1,.int .i64 x2,.int .i64 x3]++sel++num++[.int .i64 x6,.int .i64 x7,.int .i64 x8,.int .i64 x9,.string x10,.int .i64 x11]++cl) (cr) ([thn,els]) (by have h:=T8.out.get 0 rfl;simpa[Yi]using h) (by simp[HL0.out.1,HL0.out.2.1,HL0.out.2.2.1]) Yr (Yy HL0.out.2.2.2) rfl rfl rfl ?_)
 |((with_reducible refine Zd 116 ?_);refine Wb _ _ 58 q 39 ([.int .i64 x1,.int .i64 y2,.int .i64 y3]++sel2++num2++[.int .i64 x6,.int .i64 x7,.int .i64 x8,.int .i64 x9,.string x10,.int .i64 x11]++cl2) (cr2) ([thn2,els2]) (by have h:=T8.out.get 1 rfl;simpa[Yi]using h) (by simp[HL1.out.1,HL1.out.2.1,HL1.out.2.2.1]) Yr (Yy HL1.out.2.2.2) rfl rfl rfl ?_)
 |(go_at_call 94;(with_reducible refine(hcr _ T8.out.below).mono ?_);rintro e w9 ⟨rfl,b9⟩
   have T9:Hid (Env wr [(p,58,Yi x1 x2 x3 sel num x6 x7 x8 x9 x10 x11 cl cr thn els),(q,58,Yi x1 y2 y3 sel2 num2 x6 x7 x8 x9 x10 x11 cl2 cr2 thn2 els2)] [] [] w9):=Hh (T8.out.call b9);have pxd51:=T9.out.cell 0 51 rfl (HC0.out.2.2.2.2.2.2.2.2.2.1);have pyd51:=T9.out.cell 1 51 rfl (HC1.out.2.2.2.2.2.2.2.2.2.1);clear b9)
 |(go_at_call 68;(with_reducible refine(hthn _ T9.out.below).mono ?_);rintro e w10 ⟨rfl,b10⟩
   have T10:Hid (Env wr [(p,58,Yi x1 x2 x3 sel num x6 x7 x8 x9 x10 x11 cl cr thn els),(q,58,Yi x1 y2 y3 sel2 num2 x6 x7 x8 x9 x10 x11 cl2 cr2 thn2 els2)] [] [] w10):=Hh (T9.out.call b10);have pxe52:=T10.out.cell 0 52 rfl (HC0.out.2.2.2.2.2.2.2.2.2.2);have pye52:=T10.out.cell 1 52 rfl (HC1.out.2.2.2.2.2.2.2.2.2.2);clear b10)
 |(go_at_call 68;(with_reducible refine(hels _ T10.out.below).mono ?_);rintro e w11 ⟨rfl,b11⟩
   have T11:Hid (Env wr [(p,58,Yi x1 x2 x3 sel num x6 x7 x8 x9 x10 x11 cl cr thn els),(q,58,Yi x1 y2 y3 sel2 num2 x6 x7 x8 x9 x10 x11 cl2 cr2 thn2 els2)] [] [] w11):=Hh (T10.out.call b11)
   clear b11))
     go_roundw
     case rel=>exact⟨m+1,by go_num,by omega,HE0.out.call T11.out.below⟩
     case measure=>simp[intOf];omega
    ·obtain⟨e1,e2⟩:=hcmp rfl
     subst e1 e2;clear hcmp;go_wp2_with(first
 |((with_reducible refine Zd 88 ?_);refine Wb _ _ 58 p 3 ([.int .i64 x1,.int .i64 x2,.int .i64 x3]) (sel) (num++[.int .i64 x6,.int .i64 x7,.int .i64 x8,.int .i64 x9,.string x10,.int .i64 x11]++cl++cr++[thn,els]) (by have h:=T5.out.get 0 rfl;simpa[Yi]using h) rfl Jn (Zef HL0.out.1) rfl rfl rfl ?_)
 |((with_reducible refine Zd 90 ?_);refine Wb _ _ 58 q 3 ([.int .i64 x1,.int .i64 x2,.int .i64 x3]) (sel2) (num2++[.int .i64 x6,.int .i64 x7,.int .i64 x8,.int .i64 x9,.string x10,.int .i64 x11]++cl2++cr2++[thn2,els2]) (by have h:=T5.out.get 1 rfl;simpa[Yi]using h) rfl Jn (Zef HL1.out.1) rfl rfl rfl ?_)
 |(go_at_call 93;refine(hsel _ T5.out.below).mono ?_;rintro e w6 ⟨rfl,b6⟩
   have T6:Hid (Env wr [(p,58,Yi x1 x2 x3 sel num x6 x7 x8 x9 x10 x11 cl cr thn els),(q,58,Yi x1 x2 x3 sel2 num2 x6 x7 x8 x9 x10 x11 cl2 cr2 thn2 els2)] [] [] w6):=Hh (T5.out.call b6);clear b6)
 |((with_reducible refine Zd 95 ?_);refine Wb _ _ 58 p 9 ([.int .i64 x1,.int .i64 x2,.int .i64 x3]++sel) (num) ([.int .i64 x6,.int .i64 x7,.int .i64 x8,.int .i64 x9,.string x10,.int .i64 x11]++cl++cr++[thn,els]) (by have h:=T6.out.get 0 rfl;simpa[Yi]using h) (by simp[HL0.out.1]) Yr (Yy HL0.out.2.1) rfl rfl rfl ?_)
 |((with_reducible refine Zd 97 ?_);refine Wb _ _ 58 q 9 ([.int .i64 x1,.int .i64 x2,.int .i64 x3]++sel2) (num2) ([.int .i64 x6,.int .i64 x7,.int .i64 x8,.int .i64 x9,.string x10,.int .i64 x11]++cl2++cr2++[thn2,els2]) (by have h:=T6.out.get 1 rfl;simpa[Yi]using h) (by simp[HL1.out.1]) Yr (Yy HL1.out.2.1) rfl rfl rfl ?_)
 |(go_at_call 94;(with_reducible refine(hnum _ T6.out.below).mono ?_);rintro e w7 ⟨rfl,b7⟩
   have T7:Hid (Env wr [(p,58,Yi x1 x2 x3 sel num x6 x7 x8 x9 x10 x11 cl cr thn els),(q,58,Yi x1 x2 x3 sel2 num2 x6 x7 x8 x9 x10 x11 cl2 cr2 thn2 els2)] [] [] w7):=Hh (T6.out.call b7);clear b7)
 |((with_reducible refine Zd 103 ?_);refine Wb _ _ 58 p 27 ([.int .i64 x1,.int .i64 x2,.int .i64 x3]++sel++num++[.int .i64 x6,.int .i64 x7,.int .i64 x8,.int .i64 x9,.string x10,.int .i64 x11]) (cl) (cr++[thn,els]) (by have h:=T7.out.get 0 rfl;simpa[Yi]using h) (by simp[HL0.out.1,HL0.out.2.1]) Yr (Yy HL0.out.2.2.1) rfl rfl rfl ?_)
 |((with_reducible refine Zd 106 ?_);refine Wb _ _ 58 q 27 ([.int .i64 x1,.int .i64 x2,.int .i64 x3]++sel2++num2++[.int .i64 x6,.int .i64 x7,.int .i64 x8,.int .i64 x9,.string x10,.int .i64 x11]) (cl2) (cr2++[thn2,els2]) (by have h:=T7.out.get 1 rfl;simpa[Yi]using h) (by simp[HL1.out.1,HL1.out.2.1]) Yr (Yy HL1.out.2.2.1) rfl rfl rfl ?_)
 |(go_at_call 94;(with_reducible refine(hcl _ T7.out.below).mono ?_);rintro e w8 ⟨rfl,b8⟩
   have T8:Hid (Env wr [(p,58,Yi x1 x2 x3 sel num x6 x7 x8 x9 x10 x11 cl cr thn els),(q,58,Yi x1 x2 x3 sel2 num2 x6 x7 x8 x9 x10 x11 cl2 cr2 thn2 els2)] [] [] w8):=Hh (T7.out.call b8);clear b8)
 |((with_reducible refine Zd 113 ?_);refine Wb _ _ 58 p 39 ([.int .i64 x1,.int .i64 x2,.int .i64 x3]++sel++num++[.int .i64 x6,.int .i64 x7,.int .i64 x8,.int .i64 x9,.string x10,.int .i64 x11]++cl) (cr) ([thn,els]) (by have h:=T8.out.get 0 rfl;simpa[Yi]using h) (by simp[HL0.out.1,HL0.out.2.1,HL0.out.2.2.1]) Yr (Yy HL0.out.2.2.2) rfl rfl rfl ?_)
 |((with_reducible refine Zd 116 ?_);refine Wb _ _ 58 q 39 ([.int .i64 x1,.int .i64 x2,.int .i64 x3]++sel2++num2++[.int .i64 x6,.int .i64 x7,.int .i64 x8,.int .i64 x9,.string x10,.int .i64 x11]++cl2) (cr2) ([thn2,els2]) (by have h:=T8.out.get 1 rfl;simpa[Yi]using h) (by simp[HL1.out.1,HL1.out.2.1,HL1.out.2.2.1]) Yr (Yy HL1.out.2.2.2) rfl rfl rfl ?_)
 |(go_at_call 94;(with_reducible refine(hcr _ T8.out.below).mono ?_);rintro e w9 ⟨rfl,b9⟩
   have T9:Hid (Env wr [(p,58,Yi x1 x2 x3 sel num x6 x7 x8 x9 x10 x11 cl cr thn els),(q,58,Yi x1 x2 x3 sel2 num2 x6 x7 x8 x9 x10 x11 cl2 cr2 thn2 els2)] [] [] w9):=Hh (T8.out.call b9);have pxd51:=T9.out.cell 0 51 rfl (HC0.out.2.2.2.2.2.2.2.2.2.1);have pyd51:=T9.out.cell 1 51 rfl (HC1.out.2.2.2.2.2.2.2.2.2.1);clear b9)
 |(go_at_call 68;(with_reducible refine(hthn _ T9.out.below).mono ?_);rintro e w10 ⟨rfl,b10⟩
   have T10:Hid (Env wr [(p,58,Yi x1 x2 x3 sel num x6 x7 x8 x9 x10 x11 cl cr thn els),(q,58,Yi x1 x2 x3 sel2 num2 x6 x7 x8 x9 x10 x11 cl2 cr2 thn2 els2)] [] [] w10):=Hh (T9.out.call b10);have pxe52:=T10.out.cell 0 52 rfl (HC0.out.2.2.2.2.2.2.2.2.2.2);have pye52:=T10.out.cell 1 52 rfl (HC1.out.2.2.2.2.2.2.2.2.2.2);clear b10)
 |(go_at_call 68;(with_reducible refine(hels _ T10.out.below).mono ?_);rintro e w11 ⟨rfl,b11⟩
   have T11:Hid (Env wr [(p,58,Yi x1 x2 x3 sel num x6 x7 x8 x9 x10 x11 cl cr thn els),(q,58,Yi x1 x2 x3 sel2 num2 x6 x7 x8 x9 x10 x11 cl2 cr2 thn2 els2)] [] [] w11):=Hh (T10.out.call b11)
   clear b11))
     go_roundw
     case rel=>exact⟨m+1,by go_num,by omega,HE0.out.call T11.out.below⟩
     case measure=>simp[intOf];omega
  · go_wp2
    go_ret;exact⟨rfl,hE0.below⟩
theorem sActs(pl:Bool):∀(n:Nat)(x:Acs),SizeOf.sizeOf x≤n→Znl pl x:=by
 intro n;induction n with
 |zero=>intro x hx;cases x with
  |nil=>simp at hx
  |cons h t e r=>simp at hx
 |succ n ih=>
  intro x hx;refine sActs1 pl x fun k u hu=>?_
  obtain⟨a,b⟩:=Acs.at_lt x k u hu;exact⟨ih _ (by omega),ih _ (by omega)⟩
end Go.Proofs.YtdngkgickbaboaaGreat
