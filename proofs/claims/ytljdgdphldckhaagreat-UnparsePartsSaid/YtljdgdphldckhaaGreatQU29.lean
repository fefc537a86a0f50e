/-
  No conditions but those that each theorem names.
-/
import Derived.Great.Walk
import Derived.RegionTactic
import Derived.Test.YtljdgdphldckhaaGreatQU28
set_option maxRecDepth 20000
set_option maxHeartbeats 12800000
namespace Go.Proofs.YtljdgdphldckhaaGreat
open Go.ChangeShapes Go.WideShapes Go.ChangeAt Go.RowKit Go.Great
set_option linter.unusedVariables false
set_option linter.unusedSimpArgs false
abbrev kSp:ByteArray:=⟨#[32]⟩
abbrev kIf:ByteArray:=⟨#[105,102]⟩
abbrev kEl:ByteArray:=⟨#[32,101,108,115,101,32]⟩
theorem Zhy{x:World}{g:Nat}{cop:Int}{cl cr:List Value}(h:x.rangeAt g 26 (Zej cop cl cr))(hl:cl.length=12):x.cell? ⟨g,26,none⟩=some (.int .i64 cop)∧x.rangeAt g 27 cl∧x.rangeAt g 39 cr:=by
 refine⟨h 0 _ rfl,fun j v hv=>?_,fun j v hv=>?_⟩
 ·have hj:j<cl.length:=(List.getElem?_eq_some_iff.1 hv).1
  have:=h (1+j) v (by unfold Zej;rw[Nat.add_comm 1 j,List.getElem?_cons_succ,List.getElem?_append_left hj];exact hv);rw[show 27+j=26+(1+j)from by omega];exact this
 ·have:=h (13+j) v (by unfold Zej;rw[show 13+j=(12+j)+1 from by omega,List.getElem?_cons_succ,List.getElem?_append_right (by omega),show 12+j - cl.length=j from by omega];exact hv)
  rw[show 39+j=26+(13+j)from by omega];exact this
theorem rz_act10n(w:World)(ys sv nv cl cr:List Value)(op:Nat)(ho1:1≤op)(ho6:op≤6)(sd how tk tl:Int)(nm:ByteArray)(U V:Option Addr)(un uc vc:Nat)(lcl:cl.length=12)(lcr:cr.length=12)(ha:Zbz ys sv nv (Zej (op:Int) cl cr) 10 sd tk tl how nm (.slice U un uc) (.slice V 0 vc))
  (E1 E2 B:ByteArray)(z1:E1.size≤10000000000)(z2:E2.size≤10000000000)(zB:B.size≤10000000000)(h1:RzC 26 w (.agg cl.toArray) E1)(h2:RzC 26 w (.agg cr.toArray) E2)(hB:RzC 113 w (.slice U un uc) B)  :
  Calls Tryz.prog 72 #[.agg ys.toArray] w fun e w'=>e=.returned (.string (kIf++kSp++E1++kSp++wd wOp (op:Int)++kSp++E2++kSp++B))∧Below w.heap.size w w':=by
 have T:=Hh (Env.start w);have HA:=Hh ha;have HL:=Hh (And.intro lcl lcr);have H1:=Hh h1;have H2:=Hh h2;have HB:=Hh hB;have i1:(0:Int)≤(op:Int):=by omega
 have i2:(op:Int)<7:=by omega
 clear ha lcl lcr h1 h2 hB;go_enter Tryz.func72,Tryz.ntmps72;go_upto_region 4 with(first
 |((with_reducible refine Ze 1 ?_);refine Zk T.out 57 _ ys rfl rfl rfl ?_;intro wn g0 tn;have T:=Hh tn;clear tn;have c0:wn.cell? ⟨g0,0,none⟩=some (.int .i64 10):=(T.out.get 0 rfl).nthQ 0 HA.out.c0)
 |(go_at_call 121;refine(Zaj _).mono ?_;rintro e wn ⟨gw,rfl,hg,bn⟩;have T:=Hh (T.out.call bn);have cg:wn.cell? ⟨gw,10,none⟩=some (.string ⟨#[105,102]⟩):=Wh (L:=Xo) (k:=10) hg (by decide) (by decide);clear bn hg;have c0:wn.cell? ⟨g0,0,none⟩=some (.int .i64 10):=(T.out.get 0 rfl).nthQ 0 HA.out.c0))
 clear c0 cg;refine Xk (fun x=>Env w [(g0,57,ys)] [] [] x) (by kernel_rfl) T.out.drew ?_;have hst:Zdk (fun x=>Env w [(g0,57,ys)] [] [] x):=fun x y h e=>Env.call h e
 refine AB.take (i:=0) (v:=.string kIf) rfl rfl (by kernel_rfl) (by kernel_rfl) (by kernel_rfl) (fun _ _ _ h=>h) hst (Ua rfl rfl rfl) ?_;simp only[Qy,Qx];refine AB.take (i:=1) (v:=.string (kIf++kSp)) rfl rfl (by kernel_rfl) (by kernel_rfl) (by kernel_rfl) (fun _ _ _ h=>h) hst (Yk rfl rfl rfl rfl (by(try simp only[ByteArray.size_append]);have z1:=Yq (L:=wOp) (by decide) (op:Int);have z4:kSp.size=1:=rfl;have z5:kIf.size=2:=rfl;omega)) ?_;simp only[Qy,Qx];refine AB.take (i:=2) (v:=.pointer (some ⟨g0,26,none⟩)) rfl rfl (by kernel_rfl) (by kernel_rfl) (by kernel_rfl) (fun _ _ _ h=>h) hst (Zp rfl (fun y hy=>by go_simp)) ?_;simp only[Qy,Qx];refine AB.take (i:=3) (v:=.pointer (some ⟨g0,27,none⟩)) rfl rfl (by kernel_rfl) (by kernel_rfl) (by kernel_rfl) (fun _ _ _ h=>h) hst (Zp rfl (fun y hy=>by go_simp)) ?_;simp only[Qy,Qx];refine AB.take (i:=4) (v:=.agg cl.toArray) rfl rfl (by kernel_rfl) (by kernel_rfl) (by kernel_rfl) (fun _ _ _ h=>h) hst (YieldsIf.gives (Zdh (k:=27) rfl rfl rfl (fun y hy=>(Zhy (HA.out.rc _ _ _ (Env.get hy 0 rfl)) HL.out.1).2.1) Xg (by rw[HL.out.1];exact Ys))) ?_;simp only[Qy,Qx];refine AB.take (i:=9) (v:=.pointer (some ⟨g0,26,none⟩)) rfl rfl (by kernel_rfl) (by kernel_rfl) (by kernel_rfl) (fun _ _ _ h=>h) hst (Zp rfl (fun y hy=>by go_simp)) ?_;simp only[Qy,Qx];refine AB.take (i:=10) (v:=.pointer (some ⟨g0,26,none⟩)) rfl rfl (by kernel_rfl) (by kernel_rfl) (by kernel_rfl) (fun _ _ _ h=>h) hst (Zp rfl (fun y hy=>by go_simp)) ?_;simp only[Qy,Qx];refine AB.take (i:=11) (v:=.int .i64 (op:Int)) rfl rfl (by kernel_rfl) (by kernel_rfl) (by kernel_rfl) (fun _ _ _ h=>h) hst (Zp rfl (fun y hy=>by have c0:=(Zhy (HA.out.rc _ _ _ (Env.get hy 0 rfl)) HL.out.1).1;go_simp)) ?_;simp only[Qy,Qx];refine AB.take (i:=16) (v:=.pointer (some ⟨g0,26,none⟩)) rfl rfl (by kernel_rfl) (by kernel_rfl) (by kernel_rfl) (fun _ _ _ h=>h) hst (Zp rfl (fun y hy=>by go_simp)) ?_;simp only[Qy,Qx];refine AB.take (i:=17) (v:=.pointer (some ⟨g0,39,none⟩)) rfl rfl (by kernel_rfl) (by kernel_rfl) (by kernel_rfl) (fun _ _ _ h=>h) hst (Zp rfl (fun y hy=>by go_simp)) ?_;simp only[Qy,Qx];refine AB.take (i:=18) (v:=.agg cr.toArray) rfl rfl (by kernel_rfl) (by kernel_rfl) (by kernel_rfl) (fun _ _ _ h=>h) hst (YieldsIf.gives (Zdh (k:=39) rfl rfl rfl (fun y hy=>(Zhy (HA.out.rc _ _ _ (Env.get hy 0 rfl)) HL.out.1).2.2) Xg (by rw[HL.out.2];exact Ys))) ?_;simp only[Qy,Qx];refine AB.take (i:=22) (v:=.pointer (some ⟨g0,51,none⟩)) rfl rfl (by kernel_rfl) (by kernel_rfl) (by kernel_rfl) (fun _ _ _ h=>h) hst (Zp rfl (fun y hy=>by go_simp)) ?_;simp only[Qy,Qx];refine AB.take (i:=23) (v:=.slice U un uc) rfl rfl (by kernel_rfl) (by kernel_rfl) (by kernel_rfl) (fun _ _ _ h=>h) hst (Zp rfl (fun y hy=>by have c0:=Zd.nthQ (Env.get hy 0 rfl) 51 HA.out.c51;go_simp)) ?_;simp only[Qy,Qx];refine AB.take (i:=5) (v:=.string E1) rfl rfl (by kernel_rfl) (by kernel_rfl) (by kernel_rfl) (fun _ _ _ h=>h) hst (Wk.call rfl (fun w=>by kernel_rfl) (fun y hy=>H1.out y (Env.below hy))) ?_;simp only[Qy,Qx];refine AB.take (i:=6) (v:=.string (kIf++kSp++E1)) rfl rfl (by kernel_rfl) (by kernel_rfl) (by kernel_rfl) (fun _ _ _ h=>h) hst (Yk rfl rfl rfl rfl (by(try simp only[ByteArray.size_append]);have z1:=Yq (L:=wOp) (by decide) (op:Int);have z4:kSp.size=1:=rfl;have z5:kIf.size=2:=rfl;omega)) ?_;simp only[Qy,Qx];refine AB.take (i:=7) (v:=.string (kIf++kSp++E1++kSp)) rfl rfl (by kernel_rfl) (by kernel_rfl) (by kernel_rfl) (fun _ _ _ h=>h) hst (Yk rfl rfl rfl rfl (by(try simp only[ByteArray.size_append]);have z1:=Yq (L:=wOp) (by decide) (op:Int);have z4:kSp.size=1:=rfl;have z5:kIf.size=2:=rfl;omega)) ?_;simp only[Qy,Qx];refine AB.one (i:=8) (by kernel_rfl) (Zel.some (val:=fun g=>.slice (some ⟨g,0,none⟩) 7 7) (φ :=fun g x=>Zd x g 9 (wOps.map Value.string).toArray) rfl rfl rfl hst (fun y hy=>by kernel_rfl) (fun y hy=>(rz_ops y).mono fun e w2 ⟨g,he,hg,hb⟩=>⟨g,he,hg,hb⟩) (fun g x y h e=>Zd.below h e (Zd.inside h)) (fun ga=>?_));simp only[Qy,Qx];refine AB.take (i:=12) (v:=.pointer (some ⟨ga,op,none⟩)) rfl rfl (by kernel_rfl) (by kernel_rfl) (by kernel_rfl) (fun _ _ _ h=>h) (hst.and fun x y h e=>Zd.below h e (Zd.inside h)) (Zp rfl (fun y hy=>by go_simp)) ?_;simp only[Qy,Qx];refine AB.take (i:=13) (v:=.string (wd wOp (op:Int))) rfl rfl (by kernel_rfl) (by kernel_rfl) (by kernel_rfl) (fun _ _ _ h=>h) (hst.and fun x y h e=>Zd.below h e (Zd.inside h)) (Zp rfl (fun y hy=>by have c0:=Wh (L:=wOp) (hy.2) ho1 ho6;go_simp)) ?_;simp only[Qy,Qx];refine AB.take (i:=14) (v:=.string (kIf++kSp++E1++kSp++wd wOp (op:Int))) rfl rfl (by kernel_rfl) (by kernel_rfl) (by kernel_rfl) (fun _ _ _ h=>h) (hst.and fun x y h e=>Zd.below h e (Zd.inside h)) (Yk rfl rfl rfl rfl (by(try simp only[ByteArray.size_append]);have z1:=Yq (L:=wOp) (by decide) (op:Int);have z4:kSp.size=1:=rfl;have z5:kIf.size=2:=rfl;omega)) ?_;simp only[Qy,Qx];refine AB.take (i:=15) (v:=.string (kIf++kSp++E1++kSp++wd wOp (op:Int)++kSp)) rfl rfl (by kernel_rfl) (by kernel_rfl) (by kernel_rfl) (fun _ _ _ h=>h) (hst.and fun x y h e=>Zd.below h e (Zd.inside h)) (Yk rfl rfl rfl rfl (by(try simp only[ByteArray.size_append]);have z1:=Yq (L:=wOp) (by decide) (op:Int);have z4:kSp.size=1:=rfl;have z5:kIf.size=2:=rfl;omega)) ?_;simp only[Qy,Qx];refine AB.take (i:=19) (v:=.string E2) rfl rfl (by kernel_rfl) (by kernel_rfl) (by kernel_rfl) (fun _ _ _ h=>h) (hst.and fun x y h e=>Zd.below h e (Zd.inside h)) (Wk.call rfl (fun w=>by kernel_rfl) (fun y hy=>H2.out y (Env.below hy.1))) ?_;simp only[Qy,Qx];refine AB.take (i:=20) (v:=.string (kIf++kSp++E1++kSp++wd wOp (op:Int)++kSp++E2)) rfl rfl (by kernel_rfl) (by kernel_rfl) (by kernel_rfl) (fun _ _ _ h=>h) (hst.and fun x y h e=>Zd.below h e (Zd.inside h)) (Yk rfl rfl rfl rfl (by(try simp only[ByteArray.size_append]);have z1:=Yq (L:=wOp) (by decide) (op:Int);have z4:kSp.size=1:=rfl;have z5:kIf.size=2:=rfl;omega)) ?_;simp only[Qy,Qx];refine AB.take (i:=21) (v:=.string (kIf++kSp++E1++kSp++wd wOp (op:Int)++kSp++E2++kSp)) rfl rfl (by kernel_rfl) (by kernel_rfl) (by kernel_rfl) (fun _ _ _ h=>h) (hst.and fun x y h e=>Zd.below h e (Zd.inside h)) (Yk rfl rfl rfl rfl (by(try simp only[ByteArray.size_append]);have z1:=Yq (L:=wOp) (by decide) (op:Int);have z4:kSp.size=1:=rfl;have z5:kIf.size=2:=rfl;omega)) ?_;simp only[Qy,Qx];refine AB.take (i:=24) (v:=.string B) rfl rfl (by kernel_rfl) (by kernel_rfl) (by kernel_rfl) (fun _ _ _ h=>h) (hst.and fun x y h e=>Zd.below h e (Zd.inside h)) (Wk.call rfl (fun w=>by kernel_rfl) (fun y hy=>HB.out y (Env.below hy.1))) ?_;simp only[Qy,Qx];refine AB.take (i:=25) (v:=.string (kIf++kSp++E1++kSp++wd wOp (op:Int)++kSp++E2++kSp++B)) rfl rfl (by kernel_rfl) (by kernel_rfl) (by kernel_rfl) (fun _ _ _ h=>h) (hst.and fun x y h e=>Zd.below h e (Zd.inside h)) (Yk rfl rfl rfl rfl (by(try simp only[ByteArray.size_append]);have z1:=Yq (L:=wOp) (by decide) (op:Int);have z4:kSp.size=1:=rfl;have z5:kIf.size=2:=rfl;omega)) ?_;simp only[Qy,Qx];refine AB.take (i:=26) (v:=.string (kIf++kSp++E1++kSp++wd wOp (op:Int)++kSp++E2++kSp++B)) rfl rfl (by kernel_rfl) (by kernel_rfl) (by kernel_rfl) (fun _ _ _ h=>h) (hst.and fun x y h e=>Zd.below h e (Zd.inside h)) (Zp rfl (fun y hy=>by go_simp)) ?_;simp only[Qy,Qx];refine AB.done (by kernel_rfl) (fun wn hS=>?_);have T:=Hh hS.1;clear hS;have z9:=Yq (L:=wOp) (by decide) (op:Int);obtain⟨pp,hpp⟩:∃ x,x=(kIf++kSp++E1++kSp++wd wOp (op:Int)++kSp++E2++kSp++B:ByteArray):=⟨_,rfl⟩
 have zP:pp.size≤40000000000:=by { rw[hpp];simp only[ByteArray.size_append];have z4:kSp.size=1:=rfl;have z5:kIf.size=2:=rfl;omega }
 rw[←hpp];have HPP:=Hh hpp;clear hpp;have c52:wn.cell? ⟨g0,52,none⟩=some (.slice V 0 vc):=(T.out.get 0 rfl).nthQ 52 HA.out.c52;go_wp2
 go_ret;exact⟨by rw[HPP.out];rfl,T.out.below⟩
theorem rz_act10e(w:World)(ys sv nv cl cr:List Value)(op:Nat)(ho1:1≤op)(ho6:op≤6)(sd how tk tl:Int)(nm:ByteArray)(U V:Option Addr)(un uc en vc:Nat)(hen:0<en)(lcl:cl.length=12)(lcr:cr.length=12)(ha:Zbz ys sv nv (Zej (op:Int) cl cr) 10 sd tk tl how nm (.slice U un uc) (.slice V en vc))
  (E1 E2 B C:ByteArray)(z1:E1.size≤10000000000)(z2:E2.size≤10000000000)(zB:B.size≤10000000000)(zC:C.size≤10000000000)(h1:RzC 26 w (.agg cl.toArray) E1)(h2:RzC 26 w (.agg cr.toArray) E2)(hB:RzC 113 w (.slice U un uc) B)(hC:RzC 113 w (.slice V en vc) C) :
  Calls Tryz.prog 72 #[.agg ys.toArray] w fun e w'=>e=.returned (.string (kIf++kSp++E1++kSp++wd wOp (op:Int)++kSp++E2++kSp++B++kEl++C))∧Below w.heap.size w w':=by
 have T:=Hh (Env.start w);have HA:=Hh ha;have HL:=Hh (And.intro lcl lcr);have H1:=Hh h1;have H2:=Hh h2;have HB:=Hh hB;have i1:(0:Int)≤(op:Int):=by omega
 have i2:(op:Int)<7:=by omega
 have HC:=Hh hC;have i3:(0:Int)<(en:Int):=by omega
 clear hC;clear ha lcl lcr h1 h2 hB;go_enter Tryz.func72,Tryz.ntmps72;go_upto_region 4 with(first
 |((with_reducible refine Ze 1 ?_);refine Zk T.out 57 _ ys rfl rfl rfl ?_;intro wn g0 tn;have T:=Hh tn;clear tn;have c0:wn.cell? ⟨g0,0,none⟩=some (.int .i64 10):=(T.out.get 0 rfl).nthQ 0 HA.out.c0)
 |(go_at_call 121;refine(Zaj _).mono ?_;rintro e wn ⟨gw,rfl,hg,bn⟩;have T:=Hh (T.out.call bn);have cg:wn.cell? ⟨gw,10,none⟩=some (.string ⟨#[105,102]⟩):=Wh (L:=Xo) (k:=10) hg (by decide) (by decide);clear bn hg;have c0:wn.cell? ⟨g0,0,none⟩=some (.int .i64 10):=(T.out.get 0 rfl).nthQ 0 HA.out.c0))
 clear c0 cg;refine Xk (fun x=>Env w [(g0,57,ys)] [] [] x) (by kernel_rfl) T.out.drew ?_;have hst:Zdk (fun x=>Env w [(g0,57,ys)] [] [] x):=fun x y h e=>Env.call h e
 refine AB.take (i:=0) (v:=.string kIf) rfl rfl (by kernel_rfl) (by kernel_rfl) (by kernel_rfl) (fun _ _ _ h=>h) hst (Ua rfl rfl rfl) ?_;simp only[Qy,Qx];refine AB.take (i:=1) (v:=.string (kIf++kSp)) rfl rfl (by kernel_rfl) (by kernel_rfl) (by kernel_rfl) (fun _ _ _ h=>h) hst (Yk rfl rfl rfl rfl (by(try simp only[ByteArray.size_append]);have z1:=Yq (L:=wOp) (by decide) (op:Int);have z4:kSp.size=1:=rfl;have z5:kIf.size=2:=rfl;omega)) ?_;simp only[Qy,Qx];refine AB.take (i:=2) (v:=.pointer (some ⟨g0,26,none⟩)) rfl rfl (by kernel_rfl) (by kernel_rfl) (by kernel_rfl) (fun _ _ _ h=>h) hst (Zp rfl (fun y hy=>by go_simp)) ?_;simp only[Qy,Qx];refine AB.take (i:=3) (v:=.pointer (some ⟨g0,27,none⟩)) rfl rfl (by kernel_rfl) (by kernel_rfl) (by kernel_rfl) (fun _ _ _ h=>h) hst (Zp rfl (fun y hy=>by go_simp)) ?_;simp only[Qy,Qx];refine AB.take (i:=4) (v:=.agg cl.toArray) rfl rfl (by kernel_rfl) (by kernel_rfl) (by kernel_rfl) (fun _ _ _ h=>h) hst (YieldsIf.gives (Zdh (k:=27) rfl rfl rfl (fun y hy=>(Zhy (HA.out.rc _ _ _ (Env.get hy 0 rfl)) HL.out.1).2.1) Xg (by rw[HL.out.1];exact Ys))) ?_;simp only[Qy,Qx];refine AB.take (i:=9) (v:=.pointer (some ⟨g0,26,none⟩)) rfl rfl (by kernel_rfl) (by kernel_rfl) (by kernel_rfl) (fun _ _ _ h=>h) hst (Zp rfl (fun y hy=>by go_simp)) ?_;simp only[Qy,Qx];refine AB.take (i:=10) (v:=.pointer (some ⟨g0,26,none⟩)) rfl rfl (by kernel_rfl) (by kernel_rfl) (by kernel_rfl) (fun _ _ _ h=>h) hst (Zp rfl (fun y hy=>by go_simp)) ?_;simp only[Qy,Qx];refine AB.take (i:=11) (v:=.int .i64 (op:Int)) rfl rfl (by kernel_rfl) (by kernel_rfl) (by kernel_rfl) (fun _ _ _ h=>h) hst (Zp rfl (fun y hy=>by have c0:=(Zhy (HA.out.rc _ _ _ (Env.get hy 0 rfl)) HL.out.1).1;go_simp)) ?_;simp only[Qy,Qx];refine AB.take (i:=16) (v:=.pointer (some ⟨g0,26,none⟩)) rfl rfl (by kernel_rfl) (by kernel_rfl) (by kernel_rfl) (fun _ _ _ h=>h) hst (Zp rfl (fun y hy=>by go_simp)) ?_;simp only[Qy,Qx];refine AB.take (i:=17) (v:=.pointer (some ⟨g0,39,none⟩)) rfl rfl (by kernel_rfl) (by kernel_rfl) (by kernel_rfl) (fun _ _ _ h=>h) hst (Zp rfl (fun y hy=>by go_simp)) ?_;simp only[Qy,Qx];refine AB.take (i:=18) (v:=.agg cr.toArray) rfl rfl (by kernel_rfl) (by kernel_rfl) (by kernel_rfl) (fun _ _ _ h=>h) hst (YieldsIf.gives (Zdh (k:=39) rfl rfl rfl (fun y hy=>(Zhy (HA.out.rc _ _ _ (Env.get hy 0 rfl)) HL.out.1).2.2) Xg (by rw[HL.out.2];exact Ys))) ?_;simp only[Qy,Qx];refine AB.take (i:=22) (v:=.pointer (some ⟨g0,51,none⟩)) rfl rfl (by kernel_rfl) (by kernel_rfl) (by kernel_rfl) (fun _ _ _ h=>h) hst (Zp rfl (fun y hy=>by go_simp)) ?_;simp only[Qy,Qx];refine AB.take (i:=23) (v:=.slice U un uc) rfl rfl (by kernel_rfl) (by kernel_rfl) (by kernel_rfl) (fun _ _ _ h=>h) hst (Zp rfl (fun y hy=>by have c0:=Zd.nthQ (Env.get hy 0 rfl) 51 HA.out.c51;go_simp)) ?_;simp only[Qy,Qx];refine AB.take (i:=5) (v:=.string E1) rfl rfl (by kernel_rfl) (by kernel_rfl) (by kernel_rfl) (fun _ _ _ h=>h) hst (Wk.call rfl (fun w=>by kernel_rfl) (fun y hy=>H1.out y (Env.below hy))) ?_;simp only[Qy,Qx];refine AB.take (i:=6) (v:=.string (kIf++kSp++E1)) rfl rfl (by kernel_rfl) (by kernel_rfl) (by kernel_rfl) (fun _ _ _ h=>h) hst (Yk rfl rfl rfl rfl (by(try simp only[ByteArray.size_append]);have z1:=Yq (L:=wOp) (by decide) (op:Int);have z4:kSp.size=1:=rfl;have z5:kIf.size=2:=rfl;omega)) ?_;simp only[Qy,Qx];refine AB.take (i:=7) (v:=.string (kIf++kSp++E1++kSp)) rfl rfl (by kernel_rfl) (by kernel_rfl) (by kernel_rfl) (fun _ _ _ h=>h) hst (Yk rfl rfl rfl rfl (by(try simp only[ByteArray.size_append]);have z1:=Yq (L:=wOp) (by decide) (op:Int);have z4:kSp.size=1:=rfl;have z5:kIf.size=2:=rfl;omega)) ?_;simp only[Qy,Qx];refine AB.one (i:=8) (by kernel_rfl) (Zel.some (val:=fun g=>.slice (some ⟨g,0,none⟩) 7 7) (φ :=fun g x=>Zd x g 9 (wOps.map Value.string).toArray) rfl rfl rfl hst (fun y hy=>by kernel_rfl) (fun y hy=>(rz_ops y).mono fun e w2 ⟨g,he,hg,hb⟩=>⟨g,he,hg,hb⟩) (fun g x y h e=>Zd.below h e (Zd.inside h)) (fun ga=>?_));simp only[Qy,Qx];refine AB.take (i:=12) (v:=.pointer (some ⟨ga,op,none⟩)) rfl rfl (by kernel_rfl) (by kernel_rfl) (by kernel_rfl) (fun _ _ _ h=>h) (hst.and fun x y h e=>Zd.below h e (Zd.inside h)) (Zp rfl (fun y hy=>by go_simp)) ?_;simp only[Qy,Qx];refine AB.take (i:=13) (v:=.string (wd wOp (op:Int))) rfl rfl (by kernel_rfl) (by kernel_rfl) (by kernel_rfl) (fun _ _ _ h=>h) (hst.and fun x y h e=>Zd.below h e (Zd.inside h)) (Zp rfl (fun y hy=>by have c0:=Wh (L:=wOp) (hy.2) ho1 ho6;go_simp)) ?_;simp only[Qy,Qx];refine AB.take (i:=14) (v:=.string (kIf++kSp++E1++kSp++wd wOp (op:Int))) rfl rfl (by kernel_rfl) (by kernel_rfl) (by kernel_rfl) (fun _ _ _ h=>h) (hst.and fun x y h e=>Zd.below h e (Zd.inside h)) (Yk rfl rfl rfl rfl (by(try simp only[ByteArray.size_append]);have z1:=Yq (L:=wOp) (by decide) (op:Int);have z4:kSp.size=1:=rfl;have z5:kIf.size=2:=rfl;omega)) ?_;simp only[Qy,Qx];refine AB.take (i:=15) (v:=.string (kIf++kSp++E1++kSp++wd wOp (op:Int)++kSp)) rfl rfl (by kernel_rfl) (by kernel_rfl) (by kernel_rfl) (fun _ _ _ h=>h) (hst.and fun x y h e=>Zd.below h e (Zd.inside h)) (Yk rfl rfl rfl rfl (by(try simp only[ByteArray.size_append]);have z1:=Yq (L:=wOp) (by decide) (op:Int);have z4:kSp.size=1:=rfl;have z5:kIf.size=2:=rfl;omega)) ?_;simp only[Qy,Qx];refine AB.take (i:=19) (v:=.string E2) rfl rfl (by kernel_rfl) (by kernel_rfl) (by kernel_rfl) (fun _ _ _ h=>h) (hst.and fun x y h e=>Zd.below h e (Zd.inside h)) (Wk.call rfl (fun w=>by kernel_rfl) (fun y hy=>H2.out y (Env.below hy.1))) ?_;simp only[Qy,Qx];refine AB.take (i:=20) (v:=.string (kIf++kSp++E1++kSp++wd wOp (op:Int)++kSp++E2)) rfl rfl (by kernel_rfl) (by kernel_rfl) (by kernel_rfl) (fun _ _ _ h=>h) (hst.and fun x y h e=>Zd.below h e (Zd.inside h)) (Yk rfl rfl rfl rfl (by(try simp only[ByteArray.size_append]);have z1:=Yq (L:=wOp) (by decide) (op:Int);have z4:kSp.size=1:=rfl;have z5:kIf.size=2:=rfl;omega)) ?_;simp only[Qy,Qx];refine AB.take (i:=21) (v:=.string (kIf++kSp++E1++kSp++wd wOp (op:Int)++kSp++E2++kSp)) rfl rfl (by kernel_rfl) (by kernel_rfl) (by kernel_rfl) (fun _ _ _ h=>h) (hst.and fun x y h e=>Zd.below h e (Zd.inside h)) (Yk rfl rfl rfl rfl (by(try simp only[ByteArray.size_append]);have z1:=Yq (L:=wOp) (by decide) (op:Int);have z4:kSp.size=1:=rfl;have z5:kIf.size=2:=rfl;omega)) ?_;simp only[Qy,Qx];refine AB.take (i:=24) (v:=.string B) rfl rfl (by kernel_rfl) (by kernel_rfl) (by kernel_rfl) (fun _ _ _ h=>h) (hst.and fun x y h e=>Zd.below h e (Zd.inside h)) (Wk.call rfl (fun w=>by kernel_rfl) (fun y hy=>HB.out y (Env.below hy.1))) ?_;simp only[Qy,Qx];refine AB.take (i:=25) (v:=.string (kIf++kSp++E1++kSp++wd wOp (op:Int)++kSp++E2++kSp++B)) rfl rfl (by kernel_rfl) (by kernel_rfl) (by kernel_rfl) (fun _ _ _ h=>h) (hst.and fun x y h e=>Zd.below h e (Zd.inside h)) (Yk rfl rfl rfl rfl (by(try simp only[ByteArray.size_append]);have z1:=Yq (L:=wOp) (by decide) (op:Int);have z4:kSp.size=1:=rfl;have z5:kIf.size=2:=rfl;omega)) ?_;simp only[Qy,Qx];refine AB.take (i:=26) (v:=.string (kIf++kSp++E1++kSp++wd wOp (op:Int)++kSp++E2++kSp++B)) rfl rfl (by kernel_rfl) (by kernel_rfl) (by kernel_rfl) (fun _ _ _ h=>h) (hst.and fun x y h e=>Zd.below h e (Zd.inside h)) (Zp rfl (fun y hy=>by go_simp)) ?_;simp only[Qy,Qx];refine AB.done (by kernel_rfl) (fun wn hS=>?_);have T:=Hh hS.1;clear hS;have z9:=Yq (L:=wOp) (by decide) (op:Int);obtain⟨pp,hpp⟩:∃ x,x=(kIf++kSp++E1++kSp++wd wOp (op:Int)++kSp++E2++kSp++B:ByteArray):=⟨_,rfl⟩
 have zP:pp.size≤40000000000:=by { rw[hpp];simp only[ByteArray.size_append];have z4:kSp.size=1:=rfl;have z5:kIf.size=2:=rfl;omega }
 rw[←hpp];have HPP:=Hh hpp;clear hpp;have c52:wn.cell? ⟨g0,52,none⟩=some (.slice V en vc):=(T.out.get 0 rfl).nthQ 52 HA.out.c52;go_wp2_with(go_at_call 113;refine(HC.out _ T.out.below).mono ?_;rintro e wn ⟨rfl,bn⟩;have T:=Hh (T.out.call bn);clear bn)
 go_ret;exact⟨by rw[HPP.out];rfl,T.out.below⟩
theorem RzC.at_{f:Nat}{w y:World}{v:Value}{S:ByteArray}(h:RzC f w v S)(b:Below w.heap.size w y):RzC f y v S:=fun z c=>h z (b.trans (c.mono b.size))
def RzBlk(w0:World)(N:Nat→Prop)(l:Acs):Prop:=∀ v,Zu N w0 (.row l.len l.ds .nil) [v]→(Vf l).size≤10000000000→RzC 113 w0 v (Vf l)
theorem act_ge(h:AH)(T E:ByteArray)(no:Bool){d:Nat}(hv:Zof d h∨VEach h∨Zfq d h)(hb:(Zat h T E no).size≤10000000000) :
  (h.kind=10→(Zfn h.cl).size≤10000000000∧(Zfn h.cr).size≤10000000000∧T.size≤10000000000∧(no=false→E.size≤10000000000))∧(h.kind=11→(Zdm h.sel).size≤10000000000∧T.size≤10000000000):=by
 refine⟨fun hk=>?_,fun hk=>?_⟩
 ·unfold Zat rzCd at hb
  rw[if_pos hk]at hb;cases no
  ·simp only[Bool.false_eq_true,if_false,ByteArray.size_append]at hb
   exact⟨by omega,by omega,by omega,fun _=>by omega⟩
  ·simp only[if_true,ByteArray.size_append]at hb
   exact⟨by omega,by omega,by omega,fun h=>by cases h⟩
 ·unfold Zat Zcb at hb
  rw[if_neg (by omega),if_pos hk,if_pos (by omega)]at hb;simp only[ByteArray.size_append]at hb;exact⟨by omega,by omega⟩
theorem rz_act(w0:World)(N:Nat→Prop)(d:Nat)(h:AH)(t e:Acs)(hv:Um d (.cons h t e .nil))(ht:RzBlk w0 N t)(he:RzBlk w0 N e)(ys:List Value)(hd:Zu N w0 (h.dsr t.len t.ds e.len e.ds) ys)
  (hb:(Zat h (Vf t) (Vf e) e.isNil).size≤10000000000):RzC 72 w0 (.agg ys.toArray) (Zat h (Vf t) (Vf e) e.isNil):=by
 intro y by_;have hge:=act_ge h (Vf t) (Vf e) e.isNil (hv.parts).1 hb;obtain⟨sel,num,pl,pr,thn,els,rfl,h1,h2,h3,h4,h5,h6⟩:=act_of hd;have e1:sel.length=6:=by rw[h1.len,Se.ds_len]
 have e2:num.length=12:=by rw[h2.len,Ex.ds_len]
 have e3:pl.length=12:=by rw[h3.len,Ex.ds_len]
 have e4:pr.length=12:=by rw[h4.len,Ex.ds_len]
 have ha:=actR (k:=h.kind) (l:=h.line) (c:=h.col) (sd:=h.side) (tk:=h.tk) (tl:=h.tl) (how:=h.how) (cop:=h.cop) (nm:=h.name) (thn:=thn) (els:=els) e1 e2 e3 e4;have hT:=fun z=>(ht thn h5 z).at_ by_
 have hE:=fun z=>(he els h6 z).at_ by_
 have hS:=fun(q:VSe h.sel)(z:(Zdm h.sel).size≤10000000000)=>(fun x b=>rz_sel x N h.sel q sel ((h1.below by_).below b) z:RzC 22 y (.agg sel.toArray) (Zdm h.sel))
 have hX:=fun(q:VEx h.num)(z:(Zfn h.num).size≤10000000000)=>(fun x b=>rz_ex N h.num q x num ((h2.below by_).below b) z:RzC 26 y (.agg num.toArray) (Zfn h.num))
 have hLn:=fun(q:VTo h.tk h.tl)=>(fun x b=>Znr q x:RzC 75 y (.agg #[.int .i64 h.tk,.int .i64 h.tl]) (Zmt h.tk h.tl))
 have hzL:VTo h.tk h.tl→(Zmt h.tk h.tl).size≤1000:=fun q=>by have:=rzLn_small h.tk h.tl (by rcases q with h | h<;>omega) (by rcases q with h | h<;>omega);omega
 obtain⟨U,uc,_,eu,_⟩:=h5.inRow;obtain⟨V,vc,_,ev,_⟩:=h6.inRow;generalize Yz h.kind h.line h.col sel num h.side h.tk h.tl h.how h.name h.cop pl pr thn els=ys at *;rcases hv.1 with⟨_,vc2,_⟩ | ⟨_,vc2,_,_⟩ | ⟨vp,_,_⟩
 ·have h10:=vc2.kind
  obtain⟨_,vo,vl,vr⟩:=vc2;obtain⟨z1,z2,z3,z4⟩:=hge.1 h10;have hL:RzC 26 y (.agg pl.toArray) (Zfn h.cl):=fun x b=>rz_ex N h.cl vl.1 x pl ((h3.below by_).below b) z1
  have hR:RzC 26 y (.agg pr.toArray) (Zfn h.cr):=fun x b=>rz_ex N h.cr vr.1 x pr ((h4.below by_).below b) z2
  obtain⟨op,hop⟩:∃ j:Nat,h.cop=j:=⟨h.cop.toNat,by omega⟩
  rw[h10,hop]at ha;subst eu ev;cases e with
  |nil=>
   have e5:Zat h (Vf t) (Vf .nil) Acs.nil.isNil=rzCd h (Vf t):=by unfold Zat;rw[if_pos h10];rfl
   rw[e5];unfold rzCd;rw[hop];exact rz_act10n y ys sel num pl pr op (by omega) (by omega) h.side h.how h.tk h.tl h.name U V t.len uc vc e3 e4 ha _ _ _ z1 z2 z3 hL hR (hT z3)
  |cons eh et ee er=>
   have e5:Zat h (Vf t) (Vf (.cons eh et ee er)) (Acs.cons eh et ee er).isNil=rzCd h (Vf t)++kEl++Vf (.cons eh et ee er):=by unfold Zat;rw[if_pos h10];rfl
   rw[e5];unfold rzCd;rw[hop];exact rz_act10e y ys sel num pl pr op (by omega) (by omega) h.side h.how h.tk h.tl h.name U V t.len uc _ vc (by show 0<er.len+1;omega) e3 e4 ha _ _ _ _ z1 z2 z3 (z4 rfl) hL hR (hT z3) (hE (z4 rfl))
 ·have h11:=vc2.kind
  obtain⟨z1,z2⟩:=hge.2 h11;have e5:Zat h (Vf t) (Vf e) e.isNil=Zcb h (wd Xo h.kind)++⟨#[32]⟩++Vf t:=by unfold Zat;rw[if_neg (by omega),if_pos h11]
  rw[e5];unfold Zcb;rw[if_pos (by omega),h11];rw[h11]at ha;exact rz_act11 y ys sel num _ h.side h.how h.tk h.tl h.name thn els ha _ z1 (hS vc2.2 z1) _ z2 (hT z2)
 ·have hkp:=vp.kind.2.2
  have e5:Zat h (Vf t) (Vf e) e.isNil=Zdi h:=by unfold Zat;rw[if_neg hkp.1,if_neg hkp.2]
  rw[e5]at hb ⊢;clear hge e5 hT hE ht he hd h1 h2 h3 h4 h5 h6 hv hkp;obtain⟨k,ln,cl,hsel,hnum,sd,tk,tl,how,nm,cop,c1,c2⟩:=h;dsimp only at *;rcases vp with⟨hk,_,v1,v2,_⟩ | ⟨hk,_,v1⟩ | ⟨hk,_,v1,v2⟩ | ⟨hk,_,v1,v2,v3,v4,_⟩ | ⟨hk,_,v1,v2,_⟩ | ⟨hk,_,v1,v2⟩ | ⟨hk,_,v1,v2⟩
  ·dsimp only at hk v1 v2
   rcases hk with rfl | rfl | rfl
   ·exact rz_act1 y ys sel num _ sd how tk tl nm thn els ha _ (by { have z:=hb;unfold Zdi Zdy Zea Zdx Zcb Zdz at z;simp[ByteArray.size_append]at z;(try dsimp only);omega }) (hS v1 (by { have z:=hb;unfold Zdi Zdy Zea Zdx Zcb Zdz at z;simp[ByteArray.size_append]at z;(try dsimp only);omega })) _ (by { have z:=hb;unfold Zdi Zdy Zea Zdx Zcb Zdz at z;simp[ByteArray.size_append]at z;(try dsimp only);omega }) (hX v2 (by { have z:=hb;unfold Zdi Zdy Zea Zdx Zcb Zdz at z;simp[ByteArray.size_append]at z;(try dsimp only);omega }))
   ·exact rz_act2 y ys sel num _ sd how tk tl nm thn els ha _ (by { have z:=hb;unfold Zdi Zdy Zea Zdx Zcb Zdz at z;simp[ByteArray.size_append]at z;(try dsimp only);omega }) (hS v1 (by { have z:=hb;unfold Zdi Zdy Zea Zdx Zcb Zdz at z;simp[ByteArray.size_append]at z;(try dsimp only);omega })) _ (by { have z:=hb;unfold Zdi Zdy Zea Zdx Zcb Zdz at z;simp[ByteArray.size_append]at z;(try dsimp only);omega }) (hX v2 (by { have z:=hb;unfold Zdi Zdy Zea Zdx Zcb Zdz at z;simp[ByteArray.size_append]at z;(try dsimp only);omega }))
   ·exact rz_act12 y ys sel num _ sd how tk tl nm thn els ha _ (by { have z:=hb;unfold Zdi Zdy Zea Zdx Zcb Zdz at z;simp[ByteArray.size_append]at z;(try dsimp only);omega }) (hS v1 (by { have z:=hb;unfold Zdi Zdy Zea Zdx Zcb Zdz at z;simp[ByteArray.size_append]at z;(try dsimp only);omega })) _ (by { have z:=hb;unfold Zdi Zdy Zea Zdx Zcb Zdz at z;simp[ByteArray.size_append]at z;(try dsimp only);omega }) (hX v2 (by { have z:=hb;unfold Zdi Zdy Zea Zdx Zcb Zdz at z;simp[ByteArray.size_append]at z;(try dsimp only);omega }))
  ·dsimp only at hk v1
   rcases hk with rfl | rfl | rfl
   ·exact rz_act3 y ys sel num _ sd how tk tl nm thn els ha _ (by { have z:=hb;unfold Zdi Zdy Zea Zdx Zcb Zdz at z;simp[ByteArray.size_append]at z;(try dsimp only);omega }) (hS v1 (by { have z:=hb;unfold Zdi Zdy Zea Zdx Zcb Zdz at z;simp[ByteArray.size_append]at z;(try dsimp only);omega }))
   ·exact rz_act5 y ys sel num _ sd how tk tl nm thn els ha _ (by { have z:=hb;unfold Zdi Zdy Zea Zdx Zcb Zdz at z;simp[ByteArray.size_append]at z;(try dsimp only);omega }) (hS v1 (by { have z:=hb;unfold Zdi Zdy Zea Zdx Zcb Zdz at z;simp[ByteArray.size_append]at z;(try dsimp only);omega }))
   ·exact rz_act14 y ys sel num _ sd how tk tl nm thn els ha _ (by { have z:=hb;unfold Zdi Zdy Zea Zdx Zcb Zdz at z;simp[ByteArray.size_append]at z;(try dsimp only);omega }) (hS v1 (by { have z:=hb;unfold Zdi Zdy Zea Zdx Zcb Zdz at z;simp[ByteArray.size_append]at z;(try dsimp only);omega }))
  ·dsimp only at hk v1 v2
   subst hk;exact rz_act4 y ys sel num _ sd how tk tl nm thn els ha _ (by { have z:=hb;unfold Zdi Zdy Zea Zdx Zcb Zdz at z;simp[ByteArray.size_append]at z;(try dsimp only);omega }) (hS v1 (by { have z:=hb;unfold Zdi Zdy Zea Zdx Zcb Zdz at z;simp[ByteArray.size_append]at z;(try dsimp only);omega })) _ (hzL v2) (hLn v2)
  ·dsimp only at hk v1 v2 v3 v4
   subst hk;obtain⟨s,rfl⟩:∃ j:Nat,sd=j:=⟨sd.toNat,by omega⟩
   exact rz_act6 y ys sel num _ s (by omega) (by omega) how tk tl nm thn els (by { have z:=hb;unfold Zdi Zdy Zea Zdx Zcb Zdz at z;simp[ByteArray.size_append]at z;(try dsimp only);omega }) ha _ (hzL v3) (hLn v3) _ (by { have z:=hb;unfold Zdi Zdy Zea Zdx Zcb Zdz at z;simp[ByteArray.size_append]at z;(try dsimp only);omega }) (hX v4 (by { have z:=hb;unfold Zdi Zdy Zea Zdx Zcb Zdz at z;simp[ByteArray.size_append]at z;(try dsimp only);omega }))
  ·dsimp only at hk v1 v2
   obtain⟨s,rfl⟩:∃ j:Nat,sd=j:=⟨sd.toNat,by omega⟩
   rcases hk with rfl | rfl
   ·exact rz_act7 y ys sel num _ s (by omega) (by omega) how tk tl nm thn els ha _ (by { have z:=hb;unfold Zdi Zdy Zea Zdx Zcb Zdz at z;simp[ByteArray.size_append]at z;(try dsimp only);omega }) (hX v2 (by { have z:=hb;unfold Zdi Zdy Zea Zdx Zcb Zdz at z;simp[ByteArray.size_append]at z;(try dsimp only);omega }))
   ·exact rz_act9 y ys sel num _ s (by omega) (by omega) how tk tl nm thn els ha _ (by { have z:=hb;unfold Zdi Zdy Zea Zdx Zcb Zdz at z;simp[ByteArray.size_append]at z;(try dsimp only);omega }) (hX v2 (by { have z:=hb;unfold Zdi Zdy Zea Zdx Zcb Zdz at z;simp[ByteArray.size_append]at z;(try dsimp only);omega }))
  ·dsimp only at hk v1 v2
   subst hk;obtain⟨s,rfl⟩:∃ j:Nat,sd=j:=⟨sd.toNat,by omega⟩
   obtain⟨hw,rfl⟩:∃ j:Nat,how=j:=⟨how.toNat,by omega⟩
   exact rz_act8 y ys sel num _ s (by omega) (by omega) hw (by omega) (by omega) tk tl nm thn els ha
  ·dsimp only at hk v1 v2
   obtain⟨s,rfl⟩:∃ j:Nat,sd=j:=⟨sd.toNat,by omega⟩
   rcases hk with rfl | rfl
   ·exact rz_act13 y ys sel num _ s (by omega) (by omega) how tk tl nm thn els ha _ (hzL v2) (hLn v2)
   ·exact rz_act15 y ys sel num _ s (by omega) (by omega) how tk tl nm thn els ha _ (hzL v2) (hLn v2)
theorem Zjk:∀(x:Acs)(s:ByteArray),s.size≤(Zeb x s).size
 |.nil,s=>Nat.le_refl _
 |.cons h t e r,s=>by
  unfold Zeb;refine Nat.le_trans ?_ (Zjk r _);simp only[ByteArray.size_append];omega
theorem Zjl:∀(x:Acs)(i:Nat)(s:ByteArray),s.size≤(Zbl i x s).size
 |.nil,i,s=>Nat.le_refl _
 |.cons h t e r,i,s=>by
  unfold Zbl;refine Nat.le_trans ?_ (Zjl r _ _);split<;>simp only[ByteArray.size_append]<;>omega
theorem rz_block_walk(w0:World)(N:Nat→Prop)(d:Nat)(l:Acs)(hvl:Um d l)(hall:∀ k u,l.at? k=some u→RzBlk w0 N u.2.1∧RzBlk w0 N u.2.2):RzBlk w0 N l:=by
 intro v hv hb w by_;have hX:=fun k u (hu:l.at? k=some u) ys hy hz=>(rz_act w0 N d u.1 u.2.1 u.2.2 (Acs.at_valid d l k u hvl hu) (hall k u hu).1 (hall k u hu).2 ys hy hz)
 obtain⟨B,bc,xs,rfl,hn,hw,hd⟩:=hv.inRow;clear hv;obtain⟨n,hn0⟩:∃ n,n=l.len:=⟨_,rfl⟩
 rw[←hn0]at hn ⊢;unfold Vf at hb ⊢;obtain⟨F,hF⟩:∃ s,s=Zeb l ⟨#[123,32]⟩:=⟨_,rfl⟩
 rw[←hF]at hb ⊢;simp only[ByteArray.size_append]at hb;have zF:F.size≤10000000000:=by omega
 have HN:=Hh hn0;have HW:=Hh (And.intro hw hd);have HX:=Hh hX;have HF:=Hh hF;have HB:=Hh by_;clear hw hd hn0 hall hF hvl hX hb by_;have l63:(n:Int)≤9223372036854775807:=by omega
 have T:=Hh (Env.start w);go_enter Tryz.func113,Tryz.ntmps113;go_wp2_with fail
 go_loopw [3,4] (fun t i wr=>∃(m:Nat)(sm:ByteArray),i=.int .i64 m∧m≤n∧t=.string sm∧Env w [] [] [] wr∧Hid (F=Zeb (l.dropQ m) sm)) (fun _ i _=>n - (intOf i).toNat)
 case atStart=>exact⟨0,_,by go_num,Nat.zero_le _,rfl,T.out,Hh (by cases l<;>exact HF.out)⟩
 case round=>
  obtain⟨m,sm,rfl,hm,rfl,hT,hz⟩:=hrel;have T:=Hh hT;clear hT;have zs:sm.size≤10000000000:=by have:=Zjk (l.dropQ m) sm;rw[←hz.out]at this;omega
  by_cases hlt:m<n
  · obtain⟨u,hu⟩:=Acs.at_some l m (by rw[←HN.out];exact hlt)
    obtain⟨g,ys,rfl,hg,hR,hy⟩:=act_at HW.out.1 HW.out.2 hu;have hyl:ys.length=53:=by rw[hy.len,AH.dsr_len]
    have hz2:=hz.out;rw[Acs.dropQ_at l m u hu]at hz2;have hz2:F=Zeb (l.dropQ (m+1)) (sm++Zat u.1 (Vf u.2.1) (Vf u.2.2) u.2.2.isNil++⟨#[32]⟩):=hz2;have zA:=Zjk (l.dropQ (m+1)) (sm++Zat u.1 (Vf u.2.1) (Vf u.2.2) u.2.2.isNil++⟨#[32]⟩);rw[←hz2]at zA;simp only[ByteArray.size_append]at zA;have zK:(Zat u.1 (Vf u.2.1) (Vf u.2.2) u.2.2.isNil).size≤10000000000:=by omega
    have hx:=HX.out m u hu ys hy zK;clear zA;generalize Zat u.1 (Vf u.2.1) (Vf u.2.2) u.2.2.isNil=K at *;have P1:=Hh (hx.at_ HB.out);have HZ:=Hh hz2;have HR:Hid (∀ y,Below w.heap.size w y→y.rangeAt g (m*53) ys):=Hh fun y hb=>Zfe hR hg (HB.out.trans (hb.mono HB.out.size))
    have HYL:=Hh hyl;clear hy hR hu hz hz2 hx hyl;have lk:(m:Int)<(n:Int):=by omega
    go_wp2_with(first
 |((with_reducible refine Ze 15 ?_);refine Zr 57 _ g (m*53) (ys) (HR.out _ T.out.below) Zho (by rw[HYL.out];exact Zbh) rfl rfl rfl ?_)
 |(go_at_call 72;refine(P1.out _ T.out.below).mono ?_;rintro e wn ⟨rfl,bn⟩;have T:=Hh (T.out.call bn);clear bn))
    go_roundw
    case rel=>exact⟨m+1,_,by go_num,by omega,rfl,T.out,HZ⟩
    case measure=>simp[intOf];omega
  · have hz2:=hz.out
    rw[Acs.dropQ_end l m (by have:=HN.out;omega)]at hz2;have hz3:F=sm:=hz2;subst hz3;clear hz hz2;have lk:¬(m:Int)<(n:Int):=by omega
    go_wp2
    go_ret;exact⟨rfl,T.out.below⟩
theorem Zlu(w0:World)(N:Nat→Prop)(d:Nat)(l:Acs)(hv:Um d l):RzBlk w0 N l:=
 rz_block_walk w0 N d l hv fun k u hu=>
  have h:=Acs.at_lt l k u hu;have hvs:=Acs.at_valid d l k u hv hu
  ⟨Zlu w0 N (d+1) u.2.1 hvs.parts.2.1,Zlu w0 N (d+1) u.2.2 hvs.parts.2.2.1⟩
termination_by SizeOf.sizeOf l
decreasing_by
 all_goals first | exact(Acs.at_lt l k u hu).1 | exact(Acs.at_lt l k u hu).2
theorem rz_acts_any(w0:World)(N:Nat→Prop)(d:Nat)(l:Acs)(hvl:Um d l)(v:Value)(hv:Zu N w0 (.row l.len l.ds .nil) [v])(hb:(Zbl 0 l ⟨#[]⟩).size≤10000000000):RzC 24 w0 v (Zbl 0 l ⟨#[]⟩):=by
 intro w by_;have hall:=fun k u (hu:l.at? k=some u)=>And.intro (Zlu w0 N (d+1) u.2.1 (Acs.at_valid d l k u hvl hu).parts.2.1) (Zlu w0 N (d+1) u.2.2 (Acs.at_valid d l k u hvl hu).parts.2.2.1)
 have hX:=fun k u (hu:l.at? k=some u) ys hy hz=>(rz_act w0 N d u.1 u.2.1 u.2.2 (Acs.at_valid d l k u hvl hu) (hall k u hu).1 (hall k u hu).2 ys hy hz)
 obtain⟨B,bc,xs,rfl,hn,hw,hd⟩:=hv.inRow;clear hv;obtain⟨n,hn0⟩:∃ n,n=l.len:=⟨_,rfl⟩
 rw[←hn0]at hn ⊢;obtain⟨F,hF⟩:∃ s,s=Zbl 0 l ⟨#[]⟩:=⟨_,rfl⟩
 rw[←hF]at hb ⊢;have zF:F.size≤10000000000:=by omega
 have HN:=Hh hn0;have HW:=Hh (And.intro hw hd);have HX:=Hh hX;have HF:=Hh hF;have HB:=Hh by_;clear hw hd hn0 hall hF hvl hX hb by_;have l63:(n:Int)≤9223372036854775807:=by omega
 have T:=Hh (Env.start w);go_enter Tryz.func24,Tryz.ntmps24;go_wp2_with fail
 go_loopw [3,4] (fun t i wr=>∃(m:Nat)(sm:ByteArray),i=.int .i64 m∧m≤n∧t=.string sm∧Env w [] [] [] wr∧Hid (F=Zbl m (l.dropQ m) sm)) (fun _ i _=>n - (intOf i).toNat)
 case atStart=>exact⟨0,_,by go_num,Nat.zero_le _,rfl,T.out,Hh (by cases l<;>exact HF.out)⟩
 case round=>
  obtain⟨m,sm,rfl,hm,rfl,hT,hz⟩:=hrel;have T:=Hh hT;clear hT;have zs:sm.size≤10000000000:=by have:=Zjl (l.dropQ m) m sm;rw[←hz.out]at this;omega
  by_cases hlt:m<n
  · obtain⟨u,hu⟩:=Acs.at_some l m (by rw[←HN.out];exact hlt)
    obtain⟨g,ys,rfl,hg,hR,hy⟩:=act_at HW.out.1 HW.out.2 hu;have hyl:ys.length=53:=by rw[hy.len,AH.dsr_len]
    have hz2:=hz.out;rw[Acs.dropQ_at l m u hu]at hz2;have hz2:F=Zbl (m+1) (l.dropQ (m+1)) ((if 0<m then sm++⟨#[32]⟩else sm)++Zat u.1 (Vf u.2.1) (Vf u.2.2) u.2.2.isNil):=hz2;have zA:=Zjl (l.dropQ (m+1)) (m+1) ((if 0<m then sm++⟨#[32]⟩else sm)++Zat u.1 (Vf u.2.1) (Vf u.2.2) u.2.2.isNil);rw[←hz2]at zA;simp only[ByteArray.size_append]at zA;have zK:(Zat u.1 (Vf u.2.1) (Vf u.2.2) u.2.2.isNil).size≤10000000000:=by omega
    have hx:=HX.out m u hu ys hy zK;clear zA;generalize Zat u.1 (Vf u.2.1) (Vf u.2.2) u.2.2.isNil=K at *;have P1:=Hh (hx.at_ HB.out);have HZ:=Hh hz2;have HR:Hid (∀ y,Below w.heap.size w y→y.rangeAt g (m*53) ys):=Hh fun y hb=>Zfe hR hg (HB.out.trans (hb.mono HB.out.size))
    have HYL:=Hh hyl;clear hy hR hu hz hz2 hx hyl;have lk:(m:Int)<(n:Int):=by omega
    by_cases h0:0<m
    ·have HZ:Hid (F=Zbl (m+1) (l.dropQ (m+1)) (sm++⟨#[32]⟩++K)):=by have e:=HZ.out;rw[if_pos h0]at e;exact Hh e
     have l0:(0:Int)<(m:Int):=by omega
     go_wp2_with(first
 |((with_reducible refine Ze 19 ?_);refine Zr 57 _ g (m*53) (ys) (HR.out _ T.out.below) Zho (by rw[HYL.out];exact Zbh) rfl rfl rfl ?_)
 |(go_at_call 72;refine(P1.out _ T.out.below).mono ?_;rintro e wn ⟨rfl,bn⟩;have T:=Hh (T.out.call bn);clear bn))
     go_roundw
     case rel=>exact⟨m+1,_,by go_num,by omega,rfl,T.out,HZ⟩
     case measure=>simp[intOf];omega
    ·have HZ:Hid (F=Zbl (m+1) (l.dropQ (m+1)) (sm++K)):=by have e:=HZ.out;rw[if_neg h0]at e;exact Hh e
     have l0:¬(0:Int)<(m:Int):=by omega
     go_wp2_with(first
 |((with_reducible refine Ze 19 ?_);refine Zr 57 _ g (m*53) (ys) (HR.out _ T.out.below) Zho (by rw[HYL.out];exact Zbh) rfl rfl rfl ?_)
 |(go_at_call 72;refine(P1.out _ T.out.below).mono ?_;rintro e wn ⟨rfl,bn⟩;have T:=Hh (T.out.call bn);clear bn))
     go_roundw
     case rel=>exact⟨m+1,_,by go_num,by omega,rfl,T.out,HZ⟩
     case measure=>simp[intOf];omega
  · have hz2:=hz.out
    rw[Acs.dropQ_end l m (by have:=HN.out;omega)]at hz2;have hz3:F=sm:=hz2;subst hz3;clear hz hz2;have lk:¬(m:Int)<(n:Int):=by omega
    go_wp2
    go_ret;exact⟨rfl,T.out.below⟩
open Go.ChangeShapes Go.WideShapes Go.ChangeAt Go.RowKit
theorem fold_fill:∀(l:List Value)(k:Nat)(cs:Array Value),cs.size=k+l.length→(l.zipIdx k).foldl (fun cs x=>cs.setIfInBounds (0+x.2) x.1) cs=(cs.toList.take k++l).toArray
 |[],k,cs,h=>by
  rw[List.length_nil,Nat.add_zero]at h;have:cs.toList.take k=cs.toList:=List.take_of_length_le (by rw[Array.length_toList,h];exact Nat.le_refl k);simp[this]
 |v::l,k,cs,h=>by
  rw[List.length_cons]at h;rw[List.zipIdx_cons,List.foldl_cons];dsimp only;rw[Nat.zero_add,fold_fill l (k+1) (cs.setIfInBounds k v) (by simp;omega)];congr 1
  rw[show v::l=[v]++l from rfl,←List.append_assoc];congr 1
  rw[Array.toList_setIfInBounds];apply List.ext_getElem?;intro i;rw[List.getElem?_take,List.getElem?_append,List.getElem?_take,List.getElem?_set,List.length_take,Array.length_toList];have hm:min k cs.size=k:=by omega
  rw[hm];by_cases h1:i<k
  ·rw[if_pos (by omega),if_neg (by omega),if_pos h1,if_pos h1]
  ·by_cases h2:i=k
   ·subst h2
    rw[if_pos (by omega),if_pos rfl,if_pos (by omega),if_neg (by omega)];simp
   ·rw[if_neg (by omega),if_neg h1]
    simp;omega
theorem built_one{P:Program}{e:TypeId}{vs:List Value}{sz:Nat}{z:Value}{bytes:Nat}(hinfo:(P.info? e).map (fun i=>(i.zero,i.size,i.bytes))=some (some z,sz,bytes))(hl:vs.length=sz)(hp:0<sz)(hs:sz≤1000):P.builtSlice e 1 [(0,.agg vs.toArray)]=some vs.toArray:=by
 obtain⟨i,hi,hz,hsize,hbytes⟩:=info_parts hinfo;unfold Program.builtSlice;rw[hi];dsimp only;rw[hz];dsimp only;rw[hsize,if_neg (by omega)];unfold Instr.fill;dsimp only;have hv:(Value.agg vs.toArray).cells=vs.toArray:=rfl;rw[hv];have hc:((Array.range (1*sz)).map (z.cells[· % z.cells.size]!)).size=0+vs.length:=by simp[hl]
 rw[if_neg (by simp[hl])];unfold Instr.fill;have:=fold_fill vs 0 _ hc;simp only[Nat.zero_mul];rw[show vs.toArray.zipIdx=(vs.zipIdx 0).toArray from by simp];rw[List.foldl_toArray']
 ·rw[this];simp
 ·simp
theorem Zog{P:Program}{ops:Array Oper}{rest:List Oper}{o:Oper}{a:Act}{w:World}{Q:Exit→Act→World→Prop}(t e:TypeId)(x:Operand)(d:Tmp)(sz bytes:Nat)(z:Value)(vs:List Value)
  (hinfo:(P.info? e).map (fun i=>(i.zero,i.size,i.bytes))=some (some z,sz,bytes))(hl:vs.length=sz)(hp:0<sz)(hs:sz≤1000)(hu:P.underlying t=some (.slice e))
  (hg:o.guard=none)(ho:o.op=.buildSlice t 1 #[(0,x)])(hd:o.dst=some d)(hx:a.eval x=.agg vs.toArray)
  (h:wpList P ops Q rest (a.put (some d) (.slice (some ⟨w.heap.size,0,none⟩) 1 1)) (w.alloc (.cells vs.toArray e))):wpList P ops Q (o::rest) a w:=
 Great.wpList_buildSliceTo hg t e 1 #[(0,x)] ho w.heap.size rfl (some d) hd hu vs.toArray (by simpa[hx]using built_one hinfo hl hp hs) h
section
variable {P:Program} {ops:Array Oper} {rest:List Oper} {o:Oper} {a:Act} {w:World} {Q:Exit→Act→World→Prop}
end
def AO.ds(x:AO):Ds:=x.h.dsr x.thn.len x.thn.ds x.els.len x.els.ds
theorem Zu.slice{N:Nat→Prop}{w:World}{n:Nat}{ds:Ds}{v:Value}(h:Zu N w (.row n ds .nil) [v]):∃ A c,v=.slice A n c:=by
 obtain⟨A,c,xs,t,e,_⟩:=h;injection e with e1;exact⟨A,c,e1⟩
def AH.tail(h:AH)(tn:Nat)(t:Ds)(en:Nat)(e:Ds):Ds:=
 h.sel.ds.app (h.num.ds.app (.int h.side (.int h.tk (.int h.tl (.int h.how (.str h.name (.int h.cop (h.cl.ds.app (h.cr.ds.app (.row tn t (.row en e .nil)))))))))))
theorem Acs.ds_app(y:Acs):∀ x:Acs,(x.app y).ds=x.ds.app y.ds
 |.nil=>rfl
 |.cons h t e r=>by
  show(h.dsr t.len t.ds e.len e.ds).app (r.app y).ds=((h.dsr t.len t.ds e.len e.ds).app r.ds).app y.ds;rw[Acs.ds_app y r,Ds.app_assoc]
structure RowD(w:World)(q c r K:Nat)(L:List TokV)(e:TypeId)(sz:Nat)(st:St)(n:Nat)(ds:Ds)(xs:List Value)(v:Value)(wr:World):Prop where
 row:Zjc w q c r K L e sz st n xs v wr
 deep:Zu (fun k=>w.heap.size≤k∧v.ownBlock≠some k) wr ds xs
def Zhh(q c:Nat)(wr x:World):Prop:=Zx (fun k=>(k=q∨k=c)∨wr.heap.size≤k) wr x
theorem Zhh.start(q c:Nat)(w:World):Zhh q c w w:=Zx.refl _ _
theorem Zhh.move{q c r K:Nat}{L:List TokV}{st:St}{wr x y:World}(h:Zhh q c wr x)(m:Wb x y q c r K L st):Zhh q c wr y:=Zx.trans h (m.keeps.mono fun k hk=>.inl hk)
theorem Zhh.next{q c:Nat}{wr x y:World}(h:Zhh q c wr x)(hb:Below x.heap.size x y):Zhh q c wr y:=Zx.trans h (Zx.of_below hb)
theorem Zhh.put{q c:Nat}{wr x y:World}(h:Zhh q c wr x){g:Nat}{t:TypeId}{vs:List Value}(p:Put x y g t vs)(hg:wr.heap.size≤g):Zhh q c wr y:=Zx.trans h (p.keeps.mono fun k hk=>.inr (hk ▸ hg))
theorem Zhh.drew{q c:Nat}{wr x:World}(h:Zhh q c wr x):Zhh q c wr x.drew:=Zx.drew h
theorem RowD.push{w x y:World}{q c r K n sz:Nat}{L:List TokV}{e:TypeId}{st:St}{ds es:Ds}{xs ys:List Value}{v v':Value}(h:RowD w q c r K L e sz st n ds xs v x)(ho:y.ownsRow w.heap.size e sz v' (n+1) (xs++ys))(hg:x.grownBy y v.ownBlock)(hat:v'.ownBlock=v.ownBlock∨v'.ownBlock=some x.heap.size)
  (d:Zu (fun k=>w.heap.size≤k∧v.ownBlock≠some k) x es ys):RowD w q c r K L e sz st (n+1) (ds.app es) (xs++ys) v' y:=by
 have hk:Zx (fun k=>v.ownBlock=some k) x y:=Zx.grown (Zx.refl _ _) hg fun k hk=>hk
 have hs:∀ k,k<x.heap.size→(w.heap.size≤k∧v.ownBlock≠some k)→¬(v.ownBlock=some k)∧(w.heap.size≤k∧v'.ownBlock≠some k):=fun k hk hn=>by
  refine⟨hn.2,hn.1,fun c=>?_⟩;rcases hat with e1 | e1
  ·rw[e1]at c;exact hn.2 c
  ·rw[e1]at c;injection c with c;omega
 exact⟨h.row.push ho hg,Zu.app (d.keeps hk hs) (h.deep.keeps hk hs)⟩
theorem Zd.set3L{w:World}{g:Nat}{t:TypeId}{a b c:Value}{l:List Value}(h:Zd w g t (a::b::c::l).toArray)(x y z:Value) :
  Put w (((w.setCell ⟨g,0,none⟩ x).setCell ⟨g,1,none⟩ y).setCell ⟨g,2,none⟩ z) g t (x::y::z::l):=by
 have h1:=Zd.setCells (g:=g) (t:=t) l [x,y,z] [a,b,c] [] w rfl h;exact⟨h1,Zx.setCells (S:=fun k=>k=g) (g:=g) rfl [x,y,z] 0 (Zx.refl _ w)⟩
theorem Zjg:Tryz.prog.underlying 41=some (.slice 57):=by kernel_rfl
def zact:Value:=.agg #[.int .i64 0,.int .i64 0,.int .i64 0,.int .i64 0,.int .i64 0,.int .i64 0,.int .i64 0,.slice none 0 0,.int .i64 0,.int .i64 0,.int .i64 0,.int .i64 0,.int .i64 0,.int .i64 0,.int .i64 0,.slice none 0 0,.int .i64 0,.int .i64 0,.int .i64 0,.int .i64 0,.slice none 0 0,.int .i64 0,.int .i64 0,.int .i64 0,.int .i64 0,.string ⟨#[]⟩,.int .i64 0,.int .i64 0,.int .i64 0,.int .i64 0,.int .i64 0,.int .i64 0,.int .i64 0,.slice none 0 0,.int .i64 0,.int .i64 0,.int .i64 0,.int .i64 0,.slice none 0 0,.int .i64 0,.int .i64 0,.int .i64 0,.int .i64 0,.int .i64 0,.int .i64 0,.slice none 0 0,.int .i64 0,.int .i64 0,.int .i64 0,.int .i64 0,.slice none 0 0,.slice none 0 0,.slice none 0 0]
theorem info_act:(Tryz.prog.info? 57).map (fun i=>(i.zero,i.size,i.bytes))=some (some zact,53,576):=by kernel_rfl
theorem acts_step(nk:Int)(L:List TokV)(m:Nat)(st:St)(h:¬ Zj L Xo st=0):Vn nk L (m+1) st =
  (.cons (Zbn nk L m (AH.zero (Zj L Xo st) (st.tok L).line (st.tok L).col) (Zj L Xo st) (Yu L Xo st)).h
     (Zbn nk L m (AH.zero (Zj L Xo st) (st.tok L).line (st.tok L).col) (Zj L Xo st) (Yu L Xo st)).thn
     (Zbn nk L m (AH.zero (Zj L Xo st) (st.tok L).line (st.tok L).col) (Zj L Xo st) (Yu L Xo st)).els
     (Vn nk L m (Zbn nk L m (AH.zero (Zj L Xo st) (st.tok L).line (st.tok L).col) (Zj L Xo st) (Yu L Xo st)).st).1,
    (Vn nk L m (Zbn nk L m (AH.zero (Zj L Xo st) (st.tok L).line (st.tok L).col) (Zj L Xo st) (Yu L Xo st)).st).2):=by
 rw[Vn,if_neg h]
theorem acts_stop(nk:Int)(L:List TokV)(m:Nat)(st:St)(h:Zj L Xo st=0):Vn nk L (m+1) st=(.nil,st):=by rw[Vn,if_pos h]
end Go.Proofs.YtljdgdphldckhaaGreat
