/- Parts of the proof. No conditions but those that each names. -/
import Derived.Great.Walk
import Derived.RegionTactic
import Derived.Test.YtdngkgickbaboaaGreatQF16
set_option maxRecDepth 20000
set_option maxHeartbeats 12800000
set_option linter.unusedVariables false
set_option linter.unusedSimpArgs false
namespace Go.Proofs.YtdngkgickbaboaaGreat
open Go.Value renaming int→I,slice→Λ,pointer→Ω,string→Ψ,oneCell'→Γ
open Go.IntKind renaming i64→J
open _root_.Go.Proofs.Tryz renaming prog→Φ
open Nat renaming le_refl→Θ
open Nat renaming le_trans→Ξ
open _root_.ByteArray renaming size_append→Δ
open And renaming intro→ζ
open Go.Ending renaming returned→η
open Go.ChangeShapes Go.WideShapes Go.ChangeAt Go.RowKit Go.Great
abbrev kSp:ByteArray:=⟨#[32]⟩
abbrev kIf:ByteArray:=⟨#[105,102]⟩
abbrev kEl:ByteArray:=⟨#[32,101,108,115,101,32]⟩
theorem Ziw{x:World}{g:Nat}{cop:Int}{cl cr:List Value}(h:x.rangeAt g 26 (Zfb cop cl cr))(hl:cl.length=12):x.cell? ⟨g,26,none⟩=some (I J cop)∧x.rangeAt g 27 cl∧x.rangeAt g 39 cr:=by
 refine⟨h 0 _ rfl,fun j v hv=>?_,fun j v hv=>?_⟩
 ·have hj:j<cl.length:=(List.getElem?_eq_some_iff.1 hv).1
  have:=h (1+j) v (by unfold Zfb;rw[Nat.add_comm 1 j,List.getElem?_cons_succ,List.getElem?_append_left hj];exact hv);rw[show 27+j=26+(1+j)from by omega];exact this
 ·have:=h (13+j) v (by unfold Zfb;rw[show 13+j=(12+j)+1 from by omega,List.getElem?_cons_succ,List.getElem?_append_right (by omega),show 12+j - cl.length=j from by omega];exact hv)
  rw[show 39+j=26+(13+j)from by omega];exact this
theorem rz_act10n(w:World)(ys sv nv cl cr:List Value)(op:Nat)(ho1:1≤op)(ho6:op≤6)(sd how tk tl:Int)(nm:ByteArray)(U V:Option Addr)(un uc vc:Nat)(lcl:cl.length=12)(lcr:cr.length=12)(ha:Zcs ys sv nv (Zfb (op:Int) cl cr) 10 sd tk tl how nm (Λ U un uc) (Λ V 0 vc))
  (E1 E2 B:ByteArray)(z1:E1.size≤10000000000)(z2:E2.size≤10000000000)(zB:B.size≤10000000000)(h1:RzC 116 w (.agg cl.toArray) E1)(h2:RzC 116 w (.agg cr.toArray) E2)(hB:RzC 62 w (Λ U un uc) B)  :
  Calls Φ 89 #[.agg ys.toArray] w fun e w'=>e=η (Ψ (kIf++kSp++E1++kSp++wd wOp (op:Int)++kSp++E2++kSp++B))∧Below w.heap.size w w':=by
 have T:=Hh (Env.start w);have HA:=Hh ha;have HL:=Hh (ζ lcl lcr);have H1:=Hh h1;have H2:=Hh h2;have HB:=Hh hB;have i1:(0:Int)≤(op:Int):=by omega
 have i2:(op:Int)<7:=by omega
 clear ha lcl lcr h1 h2 hB;go_enter Tryz.func89,Tryz.ntmps89;go_upto_region 4 with(first
 |((with_reducible refine Zd 1 ?_);refine Zk T.out 58 _ ys rfl rfl rfl ?_;intro wn g0 tn;have T:=Hh tn;clear tn;have c0:=(T.out.get 0 rfl).nthQ 0 HA.out.c0)
 |(go_at_call 115;refine(Zas _).mono ?_;rintro e wn ⟨gw,rfl,hg,bn⟩;have T:=Hh (T.out.call bn);have cg:wn.cell? ⟨gw,10,none⟩=some (Ψ ⟨#[105,102]⟩):=Wi (L:=Xr) (k:=10) hg (by decide) (by decide);clear bn hg;have c0:=(T.out.get 0 rfl).nthQ 0 HA.out.c0))
 clear c0 cg;refine Xg (fun x=>Env w [(g0,58,ys)] [] [] x) (by kernel_rfl) T.out.drew ?_;have hst:Zdp (fun x=>Env w [(g0,58,ys)] [] [] x):=fun x y h e=>Env.call h e
 refine AB.tk 0 (Ψ kIf) rfl rfl (by kernel_rfl) (fun _ _ _ h=>h) hst (Vn rfl rfl rfl) ?_;simp only[Qy,Qx];refine AB.tk 1 (Ψ (kIf++kSp)) rfl rfl (by kernel_rfl) (fun _ _ _ h=>h) hst (Yi rfl rfl rfl rfl (by(try simp only[Δ]);have z1:=Yr (L:=wOp) (by decide) (op:Int);have z4:kSp.size=1:=rfl;have z5:kIf.size=2:=rfl;omega)) ?_;simp only[Qy,Qx];refine AB.tk 2 (Ω (some ⟨g0,26,none⟩)) rfl rfl (by kernel_rfl) (fun _ _ _ h=>h) hst (Zn rfl (fun y hy=>by go_simp)) ?_;simp only[Qy,Qx];refine AB.tk 3 (Ω (some ⟨g0,27,none⟩)) rfl rfl (by kernel_rfl) (fun _ _ _ h=>h) hst (Zn rfl (fun y hy=>by go_simp)) ?_;simp only[Qy,Qx];refine AB.tk 4 (.agg cl.toArray) rfl rfl (by kernel_rfl) (fun _ _ _ h=>h) hst (YieldsIf.gives (Zdt (k:=27) rfl rfl rfl (fun y hy=>(Ziw (HA.out.rc _ _ _ (Env.get hy 0 rfl)) HL.out.1).2.1) Xm (by rw[HL.out.1];exact Yz))) ?_;simp only[Qy,Qx];refine AB.tk 9 (Ω (some ⟨g0,26,none⟩)) rfl rfl (by kernel_rfl) (fun _ _ _ h=>h) hst (Zn rfl (fun y hy=>by go_simp)) ?_;simp only[Qy,Qx];refine AB.tk 10 (Ω (some ⟨g0,26,none⟩)) rfl rfl (by kernel_rfl) (fun _ _ _ h=>h) hst (Zn rfl (fun y hy=>by go_simp)) ?_;simp only[Qy,Qx];refine AB.tk 11 (I J (op:Int)) rfl rfl (by kernel_rfl) (fun _ _ _ h=>h) hst (Zn rfl (fun y hy=>by have c0:=(Ziw (HA.out.rc _ _ _ (Env.get hy 0 rfl)) HL.out.1).1;go_simp)) ?_;simp only[Qy,Qx];refine AB.tk 16 (Ω (some ⟨g0,26,none⟩)) rfl rfl (by kernel_rfl) (fun _ _ _ h=>h) hst (Zn rfl (fun y hy=>by go_simp)) ?_;simp only[Qy,Qx];refine AB.tk 17 (Ω (some ⟨g0,39,none⟩)) rfl rfl (by kernel_rfl) (fun _ _ _ h=>h) hst (Zn rfl (fun y hy=>by go_simp)) ?_;simp only[Qy,Qx];refine AB.tk 18 (.agg cr.toArray) rfl rfl (by kernel_rfl) (fun _ _ _ h=>h) hst (YieldsIf.gives (Zdt (k:=39) rfl rfl rfl (fun y hy=>(Ziw (HA.out.rc _ _ _ (Env.get hy 0 rfl)) HL.out.1).2.2) Xm (by rw[HL.out.2];exact Yz))) ?_;simp only[Qy,Qx];refine AB.tk 22 (Ω (some ⟨g0,51,none⟩)) rfl rfl (by kernel_rfl) (fun _ _ _ h=>h) hst (Zn rfl (fun y hy=>by go_simp)) ?_;simp only[Qy,Qx];refine AB.tk 23 (Λ U un uc) rfl rfl (by kernel_rfl) (fun _ _ _ h=>h) hst (Zn rfl (fun y hy=>by have c0:=Ze.nthQ (Env.get hy 0 rfl) 51 HA.out.c51;go_simp)) ?_;simp only[Qy,Qx];refine AB.tk 5 (Ψ E1) rfl rfl (by kernel_rfl) (fun _ _ _ h=>h) hst (Wx.call rfl (fun w=>by kernel_rfl) (fun y hy=>H1.out y (Env.below hy))) ?_;simp only[Qy,Qx];refine AB.tk 6 (Ψ (kIf++kSp++E1)) rfl rfl (by kernel_rfl) (fun _ _ _ h=>h) hst (Yi rfl rfl rfl rfl (by(try simp only[Δ]);have z1:=Yr (L:=wOp) (by decide) (op:Int);have z4:kSp.size=1:=rfl;have z5:kIf.size=2:=rfl;omega)) ?_;simp only[Qy,Qx];refine AB.tk 7 (Ψ (kIf++kSp++E1++kSp)) rfl rfl (by kernel_rfl) (fun _ _ _ h=>h) hst (Yi rfl rfl rfl rfl (by(try simp only[Δ]);have z1:=Yr (L:=wOp) (by decide) (op:Int);have z4:kSp.size=1:=rfl;have z5:kIf.size=2:=rfl;omega)) ?_;simp only[Qy,Qx];refine AB.one (i:=8) (by kernel_rfl) (Zeg.some (val:=fun g=>Λ (some ⟨g,0,none⟩) 7 7) (φ :=fun g x=>Ze x g 9 (wOps.map Value.string).toArray) rfl rfl rfl hst (fun y hy=>by kernel_rfl) (fun y hy=>(rz_ops y).mono fun e w2 ⟨g,he,hg,hb⟩=>⟨g,he,hg,hb⟩) (fun g x y h e=>Ze.below h e (Ze.inside h)) (fun ga=>?_));simp only[Qy,Qx];refine AB.tk 12 (Ω (some ⟨ga,op,none⟩)) rfl rfl (by kernel_rfl) (fun _ _ _ h=>h) (hst.and fun x y h e=>Ze.below h e (Ze.inside h)) (Zn rfl (fun y hy=>by go_simp)) ?_;simp only[Qy,Qx];refine AB.tk 13 (Ψ (wd wOp (op:Int))) rfl rfl (by kernel_rfl) (fun _ _ _ h=>h) (hst.and fun x y h e=>Ze.below h e (Ze.inside h)) (Zn rfl (fun y hy=>by have c0:=Wi (L:=wOp) (hy.2) ho1 ho6;go_simp)) ?_;simp only[Qy,Qx];refine AB.tk 14 (Ψ (kIf++kSp++E1++kSp++wd wOp (op:Int))) rfl rfl (by kernel_rfl) (fun _ _ _ h=>h) (hst.and fun x y h e=>Ze.below h e (Ze.inside h)) (Yi rfl rfl rfl rfl (by(try simp only[Δ]);have z1:=Yr (L:=wOp) (by decide) (op:Int);have z4:kSp.size=1:=rfl;have z5:kIf.size=2:=rfl;omega)) ?_;simp only[Qy,Qx];refine AB.tk 15 (Ψ (kIf++kSp++E1++kSp++wd wOp (op:Int)++kSp)) rfl rfl (by kernel_rfl) (fun _ _ _ h=>h) (hst.and fun x y h e=>Ze.below h e (Ze.inside h)) (Yi rfl rfl rfl rfl (by(try simp only[Δ]);have z1:=Yr (L:=wOp) (by decide) (op:Int);have z4:kSp.size=1:=rfl;have z5:kIf.size=2:=rfl;omega)) ?_;simp only[Qy,Qx];refine AB.tk 19 (Ψ E2) rfl rfl (by kernel_rfl) (fun _ _ _ h=>h) (hst.and fun x y h e=>Ze.below h e (Ze.inside h)) (Wx.call rfl (fun w=>by kernel_rfl) (fun y hy=>H2.out y (Env.below hy.1))) ?_;simp only[Qy,Qx];refine AB.tk 20 (Ψ (kIf++kSp++E1++kSp++wd wOp (op:Int)++kSp++E2)) rfl rfl (by kernel_rfl) (fun _ _ _ h=>h) (hst.and fun x y h e=>Ze.below h e (Ze.inside h)) (Yi rfl rfl rfl rfl (by(try simp only[Δ]);have z1:=Yr (L:=wOp) (by decide) (op:Int);have z4:kSp.size=1:=rfl;have z5:kIf.size=2:=rfl;omega)) ?_;simp only[Qy,Qx];refine AB.tk 21 (Ψ (kIf++kSp++E1++kSp++wd wOp (op:Int)++kSp++E2++kSp)) rfl rfl (by kernel_rfl) (fun _ _ _ h=>h) (hst.and fun x y h e=>Ze.below h e (Ze.inside h)) (Yi rfl rfl rfl rfl (by(try simp only[Δ]);have z1:=Yr (L:=wOp) (by decide) (op:Int);have z4:kSp.size=1:=rfl;have z5:kIf.size=2:=rfl;omega)) ?_;simp only[Qy,Qx];refine AB.tk 24 (Ψ B) rfl rfl (by kernel_rfl) (fun _ _ _ h=>h) (hst.and fun x y h e=>Ze.below h e (Ze.inside h)) (Wx.call rfl (fun w=>by kernel_rfl) (fun y hy=>HB.out y (Env.below hy.1))) ?_;simp only[Qy,Qx];refine AB.tk 25 (Ψ (kIf++kSp++E1++kSp++wd wOp (op:Int)++kSp++E2++kSp++B)) rfl rfl (by kernel_rfl) (fun _ _ _ h=>h) (hst.and fun x y h e=>Ze.below h e (Ze.inside h)) (Yi rfl rfl rfl rfl (by(try simp only[Δ]);have z1:=Yr (L:=wOp) (by decide) (op:Int);have z4:kSp.size=1:=rfl;have z5:kIf.size=2:=rfl;omega)) ?_;simp only[Qy,Qx];refine AB.tk 26 (Ψ (kIf++kSp++E1++kSp++wd wOp (op:Int)++kSp++E2++kSp++B)) rfl rfl (by kernel_rfl) (fun _ _ _ h=>h) (hst.and fun x y h e=>Ze.below h e (Ze.inside h)) (Zn rfl (fun y hy=>by go_simp)) ?_;simp only[Qy,Qx];refine AB.done (by kernel_rfl) (fun wn hS=>?_);have T:=Hh hS.1;clear hS;have z9:=Yr (L:=wOp) (by decide) (op:Int);obtain⟨pp,hpp⟩:∃ x,x=(kIf++kSp++E1++kSp++wd wOp (op:Int)++kSp++E2++kSp++B:ByteArray):=⟨_,rfl⟩
 have zP:pp.size≤40000000000:=by { rw[hpp];simp only[Δ];have z4:kSp.size=1:=rfl;have z5:kIf.size=2:=rfl;omega }
 rw[←hpp];have HPP:=Hh hpp;clear hpp;have c52:=(T.out.get 0 rfl).nthQ 52 HA.out.c52;go_wp2
 go_ret;exact⟨by rw[HPP.out];rfl,T.out.below⟩
theorem rz_act10e(w:World)(ys sv nv cl cr:List Value)(op:Nat)(ho1:1≤op)(ho6:op≤6)(sd how tk tl:Int)(nm:ByteArray)(U V:Option Addr)(un uc en vc:Nat)(hen:0<en)(lcl:cl.length=12)(lcr:cr.length=12)(ha:Zcs ys sv nv (Zfb (op:Int) cl cr) 10 sd tk tl how nm (Λ U un uc) (Λ V en vc))
  (E1 E2 B C:ByteArray)(z1:E1.size≤10000000000)(z2:E2.size≤10000000000)(zB:B.size≤10000000000)(zC:C.size≤10000000000)(h1:RzC 116 w (.agg cl.toArray) E1)(h2:RzC 116 w (.agg cr.toArray) E2)(hB:RzC 62 w (Λ U un uc) B)(hC:RzC 62 w (Λ V en vc) C) :
  Calls Φ 89 #[.agg ys.toArray] w fun e w'=>e=η (Ψ (kIf++kSp++E1++kSp++wd wOp (op:Int)++kSp++E2++kSp++B++kEl++C))∧Below w.heap.size w w':=by
 have T:=Hh (Env.start w);have HA:=Hh ha;have HL:=Hh (ζ lcl lcr);have H1:=Hh h1;have H2:=Hh h2;have HB:=Hh hB;have i1:(0:Int)≤(op:Int):=by omega
 have i2:(op:Int)<7:=by omega
 have HC:=Hh hC;have i3:(0:Int)<(en:Int):=by omega
 clear hC;clear ha lcl lcr h1 h2 hB;go_enter Tryz.func89,Tryz.ntmps89;go_upto_region 4 with(first
 |((with_reducible refine Zd 1 ?_);refine Zk T.out 58 _ ys rfl rfl rfl ?_;intro wn g0 tn;have T:=Hh tn;clear tn;have c0:=(T.out.get 0 rfl).nthQ 0 HA.out.c0)
 |(go_at_call 115;refine(Zas _).mono ?_;rintro e wn ⟨gw,rfl,hg,bn⟩;have T:=Hh (T.out.call bn);have cg:wn.cell? ⟨gw,10,none⟩=some (Ψ ⟨#[105,102]⟩):=Wi (L:=Xr) (k:=10) hg (by decide) (by decide);clear bn hg;have c0:=(T.out.get 0 rfl).nthQ 0 HA.out.c0))
 clear c0 cg;refine Xg (fun x=>Env w [(g0,58,ys)] [] [] x) (by kernel_rfl) T.out.drew ?_;have hst:Zdp (fun x=>Env w [(g0,58,ys)] [] [] x):=fun x y h e=>Env.call h e
 refine AB.tk 0 (Ψ kIf) rfl rfl (by kernel_rfl) (fun _ _ _ h=>h) hst (Vn rfl rfl rfl) ?_;simp only[Qy,Qx];refine AB.tk 1 (Ψ (kIf++kSp)) rfl rfl (by kernel_rfl) (fun _ _ _ h=>h) hst (Yi rfl rfl rfl rfl (by(try simp only[Δ]);have z1:=Yr (L:=wOp) (by decide) (op:Int);have z4:kSp.size=1:=rfl;have z5:kIf.size=2:=rfl;omega)) ?_;simp only[Qy,Qx];refine AB.tk 2 (Ω (some ⟨g0,26,none⟩)) rfl rfl (by kernel_rfl) (fun _ _ _ h=>h) hst (Zn rfl (fun y hy=>by go_simp)) ?_;simp only[Qy,Qx];refine AB.tk 3 (Ω (some ⟨g0,27,none⟩)) rfl rfl (by kernel_rfl) (fun _ _ _ h=>h) hst (Zn rfl (fun y hy=>by go_simp)) ?_;simp only[Qy,Qx];refine AB.tk 4 (.agg cl.toArray) rfl rfl (by kernel_rfl) (fun _ _ _ h=>h) hst (YieldsIf.gives (Zdt (k:=27) rfl rfl rfl (fun y hy=>(Ziw (HA.out.rc _ _ _ (Env.get hy 0 rfl)) HL.out.1).2.1) Xm (by rw[HL.out.1];exact Yz))) ?_;simp only[Qy,Qx];refine AB.tk 9 (Ω (some ⟨g0,26,none⟩)) rfl rfl (by kernel_rfl) (fun _ _ _ h=>h) hst (Zn rfl (fun y hy=>by go_simp)) ?_;simp only[Qy,Qx];refine AB.tk 10 (Ω (some ⟨g0,26,none⟩)) rfl rfl (by kernel_rfl) (fun _ _ _ h=>h) hst (Zn rfl (fun y hy=>by go_simp)) ?_;simp only[Qy,Qx];refine AB.tk 11 (I J (op:Int)) rfl rfl (by kernel_rfl) (fun _ _ _ h=>h) hst (Zn rfl (fun y hy=>by have c0:=(Ziw (HA.out.rc _ _ _ (Env.get hy 0 rfl)) HL.out.1).1;go_simp)) ?_;simp only[Qy,Qx];refine AB.tk 16 (Ω (some ⟨g0,26,none⟩)) rfl rfl (by kernel_rfl) (fun _ _ _ h=>h) hst (Zn rfl (fun y hy=>by go_simp)) ?_;simp only[Qy,Qx];refine AB.tk 17 (Ω (some ⟨g0,39,none⟩)) rfl rfl (by kernel_rfl) (fun _ _ _ h=>h) hst (Zn rfl (fun y hy=>by go_simp)) ?_;simp only[Qy,Qx];refine AB.tk 18 (.agg cr.toArray) rfl rfl (by kernel_rfl) (fun _ _ _ h=>h) hst (YieldsIf.gives (Zdt (k:=39) rfl rfl rfl (fun y hy=>(Ziw (HA.out.rc _ _ _ (Env.get hy 0 rfl)) HL.out.1).2.2) Xm (by rw[HL.out.2];exact Yz))) ?_;simp only[Qy,Qx];refine AB.tk 22 (Ω (some ⟨g0,51,none⟩)) rfl rfl (by kernel_rfl) (fun _ _ _ h=>h) hst (Zn rfl (fun y hy=>by go_simp)) ?_;simp only[Qy,Qx];refine AB.tk 23 (Λ U un uc) rfl rfl (by kernel_rfl) (fun _ _ _ h=>h) hst (Zn rfl (fun y hy=>by have c0:=Ze.nthQ (Env.get hy 0 rfl) 51 HA.out.c51;go_simp)) ?_;simp only[Qy,Qx];refine AB.tk 5 (Ψ E1) rfl rfl (by kernel_rfl) (fun _ _ _ h=>h) hst (Wx.call rfl (fun w=>by kernel_rfl) (fun y hy=>H1.out y (Env.below hy))) ?_;simp only[Qy,Qx];refine AB.tk 6 (Ψ (kIf++kSp++E1)) rfl rfl (by kernel_rfl) (fun _ _ _ h=>h) hst (Yi rfl rfl rfl rfl (by(try simp only[Δ]);have z1:=Yr (L:=wOp) (by decide) (op:Int);have z4:kSp.size=1:=rfl;have z5:kIf.size=2:=rfl;omega)) ?_;simp only[Qy,Qx];refine AB.tk 7 (Ψ (kIf++kSp++E1++kSp)) rfl rfl (by kernel_rfl) (fun _ _ _ h=>h) hst (Yi rfl rfl rfl rfl (by(try simp only[Δ]);have z1:=Yr (L:=wOp) (by decide) (op:Int);have z4:kSp.size=1:=rfl;have z5:kIf.size=2:=rfl;omega)) ?_;simp only[Qy,Qx];refine AB.one (i:=8) (by kernel_rfl) (Zeg.some (val:=fun g=>Λ (some ⟨g,0,none⟩) 7 7) (φ :=fun g x=>Ze x g 9 (wOps.map Value.string).toArray) rfl rfl rfl hst (fun y hy=>by kernel_rfl) (fun y hy=>(rz_ops y).mono fun e w2 ⟨g,he,hg,hb⟩=>⟨g,he,hg,hb⟩) (fun g x y h e=>Ze.below h e (Ze.inside h)) (fun ga=>?_));simp only[Qy,Qx];refine AB.tk 12 (Ω (some ⟨ga,op,none⟩)) rfl rfl (by kernel_rfl) (fun _ _ _ h=>h) (hst.and fun x y h e=>Ze.below h e (Ze.inside h)) (Zn rfl (fun y hy=>by go_simp)) ?_;simp only[Qy,Qx];refine AB.tk 13 (Ψ (wd wOp (op:Int))) rfl rfl (by kernel_rfl) (fun _ _ _ h=>h) (hst.and fun x y h e=>Ze.below h e (Ze.inside h)) (Zn rfl (fun y hy=>by have c0:=Wi (L:=wOp) (hy.2) ho1 ho6;go_simp)) ?_;simp only[Qy,Qx];refine AB.tk 14 (Ψ (kIf++kSp++E1++kSp++wd wOp (op:Int))) rfl rfl (by kernel_rfl) (fun _ _ _ h=>h) (hst.and fun x y h e=>Ze.below h e (Ze.inside h)) (Yi rfl rfl rfl rfl (by(try simp only[Δ]);have z1:=Yr (L:=wOp) (by decide) (op:Int);have z4:kSp.size=1:=rfl;have z5:kIf.size=2:=rfl;omega)) ?_;simp only[Qy,Qx];refine AB.tk 15 (Ψ (kIf++kSp++E1++kSp++wd wOp (op:Int)++kSp)) rfl rfl (by kernel_rfl) (fun _ _ _ h=>h) (hst.and fun x y h e=>Ze.below h e (Ze.inside h)) (Yi rfl rfl rfl rfl (by(try simp only[Δ]);have z1:=Yr (L:=wOp) (by decide) (op:Int);have z4:kSp.size=1:=rfl;have z5:kIf.size=2:=rfl;omega)) ?_;simp only[Qy,Qx];refine AB.tk 19 (Ψ E2) rfl rfl (by kernel_rfl) (fun _ _ _ h=>h) (hst.and fun x y h e=>Ze.below h e (Ze.inside h)) (Wx.call rfl (fun w=>by kernel_rfl) (fun y hy=>H2.out y (Env.below hy.1))) ?_;simp only[Qy,Qx];refine AB.tk 20 (Ψ (kIf++kSp++E1++kSp++wd wOp (op:Int)++kSp++E2)) rfl rfl (by kernel_rfl) (fun _ _ _ h=>h) (hst.and fun x y h e=>Ze.below h e (Ze.inside h)) (Yi rfl rfl rfl rfl (by(try simp only[Δ]);have z1:=Yr (L:=wOp) (by decide) (op:Int);have z4:kSp.size=1:=rfl;have z5:kIf.size=2:=rfl;omega)) ?_;simp only[Qy,Qx];refine AB.tk 21 (Ψ (kIf++kSp++E1++kSp++wd wOp (op:Int)++kSp++E2++kSp)) rfl rfl (by kernel_rfl) (fun _ _ _ h=>h) (hst.and fun x y h e=>Ze.below h e (Ze.inside h)) (Yi rfl rfl rfl rfl (by(try simp only[Δ]);have z1:=Yr (L:=wOp) (by decide) (op:Int);have z4:kSp.size=1:=rfl;have z5:kIf.size=2:=rfl;omega)) ?_;simp only[Qy,Qx];refine AB.tk 24 (Ψ B) rfl rfl (by kernel_rfl) (fun _ _ _ h=>h) (hst.and fun x y h e=>Ze.below h e (Ze.inside h)) (Wx.call rfl (fun w=>by kernel_rfl) (fun y hy=>HB.out y (Env.below hy.1))) ?_;simp only[Qy,Qx];refine AB.tk 25 (Ψ (kIf++kSp++E1++kSp++wd wOp (op:Int)++kSp++E2++kSp++B)) rfl rfl (by kernel_rfl) (fun _ _ _ h=>h) (hst.and fun x y h e=>Ze.below h e (Ze.inside h)) (Yi rfl rfl rfl rfl (by(try simp only[Δ]);have z1:=Yr (L:=wOp) (by decide) (op:Int);have z4:kSp.size=1:=rfl;have z5:kIf.size=2:=rfl;omega)) ?_;simp only[Qy,Qx];refine AB.tk 26 (Ψ (kIf++kSp++E1++kSp++wd wOp (op:Int)++kSp++E2++kSp++B)) rfl rfl (by kernel_rfl) (fun _ _ _ h=>h) (hst.and fun x y h e=>Ze.below h e (Ze.inside h)) (Zn rfl (fun y hy=>by go_simp)) ?_;simp only[Qy,Qx];refine AB.done (by kernel_rfl) (fun wn hS=>?_);have T:=Hh hS.1;clear hS;have z9:=Yr (L:=wOp) (by decide) (op:Int);obtain⟨pp,hpp⟩:∃ x,x=(kIf++kSp++E1++kSp++wd wOp (op:Int)++kSp++E2++kSp++B:ByteArray):=⟨_,rfl⟩
 have zP:pp.size≤40000000000:=by { rw[hpp];simp only[Δ];have z4:kSp.size=1:=rfl;have z5:kIf.size=2:=rfl;omega }
 rw[←hpp];have HPP:=Hh hpp;clear hpp;have c52:=(T.out.get 0 rfl).nthQ 52 HA.out.c52;go_wp2_with(go_at_call 62;refine(HC.out _ T.out.below).mono ?_;rintro e wn ⟨rfl,bn⟩;have T:=Hh (T.out.call bn);clear bn)
 go_ret;exact⟨by rw[HPP.out];rfl,T.out.below⟩
theorem RzC.at_{f:Nat}{w y:World}{v:Value}{S:ByteArray}(h:RzC f w v S)(b:Below w.heap.size w y):RzC f y v S:=fun z c=>h z (b.trans (c.mono b.size))
def RzBlk(w0:World)(N:Nat→Prop)(l:Acs):Prop:=∀ v,Zt N w0 (.row l.len l.ds .nil) [v]→(Jg l).size≤10000000000→RzC 62 w0 v (Jg l)
theorem act_ge(h:AH)(T E:ByteArray)(no:Bool){d:Nat}(hv:Zpw d h∨VEach h∨Zgj d h)(hb:(Zdz h T E no).size≤10000000000) :
  (h.kind=10→(Zif h.cl).size≤10000000000∧(Zif h.cr).size≤10000000000∧T.size≤10000000000∧(no=false→E.size≤10000000000))∧(h.kind=11→(Zft h.sel).size≤10000000000∧T.size≤10000000000):=by
 refine⟨fun hk=>?_,fun hk=>?_⟩
 ·unfold Zdz rzCd at hb
  rw[if_pos hk]at hb;cases no
  ·simp only[Bool.false_eq_true,if_false,Δ]at hb
   exact⟨by omega,by omega,by omega,fun _=>by omega⟩
  ·simp only[if_true,Δ]at hb
   exact⟨by omega,by omega,by omega,fun h=>by cases h⟩
 ·unfold Zdz Zcu at hb
  rw[if_neg (by omega),if_pos hk,if_pos (by omega)]at hb;simp only[Δ]at hb;exact⟨by omega,by omega⟩
theorem rz_act(w0:World)(N:Nat→Prop)(d:Nat)(h:AH)(t e:Acs)(hv:Zbb d (.cons h t e .nil))(ht:RzBlk w0 N t)(he:RzBlk w0 N e)(ys:List Value)(hd:Zt N w0 (h.dsr t.len t.ds e.len e.ds) ys)
  (hb:(Zdz h (Jg t) (Jg e) e.isNil).size≤10000000000):RzC 89 w0 (.agg ys.toArray) (Zdz h (Jg t) (Jg e) e.isNil):=by
 intro y by_;have hge:=act_ge h (Jg t) (Jg e) e.isNil (hv.parts).1 hb;obtain⟨sel,num,pl,pr,thn,els,rfl,h1,h2,h3,h4,h5,h6⟩:=act_of hd;have e1:sel.length=6:=by rw[h1.len,Se.ds_len]
 have e2:num.length=12:=by rw[h2.len,Ex.ds_len]
 have e3:pl.length=12:=by rw[h3.len,Ex.ds_len]
 have e4:pr.length=12:=by rw[h4.len,Ex.ds_len]
 have ha:=actR (k:=h.kind) (l:=h.line) (c:=h.col) (sd:=h.side) (tk:=h.tk) (tl:=h.tl) (how:=h.how) (cop:=h.cop) (nm:=h.name) (thn:=thn) (els:=els) e1 e2 e3 e4;have hT:=fun z=>(ht thn h5 z).at_ by_
 have hE:=fun z=>(he els h6 z).at_ by_
 have hS:=fun(q:VSe h.sel)(z:(Zft h.sel).size≤10000000000)=>(fun x b=>rz_sel x N h.sel q sel ((h1.below by_).below b) z:RzC 118 y (.agg sel.toArray) (Zft h.sel))
 have hX:=fun(q:VEx h.num)(z:(Zif h.num).size≤10000000000)=>(fun x b=>rz_ex N h.num q x num ((h2.below by_).below b) z:RzC 116 y (.agg num.toArray) (Zif h.num))
 have hLn:=fun(q:VTo h.tk h.tl)=>(fun x b=>Zpm q x:RzC 120 y (.agg #[I J h.tk,I J h.tl]) (Zon h.tk h.tl))
 have hzL:VTo h.tk h.tl→(Zon h.tk h.tl).size≤1000:=fun q=>by have:=rzLn_small h.tk h.tl (by rcases q with h | h<;>omega) (by rcases q with h | h<;>omega);omega
 obtain⟨U,uc,_,eu,_⟩:=h5.inRow;obtain⟨V,vc,_,ev,_⟩:=h6.inRow;generalize Xa h.kind h.line h.col sel num h.side h.tk h.tl h.how h.name h.cop pl pr thn els=ys at *;rcases hv.1 with⟨_,vc2,_⟩ | ⟨_,vc2,_,_⟩ | ⟨vp,_,_⟩
 ·have h10:=vc2.kind
  obtain⟨_,vo,vl,vr⟩:=vc2;obtain⟨z1,z2,z3,z4⟩:=hge.1 h10;have hL:RzC 116 y (.agg pl.toArray) (Zif h.cl):=fun x b=>rz_ex N h.cl vl.1 x pl ((h3.below by_).below b) z1
  have hR:RzC 116 y (.agg pr.toArray) (Zif h.cr):=fun x b=>rz_ex N h.cr vr.1 x pr ((h4.below by_).below b) z2
  obtain⟨op,hop⟩:∃ j:Nat,h.cop=j:=⟨h.cop.toNat,by omega⟩
  rw[h10,hop]at ha;subst eu ev;cases e with
  |nil=>
   have e5:Zdz h (Jg t) (Jg .nil) Acs.nil.isNil=rzCd h (Jg t):=by unfold Zdz;rw[if_pos h10];rfl
   rw[e5];unfold rzCd;rw[hop];exact rz_act10n y ys sel num pl pr op (by omega) (by omega) h.side h.how h.tk h.tl h.name U V t.len uc vc e3 e4 ha _ _ _ z1 z2 z3 hL hR (hT z3)
  |cons eh et ee er=>
   have e5:Zdz h (Jg t) (Jg (.cons eh et ee er)) (Acs.cons eh et ee er).isNil=rzCd h (Jg t)++kEl++Jg (.cons eh et ee er):=by unfold Zdz;rw[if_pos h10];rfl
   rw[e5];unfold rzCd;rw[hop];exact rz_act10e y ys sel num pl pr op (by omega) (by omega) h.side h.how h.tk h.tl h.name U V t.len uc _ vc (by show 0<er.len+1;omega) e3 e4 ha _ _ _ _ z1 z2 z3 (z4 rfl) hL hR (hT z3) (hE (z4 rfl))
 ·have h11:=vc2.kind
  obtain⟨z1,z2⟩:=hge.2 h11;have e5:Zdz h (Jg t) (Jg e) e.isNil=Zcu h (wd Xr h.kind)++⟨#[32]⟩++Jg t:=by unfold Zdz;rw[if_neg (by omega),if_pos h11]
  rw[e5];unfold Zcu;rw[if_pos (by omega),h11];rw[h11]at ha;exact rz_act11 y ys sel num _ h.side h.how h.tk h.tl h.name thn els ha _ z1 (hS vc2.2 z1) _ z2 (hT z2)
 ·have hkp:=vp.kind.2.2
  have e5:Zdz h (Jg t) (Jg e) e.isNil=Zdv h:=by unfold Zdz;rw[if_neg hkp.1,if_neg hkp.2]
  rw[e5]at hb ⊢;clear hge e5 hT hE ht he hd h1 h2 h3 h4 h5 h6 hv hkp;obtain⟨k,ln,cl,hsel,hnum,sd,tk,tl,how,nm,cop,c1,c2⟩:=h;dsimp only at *;rcases vp with⟨hk,_,v1,v2,_⟩ | ⟨hk,_,v1⟩ | ⟨hk,_,v1,v2⟩ | ⟨hk,_,v1,v2,v3,v4,_⟩ | ⟨hk,_,v1,v2,_⟩ | ⟨hk,_,v1,v2⟩ | ⟨hk,_,v1,v2⟩
  ·dsimp only at hk v1 v2
   rcases hk with rfl | rfl | rfl
   ·exact rz_act1 y ys sel num _ sd how tk tl nm thn els ha _ (by { have z:=hb;unfold Zdv Zep Zer Zeo Zcu Zeq at z;simp[Δ]at z;(try dsimp only);omega }) (hS v1 (by { have z:=hb;unfold Zdv Zep Zer Zeo Zcu Zeq at z;simp[Δ]at z;(try dsimp only);omega })) _ (by { have z:=hb;unfold Zdv Zep Zer Zeo Zcu Zeq at z;simp[Δ]at z;(try dsimp only);omega }) (hX v2 (by { have z:=hb;unfold Zdv Zep Zer Zeo Zcu Zeq at z;simp[Δ]at z;(try dsimp only);omega }))
   ·exact rz_act2 y ys sel num _ sd how tk tl nm thn els ha _ (by { have z:=hb;unfold Zdv Zep Zer Zeo Zcu Zeq at z;simp[Δ]at z;(try dsimp only);omega }) (hS v1 (by { have z:=hb;unfold Zdv Zep Zer Zeo Zcu Zeq at z;simp[Δ]at z;(try dsimp only);omega })) _ (by { have z:=hb;unfold Zdv Zep Zer Zeo Zcu Zeq at z;simp[Δ]at z;(try dsimp only);omega }) (hX v2 (by { have z:=hb;unfold Zdv Zep Zer Zeo Zcu Zeq at z;simp[Δ]at z;(try dsimp only);omega }))
   ·exact rz_act12 y ys sel num _ sd how tk tl nm thn els ha _ (by { have z:=hb;unfold Zdv Zep Zer Zeo Zcu Zeq at z;simp[Δ]at z;(try dsimp only);omega }) (hS v1 (by { have z:=hb;unfold Zdv Zep Zer Zeo Zcu Zeq at z;simp[Δ]at z;(try dsimp only);omega })) _ (by { have z:=hb;unfold Zdv Zep Zer Zeo Zcu Zeq at z;simp[Δ]at z;(try dsimp only);omega }) (hX v2 (by { have z:=hb;unfold Zdv Zep Zer Zeo Zcu Zeq at z;simp[Δ]at z;(try dsimp only);omega }))
  ·dsimp only at hk v1
   rcases hk with rfl | rfl | rfl
   ·exact rz_act3 y ys sel num _ sd how tk tl nm thn els ha _ (by { have z:=hb;unfold Zdv Zep Zer Zeo Zcu Zeq at z;simp[Δ]at z;(try dsimp only);omega }) (hS v1 (by { have z:=hb;unfold Zdv Zep Zer Zeo Zcu Zeq at z;simp[Δ]at z;(try dsimp only);omega }))
   ·exact rz_act5 y ys sel num _ sd how tk tl nm thn els ha _ (by { have z:=hb;unfold Zdv Zep Zer Zeo Zcu Zeq at z;simp[Δ]at z;(try dsimp only);omega }) (hS v1 (by { have z:=hb;unfold Zdv Zep Zer Zeo Zcu Zeq at z;simp[Δ]at z;(try dsimp only);omega }))
   ·exact rz_act14 y ys sel num _ sd how tk tl nm thn els ha _ (by { have z:=hb;unfold Zdv Zep Zer Zeo Zcu Zeq at z;simp[Δ]at z;(try dsimp only);omega }) (hS v1 (by { have z:=hb;unfold Zdv Zep Zer Zeo Zcu Zeq at z;simp[Δ]at z;(try dsimp only);omega }))
  ·dsimp only at hk v1 v2
   subst hk;exact rz_act4 y ys sel num _ sd how tk tl nm thn els ha _ (by { have z:=hb;unfold Zdv Zep Zer Zeo Zcu Zeq at z;simp[Δ]at z;(try dsimp only);omega }) (hS v1 (by { have z:=hb;unfold Zdv Zep Zer Zeo Zcu Zeq at z;simp[Δ]at z;(try dsimp only);omega })) _ (hzL v2) (hLn v2)
  ·dsimp only at hk v1 v2 v3 v4
   subst hk;obtain⟨s,rfl⟩:∃ j:Nat,sd=j:=⟨sd.toNat,by omega⟩
   exact rz_act6 y ys sel num _ s (by omega) (by omega) how tk tl nm thn els (by { have z:=hb;unfold Zdv Zep Zer Zeo Zcu Zeq at z;simp[Δ]at z;(try dsimp only);omega }) ha _ (hzL v3) (hLn v3) _ (by { have z:=hb;unfold Zdv Zep Zer Zeo Zcu Zeq at z;simp[Δ]at z;(try dsimp only);omega }) (hX v4 (by { have z:=hb;unfold Zdv Zep Zer Zeo Zcu Zeq at z;simp[Δ]at z;(try dsimp only);omega }))
  ·dsimp only at hk v1 v2
   obtain⟨s,rfl⟩:∃ j:Nat,sd=j:=⟨sd.toNat,by omega⟩
   rcases hk with rfl | rfl
   ·exact rz_act7 y ys sel num _ s (by omega) (by omega) how tk tl nm thn els ha _ (by { have z:=hb;unfold Zdv Zep Zer Zeo Zcu Zeq at z;simp[Δ]at z;(try dsimp only);omega }) (hX v2 (by { have z:=hb;unfold Zdv Zep Zer Zeo Zcu Zeq at z;simp[Δ]at z;(try dsimp only);omega }))
   ·exact rz_act9 y ys sel num _ s (by omega) (by omega) how tk tl nm thn els ha _ (by { have z:=hb;unfold Zdv Zep Zer Zeo Zcu Zeq at z;simp[Δ]at z;(try dsimp only);omega }) (hX v2 (by { have z:=hb;unfold Zdv Zep Zer Zeo Zcu Zeq at z;simp[Δ]at z;(try dsimp only);omega }))
  ·dsimp only at hk v1 v2
   subst hk;obtain⟨s,rfl⟩:∃ j:Nat,sd=j:=⟨sd.toNat,by omega⟩
   obtain⟨hw,rfl⟩:∃ j:Nat,how=j:=⟨how.toNat,by omega⟩
   exact rz_act8 y ys sel num _ s (by omega) (by omega) hw (by omega) (by omega) tk tl nm thn els ha
  ·dsimp only at hk v1 v2
   obtain⟨s,rfl⟩:∃ j:Nat,sd=j:=⟨sd.toNat,by omega⟩
   rcases hk with rfl | rfl
   ·exact rz_act13 y ys sel num _ s (by omega) (by omega) how tk tl nm thn els ha _ (hzL v2) (hLn v2)
   ·exact rz_act15 y ys sel num _ s (by omega) (by omega) how tk tl nm thn els ha _ (hzL v2) (hLn v2)
theorem Zkr:∀(x:Acs)(s:ByteArray),s.size≤(Zes x s).size
 |.nil,s=>Θ _
 |.cons h t e r,s=>by
  unfold Zes;refine Ξ ?_ (Zkr r _);simp only[Δ];omega
theorem rz_block_walk(w0:World)(N:Nat→Prop)(d:Nat)(l:Acs)(hvl:Zbb d l)(hall:∀ k u,l.at? k=some u→RzBlk w0 N u.2.1∧RzBlk w0 N u.2.2):RzBlk w0 N l:=by
 intro v hv hb w by_;have hX:=fun k u (hu:l.at? k=some u) ys hy hz=>(rz_act w0 N d u.1 u.2.1 u.2.2 (Acs.at_valid d l k u hvl hu) (hall k u hu).1 (hall k u hu).2 ys hy hz)
 obtain⟨B,bc,xs,rfl,hn,hw,hd⟩:=hv.inRow;clear hv;obtain⟨n,hn0⟩:∃ n,n=l.len:=⟨_,rfl⟩
 rw[←hn0]at hn ⊢;unfold Jg at hb ⊢;obtain⟨F,hF⟩:∃ s,s=Zes l ⟨#[123,32]⟩:=⟨_,rfl⟩
 rw[←hF]at hb ⊢;simp only[Δ]at hb;have zF:F.size≤10000000000:=by omega
 have HN:=Hh hn0;have HW:=Hh (ζ hw hd);have HX:=Hh hX;have HF:=Hh hF;have HB:=Hh by_;clear hw hd hn0 hall hF hvl hX hb by_;have l63:(n:Int)≤9223372036854775807:=by omega
 have T:=Hh (Env.start w);go_enter Tryz.func62,Tryz.ntmps62;go_wp2_with fail
 go_loopw [3,4] (fun t i wr=>∃(m:Nat)(sm:ByteArray),i=I J m∧m≤n∧t=Ψ sm∧Env w [] [] [] wr∧Hid (F=Zes (l.dropQ m) sm)) (fun _ i _=>n - (intOf i).toNat)
 case atStart=>exact⟨0,_,by go_num,Nat.zero_le _,rfl,T.out,Hh (by cases l<;>exact HF.out)⟩
 case round=>
  obtain⟨m,sm,rfl,hm,rfl,hT,hz⟩:=hrel;have T:=Hh hT;clear hT;have zs:sm.size≤10000000000:=by have:=Zkr (l.dropQ m) sm;rw[←hz.out]at this;omega
  by_cases hlt:m<n
  · obtain⟨u,hu⟩:=Acs.at_some l m (by rw[←HN.out];exact hlt)
    obtain⟨g,ys,rfl,hg,hR,hy⟩:=act_at HW.out.1 HW.out.2 hu;have hyl:ys.length=53:=by rw[hy.len,AH.dsr_len]
    have hz2:=hz.out;rw[Acs.dropQ_at l m u hu]at hz2;have hz2:F=Zes (l.dropQ (m+1)) (sm++Zdz u.1 (Jg u.2.1) (Jg u.2.2) u.2.2.isNil++⟨#[32]⟩):=hz2;have zA:=Zkr (l.dropQ (m+1)) (sm++Zdz u.1 (Jg u.2.1) (Jg u.2.2) u.2.2.isNil++⟨#[32]⟩);rw[←hz2]at zA;simp only[Δ]at zA;have zK:(Zdz u.1 (Jg u.2.1) (Jg u.2.2) u.2.2.isNil).size≤10000000000:=by omega
    have hx:=HX.out m u hu ys hy zK;clear zA;generalize Zdz u.1 (Jg u.2.1) (Jg u.2.2) u.2.2.isNil=K at *;have P1:=Hh (hx.at_ HB.out);have HZ:=Hh hz2;have HR:Hid (∀ y,Below w.heap.size w y→y.rangeAt g (m*53) ys):=Hh fun y hb=>Zbg hR hg (HB.out.trans (hb.mono HB.out.size))
    have HYL:=Hh hyl;clear hy hR hu hz hz2 hx hyl;have lk:(m:Int)<(n:Int):=by omega
    go_wp2_with(first
 |((with_reducible refine Zd 15 ?_);refine Zr 58 _ g (m*53) (ys) (HR.out _ T.out.below) Znn (by rw[HYL.out];exact Zin) rfl rfl rfl ?_)
 |(go_at_call 89;refine(P1.out _ T.out.below).mono ?_;rintro e wn ⟨rfl,bn⟩;have T:=Hh (T.out.call bn);clear bn))
    go_roundw
    case rel=>exact⟨m+1,_,by go_num,by omega,rfl,T.out,HZ⟩
    case measure=>simp[intOf];omega
  · have hz2:=hz.out
    rw[Acs.dropQ_end l m (by have:=HN.out;omega)]at hz2;have hz3:F=sm:=hz2;subst hz3;clear hz hz2;have lk:¬(m:Int)<(n:Int):=by omega
    go_wp2
    go_ret;exact⟨rfl,T.out.below⟩
theorem rz_block(w0:World)(N:Nat→Prop)(d:Nat)(l:Acs)(hv:Zbb d l):RzBlk w0 N l:=
 rz_block_walk w0 N d l hv fun k u hu=>
  have h:=Acs.at_lt l k u hu;have hvs:=Acs.at_valid d l k u hv hu
  ⟨rz_block w0 N (d+1) u.2.1 hvs.parts.2.1,rz_block w0 N (d+1) u.2.2 hvs.parts.2.2.1⟩
termination_by SizeOf.sizeOf l
decreasing_by
 all_goals first | exact(Acs.at_lt l k u hu).1 | exact(Acs.at_lt l k u hu).2
open Go.ChangeShapes Go.WideShapes Go.ChangeAt Go.RowKit
theorem fold_fill:∀(l:List Value)(k:Nat)(cs:Array Value),cs.size=k+l.length→(l.zipIdx k).foldl (fun cs x=>cs.setIfInBounds (0+x.2) x.1) cs=(cs.toList.take k++l).toArray
 |[],k,cs,h=>by
  rw[List.length_nil,Nat.add_zero]at h;have:cs.toList.take k=cs.toList:=List.take_of_length_le (by rw[Array.length_toList,h];exact Θ k);simp[this]
 |v::l,k,cs,h=>by
  rw[List.length_cons]at h;rw[List.zipIdx_cons,List.foldl_cons];dsimp only;rw[Nat.zero_add,fold_fill l (k+1) (cs.setIfInBounds k v) (by simp;omega)];congr 1
  rw[show v::l=[v]++l from rfl,←List.append_assoc];congr 1
  rw[Array.toList_setIfInBounds];apply List.ext_getElem?;intro i;rw[List.getElem?_take,List.getElem?_append,List.getElem?_take,List.getElem?_set,List.length_take,Array.length_toList];have hm:min k cs.size=k:=by omega
  rw[hm];by_cases h1:i<k
  ·rw[if_pos (by omega),if_neg (by omega),if_pos h1,if_pos h1]
  ·by_cases h2:i=k
   ·subst h2
    rw[if_pos (by omega),if_pos rfl,if_pos (by omega),if_neg (by omega)];simp
   ·rw[if_neg (by omega),if_neg h1]
    simp;omega
theorem built_one{P:Program}{e:TypeId}{vs:List Value}{sz:Nat}{z:Value}{bytes:Nat}(hinfo:(P.info? e).map (fun i=>(i.zero,i.size,i.bytes))=some (some z,sz,bytes))(hl:vs.length=sz)(hp:0<sz)(hs:sz≤1000):P.builtSlice e 1 [(0,.agg vs.toArray)]=some vs.toArray:=by
 obtain⟨i,hi,hz,hsize,hbytes⟩:=info_parts hinfo;unfold Program.builtSlice;rw[hi];dsimp only;rw[hz];dsimp only;rw[hsize,if_neg (by omega)];unfold Instr.fill;dsimp only;have hv:(Value.agg vs.toArray).cells=vs.toArray:=rfl;rw[hv];have hc:((Array.range (1*sz)).map (z.cells[· % z.cells.size]!)).size=0+vs.length:=by simp[hl]
 rw[if_neg (by simp[hl])];unfold Instr.fill;have:=fold_fill vs 0 _ hc;simp only[Nat.zero_mul];rw[show vs.toArray.zipIdx=(vs.zipIdx 0).toArray from by simp];rw[List.foldl_toArray']
 ·rw[this];simp
 ·simp
theorem Zbo{P:Program}{ops:Array Oper}{rest:List Oper}{o:Oper}{a:Act}{w:World}{Q:Exit→Act→World→Prop}(t e:TypeId)(x:Operand)(d:Tmp)(sz bytes:Nat)(z:Value)(vs:List Value)
  (hinfo:(P.info? e).map (fun i=>(i.zero,i.size,i.bytes))=some (some z,sz,bytes))(hl:vs.length=sz)(hp:0<sz)(hs:sz≤1000)(hu:P.underlying t=some (.slice e))
  (hg:o.guard=none)(ho:o.op=.buildSlice t 1 #[(0,x)])(hd:o.dst=some d)(hx:a.eval x=.agg vs.toArray)
  (h:wpList P ops Q rest (a.put (some d) (Λ (some ⟨w.heap.size,0,none⟩) 1 1)) (w.alloc (.cells vs.toArray e))):wpList P ops Q (o::rest) a w:=
 Great.wpList_buildSliceTo hg t e 1 #[(0,x)] ho w.heap.size rfl (some d) hd hu vs.toArray (by simpa[hx]using built_one hinfo hl hp hs) h
section
variable {P:Program} {ops:Array Oper} {rest:List Oper} {o:Oper} {a:Act} {w:World} {Q:Exit→Act→World→Prop}
end
def AO.ds(x:AO):Ds:=x.h.dsr x.thn.len x.thn.ds x.els.len x.els.ds
theorem Zt.slice{N:Nat→Prop}{w:World}{n:Nat}{ds:Ds}{v:Value}(h:Zt N w (.row n ds .nil) [v]):∃ A c,v=Λ A n c:=by
 obtain⟨A,c,xs,t,e,_⟩:=h;injection e with e1;exact⟨A,c,e1⟩
def AH.tail(h:AH)(tn:Nat)(t:Ds)(en:Nat)(e:Ds):Ds:=
 h.sel.ds.app (h.num.ds.app (.int h.side (.int h.tk (.int h.tl (.int h.how (.str h.name (.int h.cop (h.cl.ds.app (h.cr.ds.app (.row tn t (.row en e .nil)))))))))))
theorem Acs.ds_app(y:Acs):∀ x:Acs,(x.app y).ds=x.ds.app y.ds
 |.nil=>rfl
 |.cons h t e r=>by
  show(h.dsr t.len t.ds e.len e.ds).app (r.app y).ds=((h.dsr t.len t.ds e.len e.ds).app r.ds).app y.ds;rw[Acs.ds_app y r,Ds.app_assoc]
structure RowD(w:World)(q c r K:Nat)(L:List TokV)(e:TypeId)(sz:Nat)(st:St)(n:Nat)(ds:Ds)(xs:List Value)(v:Value)(wr:World):Prop where
 row:Zki w q c r K L e sz st n xs v wr
 deep:Zt (fun k=>w.heap.size≤k∧v.ownBlock≠some k) wr ds xs
def Zic(q c:Nat)(wr x:World):Prop:=Zy (fun k=>(k=q∨k=c)∨wr.heap.size≤k) wr x
theorem Zic.start(q c:Nat)(w:World):Zic q c w w:=Zy.refl _ _
theorem Zic.move{q c r K:Nat}{L:List TokV}{st:St}{wr x y:World}(h:Zic q c wr x)(m:Wg x y q c r K L st):Zic q c wr y:=Zy.trans h (m.keeps.mono fun k hk=>.inl hk)
theorem Zic.next{q c:Nat}{wr x y:World}(h:Zic q c wr x)(hb:Below x.heap.size x y):Zic q c wr y:=Zy.trans h (Zy.of_below hb)
theorem Zic.put{q c:Nat}{wr x y:World}(h:Zic q c wr x){g:Nat}{t:TypeId}{vs:List Value}(p:Put x y g t vs)(hg:wr.heap.size≤g):Zic q c wr y:=Zy.trans h (p.keeps.mono fun k hk=>.inr (hk ▸ hg))
theorem Zic.drew{q c:Nat}{wr x:World}(h:Zic q c wr x):Zic q c wr x.drew:=Zy.drew h
theorem RowD.push{w x y:World}{q c r K n sz:Nat}{L:List TokV}{e:TypeId}{st:St}{ds es:Ds}{xs ys:List Value}{v v':Value}(h:RowD w q c r K L e sz st n ds xs v x)(ho:y.ownsRow w.heap.size e sz v' (n+1) (xs++ys))(hg:x.grownBy y v.ownBlock)(hat:v'.ownBlock=v.ownBlock∨v'.ownBlock=some x.heap.size)
  (d:Zt (fun k=>w.heap.size≤k∧v.ownBlock≠some k) x es ys):RowD w q c r K L e sz st (n+1) (ds.app es) (xs++ys) v' y:=by
 have hk:Zy (fun k=>v.ownBlock=some k) x y:=Zy.grown (Zy.refl _ _) hg fun k hk=>hk
 have hs:∀ k,k<x.heap.size→(w.heap.size≤k∧v.ownBlock≠some k)→¬(v.ownBlock=some k)∧(w.heap.size≤k∧v'.ownBlock≠some k):=fun k hk hn=>by
  refine⟨hn.2,hn.1,fun c=>?_⟩;rcases hat with e1 | e1
  ·rw[e1]at c;exact hn.2 c
  ·rw[e1]at c;injection c with c;omega
 exact⟨h.row.push ho hg,Zt.app (d.keeps hk hs) (h.deep.keeps hk hs)⟩
theorem Ze.set3L{w:World}{g:Nat}{t:TypeId}{a b c:Value}{l:List Value}(h:Ze w g t (a::b::c::l).toArray)(x y z:Value) :
  Put w (((w.setCell ⟨g,0,none⟩ x).setCell ⟨g,1,none⟩ y).setCell ⟨g,2,none⟩ z) g t (x::y::z::l):=by
 have h1:=Ze.setCells (g:=g) (t:=t) l [x,y,z] [a,b,c] [] w rfl h;exact⟨h1,Zy.setCells (S:=fun k=>k=g) (g:=g) rfl [x,y,z] 0 (Zy.refl _ w)⟩
theorem und_acts:Tryz.prog.underlying 44=some (.slice 58):=by kernel_rfl
def zact:Value:=.agg #[I J 0,I J 0,I J 0,I J 0,I J 0,I J 0,I J 0,Λ none 0 0,I J 0,I J 0,I J 0,I J 0,I J 0,I J 0,I J 0,Λ none 0 0,I J 0,I J 0,I J 0,I J 0,Λ none 0 0,I J 0,I J 0,I J 0,I J 0,Ψ ⟨#[]⟩,I J 0,I J 0,I J 0,I J 0,I J 0,I J 0,I J 0,Λ none 0 0,I J 0,I J 0,I J 0,I J 0,Λ none 0 0,I J 0,I J 0,I J 0,I J 0,I J 0,I J 0,Λ none 0 0,I J 0,I J 0,I J 0,I J 0,Λ none 0 0,Λ none 0 0,Λ none 0 0]
theorem info_act:(Tryz.prog.info? 58).map (fun i=>(i.zero,i.size,i.bytes))=some (some zact,53,576):=by kernel_rfl
theorem acts_step(nk:Int)(L:List TokV)(m:Nat)(st:St)(h:¬ Zh L Xr st=0):Ww nk L (m+1) st =
  (.cons (Zcg nk L m (AH.zero (Zh L Xr st) (st.tok L).line (st.tok L).col) (Zh L Xr st) (Yd L Xr st)).h
     (Zcg nk L m (AH.zero (Zh L Xr st) (st.tok L).line (st.tok L).col) (Zh L Xr st) (Yd L Xr st)).thn
     (Zcg nk L m (AH.zero (Zh L Xr st) (st.tok L).line (st.tok L).col) (Zh L Xr st) (Yd L Xr st)).els
     (Ww nk L m (Zcg nk L m (AH.zero (Zh L Xr st) (st.tok L).line (st.tok L).col) (Zh L Xr st) (Yd L Xr st)).st).1,
    (Ww nk L m (Zcg nk L m (AH.zero (Zh L Xr st) (st.tok L).line (st.tok L).col) (Zh L Xr st) (Yd L Xr st)).st).2):=by
 rw[Ww,if_neg h]
theorem acts_stop(nk:Int)(L:List TokV)(m:Nat)(st:St)(h:Zh L Xr st=0):Ww nk L (m+1) st=(.nil,st):=by rw[Ww,if_pos h]
def Ru.ds(x:Ru):Ds:=.int x.when_ (.int x.stratum (.int x.line (.int x.col (.row x.acts.len x.acts.ds .nil))))
def Zea:List Ru→Ds
 |[]=>.nil
 |x::r=>x.ds.app (Zea r)
theorem Zmm(x:Ru):∀ l:List Ru,Zea (l++[x])=(Zea l).app x.ds
 |[]=>Ds.app_nil _
 |y::l=>by show y.ds.app (Zea (l++[x]))=(y.ds.app (Zea l)).app x.ds;rw[Zmm x l,Ds.app_assoc]
theorem Zpz:Tryz.prog.underlying 33=some (.slice 46):=by kernel_rfl
theorem Zqo:(Tryz.prog.info? 46).map (fun i=>(i.zero,i.size,i.bytes))=some (some (.agg #[I J 0,I J 0,I J 0,I J 0,Λ none 0 0]),5,56):=by kernel_rfl
theorem row_ru:(Tryz.prog.underlying 46).map TypeDesc.isRow=some true:=by kernel_rfl
theorem Zqb:(Tryz.prog.info? 46).map (·.size)=some 5:=by kernel_rfl
theorem size_rus:(Tryz.prog.info? 33).map (·.size)=some 1:=by kernel_rfl
theorem row_ca:(Tryz.prog.underlying 35).map TypeDesc.isRow=some true:=by kernel_rfl
theorem size_ca:(Tryz.prog.info? 35).map (·.size)=some 6:=by kernel_rfl
theorem rules_step(nk:Int)(L:List TokV)(m:Nat)(st:St)(h:¬ Zh L Yx st=0):Vg nk L (m+1) st =
 (⟨Zh L Yx st,Zoi L (Zh L Yx st) (Yd L Yx st),(st.tok L).line,(st.tok L).col,(Ww nk L m (Yb L Yv (Zeh L (Zh L Yx st) (Yd L Yx st)))).1⟩ ::
    (Vg nk L m (Yb L Xi (Ww nk L m (Yb L Yv (Zeh L (Zh L Yx st) (Yd L Yx st)))).2)).1,
   (Vg nk L m (Yb L Xi (Ww nk L m (Yb L Yv (Zeh L (Zh L Yx st) (Yd L Yx st)))).2)).2):=by rw[Vg,if_neg h]
theorem rules_stop(nk:Int)(L:List TokV)(m:Nat)(st:St)(h:Zh L Yx st=0):Vg nk L (m+1) st=([],st):=by rw[Vg,if_pos h]
def Ca.ds(x:Ca):Ds:=.str x.name (.int x.cost (.int x.power (.int x.line (.int x.col (.row x.rules.length (Zea x.rules) .nil)))))
def Pl.ds(x:Pl):Ds:=.str x.name (.int x.line (.int x.col (.row x.rules.length (Zea x.rules) .nil)))
def Zgl:List Ca→Ds
 |[]=>.nil
 |x::r=>x.ds.app (Zgl r)
def Zhh:List Pl→Ds
 |[]=>.nil
 |x::r=>x.ds.app (Zhh r)
theorem casDs_snoc(x:Ca):∀ l:List Ca,Zgl (l++[x])=(Zgl l).app x.ds
 |[]=>Ds.app_nil _
 |y::l=>by show y.ds.app (Zgl (l++[x]))=(y.ds.app (Zgl l)).app x.ds;rw[casDs_snoc x l,Ds.app_assoc]
theorem plsDs_snoc(x:Pl):∀ l:List Pl,Zhh (l++[x])=(Zhh l).app x.ds
 |[]=>Ds.app_nil _
 |y::l=>by show y.ds.app (Zhh (l++[x]))=(y.ds.app (Zhh l)).app x.ds;rw[plsDs_snoc x l,Ds.app_assoc]
def Fi.ds(x:Fi):Ds:=.row x.cards.length (Zgl x.cards) (.row x.places.length (Zhh x.places) .nil)
theorem und_cas:Tryz.prog.underlying 23=some (.slice 35):=by kernel_rfl
theorem und_pls:Tryz.prog.underlying 24=some (.slice 38):=by kernel_rfl
theorem info_ca:(Tryz.prog.info? 35).map (fun i=>(i.zero,i.size,i.bytes))=some (some (.agg #[Ψ ⟨#[]⟩,I J 0,I J 0,I J 0,I J 0,Λ none 0 0]),6,72):=by kernel_rfl
theorem info_pl:(Tryz.prog.info? 38).map (fun i=>(i.zero,i.size,i.bytes))=some (some (.agg #[Ψ ⟨#[]⟩,I J 0,I J 0,Λ none 0 0]),4,56):=by kernel_rfl
theorem size_cas:(Tryz.prog.info? 23).map (·.size)=some 1:=by kernel_rfl
theorem size_pls:(Tryz.prog.info? 24).map (·.size)=some 1:=by kernel_rfl
theorem Zop:(Tryz.prog.underlying 26).map TypeDesc.isRow=some true:=by kernel_rfl
theorem Zho:(Tryz.prog.info? 26).map (·.size)=some 2:=by kernel_rfl
open Go.Great Go.ChangeShapes Go.WideShapes Go.ChangeAt Go.RowKit
def kRu(r:Ru):List ByteArray:=[wd Yx r.when_]++((if r.when_=5 then [Xf r.stratum]else [])++Zky (Zaz r.acts))
def Znz(l:List Ru):List ByteArray:=[Yv]++(l.flatMap kRu++[Xi])
def kCa(c:Ca):List ByteArray:=[wd Xs 1,qN c.name,Zcn,Xf c.cost,Zcd,Xf c.power]++Znz c.rules
def kPl(p:Pl):List ByteArray:=[wd Xs 2,qN p.name]++Znz p.rules
theorem rus_atQ{N:Nat→Prop}{w:World}:∀{l:List Ru}{xs:List Value},Zt N w (Zea l) xs→∀(k:Nat)(hk:k<l.length),∃ pre ys post,xs=pre++ys++post∧pre.length=k*5∧Zt N w (l[k]'hk).ds ys
 |[],xs,_,k,hk=>by cases hk
 |x::r,xs,h,k,hk=>by
  obtain⟨a,b,rfl,h1,h2⟩:=Zt.split (x:=x.ds) h;cases k with
  |zero=>exact⟨[],a,b,rfl,by simp,h1⟩
  |succ k=>
   obtain⟨pre,ys,post,rfl,hp,hy⟩:=rus_atQ h2 k (by simpa using hk);have hl:a.length=5:=by rw[h1.len];rfl
   exact⟨a++pre,ys,post,by simp,by rw[List.length_append,hp,hl];omega,hy⟩
theorem pRules(w0:World)(N:Nat→Prop)(l:List Ru)(hv:∀ r ∈ l,VRu r)(v:Value)(hd:Zt N w0 (.row l.length (Zea l) .nil) [v]):Xz w0 59 v (Znz l):=by
 intro b st own x h hr;obtain⟨B,bc,xs,rfl,hn,hw,hd⟩:=hd.inRow;obtain⟨n,hn0⟩:∃ n,n=l.length:=⟨_,rfl⟩
 rw[←hn0]at hn ⊢;unfold Znz at hr ⊢;obtain⟨s1,E1⟩:∃ s,s=Zs st ([Yv]):=⟨_,rfl⟩
 have R1:=Hh (Yw.first hr);replace hr:=Yw.next hr;rw[←E1]at hr;obtain⟨s2,E2⟩:∃ s,s=Zs s1 (l.flatMap kRu):=⟨_,rfl⟩
 have R2:=Hh (Yw.first hr);replace hr:=Yw.next hr;rw[←E2]at hr;obtain⟨s3,E3⟩:∃ s,s=Zs s2 ([Xi]):=⟨_,rfl⟩
 have R3:=Hh hr;clear hr;have EK:Zs st (([Yv])++((l.flatMap kRu)++(([Xi]))))=s3:=by simp only[Yl,E1,E2,E3]
 rw[EK];clear EK;have P1:=Hh (fun own x=>Wh (w0:=w0) (b:=b) E1 R1.out (by simp) own x);have P3:=Hh (fun own x=>Wh (w0:=w0) (b:=b) E3 R3.out (by simp) own x);have HE1:=Hh E1;clear E1;have HE2:=Hh E2;clear E2;have HE3:=Hh E3;clear E3;have HN:=Hh hn0;have HW:=Hh (ζ hw hd);have HV:=Hh hv;clear hw hd hn0 hv;have l63:(n:Int)≤9223372036854775807:=by omega
 have T:=Hh h;clear h;go_enter Tryz.func59,Tryz.ntmps59;go_wp2_with(first
 |(go_at_call 56;refine(P1.out _ _ _ _ _ T.out rfl rfl).mono ?_;rintro e wn ⟨rfl,tn⟩;have T:=Hh tn;clear tn))
 go_loopw [11] (fun i wr=>∃ m:Nat,i=I J m∧m≤n∧PE w0 b (midS kRu l s1 m) own wr) (fun i _=>n - (intOf i).toNat)
 case atStart=>exact⟨0,by go_num,Nat.zero_le _,T.out⟩
 case round=>
  obtain⟨m,rfl,hm,hT⟩:=hrel;have T:=Hh hT;clear hT;by_cases hlt:m<n
  · have hk1:m<l.length:=by rw[←HN.out];exact hlt
    obtain⟨pre,ys,post,hxs,hp,hy⟩:=rus_atQ HW.out.2 m hk1;obtain⟨g,rfl,hg,hc⟩:=HW.out.1.reads (by rw[hxs];have:=hy.len;have e5:(l[m]'hk1).ds.len=5:=rfl;simp;omega);have hR:w0.rangeAt g (m*5) ys:=Zhg (by rw[hxs]at hc;exact hc) hp;have hvr:=HV.out _ (List.getElem_mem hk1);have hnx:=Zoy kRu l s1 hk1;have hrm:=Zox R2.out hk1;generalize l[m]'hk1=r at *;generalize hsn:midS kRu l s1 (m+1)=sn at *;have HSN:=Hh hsn;clear hsn;generalize midS kRu l s1 m=sm at *;obtain⟨wh,str,rl,rc,acts⟩:=r;obtain⟨_,rfl,_,rfl,_,rfl,_,rfl,D,ac,zs,_,rfl,hnn,hwz,hdz,rfl⟩:=hy;have hrow:Zt N w0 (.row acts.len acts.ds .nil) [Λ D acts.len ac]:=⟨D,ac,zs,[],rfl,hnn,hwz,hdz,rfl⟩
    obtain⟨hv1,hv2,_,hv4⟩:=hvr;dsimp only at hv1 hv2 hv4;have hbl:=pBlock w0 _ _ (pActs w0 N 0 acts hv4 _ hrow);generalize acts.len=an at *;unfold kRu at hnx hrm;dsimp only at hnx hrm;have w1:=hv1.1;have w2:=hv1.2;have q1 : -99≤str:=by omega
    have q2:str≤99:=hv2.2;generalize Zaz acts=KA at *;have HR:=Hh hR;clear hxs hp hc hR hk1 hrow hnn hwz hdz hv1 hv2 hv4;have lk:(m:Int)<(n:Int):=by omega
    by_cases hw5:wh=5
    ·rw[if_pos hw5]at hnx hrm
     subst hw5;obtain⟨u1,F1⟩:∃ s,s=Zs sm ([wd Yx 5]):=⟨_,rfl⟩
     have Q1:=Yw.first hrm;replace hrm:=Yw.next hrm;rw[←F1]at hrm;obtain⟨u2,F2⟩:∃ s,s=Zs u1 ([Xf str]):=⟨_,rfl⟩
     have Q2:=Yw.first hrm;replace hrm:=Yw.next hrm;rw[←F2]at hrm;obtain⟨u3,F3⟩:∃ s,s=Zs u2 (Zky KA):=⟨_,rfl⟩
     have EN:u3=sn:=by rw[hnx];simp only[Yl,F1,F2,F3]
     rw[EN]at F3;have G1:=Hh (fun own x=>Wh (w0:=w0) (b:=b) F1 Q1 (by simp) own x);have G2:=Hh (fun own x=>Wh (w0:=w0) (b:=b) F2 Q2 (by simp) own x);have G3:=Hh (hbl.at_ (b:=b) F3 hrm);clear EN hnx hrm hbl F1 F2 F3;go_wp2_with(first
 |((with_reducible refine Zd 14 ?_);refine Zr 46 _ g (m*5) ([I J 5,I J str,I J rl,I J rc,Λ D an ac]) (T.out.ranges HR.out hg) qrow_ru Zkv rfl rfl rfl ?_)
 |((with_reducible refine Zd 5 ?_);refine Vx T.out 46 _ rfl rfl qz_ru ?_;intro wn g5 tn;have T:=Hh tn;clear tn)
 |((with_reducible refine Zi 5 14 ?_);refine Za 46 _ _ 46 g5 _ ([I J 5,I J str,I J rl,I J rc,Λ D an ac]) (T.out.get 0 rfl) rfl Zkv (by simp[Γ]) rfl rfl rfl rfl rfl ?_;intro wn p;have T:=Hh (T.out.put 0 rfl p);clear p;have c0_0:=T.out.cell 0 0 rfl rfl;have c0_1:=T.out.cell 0 1 rfl rfl;have c0_4:=T.out.cell 0 4 rfl rfl)
 |(go_at_call 87;refine(Zgg T.out (5) _ 6 6 Yx rfl rfl (by decide) (by decide) (by decide)).mono ?_;rintro e wn ⟨rfl,tn⟩;have T:=Hh tn;clear tn;have c0_0:=T.out.cell 0 0 rfl rfl;have c0_1:=T.out.cell 0 1 rfl rfl;have c0_4:=T.out.cell 0 4 rfl rfl)
 |(go_at_call 56;refine(G1.out _ _ _ _ _ T.out rfl rfl).mono ?_;rintro e wn ⟨rfl,tn⟩;have T:=Hh tn;clear tn;have c0_0:=T.out.cell 0 0 rfl rfl;have c0_1:=T.out.cell 0 1 rfl rfl;have c0_4:=T.out.cell 0 4 rfl rfl)
 |(go_at_call 58;(with_reducible refine(vqNum T.out (str) (q1) (q2)).mono ?_);rintro e wn ⟨rfl,tn⟩;have T:=Hh tn;clear tn;have c0_0:=T.out.cell 0 0 rfl rfl;have c0_1:=T.out.cell 0 1 rfl rfl;have c0_4:=T.out.cell 0 4 rfl rfl)
 |(go_at_call 56;refine(G2.out _ _ _ _ _ T.out rfl rfl).mono ?_;rintro e wn ⟨rfl,tn⟩;have T:=Hh tn;clear tn;have c0_0:=T.out.cell 0 0 rfl rfl;have c0_1:=T.out.cell 0 1 rfl rfl;have c0_4:=T.out.cell 0 4 rfl rfl)
 |(go_at_call 88;refine(G3.out _ _ T.out).mono ?_;rintro e wn ⟨rfl,tn⟩;have T:=Hh tn;clear tn;have c0_0:=T.out.cell 0 0 rfl rfl;have c0_1:=T.out.cell 0 1 rfl rfl;have c0_4:=T.out.cell 0 4 rfl rfl))
     go_roundw
     case rel=>exact⟨m+1,by go_num,by omega,by rw[HSN.out];exact T.out.tail⟩
     case measure=>simp[intOf];omega
    ·rw[if_neg hw5,List.nil_append]at hnx hrm
     have b5:(wh == 5)=false:=by rw[beq_eq_false_iff_ne];exact hw5
     obtain⟨u1,F1⟩:∃ s,s=Zs sm ([wd Yx wh]):=⟨_,rfl⟩
     have Q1:=Yw.first hrm;replace hrm:=Yw.next hrm;rw[←F1]at hrm;obtain⟨u2,F2⟩:∃ s,s=Zs u1 (Zky KA):=⟨_,rfl⟩
     have EN:u2=sn:=by rw[hnx];simp only[Yl,F1,F2]
     rw[EN]at F2;have G1:=Hh (fun own x=>Wh (w0:=w0) (b:=b) F1 Q1 (by simp) own x);have G2:=Hh (hbl.at_ (b:=b) F2 hrm);clear EN hnx hrm hbl F1 F2;go_wp2_with(first
 |((with_reducible refine Zd 14 ?_);refine Zr 46 _ g (m*5) ([I J wh,I J str,I J rl,I J rc,Λ D an ac]) (T.out.ranges HR.out hg) qrow_ru Zkv rfl rfl rfl ?_)
 |((with_reducible refine Zd 5 ?_);refine Vx T.out 46 _ rfl rfl qz_ru ?_;intro wn g5 tn;have T:=Hh tn;clear tn)
 |((with_reducible refine Zi 5 14 ?_);refine Za 46 _ _ 46 g5 _ ([I J wh,I J str,I J rl,I J rc,Λ D an ac]) (T.out.get 0 rfl) rfl Zkv (by simp[Γ]) rfl rfl rfl rfl rfl ?_;intro wn p;have T:=Hh (T.out.put 0 rfl p);clear p;have c0_0:=T.out.cell 0 0 rfl rfl;have c0_1:=T.out.cell 0 1 rfl rfl;have c0_4:=T.out.cell 0 4 rfl rfl)
 |(go_at_call 87;refine(Zgg T.out (wh) _ 6 6 Yx rfl rfl (w1) (by show _≤((6:Nat):Int);omega) (by decide)).mono ?_;rintro e wn ⟨rfl,tn⟩;have T:=Hh tn;clear tn;have c0_0:=T.out.cell 0 0 rfl rfl;have c0_1:=T.out.cell 0 1 rfl rfl;have c0_4:=T.out.cell 0 4 rfl rfl)
 |(go_at_call 56;refine(G1.out _ _ _ _ _ T.out rfl rfl).mono ?_;rintro e wn ⟨rfl,tn⟩;have T:=Hh tn;clear tn;have c0_0:=T.out.cell 0 0 rfl rfl;have c0_1:=T.out.cell 0 1 rfl rfl;have c0_4:=T.out.cell 0 4 rfl rfl)
 |(go_at_call 88;refine(G2.out _ _ T.out).mono ?_;rintro e wn ⟨rfl,tn⟩;have T:=Hh tn;clear tn;have c0_0:=T.out.cell 0 0 rfl rfl;have c0_1:=T.out.cell 0 1 rfl rfl;have c0_4:=T.out.cell 0 4 rfl rfl))
     go_roundw
     case rel=>exact⟨m+1,by go_num,by omega,by rw[HSN.out];exact T.out.tail⟩
     case measure=>simp[intOf];omega
  · have hmn:m=l.length:=by have:=HN.out;omega
    have T3:PE w0 b s2 own wr:=by
     have:=T.out;rw[hmn,midS_end]at this;rw[HE2.out];exact this
    have T:=Hh T3;clear T3 hmn;have lk:¬(m:Int)<(n:Int):=by omega
    go_wp2_with(first
 |(go_at_call 56;refine(P3.out _ _ _ _ _ T.out rfl rfl).mono ?_;rintro e wn ⟨rfl,tn⟩;have T:=Hh tn;clear tn))
    go_end0
    exact⟨rfl,T.out⟩
theorem pCard_raw(w0:World)(nm:ByteArray)(cost pw ln cl:Int)(v:Value)(h1:0≤cost)(h2:cost≤99)(h3 : -99≤pw)(h4:pw≤99)(KR:List ByteArray)(hv:v.oneCell'=true)(hrl:Xz w0 59 v KR):Xz w0 28 (.agg ([Ψ nm,I J cost,I J pw,I J ln,I J cl,v]:List Value).toArray) ([⟨#[99,97,114,100]⟩,qN nm,⟨#[99,111,115,116]⟩,Xf cost,⟨#[112,111,119,101,114]⟩,Xf pw]++KR):=by
 intro b st own x h hr;have hnm:nm.size≤10000000000:=by have h2:=hr.first;unfold Yw at h2;simp[Vc,Zhr]at h2;omega
 have h1' : -99≤cost:=by omega
 obtain⟨s1,E1⟩:∃ s,s=Zs st ([⟨#[99,97,114,100]⟩,qN nm,⟨#[99,111,115,116]⟩,Xf cost,⟨#[112,111,119,101,114]⟩,Xf pw]):=⟨_,rfl⟩
 have R1:=Hh (Yw.first hr);replace hr:=Yw.next hr;rw[←E1]at hr;obtain⟨s2,E2⟩:∃ s,s=Zs s1 (KR):=⟨_,rfl⟩
 have R2:=Hh hr;clear hr;have EK:Zs st (([⟨#[99,97,114,100]⟩,qN nm,⟨#[99,111,115,116]⟩,Xf cost,⟨#[112,111,119,101,114]⟩,Xf pw])++((KR)))=s2:=by simp only[Yl,E1,E2]
 rw[EK];clear EK;have P1:=Hh (fun own x=>Wh (w0:=w0) (b:=b) E1 R1.out (by simp) own x);have P2:=Hh (hrl.at_ (b:=b) E2 R2.out);have HE1:=Hh E1;clear E1;have HE2:=Hh E2;clear E2;clear hrl;have T:=Hh h;clear h;go_enter Tryz.func28,Tryz.ntmps28;go_upto_region 1 with(first
 |((with_reducible refine Zd 3 ?_);refine Yp T.out 35 _ ([Ψ nm,I J cost,I J pw,I J ln,I J cl,v]) rfl rfl rfl ?_;intro wn g0 tn;have T:=Hh tn;clear tn;have c0_0:=T.out.cell 0 0 rfl rfl;have c0_1:=T.out.cell 0 1 rfl rfl;have c0_2:=T.out.cell 0 2 rfl rfl;have c0_5:=T.out.cell 0 5 rfl rfl))
 go_simp;go_cut []from 4 to 15 (fun wx=>PE w0 b s1 ((g0,35,[Ψ nm,I J cost,I J pw,I J ln,I J cl,v])::own) wx)
 case first=>
  refine wp_region_held_drew (S:=fun x=>∃ s,PE w0 b s ((g0,35,[Ψ nm,I J cost,I J pw,I J ln,I J cl,v])::own) x) (by kernel_rfl) ⟨_,T.out.drew⟩ (fun hS=>?_);have hP:=T.out.drew;generalize wn.drew=wf at *;refine Xl (i:=0) (v:=Ω (some ⟨b,0,none⟩)) rfl rfl (by kernel_rfl) (by kernel_rfl) (by kernel_rfl) (fun _ _ _ h=>h) (qyMove rfl rfl rfl) hS ?_;try simp only[Qy,Qx]
  refine Xl (i:=1) (v:=Ω (some ⟨g0,0,none⟩)) rfl rfl (by kernel_rfl) (by kernel_rfl) (by kernel_rfl) (fun _ _ _ h=>h) (Or.inl ⟨by rfl,fun y hy=>by go_simp⟩) hS ?_;try simp only[Qy,Qx]
  refine Xl (i:=2) (v:=Ψ nm) rfl rfl (by kernel_rfl) (by kernel_rfl) (by kernel_rfl) (fun _ _ _ h=>h) (Or.inl ⟨by rfl,fun y hy=>by obtain⟨_,hy⟩:=hy;have c0:=(PE.get hy 0 rfl).read 0;go_simp⟩) hS ?_;try simp only[Qy,Qx]
  refine Xl (i:=4) (v:=Ω (some ⟨g0,1,none⟩)) rfl rfl (by kernel_rfl) (by kernel_rfl) (by kernel_rfl) (fun _ _ _ h=>h) (Or.inl ⟨by rfl,fun y hy=>by go_simp⟩) hS ?_;try simp only[Qy,Qx]
  refine Xl (i:=5) (v:=I J cost) rfl rfl (by kernel_rfl) (by kernel_rfl) (by kernel_rfl) (fun _ _ _ h=>h) (Or.inl ⟨by rfl,fun y hy=>by obtain⟨_,hy⟩:=hy;have c0:=(PE.get hy 0 rfl).read 1;go_simp⟩) hS ?_;try simp only[Qy,Qx]
  refine Xl (i:=7) (v:=Ω (some ⟨g0,2,none⟩)) rfl rfl (by kernel_rfl) (by kernel_rfl) (by kernel_rfl) (fun _ _ _ h=>h) (Or.inl ⟨by rfl,fun y hy=>by go_simp⟩) hS ?_;try simp only[Qy,Qx]
  refine Xl (i:=8) (v:=I J pw) rfl rfl (by kernel_rfl) (by kernel_rfl) (by kernel_rfl) (fun _ _ _ h=>h) (Or.inl ⟨by rfl,fun y hy=>by obtain⟨_,hy⟩:=hy;have c0:=(PE.get hy 0 rfl).read 2;go_simp⟩) hS ?_;try simp only[Qy,Qx]
  refine wpAnyH_ready (rs:=[3]) (by kernel_rfl) (by simp) (AllReadyH.cons rfl (fun K hK=>?_) AllReadyH.nil);clear hS;go_simp;go_at_call 57
  refine(vqName hP nm hnm).mono ?_;rintro e wf ⟨rfl,hP2⟩;clear hP;have hP:=hP2;clear hP2;refine hK.out _ _ ⟨_,hP⟩ (fun hS=>?_);clear hK K;try simp only[Act.put,Qz,Qy,Qx]
  refine wpAnyH_ready (rs:=[6]) (by kernel_rfl) (by simp) (AllReadyH.cons rfl (fun K hK=>?_) AllReadyH.nil);clear hS;go_simp;go_at_call 58
  refine(vqNum hP cost h1' h2).mono ?_;rintro e wf ⟨rfl,hP2⟩;clear hP;have hP:=hP2;clear hP2;refine hK.out _ _ ⟨_,hP⟩ (fun hS=>?_);clear hK K;try simp only[Act.put,Qz,Qy,Qx]
  refine wpAnyH_ready (rs:=[9]) (by kernel_rfl) (by simp) (AllReadyH.cons rfl (fun K hK=>?_) AllReadyH.nil);clear hS;go_simp;go_at_call 58
  refine(vqNum hP pw h3 h4).mono ?_;rintro e wf ⟨rfl,hP2⟩;clear hP;have hP:=hP2;clear hP2;refine hK.out _ _ ⟨_,hP⟩ (fun hS=>?_);clear hK K;try simp only[Act.put,Qz,Qy,Qx]
  refine wpAnyH_ready (rs:=[10]) (by kernel_rfl) (by simp) (AllReadyH.cons rfl (fun K hK=>?_) AllReadyH.nil);clear hS;go_simp;refine hK.out _ _ ⟨_,hP.call (Zj wf (.cells #[Ψ ⟨#[99,97,114,100]⟩,Ψ (qN nm),Ψ ⟨#[99,111,115,116]⟩,Ψ (Xf cost),Ψ ⟨#[112,111,119,101,114]⟩,Ψ (Xf pw)] 9))⟩ (fun hS=>?_);clear hK K;try simp only[Act.put,Qz,Qy,Qx]
  refine wpAnyH_ready (rs:=[11]) (by kernel_rfl) (by simp) (AllReadyH.cons rfl (fun K hK=>?_) AllReadyH.nil);clear hS;go_simp;go_at_call 56
  refine(P1.out _ _ _ _ _ hP rfl rfl).mono ?_;rintro e wf ⟨rfl,hP2⟩;clear hP;have hP:=hP2;clear hP2;refine hK.out _ _ ⟨_,hP⟩ (fun hS=>?_);clear hK K;try simp only[Act.put,Qz,Qy,Qx]
  refine wpAnyH_done (by kernel_rfl) ?_ _;have T:=Hh hP;clear hP hS;go_wp2_with fail
  go_meet
  case rel=>exact T.out
 case rest=>
  have T:=Hh hcut;clear hcut;have c0_5:=T.out.cell 0 5 rfl rfl;go_wp2_with(first
 |(go_at_call 59;refine(P2.out _ _ T.out).mono ?_;rintro e wn ⟨rfl,tn⟩;have T:=Hh tn;clear tn))
  go_end0
  exact⟨rfl,T.out.tail⟩
theorem pPlace_raw(w0:World)(nm:ByteArray)(ln cl:Int)(v:Value)(KR:List ByteArray)(hv:v.oneCell'=true)(hrl:Xz w0 59 v KR):Xz w0 32 (.agg ([Ψ nm,I J ln,I J cl,v]:List Value).toArray) ([⟨#[112,108,97,99,101]⟩,qN nm]++KR):=by
 intro b st own x h hr;have hnm:nm.size≤10000000000:=by have h2:=hr.first;unfold Yw at h2;simp[Vc,Zhr]at h2;omega
 obtain⟨s1,E1⟩:∃ s,s=Zs st ([⟨#[112,108,97,99,101]⟩,qN nm]):=⟨_,rfl⟩
 have R1:=Hh (Yw.first hr);replace hr:=Yw.next hr;rw[←E1]at hr;obtain⟨s2,E2⟩:∃ s,s=Zs s1 (KR):=⟨_,rfl⟩
 have R2:=Hh hr;clear hr;have EK:Zs st (([⟨#[112,108,97,99,101]⟩,qN nm])++((KR)))=s2:=by simp only[Yl,E1,E2]
 rw[EK];clear EK;have P1:=Hh (fun own x=>Wh (w0:=w0) (b:=b) E1 R1.out (by simp) own x);have P2:=Hh (hrl.at_ (b:=b) E2 R2.out);have HE1:=Hh E1;clear E1;have HE2:=Hh E2;clear E2;clear hrl;have T:=Hh h;clear h;go_enter Tryz.func32,Tryz.ntmps32;go_wp2_with(first
 |((with_reducible refine Zd 3 ?_);refine Yp T.out 38 _ ([Ψ nm,I J ln,I J cl,v]) rfl rfl rfl ?_;intro wn g0 tn;have T:=Hh tn;clear tn;have c0_0:=T.out.cell 0 0 rfl rfl;have c0_3:=T.out.cell 0 3 rfl rfl)
 |(go_at_call 57;(with_reducible refine(vqName T.out (nm) (hnm)).mono ?_);rintro e wn ⟨rfl,tn⟩;have T:=Hh tn;clear tn;have c0_0:=T.out.cell 0 0 rfl rfl;have c0_3:=T.out.cell 0 3 rfl rfl)
 |(go_at_call 56;refine(P1.out _ _ _ _ _ T.out rfl rfl).mono ?_;rintro e wn ⟨rfl,tn⟩;have T:=Hh tn;clear tn;have c0_0:=T.out.cell 0 0 rfl rfl;have c0_3:=T.out.cell 0 3 rfl rfl)
 |(go_at_call 59;refine(P2.out _ _ T.out).mono ?_;rintro e wn ⟨rfl,tn⟩;have T:=Hh tn;clear tn;have c0_0:=T.out.cell 0 0 rfl rfl;have c0_3:=T.out.cell 0 3 rfl rfl))
 go_end0
 exact⟨rfl,T.out.tail⟩
theorem e_card:wd Xs 1=⟨#[99,97,114,100]⟩:=by decide +kernel
theorem e_place:wd Xs 2=⟨#[112,108,97,99,101]⟩:=by decide +kernel
theorem pCard(w0:World)(N:Nat→Prop)(c:Ca)(hv:VCa c)(vs:List Value)(hd:Zt N w0 c.ds vs):Xz w0 28 (.agg vs.toArray) (kCa c):=by
 obtain⟨nm,cost,pw,ln,cl,rules⟩:=c;obtain⟨_,rfl,_,rfl,_,rfl,_,rfl,_,rfl,D,c2,zs,_,rfl,hn,hw,hz,rfl⟩:=hd;obtain⟨_,hc,hp,hrs⟩:=hv;have hr:=pRules w0 N rules hrs (Λ D rules.length c2) ⟨D,c2,zs,[],rfl,hn,hw,hz,rfl⟩;have:=pCard_raw w0 nm cost pw ln cl _ hc.1 hc.2 hp.1 hp.2 _ rfl hr;unfold kCa;rw[e_card];exact this
theorem pPlace(w0:World)(N:Nat→Prop)(p:Pl)(hv:VPl p)(vs:List Value)(hd:Zt N w0 p.ds vs):Xz w0 32 (.agg vs.toArray) (kPl p):=by
 obtain⟨nm,ln,cl,rules⟩:=p;obtain⟨_,rfl,_,rfl,_,rfl,D,c2,zs,_,rfl,hn,hw,hz,rfl⟩:=hd;have hr:=pRules w0 N rules hv.2 (Λ D rules.length c2) ⟨D,c2,zs,[],rfl,hn,hw,hz,rfl⟩;have:=pPlace_raw w0 nm ln cl _ _ rfl hr;unfold kPl;rw[e_place];exact this
theorem qz_pr:(Tryz.prog.info? 121).map (fun i=>i.zero.map Value.cells)=some (some ([Ω none,Λ none 0 0,.bool false]:List Value).toArray):=by kernel_rfl
theorem put1_bytes{s:List Int×Bool}{t:List Int}(hs:∀ x ∈ s.1,0≤x∧x<256)(ht:∀ x ∈ t,0≤x∧x<256):∀ x ∈ (Zfd s t).1,0≤x∧x<256:=by
 intro x hx;unfold Zfd at hx;simp only at hx;rcases List.mem_append.1 hx with hx | hx
 ·rcases List.mem_append.1 hx with hx | hx
  ·exact hs x hx
  ·split at hx
   ·cases List.mem_singleton.1 hx;exact⟨by decide,by decide⟩
   ·cases hx
 ·exact ht x hx
theorem Zfy:∀(K:List ByteArray)(s:List Int×Bool),(∀ x ∈ s.1,0≤x∧x<256)→∀ x ∈ (Zs s K).1,0≤x∧x<256
 |[],s,h=>h
 |t::K,s,h=>Zfy K (Zfd s (bL t)) (put1_bytes h (Zke t))
theorem puts_grow:∀(K:List ByteArray)(s:List Int×Bool),s.1.length≤(Zs s K).1.length
 |[],s=>Θ _
 |t::K,s=>by
  refine Ξ ?_ (puts_grow K (Zfd s (bL t)));unfold Zfd;simp only[List.length_append];omega
theorem puts_ne{t:ByteArray}{K:List ByteArray}{s:List Int×Bool}(h:0<t.size):(Zs s (t::K)).1≠[]:=by
 intro q;have h1:=puts_grow K (Zfd s (bL t))
 have h2:0<(Zfd s (bL t)).1.length:=by
  unfold Zfd;simp only[List.length_append,Vs];omega
 have h3:(Zs s (t::K)).1.length=(Zs (Zfd s (bL t)) K).1.length:=rfl;rw[q]at h3;simp only[List.length_nil]at h3;omega
theorem PE.start{w x:World}{own:List Bk}{g:Nat}(h:Env w (own++[(g,121,[Ω none,Λ none 0 0,.bool false])]) [] [] x):PE w g ([],false) own x:=
 ⟨Ω none,Λ none 0 0,(h.perm (List.perm_append_singleton _ own)).row1 5 1,.inl rfl⟩
theorem qText{w0 x:World}{b:Nat}{st:List Int×Bool}{own:List Bk}(h:PE w0 b st own x)(hb:∀ x ∈ st.1,0≤x∧x<256)(hne:st.1≠[]) :
  Calls Φ 55 #[Ω (some ⟨b,0,none⟩)] x fun e y=>e=η (Ψ (strOfNums st.1))∧Below w0.heap.size x y:=by
 obtain⟨a,v,h,u⟩:=h;have h0:(b,121,[a,v,.bool st.2]) ∈ (b,121,[a,v,Value.bool st.2])::own:=by simp
 have hr:=h.row _ (List.mem_singleton.2 rfl);have ha:=h.apart _ (List.mem_singleton.2 rfl);have hbd:Zbc 121 [.bool st.2] w0.heap.size x b a v st.1:=⟨h.at_ _ h0,hr,h.lo _ h0,ha _ h0,u⟩
 have hm:(st.1.map fun n=>UInt8.ofNat n.toNat).map (fun x=>(x.toNat:Int))=st.1:=by
  rw[List.map_map];refine(List.map_congr_left fun n hn=>?_).trans (List.map_id _);have:=hb n hn;simp only[Function.comp,UInt8.toNat_ofNat',id];omega
 have e:=bdText (st.1.map fun n=>UInt8.ofNat n.toNat) (by simpa using hne) (by rw[hm];exact hbd);exact e
theorem formCard(w:World)(vs:List Value)(hvl:vs.length=6)(K:List ByteArray)(hp:Xz w 28 (.agg vs.toArray) K)(hr:Yw ([],false) K)(hne:(Zs ([],false) K).1≠[]) :
  Calls Φ 27 #[.func (.func 28) #[] #[],.agg vs.toArray] w fun e y=>e=η (Ψ (strOfNums (Zs ([],false) K).1))∧Below w.heap.size w y:=by
 have hby:=Zfy K ([],false) (by simp);obtain⟨s1,E1⟩:∃ s,s=Zs ([],false) K:=⟨_,rfl⟩
 rw[←E1]at hby hne ⊢;have P1:=Hh (fun b own x=>hp.at_ (b:=b) E1 hr own x);have HVL:=Hh hvl;have HB:=Hh (ζ hby hne);clear hby hne hp hr E1 hvl;have T:=Hh (Env.start w);go_enter Tryz.func27,Tryz.ntmps27;go_wp2_with(first
 |((with_reducible refine Zd 3 ?_);refine Zk T.out 35 _ vs rfl rfl rfl ?_;intro wn g0 tn;have T:=Hh tn;clear tn)
 |((with_reducible refine Zd 5 ?_);refine Zc T.out 121 _ rfl rfl qz_pr ?_;intro wn b tn;have T:=Hh (PE.start (own:=[(g0,35,vs)]) tn);clear tn)
 |((with_reducible refine Zd 7 ?_);refine Zb 35 _ 35 g0 vs (T.out.get 0 rfl) Zjm (by rw[HVL.out];exact Zdm) rfl rfl rfl ?_)
 |(go_at_call 28;refine(P1.out _ _ _ T.out).mono ?_;rintro e wn ⟨rfl,tn⟩;have T:=Hh tn;clear tn)
 |(go_at_call 55;refine(qText T.out HB.out.1 HB.out.2).mono ?_;rintro e wn ⟨rfl,bn⟩;have B:=Hh (T.out.below.trans bn);clear bn))
 go_ret;exact⟨rfl,B.out⟩
theorem topCard(w:World)(vs:List Value)(hvl:vs.length=6)(K:List ByteArray)(hp:∀ x,Below w.heap.size w x→Xz x 28 (.agg vs.toArray) K)(hr:Yw ([],false) K)(hne:(Zs ([],false) K).1≠[]) :
  Calls Φ 7 #[.agg vs.toArray] w fun e y=>e=η (Ψ (strOfNums (Zs ([],false) K).1))∧Below w.heap.size w y:=by
 have F1:=Hh (fun x (hb:Below w.heap.size w x)=>formCard x vs hvl K (hp x hb) hr hne);have HVL:=Hh hvl;clear hp hr hne hvl;have T:=Hh (Env.start w);go_enter Tryz.func7,Tryz.ntmps7;go_wp2_with(first
 |((with_reducible refine Zd 1 ?_);refine Zk T.out 35 _ vs rfl rfl rfl ?_;intro wn g0 tn;have T:=Hh tn;clear tn)
 |((with_reducible refine Zd 3 ?_);refine Zb 35 _ 35 g0 vs (T.out.get 0 rfl) Zjm (by rw[HVL.out];exact Zdm) rfl rfl rfl ?_)
 |(go_at_call 27;refine(F1.out _ T.out.below).mono ?_;rintro e wn ⟨rfl,bn⟩;have T:=Hh (T.out.call bn);clear bn))
 go_ret;exact⟨rfl,T.out.below⟩
theorem formPlace(w:World)(vs:List Value)(hvl:vs.length=4)(K:List ByteArray)(hp:Xz w 32 (.agg vs.toArray) K)(hr:Yw ([],false) K)(hne:(Zs ([],false) K).1≠[]) :
  Calls Φ 31 #[.func (.func 32) #[] #[],.agg vs.toArray] w fun e y=>e=η (Ψ (strOfNums (Zs ([],false) K).1))∧Below w.heap.size w y:=by
 have hby:=Zfy K ([],false) (by simp);obtain⟨s1,E1⟩:∃ s,s=Zs ([],false) K:=⟨_,rfl⟩
 rw[←E1]at hby hne ⊢;have P1:=Hh (fun b own x=>hp.at_ (b:=b) E1 hr own x);have HVL:=Hh hvl;have HB:=Hh (ζ hby hne);clear hby hne hp hr E1 hvl;have T:=Hh (Env.start w);go_enter Tryz.func31,Tryz.ntmps31;go_wp2_with(first
 |((with_reducible refine Zd 3 ?_);refine Zk T.out 38 _ vs rfl rfl rfl ?_;intro wn g0 tn;have T:=Hh tn;clear tn)
 |((with_reducible refine Zd 5 ?_);refine Zc T.out 121 _ rfl rfl qz_pr ?_;intro wn b tn;have T:=Hh (PE.start (own:=[(g0,38,vs)]) tn);clear tn)
 |((with_reducible refine Zd 7 ?_);refine Zb 38 _ 38 g0 vs (T.out.get 0 rfl) Zjl (by rw[HVL.out];exact Zdl) rfl rfl rfl ?_)
 |(go_at_call 32;refine(P1.out _ _ _ T.out).mono ?_;rintro e wn ⟨rfl,tn⟩;have T:=Hh tn;clear tn)
 |(go_at_call 55;refine(qText T.out HB.out.1 HB.out.2).mono ?_;rintro e wn ⟨rfl,bn⟩;have B:=Hh (T.out.below.trans bn);clear bn))
 go_ret;exact⟨rfl,B.out⟩
theorem topPlace(w:World)(vs:List Value)(hvl:vs.length=4)(K:List ByteArray)(hp:∀ x,Below w.heap.size w x→Xz x 32 (.agg vs.toArray) K)(hr:Yw ([],false) K)(hne:(Zs ([],false) K).1≠[]) :
  Calls Φ 9 #[.agg vs.toArray] w fun e y=>e=η (Ψ (strOfNums (Zs ([],false) K).1))∧Below w.heap.size w y:=by
 have F1:=Hh (fun x (hb:Below w.heap.size w x)=>formPlace x vs hvl K (hp x hb) hr hne);have HVL:=Hh hvl;clear hp hr hne hvl;have T:=Hh (Env.start w);go_enter Tryz.func9,Tryz.ntmps9;go_wp2_with(first
 |((with_reducible refine Zd 1 ?_);refine Zk T.out 38 _ vs rfl rfl rfl ?_;intro wn g0 tn;have T:=Hh tn;clear tn)
 |((with_reducible refine Zd 3 ?_);refine Zb 38 _ 38 g0 vs (T.out.get 0 rfl) Zjl (by rw[HVL.out];exact Zdl) rfl rfl rfl ?_)
 |(go_at_call 31;refine(F1.out _ T.out.below).mono ?_;rintro e wn ⟨rfl,bn⟩;have T:=Hh (T.out.call bn);clear bn))
 go_ret;exact⟨rfl,T.out.below⟩
theorem formExpr(w:World)(vs:List Value)(hvl:vs.length=12)(K:List ByteArray)(hp:Xz w 45 (.agg vs.toArray) K)(hr:Yw ([],false) K)(hne:(Zs ([],false) K).1≠[]) :
  Calls Φ 44 #[.func (.func 45) #[] #[],.agg vs.toArray] w fun e y=>e=η (Ψ (strOfNums (Zs ([],false) K).1))∧Below w.heap.size w y:=by
 have hby:=Zfy K ([],false) (by simp);obtain⟨s1,E1⟩:∃ s,s=Zs ([],false) K:=⟨_,rfl⟩
 rw[←E1]at hby hne ⊢;have P1:=Hh (fun b own x=>hp.at_ (b:=b) E1 hr own x);have HVL:=Hh hvl;have HB:=Hh (ζ hby hne);clear hby hne hp hr E1 hvl;have T:=Hh (Env.start w);go_enter Tryz.func44,Tryz.ntmps44;go_wp2_with(first
 |((with_reducible refine Zd 3 ?_);refine Zk T.out 54 _ vs rfl rfl rfl ?_;intro wn g0 tn;have T:=Hh tn;clear tn)
 |((with_reducible refine Zd 5 ?_);refine Zc T.out 121 _ rfl rfl qz_pr ?_;intro wn b tn;have T:=Hh (PE.start (own:=[(g0,54,vs)]) tn);clear tn)
 |((with_reducible refine Zd 7 ?_);refine Zb 54 _ 54 g0 vs (T.out.get 0 rfl) Xm (by rw[HVL.out];exact Yz) rfl rfl rfl ?_)
 |(go_at_call 45;refine(P1.out _ _ _ T.out).mono ?_;rintro e wn ⟨rfl,tn⟩;have T:=Hh tn;clear tn)
 |(go_at_call 55;refine(qText T.out HB.out.1 HB.out.2).mono ?_;rintro e wn ⟨rfl,bn⟩;have B:=Hh (T.out.below.trans bn);clear bn))
 go_ret;exact⟨rfl,B.out⟩
theorem topExpr(w:World)(vs:List Value)(hvl:vs.length=12)(K:List ByteArray)(hp:∀ x,Below w.heap.size w x→Xz x 45 (.agg vs.toArray) K)(hr:Yw ([],false) K)(hne:(Zs ([],false) K).1≠[]) :
  Calls Φ 17 #[.agg vs.toArray] w fun e y=>e=η (Ψ (strOfNums (Zs ([],false) K).1))∧Below w.heap.size w y:=by
 have F1:=Hh (fun x (hb:Below w.heap.size w x)=>formExpr x vs hvl K (hp x hb) hr hne);have HVL:=Hh hvl;clear hp hr hne hvl;have T:=Hh (Env.start w);go_enter Tryz.func17,Tryz.ntmps17;go_wp2_with(first
 |((with_reducible refine Zd 1 ?_);refine Zk T.out 54 _ vs rfl rfl rfl ?_;intro wn g0 tn;have T:=Hh tn;clear tn)
 |((with_reducible refine Zd 3 ?_);refine Zb 54 _ 54 g0 vs (T.out.get 0 rfl) Xm (by rw[HVL.out];exact Yz) rfl rfl rfl ?_)
 |(go_at_call 44;refine(F1.out _ T.out.below).mono ?_;rintro e wn ⟨rfl,bn⟩;have T:=Hh (T.out.call bn);clear bn))
 go_ret;exact⟨rfl,T.out.below⟩
theorem tCard(w:World)(N:Nat→Prop)(c:Ca)(hv:VCa c)(vs:List Value)(hd:Zt N w c.ds vs)(hr:Yw ([],false) (kCa c)) :
  Calls Φ 7 #[.agg vs.toArray] w fun e y=>e=η (Ψ (strOfNums (Zs ([],false) (kCa c)).1))∧Below w.heap.size w y:=
 topCard w vs hd.len _ (fun x hb=>pCard x N c hv vs (hd.below hb)) hr (puts_ne (t:=wd Xs 1) (K:=[qN c.name,Zcn,Xf c.cost,Zcd,Xf c.power]++Znz c.rules) (by decide +kernel))
open Go
def sp(lo:Bool):List Int:=if lo=true then [32]else []
def Uz(k:List ByteArray)(l:List Int):Prop:=∀ s:List Int×Bool,Zs s k=(s.1++sp s.2++l,true)
def Zef(k:List ByteArray)(l:List Int):Prop:=∀ s:List Int×Bool,s.2=true→Zs s k=(s.1++l,true)
def Ziy(k:List ByteArray)(l:List Int):Prop:=∀ s:List Int×Bool,s.2=true→(Zs s k).1++[32]=s.1++32::l∧(Zs s k).2=true
def Zjo(t:ByteArray):Bool:=decide (bL t≠[59]) && decide (bL t≠[41]) && decide (bL t≠[40])
theorem Zio(s:List Int×Bool)(t:ByteArray):Zs s [t]=Zfd s (bL t):=rfl
theorem Vd{t:ByteArray}(h:Zjo t=true):Uz [t] (bL t):=by
 intro s;unfold Zjo at h;simp only[Bool.and_eq_true,decide_eq_true_eq]at h;obtain⟨⟨h1,h2⟩,h3⟩:=h;obtain⟨x,lo⟩:=s;rw[Zio];unfold Zfd spB sp;cases lo<;>simp[h1,h2,h3]
theorem Uz.lead{k:List ByteArray}{l:List Int}(h:Uz k l):Zef k (32::l):=by
 intro s hs;rw[h s,hs];simp[sp]
theorem Zef.nil:Zef [] []:=by
 intro s hs;obtain⟨x,lo⟩:=s;cases hs
 simp[Zs,Zfx]
theorem Zef.app{k1 k2:List ByteArray}{l1 l2:List Int}(h1:Zef k1 l1)(h2:Zef k2 l2):Zef (k1++k2) (l1++l2):=by
 intro s hs;rw[Yl,h1 s hs,h2 _ rfl];simp
theorem Uz.then{k1 k2:List ByteArray}{l1 l2:List Int}(h1:Uz k1 l1)(h2:Zef k2 l2):Uz (k1++k2) (l1++l2):=by
 intro s;rw[Yl,h1 s,h2 _ rfl];simp
theorem Uz.seq{k1 k2:List ByteArray}{l1 l2:List Int}(h1:Uz k1 l1)(h2:Uz k2 l2):Uz (k1++k2) (l1++32::l2):=h1.then h2.lead
theorem b_close:bL Vb=[41]:=by decide +kernel
theorem b_open:bL Ws=[40]:=by decide +kernel
theorem b_semi:bL Xj=[59]:=by decide +kernel
theorem Uz.close{k:List ByteArray}{l:List Int}(h:Uz k l):Uz (k++[Vb]) (l++[41]):=by
 intro s;rw[Yl,h s,Zio,b_close];simp[Zfd,spB]
theorem Zef.close{k:List ByteArray}{l:List Int}(h:Zef k l):Zef (k++[Vb]) (l++[41]):=by
 intro s hs;rw[Yl,h s hs,Zio,b_close];simp[Zfd,spB]
theorem Uz.semi{k:List ByteArray}{l:List Int}(h:Uz k l):Uz (k++[Xj]) (l++[59]):=by
 intro s;rw[Yl,h s,Zio,b_semi];simp[Zfd,spB]
theorem Uz.opened{k:List ByteArray}{l:List Int}(h:Uz k l):Uz ([Ws]++k) (40::l):=by
 intro s;obtain⟨x,lo⟩:=s;rw[Yl,Zio,b_open,h];cases lo<;>simp[Zfd,spB,sp]
theorem Ziy.nil:Ziy [] []:=fun s hs=>⟨by simp[Zs,Zfx],by simpa[Zs,Zfx]using hs⟩
theorem Ziy.cons{k1 k2:List ByteArray}{l1 l2:List Int}(h1:Uz k1 l1)(h2:Ziy k2 l2):Ziy (k1++k2) (l1++32::l2):=by
 intro s hs;rw[Yl,h1 s,hs];obtain⟨a,b⟩:=h2 (s.1++sp true++l1,true) rfl;refine⟨?_,b⟩;rw[a];simp[sp]
theorem puts_brace:bL Yv=[123]:=by decide +kernel
theorem puts_unbrace:bL Xi=[125]:=by decide +kernel
theorem Ziy.block{k:List ByteArray}{l:List Int}(h:Ziy k l):Uz ([Yv]++(k++[Xi])) (123::32::(l++[125])):=by
 intro s;rw[Yl,Vd (by decide +kernel:Zjo Yv=true) s,Yl];obtain⟨a,b⟩:=h (s.1++sp s.2++bL Yv,true) rfl;generalize Zs (s.1++sp s.2++bL Yv,true) k=q at *;obtain⟨x,lo⟩:=q;cases b
 rw[Vd (by decide +kernel:Zjo Xi=true)];rw[puts_brace]at a;rw[puts_unbrace];simp only at a ⊢;have e:sp true=[32]:=rfl;rw[e,a];simp
theorem Jn:∀ ws:List ByteArray,(ws.all Zjo=true)→∀ k:Int,1≤k→k≤ws.length→Zjo (wd ws k)=true:=by
 intro ws h k h1 h2;have hl:k.toNat - 1<ws.length:=by omega
 have e:wd ws k=ws[k.toNat - 1]:=by unfold wd;rw[List.getElem?_eq_getElem hl];rfl
 rw[e];exact List.all_eq_true.1 h _ (List.getElem_mem hl)
theorem pw_sel{k:Int}(h1:1≤k)(h2:k≤2):Uz [wd Yo k] (bL (wd Yo k)):=by
 have h:k=1∨k=2:=by omega
 rcases h with rfl | rfl
 ·exact Vd (by decide +kernel)
 ·exact Vd (by decide +kernel)
theorem Zjn{k:Int}(h:1≤k∧k≤3):Uz [wd Zg k] (bL (wd Zg k)):=Vd (Jn Zg (by decide +kernel) k h.1 (by show _≤((3:Nat):Int);omega))
theorem pw_where{k:Int}(h:1≤k∧k≤4):Uz [wd Zz k] (bL (wd Zz k)):=Vd (Jn Zz (by decide +kernel) k h.1 (by show _≤((4:Nat):Int);omega))
theorem Zot{k:Int}(h:1≤k∧k≤4):Uz [wd Yg k] (bL (wd Yg k)):=Vd (Jn Yg (by decide +kernel) k h.1 (by show _≤((4:Nat):Int);omega))
theorem pw_meit{k:Int}(h:1≤k∧k≤2):Uz [wd Vk k] (bL (wd Vk k)):=Vd (Jn Vk (by decide +kernel) k h.1 (by show _≤((2:Nat):Int);omega))
theorem pw_pick{k:Int}(h:1≤k∧k≤5):Uz [wd Wo k] (bL (wd Wo k)):=Vd (Jn Wo (by decide +kernel) k h.1 (by show _≤((5:Nat):Int);omega))
theorem pw_to{k:Int}(h:1≤k∧k≤4):Uz [wd wTo k] (bL (wd wTo k)):=Vd (Jn wTo (by decide +kernel) k h.1 (by show _≤((4:Nat):Int);omega))
theorem pw_how{k:Int}(h:1≤k∧k≤4):Uz [wd Zde k] (bL (wd Zde k)):=Vd (Jn Zde (by decide +kernel) k h.1 (by show _≤((4:Nat):Int);omega))
theorem pw_op{k:Int}(h:1≤k∧k≤6):Uz [wd wOp k] (bL (wd wOp k)):=Vd (Jn wOp (by decide +kernel) k h.1 (by show _≤((6:Nat):Int);omega))
theorem Zqj{k:Int}(h:1≤k∧k≤5):Uz [wd Yy k] (bL (wd Yy k)):=Vd (Jn Yy (by decide +kernel) k h.1 (by show _≤((5:Nat):Int);omega))
theorem pw_act{k:Int}(h:1≤k∧k≤15):Uz [wd Xr k] (bL (wd Xr k)):=Vd (Jn Xr (by decide +kernel) k h.1 (by show _≤((15:Nat):Int);omega))
theorem pw_when{k:Int}(h:1≤k∧k≤6):Uz [wd Yx k] (bL (wd Yx k)):=Vd (Jn Yx (by decide +kernel) k h.1 (by show _≤((6:Nat):Int);omega))
theorem pw_file{k:Int}(h:1≤k∧k≤2):Uz [wd Xs k] (bL (wd Xs k)):=Vd (Jn Xs (by decide +kernel) k h.1 (by show _≤((2:Nat):Int);omega))
theorem Zmp{n:Int}(h1 : -99≤n)(h2:n≤99):Uz [Xf n] (Zhm n):=by
 have h:∀ i:Fin 199,Zjo (Xf ((i.val:Nat) - 99:Int))=true∧bL (Xf ((i.val:Nat) - 99:Int))=Zhm ((i.val:Nat) - 99:Int):=by decide +kernel
 have:=h ⟨(n+99).toNat,by omega⟩;rw[show(((n+99).toNat:Nat) - 99:Int)=n from by omega]at this;have p:=Vd this.1;rwa [this.2]at p
theorem bL_appQ(s t:ByteArray):bL (s++t)=bL s++bL t:=by
 have h1:=Zke s;have h2:=Zke t
 have e:strOfNums (bL s++bL t)=s++t:=by
  conv=>rhs;rw[←Zha s,←Zha t]
  unfold strOfNums;apply ByteArray.ext;simp[ByteArray.data_append]
 rw[←e];exact Zmx _ (by intro x hx;rcases List.mem_append.1 hx with hx | hx;exact h1 x hx;exact h2 x hx)
theorem Zqi(nm:ByteArray):Uz [qN nm] (Zkd nm):=by
 have e:bL (qN nm)=Zkd nm:=by
  unfold qN Zkd;rw[bL_appQ,bL_appQ,show bL (⟨#[34]⟩:ByteArray)=[34]from by decide +kernel];simp
 have hp:Zjo (qN nm)=true:=by
  unfold Zjo;rw[e];unfold Zkd;simp
 have:=Vd hp;rwa [e]at this
theorem pk_fl{f:Fl}(hv:VFl f):Uz (kFl f) (lFl f):=by
 unfold kFl lFl;rcases hv with⟨hk,ho,hn,_⟩ | ⟨hk,_,_,hm⟩ | ⟨hk,_⟩
 ·simp only[if_pos hk]
  exact(Zot (k:=f.kind) (by omega)).seq ((pw_op ho).seq (Zmp hn.1 hn.2))
 ·have n1:¬(f.kind=1∨f.kind=2):=by omega
  simp only[if_neg n1,if_pos hk];exact(Zot (by decide)).seq (Zqi _)
 ·have n1:¬(f.kind=1∨f.kind=2):=by omega
  have n2:¬ f.kind=3:=by omega
  simp only[if_neg n1,if_neg n2];exact(Zot (by decide)).seq (pw_meit (by omega))
theorem pk_fls:∀{l:List Fl},(∀ f ∈ l,VFl f)→Zef (Zpx l) (lFls l)
 |[],_=>Zef.nil
 |f::l,h=>(pk_fl (h f (by simp))).lead.app (pk_fls fun g hg=>h g (by simp[hg]))
theorem pk_sel{s:Se}(hv:VSe s):Uz (Zkg s) (lSel s):=by
 unfold Zkg lSel;rcases hv with⟨hk,_⟩ | ⟨hk,h1,h2,h3,h4,h5,h6⟩
 ·simp only[if_pos hk]
  exact pw_sel (by omega) (by omega)
 ·have n1:¬(s.kind=1∨s.kind=2):=by omega
  simp only[if_neg n1]
  have hl:Zef (if s.wh=3 then [Xf s.lane]else []) (if s.wh=3 then 32::Zhm s.lane else []):=by
   split
   ·exact(Zmp (by omega) (by omega)).lead
   ·exact Zef.nil
  have hp:Zef ([wd Wo s.pick]++[Vb]) (32::(bL (wd Wo s.pick)++[41])):=(pw_pick h6).lead.close;have:=((Zjn h1).then (((pw_where h2).lead.app (hl.app ((pk_fls h5).app hp))))).opened
  have e1:([⟨#[40]⟩]++[wd Zg s.side,wd Zz s.wh]++(if s.wh=3 then [Xf s.lane]else [])++Zpx s.fs++[wd Wo s.pick,⟨#[41]⟩]:List ByteArray)=[Ws]++([wd Zg s.side]++([wd Zz s.wh]++((if s.wh=3 then [Xf s.lane]else [])++(Zpx s.fs++([wd Wo s.pick]++[Vb]))))):=by
   simp[Ws,Vb]
  rw[e1];simpa using this
theorem pk_to{k l:Int}(hv:VTo k l):Uz (kTo k l) (lTo k l):=by
 unfold kTo lTo;rcases hv with⟨hk,_⟩ | ⟨rfl,hl⟩
 ·have n1:¬ k=4:=by omega
  simp only[if_neg n1,List.append_nil];exact pw_to (by omega)
 ·simp only[if_true]
  exact(pw_to (by decide)).seq (Zmp (by omega) (by omega))
theorem pk_leaf{kind n:Int}{sel:Se}{side tk tl:Int}(hv:VLeaf kind n sel side tk tl):Uz (kLeaf kind n sel side tk tl) (lLeaf kind n sel side tk tl):=by
 unfold kLeaf lLeaf;rcases hv with⟨hk,hn,_⟩ | ⟨hk,_,hs,_⟩ | ⟨hk,_⟩ | ⟨hk,_,_,hs,_⟩ | ⟨hk,_,_,hs,ht⟩
 ·simp only[if_pos hk];exact Zmp hn.1 hn.2
 ·have n1:¬ kind=1:=by omega
  simp only[if_neg n1,if_pos hk];exact(Zqj (by omega)).seq (pk_sel hs)
 ·have n1:¬ kind=1:=by omega
  have n2:¬(kind=2∨kind=3):=by omega
  simp only[if_neg n1,if_neg n2,if_pos hk];exact Zqj (by decide)
 ·have n1:¬ kind=1:=by omega
  have n2:¬(kind=2∨kind=3):=by omega
  have n3:¬ kind=4:=by omega
  simp only[if_neg n1,if_neg n2,if_neg n3,if_pos hk];exact(Zqj (by decide)).seq (Zjn hs)
 ·have n1:¬ kind=1:=by omega
  have n2:¬(kind=2∨kind=3):=by omega
  have n3:¬ kind=4:=by omega
  have n4:¬ kind=5:=by omega
  simp only[if_neg n1,if_neg n2,if_neg n3,if_neg n4];exact(Zqj (by decide)).seq ((Zjn hs).seq (pk_to ht))
theorem pk_b{b:Bool}{k:List ByteArray}{l:List Int}(h:Uz k l):Uz (kB b k) (lB b l):=by
 unfold kB lB;split
 ·exact h.close.opened
 ·exact h
theorem pw_sign{op:Int}(h1:1≤op)(h2:op≤3):Uz [wd Znc op] [cOp op]:=by
 have h:op=1∨op=2∨op=3:=by omega
 rcases h with rfl | rfl | rfl
 ·exact Vd (t:=⟨#[43]⟩) (by decide +kernel)
 ·exact Vd (t:=⟨#[45]⟩) (by decide +kernel)
 ·exact Vd (t:=⟨#[42]⟩) (by decide +kernel)
theorem pk_ex:∀ x:Ex,VEx x→Uz (kEx x) (lE x)
 |.leaf kind n sel side tk tl,hv=>pk_leaf hv
 |.bin op l r,hv=>(pk_b (b:=Zax false op l) (pk_ex l hv.2.1)).seq ((pw_sign hv.1.1 hv.1.2).seq (pk_b (b:=Zax true op r) (pk_ex r hv.2.2)))
theorem pk_args{h:AH}{d:Nat}(hv:Zgj d h):Uz (Zdo h) (lArgs h):=by
 unfold Zdo lArgs;rcases hv with⟨hk,_,v1,v2,_⟩ | ⟨hk,_,v1⟩ | ⟨hk,_,v1,v2⟩ | ⟨hk,_,v1,v2,v3,v4,_⟩ | ⟨hk,_,v1,v2,_⟩ | ⟨hk,_,v1,v2⟩ | ⟨hk,_,v1,v2⟩
 ·simp only[if_pos hk]
  exact(pk_sel v1).seq (pk_ex _ v2)
 ·have n1:¬(h.kind=1∨h.kind=2∨h.kind=12):=by omega
  simp only[if_neg n1,if_pos hk];exact pk_sel v1
 ·have n1:¬(h.kind=1∨h.kind=2∨h.kind=12):=by omega
  have n2:¬(h.kind=3∨h.kind=5∨h.kind=14):=by omega
  simp only[if_neg n1,if_neg n2,if_pos hk];exact(pk_sel v1).seq (pk_to v2)
 ·have n1:¬(h.kind=1∨h.kind=2∨h.kind=12):=by omega
  have n2:¬(h.kind=3∨h.kind=5∨h.kind=14):=by omega
  have n3:¬(h.kind=4):=by omega
  simp only[if_neg n1,if_neg n2,if_neg n3,if_pos hk];exact(Zqi _).seq ((Zjn v2).seq ((pk_to v3).seq (pk_ex _ v4)))
 ·have n1:¬(h.kind=1∨h.kind=2∨h.kind=12):=by omega
  have n2:¬(h.kind=3∨h.kind=5∨h.kind=14):=by omega
  have n3:¬(h.kind=4):=by omega
  have n4:¬(h.kind=6):=by omega
  simp only[if_neg n1,if_neg n2,if_neg n3,if_neg n4,if_pos hk];exact(Zjn v1).seq (pk_ex _ v2)
 ·have n1:¬(h.kind=1∨h.kind=2∨h.kind=12):=by omega
  have n2:¬(h.kind=3∨h.kind=5∨h.kind=14):=by omega
  have n3:¬(h.kind=4):=by omega
  have n4:¬(h.kind=6):=by omega
  have n5:¬(h.kind=7∨h.kind=9):=by omega
  simp only[if_neg n1,if_neg n2,if_neg n3,if_neg n4,if_neg n5,if_pos hk];exact(Zjn v1).seq (pw_how v2)
 ·have n1:¬(h.kind=1∨h.kind=2∨h.kind=12):=by omega
  have n2:¬(h.kind=3∨h.kind=5∨h.kind=14):=by omega
  have n3:¬(h.kind=4):=by omega
  have n4:¬(h.kind=6):=by omega
  have n5:¬(h.kind=7∨h.kind=9):=by omega
  have n6:¬(h.kind=8):=by omega
  simp only[if_neg n1,if_neg n2,if_neg n3,if_neg n4,if_neg n5,if_neg n6];exact(Zjn v1).seq (pk_to v2)
theorem pw_else:Uz [Jf] (bL Jf):=Vd (by decide +kernel)
theorem Zns:∀(x:Acs)(d:Nat),Zbb d x→Ziy (Zaz x) (Zip x)
 |.nil,d,_=>Ziy.nil
 |.cons h t e r,d,hv=>by
  have hk:=acts_kind hv;obtain⟨v,vr⟩:=hv;rw[Zaz,Zip];refine Ziy.cons ?_ (Zns r d vr);unfold kAct lAct;refine(pw_act hk).seq ?_;rcases v with⟨_,vc,vt,ve⟩ | ⟨_,vc,vt,rfl⟩ | ⟨vp,rfl,rfl⟩
  ·have h10:=vc.kind
   simp only[if_pos h10];have it:=(Zns t _ vt).block;have ie:=(Zns e _ ve).block
   have el:Zef (Zny e.isNil (Zaz e)) (lElse e.isNil (Zip e)):=by
    unfold Zny lElse;split
    ·exact Zef.nil
    ·exact(pw_else.seq ie).lead
   have hc:Uz (kCond h) (lE h.cl++32::(bL (wd wOp h.cop)++32::lE h.cr)):=(pk_ex _ vc.2.2.1.1).seq ((pw_op vc.2.1).seq (pk_ex _ vc.2.2.2.1));have:=hc.seq (it.then el);simpa[Zpb,Zky]using this
  ·have h11:=vc.kind
   have n10:¬ h.kind=10:=by omega
   simp only[if_neg n10,if_pos h11];exact(pk_sel vc.2).seq (Zns t _ vt).block
  ·have hkp:=vp.kind.2.2
   simp only[if_neg hkp.1,if_neg hkp.2];exact(pk_args vp).semi
theorem pk_ru{r:Ru}(hv:VRu r):Uz (kRu r) (lRu r):=by
 obtain⟨h1,h2,h3,h4⟩:=hv;unfold kRu lRu
 have hl:Zef (if r.when_=5 then [Xf r.stratum]else []) (if r.when_=5 then 32::Zhm r.stratum else []):=by
  split
  ·exact(Zmp (by omega) (by omega)).lead
  ·exact Zef.nil
 exact(pw_when h1).then (hl.app (Zns r.acts 0 h4).block.lead)
theorem pk_rus:∀ l:List Ru,(∀ r ∈ l,VRu r)→Ziy (l.flatMap kRu) (lRus l)
 |[],_=>Ziy.nil
 |r::l,hv=>by
  have h:=Ziy.cons (pk_ru (hv r (by simp))) (pk_rus l fun q hq=>hv q (by simp[hq]));have e:lRus (r::l)=lRu r++32::lRus l:=by unfold lRus;simp
  rw[e,List.flatMap_cons];exact h
theorem pk_body{l:List Ru}(hv:∀ r ∈ l,VRu r):Uz (Znz l) (lBody l):=(pk_rus l hv).block
theorem pw_cost:Uz [Zcn] (bL Zcn):=Vd (by decide +kernel)
theorem pw_power:Uz [Zcd] (bL Zcd):=Vd (by decide +kernel)
theorem pk_ca{c:Ca}(hv:VCa c):Uz (kCa c) (lCa c):=
 (pw_file (k:=1) (by decide)).seq ((Zqi c.name).seq (pw_cost.seq ((Zmp (n:=c.cost) (by have:=hv.2.1;omega) (by have:=hv.2.1;omega)).seq (pw_power.seq ((Zmp hv.2.2.1.1 hv.2.2.1.2).seq (pk_body hv.2.2.2))))))
theorem pk_pl{p:Pl}(hv:VPl p):Uz (kPl p) (lPl p):=(pw_file (k:=2) (by decide)).seq ((Zqi p.name).seq (pk_body hv.2))
def fdS(s:List Int×Bool):List Int×Bool:=(s.1++[10],false)
def Zhu{α:Type}(k:α→List ByteArray)(s:List Int×Bool)(x:α):List Int×Bool:=fdS (Zs s (k x))
def fileT(s:List Int×Bool)(f:Fi):List Int×Bool:=f.places.foldl (Zhu kPl) (f.cards.foldl (Zhu kCa) s)
theorem Zpa{α:Type}(k:α→List ByteArray)(l:α→List Int):∀(xs:List α)(t:List Int),(∀ x ∈ xs,Uz (k x) (l x))→xs.foldl (Zhu k) (t,false)=(t++xs.flatMap fun x=>l x++[10],false)
 |[],t,_=>by simp
 |x::xs,t,h=>by
  have e:Zhu k (t,false) x=(t++(l x++[10]),false):=by
   unfold Zhu fdS;rw[h x (by simp) (t,false)];simp[sp]
  rw[List.foldl_cons,e,Zpa k l xs _ (fun y hy=>h y (by simp[hy]))];simp
theorem fileT_is{f:Fi}(hv:VFi f):fileT ([],false) f=(lFi f,false):=by
 unfold fileT lFi;rw[Zpa kCa lCa f.cards [] (fun c hc=>pk_ca (hv.1 c hc)),Zpa kPl lPl f.places _ (fun p hp=>pk_pl (hv.2 p hp))];simp
theorem file_stop(nk:Int)(L:List TokV)(m:Nat)(st:St)(h:Zh L Xs st=0):Vv nk L (m+1) st=(⟨[],[]⟩,st):=by rw[Vv,if_pos h]
theorem file_card(nk:Int)(L:List TokV)(m:Nat)(st:St)(h:Zh L Xs st=1):Vv nk L (m+1) st =
 (⟨(Zfg nk L m (st.tok L).line (st.tok L).col (Yd L Xs st)).1::(Vv nk L m (Zfg nk L m (st.tok L).line (st.tok L).col (Yd L Xs st)).2).1.cards,
     (Vv nk L m (Zfg nk L m (st.tok L).line (st.tok L).col (Yd L Xs st)).2).1.places⟩,
   (Vv nk L m (Zfg nk L m (st.tok L).line (st.tok L).col (Yd L Xs st)).2).2):=by rw[Vv,if_neg (by omega),if_pos h]
theorem file_place(nk:Int)(L:List TokV)(m:Nat)(st:St)(h:Zh L Xs st=2):Vv nk L (m+1) st =
 (⟨(Vv nk L m (Zce nk L m (st.tok L).line (st.tok L).col (Yd L Xs st)).2).1.cards,
     (Zce nk L m (st.tok L).line (st.tok L).col (Yd L Xs st)).1::(Vv nk L m (Zce nk L m (st.tok L).line (st.tok L).col (Yd L Xs st)).2).1.places⟩,
   (Vv nk L m (Zce nk L m (st.tok L).line (st.tok L).col (Yd L Xs st)).2).2):=by rw[Vv,if_neg (by omega),if_neg (by omega)]
end Go.Proofs.YtdngkgickbaboaaGreat
