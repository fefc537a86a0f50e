/- Parts of the proof. No conditions but those that each names. -/
import Derived.Test.YtdngkgickbaboaaGreatQF15
set_option maxRecDepth 20000
set_option maxHeartbeats 12800000
set_option linter.unusedVariables false
set_option linter.unusedSimpArgs false
namespace Go.Proofs.YtdngkgickbaboaaGreat
open Go.Value renaming int→I,slice→Λ,pointer→Ω,string→Ψ
open Go.IntKind renaming i64→J
open _root_.Go.Proofs.Tryz renaming prog→Φ
open Nat renaming le_refl→Θ
open _root_.ByteArray renaming size_append→Δ
open And renaming intro→ζ
open Go.Ending renaming returned→η
open Go.ChangeShapes Go.WideShapes Go.ChangeAt Go.RowKit Go.Great
theorem rz_sel(w:World)(N:Nat→Prop)(s:Se)(hv:VSe s)(vs:List Value)(hd:Zt N w s.ds vs)(hb:(Zft s).size≤10000000000) :
  Calls Φ 118 #[.agg vs.toArray] w fun e w'=>e=η (Ψ (Zft s))∧Below w.heap.size w w':=by
 obtain⟨k,sd,wh,ln,fs,pk⟩:=s;obtain⟨_,rfl,_,rfl,_,rfl,_,rfl,A,c,xs,_,rfl,hn,hw,hx,_,rfl,rfl⟩:=hd;rcases hv with⟨hk,_⟩ | ⟨hk,h1,h2,h3,h4,h5,h6⟩
 ·dsimp only at hk
  have e:Zft ⟨k,sd,wh,ln,fs,pk⟩=if k=1 then⟨#[109,101]⟩else⟨#[105,116]⟩:=by
   unfold Zft;rcases hk with rfl | rfl<;>rfl
  rw[e];exact rz_sel1 k sd wh ln pk _ hk w rfl
 ·dsimp only at hk h1 h2 h3 h5 h6 hn hx
  subst hk;obtain⟨sd,rfl⟩:∃ j:Nat,sd=j:=⟨sd.toNat,by omega⟩
  obtain⟨wh,rfl⟩:∃ j:Nat,wh=j:=⟨wh.toNat,by omega⟩
  obtain⟨pk,rfl⟩:∃ j:Nat,pk=j:=⟨pk.toNat,by omega⟩
  have e:Zft ⟨3,(sd:Int),(wh:Int),ln,fs,(pk:Int)⟩=fs.foldl Znh (rzSel0 ⟨3,(sd:Int),(wh:Int),ln,fs,(pk:Int)⟩)++⟨#[32]⟩++wd Wo (pk:Int)++⟨#[41]⟩:=rfl;rw[e]at hb ⊢;exact rz_sel3 w N sd wh pk ln fs A fs.length c xs hw hx rfl hn.1 h5 (by omega) (by omega) (by omega) (by omega) h3.1 h3.2 (by omega) (by omega) _ _ rfl rfl (by simp only[Δ]at hb;omega)
def RzX(w:World)(vs:List Value)(E:ByteArray):Prop:=∀ y,Below w.heap.size w y→Calls Φ 116 #[.agg vs.toArray] y fun e w'=>e=η (Ψ E)∧Below y.heap.size y w'
def mustB(k n op:Int)(right:Bool):Bool:=(op == 3 && (k == 7 && decide (n<3))) || (right && k == 7 && ((k == 7 && decide (n<3)) || op == 3))
theorem rz_kid(w:World)(vs:List Value)(hvl:vs.length=12)(k n:Int)(h0:vs[0]?=some (I J k))(h1:vs[1]?=some (I J n))(E:ByteArray)(hz:E.size≤10000000000)(hx:RzX w vs E)(right:Bool)(op:Int) :
  Calls Φ 150 #[.agg vs.toArray,.bool right,I J op] w fun e w'=>e=η (Ψ (rzBr (mustB k n op right) E))∧Below w.heap.size w w':=by
 have T:=Hh (Env.start w);have HV:=Hh (ζ hvl (ζ h0 h1));have HX:=Hh hx;clear hvl h0 h1 hx;obtain⟨b7,e7⟩:∃ b,(k == 7)=b:=⟨_,rfl⟩
 obtain⟨b3,e3⟩:∃ b,decide (n<3)=b:=⟨_,rfl⟩
 obtain⟨o3,eo⟩:∃ b,(op == 3)=b:=⟨_,rfl⟩
 unfold mustB;rw[e7,e3,eo];cases right<;>cases b7<;>cases b3<;>cases o3
 all_goals
  go_enter Tryz.func150,Tryz.ntmps150;go_wp2_with(first
 |((with_reducible refine Zd 3 ?_);refine Zk T.out 54 _ vs rfl rfl rfl ?_;intro wn g0 tn;have T:=Hh tn;clear tn)
 |((with_reducible refine Zd 10 ?_);refine Zb 54 _ 54 g0 _ (T.out.get 0 rfl) Xm (by rw[HV.out.1];exact Yz) rfl rfl rfl ?_)
 |(go_at_call 116;refine(HX.out _ T.out.below).mono ?_;rintro e wn ⟨rfl,bn⟩;have T:=Hh (T.out.call bn);clear bn;have c0:=(T.out.get 0 rfl).nthQ 0 HV.out.2.1;have c1:=(T.out.get 0 rfl).nthQ 1 HV.out.2.2))
  go_ret;exact⟨rfl,T.out.below⟩
theorem rz_ex1(w:World)(n sd tk tl:Int)(sv:List Value)(z:Value)(hsv:sv.length=6)(h1 : -99≤n)(h2:n≤99):Calls Φ 116 #[.agg (Vu 1 n sv sd tk tl z).toArray] w fun e w'=>e=η (Ψ (Xf n))∧Below w.heap.size w w':=by
 have T:=Hh (Env.start w);have LA:=Hh (Zbq (k:=1) (n:=n) (sd:=sd) (tk:=tk) (tl:=tl) (z:=z) hsv);have HSV:=Hh hsv;clear hsv;have hq:=fun x=>Zjg n x (by omega) (by omega)
 go_enter Tryz.func116,Tryz.ntmps116;go_wp2_with(first
 |((with_reducible refine Zd 1 ?_);refine Zk T.out 54 _ (Vu 1 n sv sd tk tl z) rfl rfl rfl ?_;intro wn g0 tn;have T:=Hh tn;clear tn;have c0:=(T.out.get 0 rfl).nthQ 0 LA.out.2.1;have c1:=(T.out.get 0 rfl).nthQ 1 LA.out.2.2.1)
 |(go_at_call 29;refine(hq _).mono ?_;rintro e wn ⟨rfl,bn⟩;have T:=Hh (T.out.call bn);clear bn))
 go_ret;exact⟨rfl,T.out.below⟩
theorem rz_ex2(w:World)(n sd tk tl:Int)(sv:List Value)(z:Value)(hsv:sv.length=6)(S:ByteArray)(hz:S.size≤10000000000)(hx:∀ y,Below w.heap.size w y→Calls Φ 118 #[.agg sv.toArray] y fun e w'=>e=η (Ψ S)∧Below y.heap.size y w'):Calls Φ 116 #[.agg (Vu 2 n sv sd tk tl z).toArray] w fun e w'=>e=η (Ψ (⟨#[99,111,117,110,116,32]⟩++S))∧Below w.heap.size w w':=by
 have T:=Hh (Env.start w);have LA:=Hh (Zbq (k:=2) (n:=n) (sd:=sd) (tk:=tk) (tl:=tl) (z:=z) hsv);have HSV:=Hh hsv;clear hsv;have HX:=Hh hx;clear hx;go_enter Tryz.func116,Tryz.ntmps116;go_wp2_with(first
 |((with_reducible refine Zd 1 ?_);refine Zk T.out 54 _ (Vu 2 n sv sd tk tl z) rfl rfl rfl ?_;intro wn g0 tn;have T:=Hh tn;clear tn;have c0:=(T.out.get 0 rfl).nthQ 0 LA.out.2.1)
 |((with_reducible refine Zd 14 ?_);refine Zr 49 _ g0 2 sv (LA.out.2.2.2.2.1 _ _ _ (T.out.get 0 rfl)) Vr (by rw[HSV.out];exact Ve) rfl rfl rfl ?_)
 |(go_at_call 118;refine(HX.out _ T.out.below).mono ?_;rintro e wn ⟨rfl,bn⟩;have T:=Hh (T.out.call bn);clear bn))
 go_ret;exact⟨rfl,T.out.below⟩
theorem rz_ex3(w:World)(n sd tk tl:Int)(sv:List Value)(z:Value)(hsv:sv.length=6)(S:ByteArray)(hz:S.size≤10000000000)(hx:∀ y,Below w.heap.size w y→Calls Φ 118 #[.agg sv.toArray] y fun e w'=>e=η (Ψ S)∧Below y.heap.size y w'):Calls Φ 116 #[.agg (Vu 3 n sv sd tk tl z).toArray] w fun e w'=>e=η (Ψ (⟨#[115,117,109,32]⟩++S))∧Below w.heap.size w w':=by
 have T:=Hh (Env.start w);have LA:=Hh (Zbq (k:=3) (n:=n) (sd:=sd) (tk:=tk) (tl:=tl) (z:=z) hsv);have HSV:=Hh hsv;clear hsv;have HX:=Hh hx;clear hx;go_enter Tryz.func116,Tryz.ntmps116;go_wp2_with(first
 |((with_reducible refine Zd 1 ?_);refine Zk T.out 54 _ (Vu 3 n sv sd tk tl z) rfl rfl rfl ?_;intro wn g0 tn;have T:=Hh tn;clear tn;have c0:=(T.out.get 0 rfl).nthQ 0 LA.out.2.1)
 |((with_reducible refine Zd 20 ?_);refine Zr 49 _ g0 2 sv (LA.out.2.2.2.2.1 _ _ _ (T.out.get 0 rfl)) Vr (by rw[HSV.out];exact Ve) rfl rfl rfl ?_)
 |(go_at_call 118;refine(HX.out _ T.out.below).mono ?_;rintro e wn ⟨rfl,bn⟩;have T:=Hh (T.out.call bn);clear bn))
 go_ret;exact⟨rfl,T.out.below⟩
theorem rz_ex4(w:World)(n sd tk tl:Int)(sv:List Value)(z:Value)(hsv:sv.length=6)  : Calls Φ 116 #[.agg (Vu 4 n sv sd tk tl z).toArray] w fun e w'=>e=η (Ψ (⟨#[114,111,117,110,100]⟩))∧Below w.heap.size w w':=by
 have T:=Hh (Env.start w);have LA:=Hh (Zbq (k:=4) (n:=n) (sd:=sd) (tk:=tk) (tl:=tl) (z:=z) hsv);have HSV:=Hh hsv;clear hsv;go_enter Tryz.func116,Tryz.ntmps116;go_wp2_with(((with_reducible refine Zd 1 ?_);refine Zk T.out 54 _ (Vu 4 n sv sd tk tl z) rfl rfl rfl ?_;intro wn g0 tn;have T:=Hh tn;clear tn;have c0:=(T.out.get 0 rfl).nthQ 0 LA.out.2.1))
 go_ret;exact⟨rfl,T.out.below⟩
theorem rz_ex5(w:World)(n tk tl:Int)(s:Nat)(sv:List Value)(z:Value)(hsv:sv.length=6)(hs1:1≤s)(hs3:s≤3)  : Calls Φ 116 #[.agg (Vu 5 n sv (s:Int) tk tl z).toArray] w fun e w'=>e=η (Ψ (⟨#[104,97,110,100,32]⟩++wd Zg (s:Int)))∧Below w.heap.size w w':=by
 have T:=Hh (Env.start w);have LA:=Hh (Zbq (k:=5) (n:=n) (sd:=(s:Int)) (tk:=tk) (tl:=tl) (z:=z) hsv);have i1:(0:Int)≤(s:Int):=by omega
 have i2:(s:Int)<4:=by omega
 clear hsv;go_enter Tryz.func116,Tryz.ntmps116;go_upto_region 11 with((with_reducible refine Zd 1 ?_);refine Zk T.out 54 _ (Vu 5 n sv (s:Int) tk tl z) rfl rfl rfl ?_;intro wn g0 tn;have T:=Hh tn;clear tn;have c0:=(T.out.get 0 rfl).nthQ 0 LA.out.2.1)
 clear c0;refine Xg (fun x=>Env w [(g0,54,Vu 5 n sv (s:Int) tk tl z)] [] [] x) (by kernel_rfl) T.out.drew ?_;have hst:Zdp (fun x=>Env w [(g0,54,Vu 5 n sv (s:Int) tk tl z)] [] [] x):=fun x y h e=>Env.call h e
 refine AB.tk 1 (Ω (some ⟨g0,8,none⟩)) rfl rfl (by kernel_rfl) (fun _ _ _ h=>h) hst (Zn rfl (fun y hy=>by go_simp)) ?_;simp only[Qy,Qx];refine AB.tk 2 (I J (s:Int)) rfl rfl (by kernel_rfl) (fun _ _ _ h=>h) hst (Zn rfl (fun y hy=>by have c0:=Ze.nthQ (Env.get (hy) 0 rfl) 8 LA.out.2.2.2.1;go_simp)) ?_;simp only[Qy,Qx];refine AB.one (i:=0) (by kernel_rfl) (Zeg.some (val:=fun g=>Λ (some ⟨g,0,none⟩) 4 4) (φ :=fun g x=>Ze x g 9 (Zgy.map Value.string).toArray) rfl rfl rfl hst (fun y hy=>by kernel_rfl) (fun y hy=>(Zen y).mono fun e w2 ⟨g,he,hg,hb⟩=>⟨g,he,hg,hb⟩) (fun g x y h e=>Ze.below h e (Ze.inside h)) (fun ga=>?_));simp only[Qy,Qx];refine AB.tk 3 (Ω (some ⟨ga,s,none⟩)) rfl rfl (by kernel_rfl) (fun _ _ _ h=>h) (hst.and fun x y h e=>Ze.below h e (Ze.inside h)) (Zn rfl (fun y hy=>by go_simp)) ?_;simp only[Qy,Qx];refine AB.tk 4 (Ψ (wd Zg (s:Int))) rfl rfl (by kernel_rfl) (fun _ _ _ h=>h) (hst.and fun x y h e=>Ze.below h e (Ze.inside h)) (Zn rfl (fun y hy=>by have c0:=Wi (L:=Zg) (hy.2) hs1 hs3;go_simp)) ?_;simp only[Qy,Qx];refine AB.tk 5 (Ψ (⟨#[104,97,110,100,32]⟩++wd Zg (s:Int))) rfl rfl (by kernel_rfl) (fun _ _ _ h=>h) (hst.and fun x y h e=>Ze.below h e (Ze.inside h)) (Yi rfl rfl rfl rfl (by(try simp only[Δ]);have z1:=Yr (L:=Zg) (by decide) (s:Int);have z2:(⟨#[104,97,110,100,32]⟩:ByteArray).size=5:=rfl;have z3:(⟨#[102,114,101,101,32]⟩:ByteArray).size=5:=rfl;have z4:(⟨#[32]⟩:ByteArray).size=1:=rfl;omega)) ?_;simp only[Qy,Qx];refine AB.tk 6 (Ψ (⟨#[104,97,110,100,32]⟩++wd Zg (s:Int))) rfl rfl (by kernel_rfl) (fun _ _ _ h=>h) (hst.and fun x y h e=>Ze.below h e (Ze.inside h)) (Zn rfl (fun y hy=>by go_simp)) ?_;simp only[Qy,Qx];refine AB.done (by kernel_rfl) (fun wn hS=>?_);have T:=Hh hS.1;clear hS;go_wp2_with fail
 go_ret;exact⟨rfl,T.out.below⟩
theorem rz_ex6(w:World)(n tk tl:Int)(s:Nat)(sv:List Value)(z:Value)(hsv:sv.length=6)(hs1:1≤s)(hs3:s≤3)(L:ByteArray)(hz:L.size≤10000000000)(hx:∀ y,Calls Φ 120 #[.agg #[I J tk,I J tl]] y fun e w'=>e=η (Ψ L)∧Below y.heap.size y w'):Calls Φ 116 #[.agg (Vu 6 n sv (s:Int) tk tl z).toArray] w fun e w'=>e=η (Ψ (⟨#[102,114,101,101,32]⟩++wd Zg (s:Int)++⟨#[32]⟩++L))∧Below w.heap.size w w':=by
 have T:=Hh (Env.start w);have LA:=Hh (Zbq (k:=6) (n:=n) (sd:=(s:Int)) (tk:=tk) (tl:=tl) (z:=z) hsv);have i1:(0:Int)≤(s:Int):=by omega
 have i2:(s:Int)<4:=by omega
 clear hsv;have HX:=Hh hx;clear hx;go_enter Tryz.func116,Tryz.ntmps116;go_upto_region 13 with((with_reducible refine Zd 1 ?_);refine Zk T.out 54 _ (Vu 6 n sv (s:Int) tk tl z) rfl rfl rfl ?_;intro wn g0 tn;have T:=Hh tn;clear tn;have c0:=(T.out.get 0 rfl).nthQ 0 LA.out.2.1)
 clear c0;refine Xg (fun x=>Env w [(g0,54,Vu 6 n sv (s:Int) tk tl z)] [] [] x) (by kernel_rfl) T.out.drew ?_;have hst:Zdp (fun x=>Env w [(g0,54,Vu 6 n sv (s:Int) tk tl z)] [] [] x):=fun x y h e=>Env.call h e
 refine AB.tk 1 (Ω (some ⟨g0,8,none⟩)) rfl rfl (by kernel_rfl) (fun _ _ _ h=>h) hst (Zn rfl (fun y hy=>by go_simp)) ?_;simp only[Qy,Qx];refine AB.tk 2 (I J (s:Int)) rfl rfl (by kernel_rfl) (fun _ _ _ h=>h) hst (Zn rfl (fun y hy=>by have c0:=Ze.nthQ (Env.get (hy) 0 rfl) 8 LA.out.2.2.2.1;go_simp)) ?_;simp only[Qy,Qx];refine AB.tk 7 (Ω (some ⟨g0,9,none⟩)) rfl rfl (by kernel_rfl) (fun _ _ _ h=>h) hst (Zn rfl (fun y hy=>by go_simp)) ?_;simp only[Qy,Qx];refine AB.tk 8 (.agg ([I J tk,I J tl]:List Value).toArray) rfl rfl (by kernel_rfl) (fun _ _ _ h=>h) hst (YieldsIf.gives (Zdt (k:=9) rfl rfl rfl (fun y hy=>LA.out.2.2.2.2.2 _ _ _ (Env.get hy 0 rfl)) Zfq Zdk)) ?_;simp only[Qy,Qx];refine AB.one (i:=0) (by kernel_rfl) (Zeg.some (val:=fun g=>Λ (some ⟨g,0,none⟩) 4 4) (φ :=fun g x=>Ze x g 9 (Zgy.map Value.string).toArray) rfl rfl rfl hst (fun y hy=>by kernel_rfl) (fun y hy=>(Zen y).mono fun e w2 ⟨g,he,hg,hb⟩=>⟨g,he,hg,hb⟩) (fun g x y h e=>Ze.below h e (Ze.inside h)) (fun ga=>?_));simp only[Qy,Qx];refine AB.tk 3 (Ω (some ⟨ga,s,none⟩)) rfl rfl (by kernel_rfl) (fun _ _ _ h=>h) (hst.and fun x y h e=>Ze.below h e (Ze.inside h)) (Zn rfl (fun y hy=>by go_simp)) ?_;simp only[Qy,Qx];refine AB.tk 4 (Ψ (wd Zg (s:Int))) rfl rfl (by kernel_rfl) (fun _ _ _ h=>h) (hst.and fun x y h e=>Ze.below h e (Ze.inside h)) (Zn rfl (fun y hy=>by have c0:=Wi (L:=Zg) (hy.2) hs1 hs3;go_simp)) ?_;simp only[Qy,Qx];refine AB.tk 5 (Ψ (⟨#[102,114,101,101,32]⟩++wd Zg (s:Int))) rfl rfl (by kernel_rfl) (fun _ _ _ h=>h) (hst.and fun x y h e=>Ze.below h e (Ze.inside h)) (Yi rfl rfl rfl rfl (by(try simp only[Δ]);have z1:=Yr (L:=Zg) (by decide) (s:Int);have z2:(⟨#[104,97,110,100,32]⟩:ByteArray).size=5:=rfl;have z3:(⟨#[102,114,101,101,32]⟩:ByteArray).size=5:=rfl;have z4:(⟨#[32]⟩:ByteArray).size=1:=rfl;have z5:=hz;omega)) ?_;simp only[Qy,Qx];refine AB.tk 6 (Ψ (⟨#[102,114,101,101,32]⟩++wd Zg (s:Int)++⟨#[32]⟩)) rfl rfl (by kernel_rfl) (fun _ _ _ h=>h) (hst.and fun x y h e=>Ze.below h e (Ze.inside h)) (Yi rfl rfl rfl rfl (by(try simp only[Δ]);have z1:=Yr (L:=Zg) (by decide) (s:Int);have z2:(⟨#[104,97,110,100,32]⟩:ByteArray).size=5:=rfl;have z3:(⟨#[102,114,101,101,32]⟩:ByteArray).size=5:=rfl;have z4:(⟨#[32]⟩:ByteArray).size=1:=rfl;have z5:=hz;omega)) ?_;simp only[Qy,Qx];refine AB.tk 9 (Ψ L) rfl rfl (by kernel_rfl) (fun _ _ _ h=>h) (hst.and fun x y h e=>Ze.below h e (Ze.inside h)) (Wx.call rfl (fun w=>by kernel_rfl) (fun y hy=>HX.out y)) ?_;simp only[Qy,Qx];refine AB.tk 10 (Ψ (⟨#[102,114,101,101,32]⟩++wd Zg (s:Int)++⟨#[32]⟩++L)) rfl rfl (by kernel_rfl) (fun _ _ _ h=>h) (hst.and fun x y h e=>Ze.below h e (Ze.inside h)) (Yi rfl rfl rfl rfl (by(try simp only[Δ]);have z1:=Yr (L:=Zg) (by decide) (s:Int);have z2:(⟨#[104,97,110,100,32]⟩:ByteArray).size=5:=rfl;have z3:(⟨#[102,114,101,101,32]⟩:ByteArray).size=5:=rfl;have z4:(⟨#[32]⟩:ByteArray).size=1:=rfl;have z5:=hz;omega)) ?_;simp only[Qy,Qx];refine AB.tk 11 (Ψ (⟨#[102,114,101,101,32]⟩++wd Zg (s:Int)++⟨#[32]⟩++L)) rfl rfl (by kernel_rfl) (fun _ _ _ h=>h) (hst.and fun x y h e=>Ze.below h e (Ze.inside h)) (Zn rfl (fun y hy=>by go_simp)) ?_;simp only[Qy,Qx];refine AB.done (by kernel_rfl) (fun wn hS=>?_);have T:=Hh hS.1;clear hS;go_wp2_with fail
 go_ret;exact⟨rfl,T.out.below⟩
def wSigns:List ByteArray:=[⟨#[]⟩,⟨#[32,43,32]⟩,⟨#[32,45,32]⟩,⟨#[32,42,32]⟩]
theorem sg_cell{w:World}{g:Nat}(h:Ze w g 9 (wSigns.map Value.string).toArray){k:Nat}(h1:1≤k)(h2:k≤3):w.cell? ⟨g,k,none⟩=some (Ψ (Zng (k:Int))):=by
 rw[h.read];rcases(show k=1∨k=2∨k=3 by omega)with rfl | rfl | rfl<;>rfl
theorem rz_ex7(w:World)(op:Nat)(ho1:1≤op)(ho3:op≤3)(vs ys us:List Value)(g kc:Nat)(hvl:vs.length=12)(v0:vs[0]?=some (I J 7))(v1:vs[1]?=some (I J (op:Int)))(v11:vs[11]?=some (Λ (some ⟨g,0,none⟩) 2 kc))
  (hg:g<w.heap.size)(hy:w.rangeAt g 0 ys)(hu:w.rangeAt g 12 us)(ly:ys.length=12)(lu:us.length=12)(K1 K2:ByteArray)(hK1:K1.size≤10000000000)(hK2:K2.size≤10000000000)
  (h1:∀ y,Below w.heap.size w y→Calls Φ 150 #[.agg ys.toArray,.bool false,I J (op:Int)] y fun e w'=>e=η (Ψ K1)∧Below y.heap.size y w')
  (h2:∀ y,Below w.heap.size w y→Calls Φ 150 #[.agg us.toArray,.bool true,I J (op:Int)] y fun e w'=>e=η (Ψ K2)∧Below y.heap.size y w') :
  Calls Φ 116 #[.agg vs.toArray] w fun e w'=>e=η (Ψ (K1++Zng (op:Int)++K2))∧Below w.heap.size w w':=by
 have T:=Hh (Env.start w);have HC:=Hh (ζ hvl (ζ v0 (ζ v1 v11)));have HR:=Hh (ζ (fun x (hb:Below w.heap.size w x)=>Zbg hy hg hb) (fun x (hb:Below w.heap.size w x)=>Zbg hu hg hb));have HL:=Hh (ζ ly lu);have HX1:=Hh h1;have HX2:=Hh h2;have i1:(0:Int)≤(op:Int):=by omega
 have i2:(op:Int)<4:=by omega
 clear hvl v0 v1 v11 hy hu ly lu h1 h2;go_enter Tryz.func116,Tryz.ntmps116;go_upto_region 15 with((with_reducible refine Zd 1 ?_);refine Zk T.out 54 _ vs rfl rfl rfl ?_;intro wn g0 tn;have T:=Hh tn;clear tn;have c0:=(T.out.get 0 rfl).nthQ 0 HC.out.2.1)
 clear c0;have tn:=T.out.box 9 (wSigns.map Value.string);obtain⟨gs,hgs⟩:∃ q,q=wn.heap.size:=⟨_,rfl⟩
 rw[←hgs]at tn ⊢;clear hgs T;have tn:Env w [(g0,54,vs),(gs,9,(wSigns.map Value.string))] [] [] (wn.alloc (.cells #[Ψ ⟨#[]⟩,Ψ ⟨#[32,43,32]⟩,Ψ ⟨#[32,45,32]⟩,Ψ ⟨#[32,42,32]⟩] 9)):=tn;generalize wn.alloc (.cells #[Ψ ⟨#[]⟩,Ψ ⟨#[32,43,32]⟩,Ψ ⟨#[32,45,32]⟩,Ψ ⟨#[32,42,32]⟩] 9)=wf at *;have T:=Hh tn;clear tn;refine Xg (fun x=>Env w [(g0,54,vs),(gs,9,(wSigns.map Value.string))] [] [] x) (by kernel_rfl) T.out.drew ?_;have hst:Zdp (fun x=>Env w [(g0,54,vs),(gs,9,(wSigns.map Value.string))] [] [] x):=fun x y h e=>Env.call h e
 refine AB.tk 0 (Ω (some ⟨g0,11,none⟩)) rfl rfl (by kernel_rfl) (fun _ _ _ h=>h) hst (Zn rfl (fun y hy=>by go_simp)) ?_;simp only[Qy,Qx];refine AB.tk 1 (Λ (some ⟨g,0,none⟩) 2 kc) rfl rfl (by kernel_rfl) (fun _ _ _ h=>h) hst (Zn rfl (fun y hy=>by have c0:=Ze.nthQ (Env.get (hy) 0 rfl) 11 HC.out.2.2.2;go_simp)) ?_;simp only[Qy,Qx];refine AB.tk 2 (Ω (some ⟨g,0,none⟩)) rfl rfl (by kernel_rfl) (fun _ _ _ h=>h) hst (Zn rfl (fun y hy=>by go_simp)) ?_;simp only[Qy,Qx];refine AB.tk 3 (.agg ys.toArray) rfl rfl (by kernel_rfl) (fun _ _ _ h=>h) hst (YieldsIf.gives (Zdt (k:=0) rfl rfl rfl (fun y hy=>HR.out.1 y (Env.below hy)) Xm (by rw[HL.out.1];exact Yz))) ?_;simp only[Qy,Qx];refine AB.tk 4 (Ω (some ⟨g0,1,none⟩)) rfl rfl (by kernel_rfl) (fun _ _ _ h=>h) hst (Zn rfl (fun y hy=>by go_simp)) ?_;simp only[Qy,Qx];refine AB.tk 5 (I J (op:Int)) rfl rfl (by kernel_rfl) (fun _ _ _ h=>h) hst (Zn rfl (fun y hy=>by have c0:=Ze.nthQ (Env.get (hy) 0 rfl) 1 HC.out.2.2.1;go_simp)) ?_;simp only[Qy,Qx];refine AB.tk 7 (Λ (some ⟨gs,0,none⟩) 4 4) rfl rfl (by kernel_rfl) (fun _ _ _ h=>h) hst (Vn rfl rfl rfl) ?_;simp only[Qy,Qx];refine AB.tk 8 (Ω (some ⟨g0,1,none⟩)) rfl rfl (by kernel_rfl) (fun _ _ _ h=>h) hst (Zn rfl (fun y hy=>by go_simp)) ?_;simp only[Qy,Qx];refine AB.tk 9 (I J (op:Int)) rfl rfl (by kernel_rfl) (fun _ _ _ h=>h) hst (Zn rfl (fun y hy=>by have c0:=Ze.nthQ (Env.get (hy) 0 rfl) 1 HC.out.2.2.1;go_simp)) ?_;simp only[Qy,Qx];refine AB.tk 10 (Ω (some ⟨gs,op,none⟩)) rfl rfl (by kernel_rfl) (fun _ _ _ h=>h) hst (Zn rfl (fun y hy=>by go_simp)) ?_;simp only[Qy,Qx];refine AB.tk 11 (Ψ (Zng (op:Int))) rfl rfl (by kernel_rfl) (fun _ _ _ h=>h) hst (Zn rfl (fun y hy=>by have c0:=sg_cell (Env.get hy 1 rfl) ho1 ho3;go_simp)) ?_;simp only[Qy,Qx];refine AB.tk 13 (Ω (some ⟨g0,11,none⟩)) rfl rfl (by kernel_rfl) (fun _ _ _ h=>h) hst (Zn rfl (fun y hy=>by go_simp)) ?_;simp only[Qy,Qx];refine AB.tk 14 (Λ (some ⟨g,0,none⟩) 2 kc) rfl rfl (by kernel_rfl) (fun _ _ _ h=>h) hst (Zn rfl (fun y hy=>by have c0:=Ze.nthQ (Env.get (hy) 0 rfl) 11 HC.out.2.2.2;go_simp)) ?_;simp only[Qy,Qx];refine AB.tk 15 (Ω (some ⟨g,12,none⟩)) rfl rfl (by kernel_rfl) (fun _ _ _ h=>h) hst (Zn rfl (fun y hy=>by go_simp)) ?_;simp only[Qy,Qx];refine AB.tk 16 (.agg us.toArray) rfl rfl (by kernel_rfl) (fun _ _ _ h=>h) hst (YieldsIf.gives (Zdt (k:=12) rfl rfl rfl (fun y hy=>HR.out.2 y (Env.below hy)) Xm (by rw[HL.out.2];exact Yz))) ?_;simp only[Qy,Qx];refine AB.tk 17 (Ω (some ⟨g0,1,none⟩)) rfl rfl (by kernel_rfl) (fun _ _ _ h=>h) hst (Zn rfl (fun y hy=>by go_simp)) ?_;simp only[Qy,Qx];refine AB.tk 18 (I J (op:Int)) rfl rfl (by kernel_rfl) (fun _ _ _ h=>h) hst (Zn rfl (fun y hy=>by have c0:=Ze.nthQ (Env.get (hy) 0 rfl) 1 HC.out.2.2.1;go_simp)) ?_;simp only[Qy,Qx];refine AB.tk 6 (Ψ K1) rfl rfl (by kernel_rfl) (fun _ _ _ h=>h) hst (Wx.call rfl (fun w=>by kernel_rfl) (fun y hy=>HX1.out y (Env.below hy))) ?_;simp only[Qy,Qx];refine AB.tk 19 (Ψ K2) rfl rfl (by kernel_rfl) (fun _ _ _ h=>h) hst (Wx.call rfl (fun w=>by kernel_rfl) (fun y hy=>HX2.out y (Env.below hy))) ?_;simp only[Qy,Qx];refine AB.tk 12 (Ψ (K1++Zng (op:Int))) rfl rfl (by kernel_rfl) (fun _ _ _ h=>h) hst (Yi rfl rfl rfl rfl (by(try simp only[Δ]);have z1:=hK1;have z2:=hK2;have z3:(Zng (op:Int)).size≤3:=by { unfold Zng;(repeat' split)<;>decide };omega)) ?_;simp only[Qy,Qx];refine AB.tk 20 (Ψ (K1++Zng (op:Int)++K2)) rfl rfl (by kernel_rfl) (fun _ _ _ h=>h) hst (Yi rfl rfl rfl rfl (by(try simp only[Δ]);have z1:=hK1;have z2:=hK2;have z3:(Zng (op:Int)).size≤3:=by { unfold Zng;(repeat' split)<;>decide };omega)) ?_;simp only[Qy,Qx];refine AB.tk 21 (Ψ (K1++Zng (op:Int)++K2)) rfl rfl (by kernel_rfl) (fun _ _ _ h=>h) hst (Zn rfl (fun y hy=>by go_simp)) ?_;simp only[Qy,Qx];refine AB.done (by kernel_rfl) (fun wn hS=>?_);have T:=Hh hS;clear hS;go_wp2_with fail
 go_ret;exact⟨rfl,T.out.below⟩
theorem rzLn_small(k l:Int)(h0:0≤l)(h9:l≤99):(Zon k l).size≤100:=by
 unfold Zon;have z:=Zaw l (by omega) (by omega);have z2:=Yr (L:=wTo) (by decide) k;split
 ·simp only[Δ];have:(⟨#[108,97,110,101,32]⟩:ByteArray).size=5:=rfl;omega
 ·omega
theorem rzBr_size(b:Bool)(x:ByteArray):x.size≤(rzBr b x).size:=by
 unfold rzBr;split
 ·simp only[Δ];omega
 ·exact Θ _
theorem must_is{N:Nat→Prop}{w:World}(x:Ex)(hv:VEx x){vs:List Value}(hd:Zt N w x.ds vs):∃ k n,vs[0]?=some (I J k)∧vs[1]?=some (I J n)∧∀ op right,mustB k n op right=Zax right op x:=by
 obtain⟨_,k,n,h0,h1,hx⟩:=ex_vals hd;refine⟨k,n,h0,h1,fun op right=>?_⟩;rcases hx with⟨a,b,c,d,e,rfl⟩ | ⟨rfl,l,r,rfl⟩
 ·have hk:=leaf_kind hv
  have b7:(k == 7)=false:=by simpa using hk
  unfold mustB Zax;rw[b7];simp[Ex.isSum,Ex.isBin]
 ·unfold mustB Zax
  simp[Ex.isSum,Ex.isBin];rfl
theorem rz_ex(N:Nat→Prop):∀(x:Ex),VEx x→∀(w:World) vs,Zt N w x.ds vs→(Zif x).size≤10000000000→Calls Φ 116 #[.agg vs.toArray] w fun e w'=>e=η (Ψ (Zif x))∧Below w.heap.size w w'
 |.leaf kind n sel sd tk tl,hv,w,vs,hd,hb=>by
  obtain⟨_,rfl,_,rfl,h⟩:=hd;obtain⟨sv,_,rfl,hs,h⟩:=Zt.split (x:=sel.ds) h;obtain⟨_,rfl,_,rfl,_,rfl,C,kc,xs,_,rfl,_,_,_,rfl⟩:=h;have hl:sv.length=6:=by rw[hs.len,Se.ds_len]
  have e:Zif (.leaf kind n sel sd tk tl)=Zoo kind n sel sd tk tl:=rfl;rw[e]at hb ⊢;rcases hv with⟨rfl,hn,_⟩ | ⟨hk,_,hse,_⟩ | ⟨rfl,_⟩ | ⟨rfl,_,_,hsd,_⟩ | ⟨rfl,_,_,hsd,ht⟩
  ·exact rz_ex1 w n sd tk tl sv _ hl hn.1 hn.2
  ·rcases hk with rfl | rfl
   ·have e2:Zoo 2 n sel sd tk tl=⟨#[99,111,117,110,116,32]⟩++Zft sel:=rfl
    rw[e2]at hb ⊢;have hz:(Zft sel).size≤10000000000:=by simp only[Δ]at hb;omega
    exact rz_ex2 w n sd tk tl sv _ hl _ hz fun y b=>rz_sel y N sel hse sv (hs.below b) hz
   ·have e2:Zoo 3 n sel sd tk tl=⟨#[115,117,109,32]⟩++Zft sel:=rfl
    rw[e2]at hb ⊢;have hz:(Zft sel).size≤10000000000:=by simp only[Δ]at hb;omega
    exact rz_ex3 w n sd tk tl sv _ hl _ hz fun y b=>rz_sel y N sel hse sv (hs.below b) hz
  ·exact rz_ex4 w n sd tk tl sv _ hl
  ·obtain⟨s,rfl⟩:∃ j:Nat,sd=j:=⟨sd.toNat,by omega⟩
   exact rz_ex5 w n tk tl s sv _ hl (by omega) (by omega)
  ·obtain⟨s,rfl⟩:∃ j:Nat,sd=j:=⟨sd.toNat,by omega⟩
   exact rz_ex6 w n tk tl s sv _ hl (by omega) (by omega) _ (by have:=rzLn_small tk tl (by rcases ht with h | h<;>omega) (by rcases ht with h | h<;>omega);omega) fun y=>Zpm ht y
 |.bin op l r,hv,w,vs,hd,hb=>by
  obtain⟨hl,v0,v1,g,kc,ys,us,v11,hg,hy,hu,dy,du,ly,lu⟩:=bin_vals hd;obtain⟨ho,hvl,hvr⟩:=hv;have e:Zif (.bin op l r)=rzBr (Zax false op l) (Zif l)++Zng op++rzBr (Zax true op r) (Zif r):=rfl;rw[e]at hb ⊢;simp only[Δ]at hb;have z1:=rzBr_size (Zax false op l) (Zif l);have z2:=rzBr_size (Zax true op r) (Zif r);obtain⟨o,rfl⟩:∃ j:Nat,op=j:=⟨op.toNat,by omega⟩
  obtain⟨k1,n1,a0,a1,am⟩:=must_is l hvl dy;obtain⟨k2,n2,b0,b1,bm⟩:=must_is r hvr du;have K1:=rz_kid;refine rz_ex7 w o (by omega) (by omega) vs ys us g kc hl v0 v1 v11 hg hy hu ly lu _ _ (by omega) (by omega) (fun y b=>?_) (fun y b=>?_)
  ·rw[←am]
   exact rz_kid y ys ly k1 n1 a0 a1 _ (by omega) (fun z bz=>rz_ex N l hvl z ys (dy.below (b.trans (bz.mono b.size))) (by omega)) false o
  ·rw[←bm]
   exact rz_kid y us lu k2 n2 b0 b1 _ (by omega) (fun z bz=>rz_ex N r hvr z us (du.below (b.trans (bz.mono b.size))) (by omega)) true o
open Go.Great Go.ChangeShapes Go.WideShapes Go.ChangeAt Go.RowKit
def Zdo(h:AH):List ByteArray:=
 if h.kind=1∨h.kind=2∨h.kind=12 then Zkg h.sel++kEx h.num
 else if h.kind=3∨h.kind=5∨h.kind=14 then Zkg h.sel
 else if h.kind=4 then Zkg h.sel++kTo h.tk h.tl
 else if h.kind=6 then [qN h.name,wd Zg h.side]++(kTo h.tk h.tl++kEx h.num)
 else if h.kind=7∨h.kind=9 then [wd Zg h.side]++kEx h.num
 else if h.kind=8 then [wd Zg h.side,wd Zde h.how]
 else [wd Zg h.side]++kTo h.tk h.tl
def Zky(X:List ByteArray):List ByteArray:=[Yv]++(X++[Xi])
def Zny(no:Bool)(e:List ByteArray):List ByteArray:=if no=true then []else [Jf]++Zky e
def kCond(h:AH):List ByteArray:=kEx h.cl++([wd wOp h.cop]++kEx h.cr)
def kAct(h:AH)(t e:List ByteArray)(no:Bool):List ByteArray:=
 [wd Xr h.kind]++(if h.kind=10 then kCond h++(Zky t++Zny no e)else if h.kind=11 then Zkg h.sel++Zky t else Zdo h++[Xj])
def Zaz:Acs→List ByteArray
 |.nil=>[]
 |.cons h t e r=>kAct h (Zaz t) (Zaz e) e.isNil++Zaz r
structure Zcs(ys sv nv pv:List Value)(k sd tk tl how:Int)(nm:ByteArray)(thn els:Value):Prop where
 len:ys.length=53
 slen:sv.length=6
 nlen:nv.length=12
 plen:pv.length=25
 c0:ys[0]?=some (I J k)
 c21:ys[21]?=some (I J sd)
 c24:ys[24]?=some (I J how)
 c25:ys[25]?=some (Ψ nm)
 c51:ys[51]?=some thn
 c52:ys[52]?=some els
 rs:∀(x:World)(g:Nat)(t:TypeId),Ze x g t ys.toArray→x.rangeAt g 3 sv
 rn:∀(x:World)(g:Nat)(t:TypeId),Ze x g t ys.toArray→x.rangeAt g 9 nv
 rt:∀(x:World)(g:Nat)(t:TypeId),Ze x g t ys.toArray→x.rangeAt g 22 [I J tk,I J tl]
 rc:∀(x:World)(g:Nat)(t:TypeId),Ze x g t ys.toArray→x.rangeAt g 26 pv
theorem Zgu{x:World}{g n:Nat}{t:TypeId}{pre vs post ys:List Value}(e:ys=pre++vs++post)(hn:pre.length=n)(hw:Ze x g t ys.toArray):x.rangeAt g n vs:=by
 subst e hn;exact hw.range
theorem actR{k l c sd tk tl how cop:Int}{nm:ByteArray}{sel num cl cr:List Value}{thn els:Value}(e1:sel.length=6)(e2:num.length=12)(e3:cl.length=12)(e4:cr.length=12) :
  Zcs (Xa k l c sel num sd tk tl how nm cop cl cr thn els) sel num (Zfb cop cl cr) k sd tk tl how nm thn els:=by
 obtain⟨c0,_,_,c21,_,_,c24,c25,_,c51,c52⟩:=actV_at (k:=k) (l:=l) (c:=c) (sd:=sd) (tk:=tk) (tl:=tl) (how:=how) (nm:=nm) (cop:=cop) (thn:=thn) (els:=els) e1 e2 e3 e4;refine⟨by simp[Xa,e1,e2,e3,e4],e1,e2,by simp[Zfb,e3,e4],c0,c21,c24,c25,c51,c52,fun x g t hw=>?_,fun x g t hw=>?_,fun x g t hw=>?_,fun x g t hw=>?_⟩
 ·exact Zgu (pre:=[I J k,I J l,I J c]) (post:=num++(I J sd::I J tk::I J tl::I J how::Ψ nm::I J cop::(cl++(cr++[thn,els])))) (by simp[Xa]) (by simp) hw
 ·exact Zgu (pre:=[I J k,I J l,I J c]++sel) (post:=I J sd::I J tk::I J tl::I J how::Ψ nm::I J cop::(cl++(cr++[thn,els]))) (by simp[Xa]) (by simp[e1]) hw
 ·exact Zgu (pre:=[I J k,I J l,I J c]++sel++num++[I J sd]) (post:=I J how::Ψ nm::I J cop::(cl++(cr++[thn,els]))) (by simp[Xa]) (by simp[e1,e2]) hw
 ·exact Zgu (pre:=[I J k,I J l,I J c]++sel++num++[I J sd,I J tk,I J tl,I J how,Ψ nm]) (post:=[thn,els]) (by simp[Xa,Zfb]) (by simp[e1,e2]) hw
theorem pPlain_1(w0:World)(ys sv nv pv:List Value)(sd tk tl how:Int)(nm:ByteArray)(thn els:Value)(ha:Zcs ys sv nv pv 1 sd tk tl how nm thn els)(KS:List ByteArray)(hsel:Xz w0 77 (.agg sv.toArray) KS)(KN:List ByteArray)(hnum:Xz w0 45 (.agg nv.toArray) KN):Xz w0 177 (.agg ys.toArray) (KS++(KN)):=by
 intro b st own x h hr;obtain⟨s1,E1⟩:∃ s,s=Zs st (KS):=⟨_,rfl⟩
 have R1:=Hh (Yw.first hr);replace hr:=Yw.next hr;rw[←E1]at hr;obtain⟨s2,E2⟩:∃ s,s=Zs s1 (KN):=⟨_,rfl⟩
 have R2:=Hh hr;clear hr;have EK:Zs st ((KS)++((KN)))=s2:=by simp only[Yl,E1,E2]
 rw[EK];clear EK;have P1:=Hh (hsel.at_ (b:=b) E1 R1.out);have P2:=Hh (hnum.at_ (b:=b) E2 R2.out);have HE1:=Hh E1;clear E1;have HE2:=Hh E2;clear E2;have HA:=Hh ha;clear ha hsel hnum;have T:=Hh h;clear h;go_enter Tryz.func177,Tryz.ntmps177;go_wp2_with(first
 |((with_reducible refine Zd 3 ?_);refine Yp T.out 58 _ (ys) rfl rfl rfl ?_;intro wn g0 tn;have T:=Hh tn;clear tn;have c0_0:=(T.out.get 0 rfl).nthQ 0 HA.out.c0)
 |((with_reducible refine Zd 12 ?_);refine Zr 49 _ g0 (3) (sv) (HA.out.rs _ _ _ (T.out.get 0 rfl)) Vr (by rw[HA.out.slen];exact Ve) rfl rfl rfl ?_)
 |(go_at_call 77;refine(P1.out _ _ T.out).mono ?_;rintro e wn ⟨rfl,tn⟩;have T:=Hh tn;clear tn;have c0_0:=(T.out.get 0 rfl).nthQ 0 HA.out.c0)
 |((with_reducible refine Zd 16 ?_);refine Zr 54 _ g0 (9) (nv) (HA.out.rn _ _ _ (T.out.get 0 rfl)) Xm (by rw[HA.out.nlen];exact Yz) rfl rfl rfl ?_)
 |(go_at_call 45;refine(P2.out _ _ T.out).mono ?_;rintro e wn ⟨rfl,tn⟩;have T:=Hh tn;clear tn;have c0_0:=(T.out.get 0 rfl).nthQ 0 HA.out.c0))
 go_end0
 exact⟨rfl,T.out.tail⟩
theorem pPlain_2(w0:World)(ys sv nv pv:List Value)(sd tk tl how:Int)(nm:ByteArray)(thn els:Value)(ha:Zcs ys sv nv pv 2 sd tk tl how nm thn els)(KS:List ByteArray)(hsel:Xz w0 77 (.agg sv.toArray) KS)(KN:List ByteArray)(hnum:Xz w0 45 (.agg nv.toArray) KN):Xz w0 177 (.agg ys.toArray) (KS++(KN)):=by
 intro b st own x h hr;obtain⟨s1,E1⟩:∃ s,s=Zs st (KS):=⟨_,rfl⟩
 have R1:=Hh (Yw.first hr);replace hr:=Yw.next hr;rw[←E1]at hr;obtain⟨s2,E2⟩:∃ s,s=Zs s1 (KN):=⟨_,rfl⟩
 have R2:=Hh hr;clear hr;have EK:Zs st ((KS)++((KN)))=s2:=by simp only[Yl,E1,E2]
 rw[EK];clear EK;have P1:=Hh (hsel.at_ (b:=b) E1 R1.out);have P2:=Hh (hnum.at_ (b:=b) E2 R2.out);have HE1:=Hh E1;clear E1;have HE2:=Hh E2;clear E2;have HA:=Hh ha;clear ha hsel hnum;have T:=Hh h;clear h;go_enter Tryz.func177,Tryz.ntmps177;go_wp2_with(first
 |((with_reducible refine Zd 3 ?_);refine Yp T.out 58 _ (ys) rfl rfl rfl ?_;intro wn g0 tn;have T:=Hh tn;clear tn;have c0_0:=(T.out.get 0 rfl).nthQ 0 HA.out.c0)
 |((with_reducible refine Zd 12 ?_);refine Zr 49 _ g0 (3) (sv) (HA.out.rs _ _ _ (T.out.get 0 rfl)) Vr (by rw[HA.out.slen];exact Ve) rfl rfl rfl ?_)
 |(go_at_call 77;refine(P1.out _ _ T.out).mono ?_;rintro e wn ⟨rfl,tn⟩;have T:=Hh tn;clear tn;have c0_0:=(T.out.get 0 rfl).nthQ 0 HA.out.c0)
 |((with_reducible refine Zd 16 ?_);refine Zr 54 _ g0 (9) (nv) (HA.out.rn _ _ _ (T.out.get 0 rfl)) Xm (by rw[HA.out.nlen];exact Yz) rfl rfl rfl ?_)
 |(go_at_call 45;refine(P2.out _ _ T.out).mono ?_;rintro e wn ⟨rfl,tn⟩;have T:=Hh tn;clear tn;have c0_0:=(T.out.get 0 rfl).nthQ 0 HA.out.c0))
 go_end0
 exact⟨rfl,T.out.tail⟩
theorem pPlain_12(w0:World)(ys sv nv pv:List Value)(sd tk tl how:Int)(nm:ByteArray)(thn els:Value)(ha:Zcs ys sv nv pv 12 sd tk tl how nm thn els)(KS:List ByteArray)(hsel:Xz w0 77 (.agg sv.toArray) KS)(KN:List ByteArray)(hnum:Xz w0 45 (.agg nv.toArray) KN):Xz w0 177 (.agg ys.toArray) (KS++(KN)):=by
 intro b st own x h hr;obtain⟨s1,E1⟩:∃ s,s=Zs st (KS):=⟨_,rfl⟩
 have R1:=Hh (Yw.first hr);replace hr:=Yw.next hr;rw[←E1]at hr;obtain⟨s2,E2⟩:∃ s,s=Zs s1 (KN):=⟨_,rfl⟩
 have R2:=Hh hr;clear hr;have EK:Zs st ((KS)++((KN)))=s2:=by simp only[Yl,E1,E2]
 rw[EK];clear EK;have P1:=Hh (hsel.at_ (b:=b) E1 R1.out);have P2:=Hh (hnum.at_ (b:=b) E2 R2.out);have HE1:=Hh E1;clear E1;have HE2:=Hh E2;clear E2;have HA:=Hh ha;clear ha hsel hnum;have T:=Hh h;clear h;go_enter Tryz.func177,Tryz.ntmps177;go_wp2_with(first
 |((with_reducible refine Zd 3 ?_);refine Yp T.out 58 _ (ys) rfl rfl rfl ?_;intro wn g0 tn;have T:=Hh tn;clear tn;have c0_0:=(T.out.get 0 rfl).nthQ 0 HA.out.c0)
 |((with_reducible refine Zd 12 ?_);refine Zr 49 _ g0 (3) (sv) (HA.out.rs _ _ _ (T.out.get 0 rfl)) Vr (by rw[HA.out.slen];exact Ve) rfl rfl rfl ?_)
 |(go_at_call 77;refine(P1.out _ _ T.out).mono ?_;rintro e wn ⟨rfl,tn⟩;have T:=Hh tn;clear tn;have c0_0:=(T.out.get 0 rfl).nthQ 0 HA.out.c0)
 |((with_reducible refine Zd 16 ?_);refine Zr 54 _ g0 (9) (nv) (HA.out.rn _ _ _ (T.out.get 0 rfl)) Xm (by rw[HA.out.nlen];exact Yz) rfl rfl rfl ?_)
 |(go_at_call 45;refine(P2.out _ _ T.out).mono ?_;rintro e wn ⟨rfl,tn⟩;have T:=Hh tn;clear tn;have c0_0:=(T.out.get 0 rfl).nthQ 0 HA.out.c0))
 go_end0
 exact⟨rfl,T.out.tail⟩
theorem pPlain_3(w0:World)(ys sv nv pv:List Value)(sd tk tl how:Int)(nm:ByteArray)(thn els:Value)(ha:Zcs ys sv nv pv 3 sd tk tl how nm thn els)(KS:List ByteArray)(hsel:Xz w0 77 (.agg sv.toArray) KS):Xz w0 177 (.agg ys.toArray) (KS):=by
 intro b st own x h hr;obtain⟨s1,E1⟩:∃ s,s=Zs st (KS):=⟨_,rfl⟩
 have R1:=Hh hr;clear hr;have EK:Zs st ((KS))=s1:=by simp only[Yl,E1]
 rw[EK];clear EK;have P1:=Hh (hsel.at_ (b:=b) E1 R1.out);have HE1:=Hh E1;clear E1;have HA:=Hh ha;clear ha hsel;have T:=Hh h;clear h;go_enter Tryz.func177,Tryz.ntmps177;go_wp2_with(first
 |((with_reducible refine Zd 3 ?_);refine Yp T.out 58 _ (ys) rfl rfl rfl ?_;intro wn g0 tn;have T:=Hh tn;clear tn;have c0_0:=(T.out.get 0 rfl).nthQ 0 HA.out.c0)
 |((with_reducible refine Zd 24 ?_);refine Zr 49 _ g0 (3) (sv) (HA.out.rs _ _ _ (T.out.get 0 rfl)) Vr (by rw[HA.out.slen];exact Ve) rfl rfl rfl ?_)
 |(go_at_call 77;refine(P1.out _ _ T.out).mono ?_;rintro e wn ⟨rfl,tn⟩;have T:=Hh tn;clear tn;have c0_0:=(T.out.get 0 rfl).nthQ 0 HA.out.c0))
 go_end0
 exact⟨rfl,T.out.tail⟩
theorem pPlain_5(w0:World)(ys sv nv pv:List Value)(sd tk tl how:Int)(nm:ByteArray)(thn els:Value)(ha:Zcs ys sv nv pv 5 sd tk tl how nm thn els)(KS:List ByteArray)(hsel:Xz w0 77 (.agg sv.toArray) KS):Xz w0 177 (.agg ys.toArray) (KS):=by
 intro b st own x h hr;obtain⟨s1,E1⟩:∃ s,s=Zs st (KS):=⟨_,rfl⟩
 have R1:=Hh hr;clear hr;have EK:Zs st ((KS))=s1:=by simp only[Yl,E1]
 rw[EK];clear EK;have P1:=Hh (hsel.at_ (b:=b) E1 R1.out);have HE1:=Hh E1;clear E1;have HA:=Hh ha;clear ha hsel;have T:=Hh h;clear h;go_enter Tryz.func177,Tryz.ntmps177;go_wp2_with(first
 |((with_reducible refine Zd 3 ?_);refine Yp T.out 58 _ (ys) rfl rfl rfl ?_;intro wn g0 tn;have T:=Hh tn;clear tn;have c0_0:=(T.out.get 0 rfl).nthQ 0 HA.out.c0)
 |((with_reducible refine Zd 24 ?_);refine Zr 49 _ g0 (3) (sv) (HA.out.rs _ _ _ (T.out.get 0 rfl)) Vr (by rw[HA.out.slen];exact Ve) rfl rfl rfl ?_)
 |(go_at_call 77;refine(P1.out _ _ T.out).mono ?_;rintro e wn ⟨rfl,tn⟩;have T:=Hh tn;clear tn;have c0_0:=(T.out.get 0 rfl).nthQ 0 HA.out.c0))
 go_end0
 exact⟨rfl,T.out.tail⟩
theorem pPlain_14(w0:World)(ys sv nv pv:List Value)(sd tk tl how:Int)(nm:ByteArray)(thn els:Value)(ha:Zcs ys sv nv pv 14 sd tk tl how nm thn els)(KS:List ByteArray)(hsel:Xz w0 77 (.agg sv.toArray) KS):Xz w0 177 (.agg ys.toArray) (KS):=by
 intro b st own x h hr;obtain⟨s1,E1⟩:∃ s,s=Zs st (KS):=⟨_,rfl⟩
 have R1:=Hh hr;clear hr;have EK:Zs st ((KS))=s1:=by simp only[Yl,E1]
 rw[EK];clear EK;have P1:=Hh (hsel.at_ (b:=b) E1 R1.out);have HE1:=Hh E1;clear E1;have HA:=Hh ha;clear ha hsel;have T:=Hh h;clear h;go_enter Tryz.func177,Tryz.ntmps177;go_wp2_with(first
 |((with_reducible refine Zd 3 ?_);refine Yp T.out 58 _ (ys) rfl rfl rfl ?_;intro wn g0 tn;have T:=Hh tn;clear tn;have c0_0:=(T.out.get 0 rfl).nthQ 0 HA.out.c0)
 |((with_reducible refine Zd 24 ?_);refine Zr 49 _ g0 (3) (sv) (HA.out.rs _ _ _ (T.out.get 0 rfl)) Vr (by rw[HA.out.slen];exact Ve) rfl rfl rfl ?_)
 |(go_at_call 77;refine(P1.out _ _ T.out).mono ?_;rintro e wn ⟨rfl,tn⟩;have T:=Hh tn;clear tn;have c0_0:=(T.out.get 0 rfl).nthQ 0 HA.out.c0))
 go_end0
 exact⟨rfl,T.out.tail⟩
theorem pPlain_4(w0:World)(ys sv nv pv:List Value)(sd tk tl how:Int)(nm:ByteArray)(thn els:Value)(ha:Zcs ys sv nv pv 4 sd tk tl how nm thn els)(KS:List ByteArray)(hsel:Xz w0 77 (.agg sv.toArray) KS)(KT:List ByteArray)(hto:Xz w0 79 (.agg ([I J tk,I J tl]:List Value).toArray) KT):Xz w0 177 (.agg ys.toArray) (KS++(KT)):=by
 intro b st own x h hr;obtain⟨s1,E1⟩:∃ s,s=Zs st (KS):=⟨_,rfl⟩
 have R1:=Hh (Yw.first hr);replace hr:=Yw.next hr;rw[←E1]at hr;obtain⟨s2,E2⟩:∃ s,s=Zs s1 (KT):=⟨_,rfl⟩
 have R2:=Hh hr;clear hr;have EK:Zs st ((KS)++((KT)))=s2:=by simp only[Yl,E1,E2]
 rw[EK];clear EK;have P1:=Hh (hsel.at_ (b:=b) E1 R1.out);have P2:=Hh (hto.at_ (b:=b) E2 R2.out);have HE1:=Hh E1;clear E1;have HE2:=Hh E2;clear E2;have HA:=Hh ha;clear ha hsel hto;have T:=Hh h;clear h;go_enter Tryz.func177,Tryz.ntmps177;go_wp2_with(first
 |((with_reducible refine Zd 3 ?_);refine Yp T.out 58 _ (ys) rfl rfl rfl ?_;intro wn g0 tn;have T:=Hh tn;clear tn;have c0_0:=(T.out.get 0 rfl).nthQ 0 HA.out.c0)
 |((with_reducible refine Zd 30 ?_);refine Zr 49 _ g0 (3) (sv) (HA.out.rs _ _ _ (T.out.get 0 rfl)) Vr (by rw[HA.out.slen];exact Ve) rfl rfl rfl ?_)
 |(go_at_call 77;refine(P1.out _ _ T.out).mono ?_;rintro e wn ⟨rfl,tn⟩;have T:=Hh tn;clear tn;have c0_0:=(T.out.get 0 rfl).nthQ 0 HA.out.c0)
 |((with_reducible refine Zd 34 ?_);refine Zr 51 _ g0 (22) ([I J tk,I J tl]) (HA.out.rt _ _ _ (T.out.get 0 rfl)) Zfq Zdk rfl rfl rfl ?_)
 |(go_at_call 79;refine(P2.out _ _ T.out).mono ?_;rintro e wn ⟨rfl,tn⟩;have T:=Hh tn;clear tn;have c0_0:=(T.out.get 0 rfl).nthQ 0 HA.out.c0))
 go_end0
 exact⟨rfl,T.out.tail⟩
theorem pPlain_6(w0:World)(ys sv nv pv:List Value)(sd tk tl how:Int)(nm:ByteArray)(thn els:Value)(ha:Zcs ys sv nv pv 6 sd tk tl how nm thn els)(h1:1≤sd)(h2:sd≤3)(KT:List ByteArray)(hto:Xz w0 79 (.agg ([I J tk,I J tl]:List Value).toArray) KT)(KN:List ByteArray)(hnum:Xz w0 45 (.agg nv.toArray) KN):Xz w0 177 (.agg ys.toArray) ([qN nm,wd Zg sd]++(KT++(KN))):=by
 intro b st own x h hr;have hnm:nm.size≤10000000000:=by have h2:=hr.first;unfold Yw at h2;simp[Vc,Zhr]at h2;omega
 obtain⟨s1,E1⟩:∃ s,s=Zs st ([qN nm,wd Zg sd]):=⟨_,rfl⟩
 have R1:=Hh (Yw.first hr);replace hr:=Yw.next hr;rw[←E1]at hr;obtain⟨s2,E2⟩:∃ s,s=Zs s1 (KT):=⟨_,rfl⟩
 have R2:=Hh (Yw.first hr);replace hr:=Yw.next hr;rw[←E2]at hr;obtain⟨s3,E3⟩:∃ s,s=Zs s2 (KN):=⟨_,rfl⟩
 have R3:=Hh hr;clear hr;have EK:Zs st (([qN nm,wd Zg sd])++((KT)++((KN))))=s3:=by simp only[Yl,E1,E2,E3]
 rw[EK];clear EK;have P1:=Hh (fun own x=>Wh (w0:=w0) (b:=b) E1 R1.out (by simp) own x);have P2:=Hh (hto.at_ (b:=b) E2 R2.out);have P3:=Hh (hnum.at_ (b:=b) E3 R3.out);have HE1:=Hh E1;clear E1;have HE2:=Hh E2;clear E2;have HE3:=Hh E3;clear E3;have HA:=Hh ha;clear ha hnum hto;have T:=Hh h;clear h;go_enter Tryz.func177,Tryz.ntmps177;go_upto_region 15 with(first
 |((with_reducible refine Zd 3 ?_);refine Yp T.out 58 _ (ys) rfl rfl rfl ?_;intro wn g0 tn;have T:=Hh tn;clear tn;have c0_0:=(T.out.get 0 rfl).nthQ 0 HA.out.c0;have c0_21:=(T.out.get 0 rfl).nthQ 21 HA.out.c21;have c0_25:=(T.out.get 0 rfl).nthQ 25 HA.out.c25))
 go_cut []from 38 to 46 (fun wx=>PE w0 b s1 ((g0,58,ys)::own) wx)
 case first=>
  refine wp_region_held_drew (S:=fun x=>∃ s,PE w0 b s ((g0,58,ys)::own) x) (by kernel_rfl) ⟨_,T.out.drew⟩ (fun hS=>?_);have hP:=T.out.drew;generalize wn.drew=wf at *;refine Xl (i:=0) (v:=Ω (some ⟨b,0,none⟩)) rfl rfl (by kernel_rfl) (by kernel_rfl) (by kernel_rfl) (fun _ _ _ h=>h) (qyMove rfl rfl rfl) hS ?_;try simp only[Qy,Qx]
  refine Xl (i:=1) (v:=Ω (some ⟨g0,25,none⟩)) rfl rfl (by kernel_rfl) (by kernel_rfl) (by kernel_rfl) (fun _ _ _ h=>h) (Or.inl ⟨by rfl,fun y hy=>by go_simp⟩) hS ?_;try simp only[Qy,Qx]
  refine Xl (i:=2) (v:=Ψ nm) rfl rfl (by kernel_rfl) (by kernel_rfl) (by kernel_rfl) (fun _ _ _ h=>h) (Or.inl ⟨by rfl,fun y hy=>by obtain⟨_,hy⟩:=hy;have c0:=(PE.get hy 0 rfl).nthQ 25 HA.out.c25;go_simp⟩) hS ?_;try simp only[Qy,Qx]
  refine Xl (i:=4) (v:=Ω (some ⟨g0,21,none⟩)) rfl rfl (by kernel_rfl) (by kernel_rfl) (by kernel_rfl) (fun _ _ _ h=>h) (Or.inl ⟨by rfl,fun y hy=>by go_simp⟩) hS ?_;try simp only[Qy,Qx]
  refine Xl (i:=5) (v:=I J sd) rfl rfl (by kernel_rfl) (by kernel_rfl) (by kernel_rfl) (fun _ _ _ h=>h) (Or.inl ⟨by rfl,fun y hy=>by obtain⟨_,hy⟩:=hy;have c0:=(PE.get hy 0 rfl).nthQ 21 HA.out.c21;go_simp⟩) hS ?_;try simp only[Qy,Qx]
  refine wpAnyH_ready (rs:=[3]) (by kernel_rfl) (by simp) (AllReadyH.cons rfl (fun K hK=>?_) AllReadyH.nil);clear hS;go_simp;go_at_call 57
  refine(vqName hP nm hnm).mono ?_;rintro e wf ⟨rfl,hP2⟩;clear hP;have hP:=hP2;clear hP2;refine hK.out _ _ ⟨_,hP⟩ (fun hS=>?_);clear hK K;try simp only[Act.put,Qz,Qy,Qx]
  refine wpAnyH_ready (rs:=[6]) (by kernel_rfl) (by simp) (AllReadyH.cons rfl (fun K hK=>?_) AllReadyH.nil);clear hS;go_simp;go_at_call 78
  refine(Zie hP sd h1 h2).mono ?_;rintro e wf ⟨rfl,hP2⟩;clear hP;have hP:=hP2;clear hP2;refine hK.out _ _ ⟨_,hP⟩ (fun hS=>?_);clear hK K;try simp only[Act.put,Qz,Qy,Qx]
  refine wpAnyH_ready (rs:=[7]) (by kernel_rfl) (by simp) (AllReadyH.cons rfl (fun K hK=>?_) AllReadyH.nil);clear hS;go_simp;refine hK.out _ _ ⟨_,hP.call (Zj wf (.cells #[Ψ (qN nm),Ψ (wd Zg sd)] 9))⟩ (fun hS=>?_);clear hK K;try simp only[Act.put,Qz,Qy,Qx]
  refine wpAnyH_ready (rs:=[8]) (by kernel_rfl) (by simp) (AllReadyH.cons rfl (fun K hK=>?_) AllReadyH.nil);clear hS;go_simp;go_at_call 56
  refine(P1.out _ _ _ _ _ hP rfl rfl).mono ?_;rintro e wf ⟨rfl,hP2⟩;clear hP;have hP:=hP2;clear hP2;refine hK.out _ _ ⟨_,hP⟩ (fun hS=>?_);clear hK K;try simp only[Act.put,Qz,Qy,Qx]
  refine wpAnyH_done (by kernel_rfl) ?_ _;have T:=Hh hP;clear hP hS;go_wp2_with fail
  go_meet
  case rel=>exact T.out
 case rest=>
  have T:=Hh hcut;clear hcut;go_wp2_with(first
 |((with_reducible refine Zd 49 ?_);refine Zr 51 _ g0 (22) ([I J tk,I J tl]) (HA.out.rt _ _ _ (T.out.get 0 rfl)) Zfq Zdk rfl rfl rfl ?_)
 |(go_at_call 79;refine(P2.out _ _ T.out).mono ?_;rintro e wn ⟨rfl,tn⟩;have T:=Hh tn;clear tn)
 |((with_reducible refine Zd 53 ?_);refine Zr 54 _ g0 (9) (nv) (HA.out.rn _ _ _ (T.out.get 0 rfl)) Xm (by rw[HA.out.nlen];exact Yz) rfl rfl rfl ?_)
 |(go_at_call 45;refine(P3.out _ _ T.out).mono ?_;rintro e wn ⟨rfl,tn⟩;have T:=Hh tn;clear tn))
  go_end0
  exact⟨rfl,T.out.tail⟩
theorem pPlain_7(w0:World)(ys sv nv pv:List Value)(sd tk tl how:Int)(nm:ByteArray)(thn els:Value)(ha:Zcs ys sv nv pv 7 sd tk tl how nm thn els)(h1:1≤sd)(h2:sd≤3)(KN:List ByteArray)(hnum:Xz w0 45 (.agg nv.toArray) KN):Xz w0 177 (.agg ys.toArray) ([wd Zg sd]++(KN)):=by
 intro b st own x h hr;obtain⟨s1,E1⟩:∃ s,s=Zs st ([wd Zg sd]):=⟨_,rfl⟩
 have R1:=Hh (Yw.first hr);replace hr:=Yw.next hr;rw[←E1]at hr;obtain⟨s2,E2⟩:∃ s,s=Zs s1 (KN):=⟨_,rfl⟩
 have R2:=Hh hr;clear hr;have EK:Zs st (([wd Zg sd])++((KN)))=s2:=by simp only[Yl,E1,E2]
 rw[EK];clear EK;have P1:=Hh (fun own x=>Wh (w0:=w0) (b:=b) E1 R1.out (by simp) own x);have P2:=Hh (hnum.at_ (b:=b) E2 R2.out);have HE1:=Hh E1;clear E1;have HE2:=Hh E2;clear E2;have HA:=Hh ha;clear ha hnum;have T:=Hh h;clear h;go_enter Tryz.func177,Tryz.ntmps177;go_wp2_with(first
 |((with_reducible refine Zd 3 ?_);refine Yp T.out 58 _ (ys) rfl rfl rfl ?_;intro wn g0 tn;have T:=Hh tn;clear tn;have c0_0:=(T.out.get 0 rfl).nthQ 0 HA.out.c0;have c0_21:=(T.out.get 0 rfl).nthQ 21 HA.out.c21)
 |(go_at_call 78;(with_reducible refine(Zie T.out (sd) (h1) (h2)).mono ?_);rintro e wn ⟨rfl,tn⟩;have T:=Hh tn;clear tn;have c0_0:=(T.out.get 0 rfl).nthQ 0 HA.out.c0;have c0_21:=(T.out.get 0 rfl).nthQ 21 HA.out.c21)
 |(go_at_call 56;refine(P1.out _ _ _ _ _ T.out rfl rfl).mono ?_;rintro e wn ⟨rfl,tn⟩;have T:=Hh tn;clear tn;have c0_0:=(T.out.get 0 rfl).nthQ 0 HA.out.c0;have c0_21:=(T.out.get 0 rfl).nthQ 21 HA.out.c21)
 |((with_reducible refine Zd 66 ?_);refine Zr 54 _ g0 (9) (nv) (HA.out.rn _ _ _ (T.out.get 0 rfl)) Xm (by rw[HA.out.nlen];exact Yz) rfl rfl rfl ?_)
 |(go_at_call 45;refine(P2.out _ _ T.out).mono ?_;rintro e wn ⟨rfl,tn⟩;have T:=Hh tn;clear tn;have c0_0:=(T.out.get 0 rfl).nthQ 0 HA.out.c0;have c0_21:=(T.out.get 0 rfl).nthQ 21 HA.out.c21))
 go_end0
 exact⟨rfl,T.out.tail⟩
theorem pPlain_9(w0:World)(ys sv nv pv:List Value)(sd tk tl how:Int)(nm:ByteArray)(thn els:Value)(ha:Zcs ys sv nv pv 9 sd tk tl how nm thn els)(h1:1≤sd)(h2:sd≤3)(KN:List ByteArray)(hnum:Xz w0 45 (.agg nv.toArray) KN):Xz w0 177 (.agg ys.toArray) ([wd Zg sd]++(KN)):=by
 intro b st own x h hr;obtain⟨s1,E1⟩:∃ s,s=Zs st ([wd Zg sd]):=⟨_,rfl⟩
 have R1:=Hh (Yw.first hr);replace hr:=Yw.next hr;rw[←E1]at hr;obtain⟨s2,E2⟩:∃ s,s=Zs s1 (KN):=⟨_,rfl⟩
 have R2:=Hh hr;clear hr;have EK:Zs st (([wd Zg sd])++((KN)))=s2:=by simp only[Yl,E1,E2]
 rw[EK];clear EK;have P1:=Hh (fun own x=>Wh (w0:=w0) (b:=b) E1 R1.out (by simp) own x);have P2:=Hh (hnum.at_ (b:=b) E2 R2.out);have HE1:=Hh E1;clear E1;have HE2:=Hh E2;clear E2;have HA:=Hh ha;clear ha hnum;have T:=Hh h;clear h;go_enter Tryz.func177,Tryz.ntmps177;go_wp2_with(first
 |((with_reducible refine Zd 3 ?_);refine Yp T.out 58 _ (ys) rfl rfl rfl ?_;intro wn g0 tn;have T:=Hh tn;clear tn;have c0_0:=(T.out.get 0 rfl).nthQ 0 HA.out.c0;have c0_21:=(T.out.get 0 rfl).nthQ 21 HA.out.c21)
 |(go_at_call 78;(with_reducible refine(Zie T.out (sd) (h1) (h2)).mono ?_);rintro e wn ⟨rfl,tn⟩;have T:=Hh tn;clear tn;have c0_0:=(T.out.get 0 rfl).nthQ 0 HA.out.c0;have c0_21:=(T.out.get 0 rfl).nthQ 21 HA.out.c21)
 |(go_at_call 56;refine(P1.out _ _ _ _ _ T.out rfl rfl).mono ?_;rintro e wn ⟨rfl,tn⟩;have T:=Hh tn;clear tn;have c0_0:=(T.out.get 0 rfl).nthQ 0 HA.out.c0;have c0_21:=(T.out.get 0 rfl).nthQ 21 HA.out.c21)
 |((with_reducible refine Zd 66 ?_);refine Zr 54 _ g0 (9) (nv) (HA.out.rn _ _ _ (T.out.get 0 rfl)) Xm (by rw[HA.out.nlen];exact Yz) rfl rfl rfl ?_)
 |(go_at_call 45;refine(P2.out _ _ T.out).mono ?_;rintro e wn ⟨rfl,tn⟩;have T:=Hh tn;clear tn;have c0_0:=(T.out.get 0 rfl).nthQ 0 HA.out.c0;have c0_21:=(T.out.get 0 rfl).nthQ 21 HA.out.c21))
 go_end0
 exact⟨rfl,T.out.tail⟩
theorem pPlain_8(w0:World)(ys sv nv pv:List Value)(sd tk tl how:Int)(nm:ByteArray)(thn els:Value)(ha:Zcs ys sv nv pv 8 sd tk tl how nm thn els)(h1:1≤sd)(h2:sd≤3)(h3:1≤how)(h4:how≤4):Xz w0 177 (.agg ys.toArray) ([wd Zg sd,wd Zde how]):=by
 intro b st own x h hr;obtain⟨s1,E1⟩:∃ s,s=Zs st ([wd Zg sd,wd Zde how]):=⟨_,rfl⟩
 have R1:=Hh hr;clear hr;have EK:Zs st (([wd Zg sd,wd Zde how]))=s1:=by simp only[Yl,E1]
 rw[EK];clear EK;have P1:=Hh (fun own x=>Wh (w0:=w0) (b:=b) E1 R1.out (by simp) own x);have HE1:=Hh E1;clear E1;have HA:=Hh ha;clear ha;have T:=Hh h;clear h;go_enter Tryz.func177,Tryz.ntmps177;go_upto_region 23 with(first
 |((with_reducible refine Zd 3 ?_);refine Yp T.out 58 _ (ys) rfl rfl rfl ?_;intro wn g0 tn;have T:=Hh tn;clear tn;have c0_0:=(T.out.get 0 rfl).nthQ 0 HA.out.c0;have c0_21:=(T.out.get 0 rfl).nthQ 21 HA.out.c21;have c0_24:=(T.out.get 0 rfl).nthQ 24 HA.out.c24))
 refine wp_region_held_drew (S:=fun x=>∃ s,PE w0 b s ((g0,58,ys)::own) x) (by kernel_rfl) ⟨_,T.out.drew⟩ (fun hS=>?_);have hP:=T.out.drew;generalize wn.drew=wf at *;refine Xl (i:=0) (v:=Ω (some ⟨b,0,none⟩)) rfl rfl (by kernel_rfl) (by kernel_rfl) (by kernel_rfl) (fun _ _ _ h=>h) (qyMove rfl rfl rfl) hS ?_;try simp only[Qy,Qx]
 refine Xl (i:=1) (v:=Ω (some ⟨g0,21,none⟩)) rfl rfl (by kernel_rfl) (by kernel_rfl) (by kernel_rfl) (fun _ _ _ h=>h) (Or.inl ⟨by rfl,fun y hy=>by go_simp⟩) hS ?_;try simp only[Qy,Qx]
 refine Xl (i:=2) (v:=I J sd) rfl rfl (by kernel_rfl) (by kernel_rfl) (by kernel_rfl) (fun _ _ _ h=>h) (Or.inl ⟨by rfl,fun y hy=>by obtain⟨_,hy⟩:=hy;have c0:=(PE.get hy 0 rfl).nthQ 21 HA.out.c21;go_simp⟩) hS ?_;try simp only[Qy,Qx]
 refine Xl (i:=4) (v:=Ω (some ⟨g0,24,none⟩)) rfl rfl (by kernel_rfl) (by kernel_rfl) (by kernel_rfl) (fun _ _ _ h=>h) (Or.inl ⟨by rfl,fun y hy=>by go_simp⟩) hS ?_;try simp only[Qy,Qx]
 refine Xl (i:=5) (v:=I J how) rfl rfl (by kernel_rfl) (by kernel_rfl) (by kernel_rfl) (fun _ _ _ h=>h) (Or.inl ⟨by rfl,fun y hy=>by obtain⟨_,hy⟩:=hy;have c0:=(PE.get hy 0 rfl).nthQ 24 HA.out.c24;go_simp⟩) hS ?_;try simp only[Qy,Qx]
 refine wpAnyH_ready (rs:=[3,6]) (by kernel_rfl) (by simp) (AllReadyH.cons rfl (fun K hK=>?_) (AllReadyH.cons rfl (fun K hK=>?_) AllReadyH.nil))
 ·clear hS
  go_simp;go_at_call 78
  refine(Zie hP sd h1 h2).mono ?_;rintro e wf ⟨rfl,hP2⟩;clear hP;have hP:=hP2;clear hP2;refine hK.out _ _ ⟨_,hP⟩ (fun hS=>?_);clear hK K;try simp only[Act.put,Qz,Qy,Qx]
  refine wpAnyH_ready (rs:=[6]) (by kernel_rfl) (by simp) (AllReadyH.cons rfl (fun K hK=>?_) AllReadyH.nil);clear hS;go_simp;have hP2:=hP.call (Zj wf (.cells #[Ψ ⟨#[102,105,114,115,116]⟩,Ψ ⟨#[108,97,115,116]⟩,Ψ ⟨#[99,104,101,97,112,101,115,116]⟩,Ψ ⟨#[99,111,115,116,108,105,101,115,116]⟩] 9));have hW:Ze (World.alloc wf (.cells #[Ψ ⟨#[102,105,114,115,116]⟩,Ψ ⟨#[108,97,115,116]⟩,Ψ ⟨#[99,104,101,97,112,101,115,116]⟩,Ψ ⟨#[99,111,115,116,108,105,101,115,116]⟩] 9)) wf.heap.size 9 (Zek Zde):=Ze.made _ _ _;obtain⟨q,hq⟩:∃ q,q=wf.heap.size:=⟨_,rfl⟩
  rw[←hq]at hW ⊢;clear hq hP;generalize World.alloc wf (.cells #[Ψ ⟨#[102,105,114,115,116]⟩,Ψ ⟨#[108,97,115,116]⟩,Ψ ⟨#[99,104,101,97,112,101,115,116]⟩,Ψ ⟨#[99,111,115,116,108,105,101,115,116]⟩] 9)=wf at *;have hP:=hP2;clear hP2;refine hK.out _ _ ⟨_,hP⟩ (fun hS=>?_);clear hK K;try simp only[Act.put,Qz,Qy,Qx]
  refine wpAnyH_ready (rs:=[7]) (by kernel_rfl) (by simp) (AllReadyH.cons rfl (fun K hK=>?_) AllReadyH.nil);clear hS;go_simp;go_at_call 87
  refine(Zjc hP hW how 4 4 rfl h3 (by show _≤((4:Nat):Int);omega) (by decide)).mono ?_;rintro e wf ⟨rfl,hP2⟩;clear hW;clear hP;have hP:=hP2;clear hP2;refine hK.out _ _ ⟨_,hP⟩ (fun hS=>?_);clear hK K;try simp only[Act.put,Qz,Qy,Qx]
  refine wpAnyH_ready (rs:=[8]) (by kernel_rfl) (by simp) (AllReadyH.cons rfl (fun K hK=>?_) AllReadyH.nil);clear hS;go_simp;refine hK.out _ _ ⟨_,hP.call (Zj wf (.cells #[Ψ (wd Zg sd),Ψ (wd Zde how)] 9))⟩ (fun hS=>?_);clear hK K;try simp only[Act.put,Qz,Qy,Qx]
  refine wpAnyH_ready (rs:=[9]) (by kernel_rfl) (by simp) (AllReadyH.cons rfl (fun K hK=>?_) AllReadyH.nil);clear hS;go_simp;go_at_call 56
  refine(P1.out _ _ _ _ _ hP rfl rfl).mono ?_;rintro e wf ⟨rfl,hP2⟩;clear hP;have hP:=hP2;clear hP2;refine hK.out _ _ ⟨_,hP⟩ (fun hS=>?_);clear hK K;try simp only[Act.put,Qz,Qy,Qx]
  refine wpAnyH_done (by kernel_rfl) ?_ _;have T:=Hh hP;clear hP hS;go_wp2
  go_end0
  exact⟨rfl,T.out.tail⟩
 ·clear hS
  go_simp;have hP2:=hP.call (Zj wf (.cells #[Ψ ⟨#[102,105,114,115,116]⟩,Ψ ⟨#[108,97,115,116]⟩,Ψ ⟨#[99,104,101,97,112,101,115,116]⟩,Ψ ⟨#[99,111,115,116,108,105,101,115,116]⟩] 9));have hW:Ze (World.alloc wf (.cells #[Ψ ⟨#[102,105,114,115,116]⟩,Ψ ⟨#[108,97,115,116]⟩,Ψ ⟨#[99,104,101,97,112,101,115,116]⟩,Ψ ⟨#[99,111,115,116,108,105,101,115,116]⟩] 9)) wf.heap.size 9 (Zek Zde):=Ze.made _ _ _;obtain⟨q,hq⟩:∃ q,q=wf.heap.size:=⟨_,rfl⟩
  rw[←hq]at hW ⊢;clear hq hP;generalize World.alloc wf (.cells #[Ψ ⟨#[102,105,114,115,116]⟩,Ψ ⟨#[108,97,115,116]⟩,Ψ ⟨#[99,104,101,97,112,101,115,116]⟩,Ψ ⟨#[99,111,115,116,108,105,101,115,116]⟩] 9)=wf at *;have hP:=hP2;clear hP2;refine hK.out _ _ ⟨_,hP⟩ (fun hS=>?_);clear hK K;try simp only[Act.put,Qz,Qy,Qx]
  refine wpAnyH_ready (rs:=[3]) (by kernel_rfl) (by simp) (AllReadyH.cons rfl (fun K hK=>?_) AllReadyH.nil);clear hS;go_simp;go_at_call 78
  refine(vqSideW hP hW sd h1 h2).mono ?_;rintro e wf ⟨rfl,hP2,hW2⟩;clear hW;have hW:=hW2;clear hW2;clear hP;have hP:=hP2;clear hP2;refine hK.out _ _ ⟨_,hP⟩ (fun hS=>?_);clear hK K;try simp only[Act.put,Qz,Qy,Qx]
  refine wpAnyH_ready (rs:=[7]) (by kernel_rfl) (by simp) (AllReadyH.cons rfl (fun K hK=>?_) AllReadyH.nil);clear hS;go_simp;go_at_call 87
  refine(Zjc hP hW how 4 4 rfl h3 (by show _≤((4:Nat):Int);omega) (by decide)).mono ?_;rintro e wf ⟨rfl,hP2⟩;clear hW;clear hP;have hP:=hP2;clear hP2;refine hK.out _ _ ⟨_,hP⟩ (fun hS=>?_);clear hK K;try simp only[Act.put,Qz,Qy,Qx]
  refine wpAnyH_ready (rs:=[8]) (by kernel_rfl) (by simp) (AllReadyH.cons rfl (fun K hK=>?_) AllReadyH.nil);clear hS;go_simp;refine hK.out _ _ ⟨_,hP.call (Zj wf (.cells #[Ψ (wd Zg sd),Ψ (wd Zde how)] 9))⟩ (fun hS=>?_);clear hK K;try simp only[Act.put,Qz,Qy,Qx]
  refine wpAnyH_ready (rs:=[9]) (by kernel_rfl) (by simp) (AllReadyH.cons rfl (fun K hK=>?_) AllReadyH.nil);clear hS;go_simp;go_at_call 56
  refine(P1.out _ _ _ _ _ hP rfl rfl).mono ?_;rintro e wf ⟨rfl,hP2⟩;clear hP;have hP:=hP2;clear hP2;refine hK.out _ _ ⟨_,hP⟩ (fun hS=>?_);clear hK K;try simp only[Act.put,Qz,Qy,Qx]
  refine wpAnyH_done (by kernel_rfl) ?_ _;have T:=Hh hP;clear hP hS;go_wp2
  go_end0
  exact⟨rfl,T.out.tail⟩
theorem pPlain_13(w0:World)(ys sv nv pv:List Value)(sd tk tl how:Int)(nm:ByteArray)(thn els:Value)(ha:Zcs ys sv nv pv 13 sd tk tl how nm thn els)(h1:1≤sd)(h2:sd≤3)(KT:List ByteArray)(hto:Xz w0 79 (.agg ([I J tk,I J tl]:List Value).toArray) KT):Xz w0 177 (.agg ys.toArray) ([wd Zg sd]++(KT)):=by
 intro b st own x h hr;obtain⟨s1,E1⟩:∃ s,s=Zs st ([wd Zg sd]):=⟨_,rfl⟩
 have R1:=Hh (Yw.first hr);replace hr:=Yw.next hr;rw[←E1]at hr;obtain⟨s2,E2⟩:∃ s,s=Zs s1 (KT):=⟨_,rfl⟩
 have R2:=Hh hr;clear hr;have EK:Zs st (([wd Zg sd])++((KT)))=s2:=by simp only[Yl,E1,E2]
 rw[EK];clear EK;have P1:=Hh (fun own x=>Wh (w0:=w0) (b:=b) E1 R1.out (by simp) own x);have P2:=Hh (hto.at_ (b:=b) E2 R2.out);have HE1:=Hh E1;clear E1;have HE2:=Hh E2;clear E2;have HA:=Hh ha;clear ha hto;have T:=Hh h;clear h;go_enter Tryz.func177,Tryz.ntmps177;go_wp2_with(first
 |((with_reducible refine Zd 3 ?_);refine Yp T.out 58 _ (ys) rfl rfl rfl ?_;intro wn g0 tn;have T:=Hh tn;clear tn;have c0_0:=(T.out.get 0 rfl).nthQ 0 HA.out.c0;have c0_21:=(T.out.get 0 rfl).nthQ 21 HA.out.c21)
 |(go_at_call 78;(with_reducible refine(Zie T.out (sd) (h1) (h2)).mono ?_);rintro e wn ⟨rfl,tn⟩;have T:=Hh tn;clear tn;have c0_0:=(T.out.get 0 rfl).nthQ 0 HA.out.c0;have c0_21:=(T.out.get 0 rfl).nthQ 21 HA.out.c21)
 |(go_at_call 56;refine(P1.out _ _ _ _ _ T.out rfl rfl).mono ?_;rintro e wn ⟨rfl,tn⟩;have T:=Hh tn;clear tn;have c0_0:=(T.out.get 0 rfl).nthQ 0 HA.out.c0;have c0_21:=(T.out.get 0 rfl).nthQ 21 HA.out.c21)
 |((with_reducible refine Zd 91 ?_);refine Zr 51 _ g0 (22) ([I J tk,I J tl]) (HA.out.rt _ _ _ (T.out.get 0 rfl)) Zfq Zdk rfl rfl rfl ?_)
 |(go_at_call 79;refine(P2.out _ _ T.out).mono ?_;rintro e wn ⟨rfl,tn⟩;have T:=Hh tn;clear tn;have c0_0:=(T.out.get 0 rfl).nthQ 0 HA.out.c0;have c0_21:=(T.out.get 0 rfl).nthQ 21 HA.out.c21))
 go_end0
 exact⟨rfl,T.out.tail⟩
theorem pPlain_15(w0:World)(ys sv nv pv:List Value)(sd tk tl how:Int)(nm:ByteArray)(thn els:Value)(ha:Zcs ys sv nv pv 15 sd tk tl how nm thn els)(h1:1≤sd)(h2:sd≤3)(KT:List ByteArray)(hto:Xz w0 79 (.agg ([I J tk,I J tl]:List Value).toArray) KT):Xz w0 177 (.agg ys.toArray) ([wd Zg sd]++(KT)):=by
 intro b st own x h hr;obtain⟨s1,E1⟩:∃ s,s=Zs st ([wd Zg sd]):=⟨_,rfl⟩
 have R1:=Hh (Yw.first hr);replace hr:=Yw.next hr;rw[←E1]at hr;obtain⟨s2,E2⟩:∃ s,s=Zs s1 (KT):=⟨_,rfl⟩
 have R2:=Hh hr;clear hr;have EK:Zs st (([wd Zg sd])++((KT)))=s2:=by simp only[Yl,E1,E2]
 rw[EK];clear EK;have P1:=Hh (fun own x=>Wh (w0:=w0) (b:=b) E1 R1.out (by simp) own x);have P2:=Hh (hto.at_ (b:=b) E2 R2.out);have HE1:=Hh E1;clear E1;have HE2:=Hh E2;clear E2;have HA:=Hh ha;clear ha hto;have T:=Hh h;clear h;go_enter Tryz.func177,Tryz.ntmps177;go_wp2_with(first
 |((with_reducible refine Zd 3 ?_);refine Yp T.out 58 _ (ys) rfl rfl rfl ?_;intro wn g0 tn;have T:=Hh tn;clear tn;have c0_0:=(T.out.get 0 rfl).nthQ 0 HA.out.c0;have c0_21:=(T.out.get 0 rfl).nthQ 21 HA.out.c21)
 |(go_at_call 78;(with_reducible refine(Zie T.out (sd) (h1) (h2)).mono ?_);rintro e wn ⟨rfl,tn⟩;have T:=Hh tn;clear tn;have c0_0:=(T.out.get 0 rfl).nthQ 0 HA.out.c0;have c0_21:=(T.out.get 0 rfl).nthQ 21 HA.out.c21)
 |(go_at_call 56;refine(P1.out _ _ _ _ _ T.out rfl rfl).mono ?_;rintro e wn ⟨rfl,tn⟩;have T:=Hh tn;clear tn;have c0_0:=(T.out.get 0 rfl).nthQ 0 HA.out.c0;have c0_21:=(T.out.get 0 rfl).nthQ 21 HA.out.c21)
 |((with_reducible refine Zd 91 ?_);refine Zr 51 _ g0 (22) ([I J tk,I J tl]) (HA.out.rt _ _ _ (T.out.get 0 rfl)) Zfq Zdk rfl rfl rfl ?_)
 |(go_at_call 79;refine(P2.out _ _ T.out).mono ?_;rintro e wn ⟨rfl,tn⟩;have T:=Hh tn;clear tn;have c0_0:=(T.out.get 0 rfl).nthQ 0 HA.out.c0;have c0_21:=(T.out.get 0 rfl).nthQ 21 HA.out.c21))
 go_end0
 exact⟨rfl,T.out.tail⟩
theorem pCond(w0:World)(cop:Int)(cl cr:List Value)(e3:cl.length=12)(e4:cr.length=12)(h1:1≤cop)(h2:cop≤6)(K1 K2:List ByteArray)(hl:Xz w0 45 (.agg cl.toArray) K1)(hrr:Xz w0 45 (.agg cr.toArray) K2) :
  Xz w0 176 (.agg (Zfb cop cl cr).toArray) (K1++([wd wOp cop]++K2)):=by
 intro b st own x h hr;obtain⟨s1,E1⟩:∃ s,s=Zs st (K1):=⟨_,rfl⟩
 have R1:=Hh (Yw.first hr);replace hr:=Yw.next hr;rw[←E1]at hr;obtain⟨s2,E2⟩:∃ s,s=Zs s1 ([wd wOp cop]):=⟨_,rfl⟩
 have R2:=Hh (Yw.first hr);replace hr:=Yw.next hr;rw[←E2]at hr;obtain⟨s3,E3⟩:∃ s,s=Zs s2 (K2):=⟨_,rfl⟩
 have R3:=Hh hr;clear hr;have EK:Zs st ((K1)++(([wd wOp cop])++((K2))))=s3:=by simp only[Yl,E1,E2,E3]
 rw[EK];clear EK;have P1:=Hh (hl.at_ (b:=b) E1 R1.out);have P2:=Hh (fun own x=>Wh (w0:=w0) (b:=b) E2 R2.out (by simp) own x);have P3:=Hh (hrr.at_ (b:=b) E3 R3.out);have HE1:=Hh E1;clear E1;have HE2:=Hh E2;clear E2;have HE3:=Hh E3;clear E3;have rl:∀(x:World)(g:Nat)(t:TypeId),Ze x g t (Zfb cop cl cr).toArray→x.rangeAt g 1 cl:=fun x g t hw=>Zgu (pre:=[I J cop]) (post:=cr) (by simp[Zfb]) rfl hw
 have rr:∀(x:World)(g:Nat)(t:TypeId),Ze x g t (Zfb cop cl cr).toArray→x.rangeAt g 13 cr:=fun x g t hw=>Zgu (pre:=I J cop::cl) (post:=[]) (by simp[Zfb]) (by simp[e3]) hw
 have c0:(Zfb cop cl cr)[0]?=some (I J cop):=rfl;generalize Zfb cop cl cr=vs at *;have HL:=Hh rl;have HR:=Hh rr;have H0:=Hh c0;have H3:=Hh e3;have H4:=Hh e4;clear hl hrr rl rr c0 e3 e4;have T:=Hh h;clear h;go_enter Tryz.func176,Tryz.ntmps176;go_wp2_with(first
 |((with_reducible refine Zd 3 ?_);refine Yp T.out 56 _ (vs) rfl rfl rfl ?_;intro wn g0 tn;have T:=Hh tn;clear tn;have c0_0:=(T.out.get 0 rfl).nthQ 0 H0.out)
 |((with_reducible refine Zd 6 ?_);refine Zr 54 _ g0 (1) (cl) (HL.out _ _ _ (T.out.get 0 rfl)) Xm (by rw[H3.out];exact Yz) rfl rfl rfl ?_)
 |(go_at_call 45;(with_reducible refine(P1.out _ _ T.out).mono ?_);rintro e wn ⟨rfl,tn⟩;have T:=Hh tn;clear tn;have c0_0:=(T.out.get 0 rfl).nthQ 0 H0.out)
 |(go_at_call 136;(with_reducible refine(vqOp T.out (cop) (h1) (h2)).mono ?_);rintro e wn ⟨rfl,tn⟩;have T:=Hh tn;clear tn;have c0_0:=(T.out.get 0 rfl).nthQ 0 H0.out)
 |(go_at_call 56;refine(P2.out _ _ _ _ _ T.out rfl rfl).mono ?_;rintro e wn ⟨rfl,tn⟩;have T:=Hh tn;clear tn;have c0_0:=(T.out.get 0 rfl).nthQ 0 H0.out)
 |((with_reducible refine Zd 16 ?_);refine Zr 54 _ g0 (13) (cr) (HR.out _ _ _ (T.out.get 0 rfl)) Xm (by rw[H4.out];exact Yz) rfl rfl rfl ?_)
 |(go_at_call 45;(with_reducible refine(P3.out _ _ T.out).mono ?_);rintro e wn ⟨rfl,tn⟩;have T:=Hh tn;clear tn;have c0_0:=(T.out.get 0 rfl).nthQ 0 H0.out))
 go_end0
 exact⟨rfl,T.out.tail⟩
def zAcQ:List Value:=[I J 0,I J 0,I J 0,I J 0,I J 0,I J 0,I J 0,Λ none 0 0,I J 0,I J 0,I J 0,I J 0,I J 0,I J 0,I J 0,Λ none 0 0,I J 0,I J 0,I J 0,I J 0,Λ none 0 0,I J 0,I J 0,I J 0,I J 0,Ψ ⟨#[]⟩,I J 0,I J 0,I J 0,I J 0,I J 0,I J 0,I J 0,Λ none 0 0,I J 0,I J 0,I J 0,I J 0,Λ none 0 0,I J 0,I J 0,I J 0,I J 0,I J 0,I J 0,Λ none 0 0,I J 0,I J 0,I J 0,I J 0,Λ none 0 0,Λ none 0 0,Λ none 0 0]
theorem qz_ac:(Tryz.prog.info? 58).map (fun i=>i.zero.map Value.cells)=some (some zAcQ.toArray):=by kernel_rfl
theorem qz_ru:(Tryz.prog.info? 46).map (fun i=>i.zero.map Value.cells)=some (some ([I J 0,I J 0,I J 0,I J 0,Λ none 0 0]:List Value).toArray):=by kernel_rfl
theorem pBlock(w0:World)(v:Value)(K:List ByteArray)(ha:Xz w0 114 v K):Xz w0 88 v (Zky K):=by
 intro b st own x h hr;unfold Zky at hr ⊢;obtain⟨s1,E1⟩:∃ s,s=Zs st ([Yv]):=⟨_,rfl⟩
 have R1:=Hh (Yw.first hr);replace hr:=Yw.next hr;rw[←E1]at hr;obtain⟨s2,E2⟩:∃ s,s=Zs s1 (K):=⟨_,rfl⟩
 have R2:=Hh (Yw.first hr);replace hr:=Yw.next hr;rw[←E2]at hr;obtain⟨s3,E3⟩:∃ s,s=Zs s2 ([Xi]):=⟨_,rfl⟩
 have R3:=Hh hr;clear hr;have EK:Zs st (([Yv])++((K)++(([Xi]))))=s3:=by simp only[Yl,E1,E2,E3]
 rw[EK];clear EK;have P1:=Hh (fun own x=>Wh (w0:=w0) (b:=b) E1 R1.out (by simp) own x);have P2:=Hh (ha.at_ (b:=b) E2 R2.out);have P3:=Hh (fun own x=>Wh (w0:=w0) (b:=b) E3 R3.out (by simp) own x);have HE1:=Hh E1;clear E1;have HE2:=Hh E2;clear E2;have HE3:=Hh E3;clear E3;clear ha;have T:=Hh h;clear h;go_enter Tryz.func88,Tryz.ntmps88;go_wp2_with(first
 |(go_at_call 56;refine(P1.out _ _ _ _ _ T.out rfl rfl).mono ?_;rintro e wn ⟨rfl,tn⟩;have T:=Hh tn;clear tn)
 |(go_at_call 114;refine(P2.out _ _ T.out).mono ?_;rintro e wn ⟨rfl,tn⟩;have T:=Hh tn;clear tn)
 |(go_at_call 56;refine(P3.out _ _ _ _ _ T.out rfl rfl).mono ?_;rintro e wn ⟨rfl,tn⟩;have T:=Hh tn;clear tn))
 go_end0
 exact⟨rfl,T.out⟩
theorem pAct_10n(w0:World)(ys sv nv pv:List Value)(sd tk tl how:Int)(nm:ByteArray)(thn els:Value)(V:Option Addr)(vc:Nat)(hv:els=Λ V 0 vc)(ha:Zcs ys sv nv pv 10 sd tk tl how nm thn els)(KC:List ByteArray)(hc:Xz w0 176 (.agg pv.toArray) KC)(KT:List ByteArray)(ht:Xz w0 88 thn KT):Xz w0 149 (.agg ys.toArray) ([wd Xr 10]++(KC++(KT))):=by
 intro b st own x h hr;obtain⟨s1,E1⟩:∃ s,s=Zs st ([wd Xr 10]):=⟨_,rfl⟩
 have R1:=Hh (Yw.first hr);replace hr:=Yw.next hr;rw[←E1]at hr;obtain⟨s2,E2⟩:∃ s,s=Zs s1 (KC):=⟨_,rfl⟩
 have R2:=Hh (Yw.first hr);replace hr:=Yw.next hr;rw[←E2]at hr;obtain⟨s3,E3⟩:∃ s,s=Zs s2 (KT):=⟨_,rfl⟩
 have R3:=Hh hr;clear hr;have EK:Zs st (([wd Xr 10])++((KC)++((KT))))=s3:=by simp only[Yl,E1,E2,E3]
 rw[EK];clear EK;have P1:=Hh (fun own x=>Wh (w0:=w0) (b:=b) E1 R1.out (by simp) own x);have P2:=Hh (hc.at_ (b:=b) E2 R2.out);have P3:=Hh (ht.at_ (b:=b) E3 R3.out);have HE1:=Hh E1;clear E1;have HE2:=Hh E2;clear E2;have HE3:=Hh E3;clear E3;have HA:=Hh ha;clear ha hc ht;subst hv;have T:=Hh h;clear h;go_enter Tryz.func149,Tryz.ntmps149;go_wp2_with(first
 |((with_reducible refine Zd 3 ?_);refine Yp T.out 58 _ (ys) rfl rfl rfl ?_;intro wn g0 tn;have T:=Hh tn;clear tn;have c0_0:=(T.out.get 0 rfl).nthQ 0 HA.out.c0;have c0_51:=(T.out.get 0 rfl).nthQ 51 HA.out.c51;have c0_52:=(T.out.get 0 rfl).nthQ 52 HA.out.c52)
 |(go_at_call 87;refine(Zgg T.out (10) _ 15 15 Xr rfl rfl (by decide) (by decide) (by decide)).mono ?_;rintro e wn ⟨rfl,tn⟩;have T:=Hh tn;clear tn;have c0_0:=(T.out.get 0 rfl).nthQ 0 HA.out.c0;have c0_51:=(T.out.get 0 rfl).nthQ 51 HA.out.c51;have c0_52:=(T.out.get 0 rfl).nthQ 52 HA.out.c52)
 |(go_at_call 56;refine(P1.out _ _ _ _ _ T.out rfl rfl).mono ?_;rintro e wn ⟨rfl,tn⟩;have T:=Hh tn;clear tn;have c0_0:=(T.out.get 0 rfl).nthQ 0 HA.out.c0;have c0_51:=(T.out.get 0 rfl).nthQ 51 HA.out.c51;have c0_52:=(T.out.get 0 rfl).nthQ 52 HA.out.c52)
 |((with_reducible refine Zd 23 ?_);refine Zr 56 _ g0 (26) (pv) (HA.out.rc _ _ _ (T.out.get 0 rfl)) qrow_cond (by rw[HA.out.plen];exact qsize_cond) rfl rfl rfl ?_)
 |(go_at_call 176;refine(P2.out _ _ T.out).mono ?_;rintro e wn ⟨rfl,tn⟩;have T:=Hh tn;clear tn;have c0_0:=(T.out.get 0 rfl).nthQ 0 HA.out.c0;have c0_51:=(T.out.get 0 rfl).nthQ 51 HA.out.c51;have c0_52:=(T.out.get 0 rfl).nthQ 52 HA.out.c52)
 |(go_at_call 88;refine(P3.out _ _ T.out).mono ?_;rintro e wn ⟨rfl,tn⟩;have T:=Hh tn;clear tn;have c0_0:=(T.out.get 0 rfl).nthQ 0 HA.out.c0;have c0_51:=(T.out.get 0 rfl).nthQ 51 HA.out.c51;have c0_52:=(T.out.get 0 rfl).nthQ 52 HA.out.c52))
 go_end0
 exact⟨rfl,T.out.tail⟩
theorem pAct_10e(w0:World)(ys sv nv pv:List Value)(sd tk tl how:Int)(nm:ByteArray)(thn els:Value)(V:Option Addr)(en vc:Nat)(hv:els=Λ V en vc)(hen:0<en)(ha:Zcs ys sv nv pv 10 sd tk tl how nm thn els)(KC:List ByteArray)(hc:Xz w0 176 (.agg pv.toArray) KC)(KT:List ByteArray)(ht:Xz w0 88 thn KT)(KE:List ByteArray)(he:Xz w0 88 els KE):Xz w0 149 (.agg ys.toArray) ([wd Xr 10]++(KC++(KT++([Jf]++(KE))))):=by
 intro b st own x h hr;obtain⟨s1,E1⟩:∃ s,s=Zs st ([wd Xr 10]):=⟨_,rfl⟩
 have R1:=Hh (Yw.first hr);replace hr:=Yw.next hr;rw[←E1]at hr;obtain⟨s2,E2⟩:∃ s,s=Zs s1 (KC):=⟨_,rfl⟩
 have R2:=Hh (Yw.first hr);replace hr:=Yw.next hr;rw[←E2]at hr;obtain⟨s3,E3⟩:∃ s,s=Zs s2 (KT):=⟨_,rfl⟩
 have R3:=Hh (Yw.first hr);replace hr:=Yw.next hr;rw[←E3]at hr;obtain⟨s4,E4⟩:∃ s,s=Zs s3 ([Jf]):=⟨_,rfl⟩
 have R4:=Hh (Yw.first hr);replace hr:=Yw.next hr;rw[←E4]at hr;obtain⟨s5,E5⟩:∃ s,s=Zs s4 (KE):=⟨_,rfl⟩
 have R5:=Hh hr;clear hr;have EK:Zs st (([wd Xr 10])++((KC)++((KT)++(([Jf])++((KE))))))=s5:=by simp only[Yl,E1,E2,E3,E4,E5]
 rw[EK];clear EK;have P1:=Hh (fun own x=>Wh (w0:=w0) (b:=b) E1 R1.out (by simp) own x);have P2:=Hh (hc.at_ (b:=b) E2 R2.out);have P3:=Hh (ht.at_ (b:=b) E3 R3.out);have P4:=Hh (fun own x=>Wh (w0:=w0) (b:=b) E4 R4.out (by simp) own x);have P5:=Hh (he.at_ (b:=b) E5 R5.out);have HE1:=Hh E1;clear E1;have HE2:=Hh E2;clear E2;have HE3:=Hh E3;clear E3;have HE4:=Hh E4;clear E4;have HE5:=Hh E5;clear E5;have HA:=Hh ha;clear ha hc ht he;subst hv;have l0:(0:Int)<(en:Int):=by omega
 have T:=Hh h;clear h;go_enter Tryz.func149,Tryz.ntmps149;go_wp2_with(first
 |((with_reducible refine Zd 3 ?_);refine Yp T.out 58 _ (ys) rfl rfl rfl ?_;intro wn g0 tn;have T:=Hh tn;clear tn;have c0_0:=(T.out.get 0 rfl).nthQ 0 HA.out.c0;have c0_51:=(T.out.get 0 rfl).nthQ 51 HA.out.c51;have c0_52:=(T.out.get 0 rfl).nthQ 52 HA.out.c52)
 |(go_at_call 87;refine(Zgg T.out (10) _ 15 15 Xr rfl rfl (by decide) (by decide) (by decide)).mono ?_;rintro e wn ⟨rfl,tn⟩;have T:=Hh tn;clear tn;have c0_0:=(T.out.get 0 rfl).nthQ 0 HA.out.c0;have c0_51:=(T.out.get 0 rfl).nthQ 51 HA.out.c51;have c0_52:=(T.out.get 0 rfl).nthQ 52 HA.out.c52)
 |(go_at_call 56;refine(P1.out _ _ _ _ _ T.out rfl rfl).mono ?_;rintro e wn ⟨rfl,tn⟩;have T:=Hh tn;clear tn;have c0_0:=(T.out.get 0 rfl).nthQ 0 HA.out.c0;have c0_51:=(T.out.get 0 rfl).nthQ 51 HA.out.c51;have c0_52:=(T.out.get 0 rfl).nthQ 52 HA.out.c52)
 |((with_reducible refine Zd 23 ?_);refine Zr 56 _ g0 (26) (pv) (HA.out.rc _ _ _ (T.out.get 0 rfl)) qrow_cond (by rw[HA.out.plen];exact qsize_cond) rfl rfl rfl ?_)
 |(go_at_call 176;refine(P2.out _ _ T.out).mono ?_;rintro e wn ⟨rfl,tn⟩;have T:=Hh tn;clear tn;have c0_0:=(T.out.get 0 rfl).nthQ 0 HA.out.c0;have c0_51:=(T.out.get 0 rfl).nthQ 51 HA.out.c51;have c0_52:=(T.out.get 0 rfl).nthQ 52 HA.out.c52)
 |(go_at_call 88;refine(P3.out _ _ T.out).mono ?_;rintro e wn ⟨rfl,tn⟩;have T:=Hh tn;clear tn;have c0_0:=(T.out.get 0 rfl).nthQ 0 HA.out.c0;have c0_51:=(T.out.get 0 rfl).nthQ 51 HA.out.c51;have c0_52:=(T.out.get 0 rfl).nthQ 52 HA.out.c52)
 |(go_at_call 56;refine(P4.out _ _ _ _ _ T.out rfl rfl).mono ?_;rintro e wn ⟨rfl,tn⟩;have T:=Hh tn;clear tn;have c0_0:=(T.out.get 0 rfl).nthQ 0 HA.out.c0;have c0_51:=(T.out.get 0 rfl).nthQ 51 HA.out.c51;have c0_52:=(T.out.get 0 rfl).nthQ 52 HA.out.c52)
 |(go_at_call 88;refine(P5.out _ _ T.out).mono ?_;rintro e wn ⟨rfl,tn⟩;have T:=Hh tn;clear tn;have c0_0:=(T.out.get 0 rfl).nthQ 0 HA.out.c0;have c0_51:=(T.out.get 0 rfl).nthQ 51 HA.out.c51;have c0_52:=(T.out.get 0 rfl).nthQ 52 HA.out.c52))
 go_end0
 exact⟨rfl,T.out.tail⟩
theorem pAct_11(w0:World)(ys sv nv pv:List Value)(sd tk tl how:Int)(nm:ByteArray)(thn els:Value)(ha:Zcs ys sv nv pv 11 sd tk tl how nm thn els)(KS:List ByteArray)(hs:Xz w0 77 (.agg sv.toArray) KS)(KT:List ByteArray)(ht:Xz w0 88 thn KT):Xz w0 149 (.agg ys.toArray) ([wd Xr 11]++(KS++(KT))):=by
 intro b st own x h hr;obtain⟨s1,E1⟩:∃ s,s=Zs st ([wd Xr 11]):=⟨_,rfl⟩
 have R1:=Hh (Yw.first hr);replace hr:=Yw.next hr;rw[←E1]at hr;obtain⟨s2,E2⟩:∃ s,s=Zs s1 (KS):=⟨_,rfl⟩
 have R2:=Hh (Yw.first hr);replace hr:=Yw.next hr;rw[←E2]at hr;obtain⟨s3,E3⟩:∃ s,s=Zs s2 (KT):=⟨_,rfl⟩
 have R3:=Hh hr;clear hr;have EK:Zs st (([wd Xr 11])++((KS)++((KT))))=s3:=by simp only[Yl,E1,E2,E3]
 rw[EK];clear EK;have P1:=Hh (fun own x=>Wh (w0:=w0) (b:=b) E1 R1.out (by simp) own x);have P2:=Hh (hs.at_ (b:=b) E2 R2.out);have P3:=Hh (ht.at_ (b:=b) E3 R3.out);have HE1:=Hh E1;clear E1;have HE2:=Hh E2;clear E2;have HE3:=Hh E3;clear E3;have HA:=Hh ha;clear ha hs ht;have T:=Hh h;clear h;go_enter Tryz.func149,Tryz.ntmps149;go_wp2_with(first
 |((with_reducible refine Zd 3 ?_);refine Yp T.out 58 _ (ys) rfl rfl rfl ?_;intro wn g0 tn;have T:=Hh tn;clear tn;have c0_0:=(T.out.get 0 rfl).nthQ 0 HA.out.c0;have c0_51:=(T.out.get 0 rfl).nthQ 51 HA.out.c51;have c0_52:=(T.out.get 0 rfl).nthQ 52 HA.out.c52)
 |(go_at_call 87;refine(Zgg T.out (11) _ 15 15 Xr rfl rfl (by decide) (by decide) (by decide)).mono ?_;rintro e wn ⟨rfl,tn⟩;have T:=Hh tn;clear tn;have c0_0:=(T.out.get 0 rfl).nthQ 0 HA.out.c0;have c0_51:=(T.out.get 0 rfl).nthQ 51 HA.out.c51;have c0_52:=(T.out.get 0 rfl).nthQ 52 HA.out.c52)
 |(go_at_call 56;refine(P1.out _ _ _ _ _ T.out rfl rfl).mono ?_;rintro e wn ⟨rfl,tn⟩;have T:=Hh tn;clear tn;have c0_0:=(T.out.get 0 rfl).nthQ 0 HA.out.c0;have c0_51:=(T.out.get 0 rfl).nthQ 51 HA.out.c51;have c0_52:=(T.out.get 0 rfl).nthQ 52 HA.out.c52)
 |((with_reducible refine Zd 44 ?_);refine Zr 49 _ g0 (3) (sv) (HA.out.rs _ _ _ (T.out.get 0 rfl)) Vr (by rw[HA.out.slen];exact Ve) rfl rfl rfl ?_)
 |(go_at_call 77;refine(P2.out _ _ T.out).mono ?_;rintro e wn ⟨rfl,tn⟩;have T:=Hh tn;clear tn;have c0_0:=(T.out.get 0 rfl).nthQ 0 HA.out.c0;have c0_51:=(T.out.get 0 rfl).nthQ 51 HA.out.c51;have c0_52:=(T.out.get 0 rfl).nthQ 52 HA.out.c52)
 |(go_at_call 88;refine(P3.out _ _ T.out).mono ?_;rintro e wn ⟨rfl,tn⟩;have T:=Hh tn;clear tn;have c0_0:=(T.out.get 0 rfl).nthQ 0 HA.out.c0;have c0_51:=(T.out.get 0 rfl).nthQ 51 HA.out.c51;have c0_52:=(T.out.get 0 rfl).nthQ 52 HA.out.c52))
 go_end0
 exact⟨rfl,T.out.tail⟩
theorem pAct_p(w0:World)(ys sv nv pv:List Value)(sd tk tl how:Int)(nm:ByteArray)(thn els:Value)(k:Int)(ha:Zcs ys sv nv pv k sd tk tl how nm thn els)(k1:1≤k)(k2:k≤15)(k10:k≠10)(k11:k≠11)(KA:List ByteArray)(hp:Xz w0 177 (.agg ys.toArray) KA):Xz w0 149 (.agg ys.toArray) ([wd Xr k]++(KA++([Xj]))):=by
 intro b st own x h hr;obtain⟨s1,E1⟩:∃ s,s=Zs st ([wd Xr k]):=⟨_,rfl⟩
 have R1:=Hh (Yw.first hr);replace hr:=Yw.next hr;rw[←E1]at hr;obtain⟨s2,E2⟩:∃ s,s=Zs s1 (KA):=⟨_,rfl⟩
 have R2:=Hh (Yw.first hr);replace hr:=Yw.next hr;rw[←E2]at hr;obtain⟨s3,E3⟩:∃ s,s=Zs s2 ([Xj]):=⟨_,rfl⟩
 have R3:=Hh hr;clear hr;have EK:Zs st (([wd Xr k])++((KA)++(([Xj]))))=s3:=by simp only[Yl,E1,E2,E3]
 rw[EK];clear EK;have P1:=Hh (fun own x=>Wh (w0:=w0) (b:=b) E1 R1.out (by simp) own x);have P2:=Hh (hp.at_ (b:=b) E2 R2.out);have P3:=Hh (fun own x=>Wh (w0:=w0) (b:=b) E3 R3.out (by simp) own x);have HE1:=Hh E1;clear E1;have HE2:=Hh E2;clear E2;have HE3:=Hh E3;clear E3;have HA:=Hh ha;clear ha hp;have b10:(k == 10)=false:=by rw[beq_eq_false_iff_ne];exact k10
 have b11:(k == 11)=false:=by rw[beq_eq_false_iff_ne];exact k11
 have T:=Hh h;clear h;go_enter Tryz.func149,Tryz.ntmps149;go_wp2_with(first
 |((with_reducible refine Zd 3 ?_);refine Yp T.out 58 _ (ys) rfl rfl rfl ?_;intro wn g0 tn;have T:=Hh tn;clear tn;have c0_0:=(T.out.get 0 rfl).nthQ 0 HA.out.c0;have c0_51:=(T.out.get 0 rfl).nthQ 51 HA.out.c51;have c0_52:=(T.out.get 0 rfl).nthQ 52 HA.out.c52)
 |(go_at_call 87;refine(Zgg T.out (k) _ 15 15 Xr rfl rfl (by omega) (by show _≤((15:Nat):Int);omega) (by decide)).mono ?_;rintro e wn ⟨rfl,tn⟩;have T:=Hh tn;clear tn;have c0_0:=(T.out.get 0 rfl).nthQ 0 HA.out.c0;have c0_51:=(T.out.get 0 rfl).nthQ 51 HA.out.c51;have c0_52:=(T.out.get 0 rfl).nthQ 52 HA.out.c52)
 |(go_at_call 56;refine(P1.out _ _ _ _ _ T.out rfl rfl).mono ?_;rintro e wn ⟨rfl,tn⟩;have T:=Hh tn;clear tn;have c0_0:=(T.out.get 0 rfl).nthQ 0 HA.out.c0;have c0_51:=(T.out.get 0 rfl).nthQ 51 HA.out.c51;have c0_52:=(T.out.get 0 rfl).nthQ 52 HA.out.c52)
 |((with_reducible refine Zd 14 ?_);refine Zb 58 _ 58 g0 (ys) (T.out.get 0 rfl) Znn (by rw[HA.out.len];exact Zin) rfl rfl rfl ?_)
 |(go_at_call 177;refine(P2.out _ _ T.out).mono ?_;rintro e wn ⟨rfl,tn⟩;have T:=Hh tn;clear tn;have c0_0:=(T.out.get 0 rfl).nthQ 0 HA.out.c0;have c0_51:=(T.out.get 0 rfl).nthQ 51 HA.out.c51;have c0_52:=(T.out.get 0 rfl).nthQ 52 HA.out.c52)
 |(go_at_call 56;refine(P3.out _ _ _ _ _ T.out rfl rfl).mono ?_;rintro e wn ⟨rfl,tn⟩;have T:=Hh tn;clear tn;have c0_0:=(T.out.get 0 rfl).nthQ 0 HA.out.c0;have c0_51:=(T.out.get 0 rfl).nthQ 51 HA.out.c51;have c0_52:=(T.out.get 0 rfl).nthQ 52 HA.out.c52))
 go_end0
 exact⟨rfl,T.out.tail⟩
def Zjy(w0:World)(N:Nat→Prop)(l:Acs):Prop:=∀ v,Zt N w0 (.row l.len l.ds .nil) [v]→Xz w0 114 v (Zaz l)
theorem pPlain(w0:World)(N:Nat→Prop)(d:Nat)(h:AH)(hv:Zgj d h)(ys sv nv pv:List Value)   (thn els:Value)(ha:Zcs ys sv nv pv h.kind h.side h.tk h.tl h.how h.name thn els)(hs:Zt N w0 h.sel.ds sv)(hn:Zt N w0 h.num.ds nv):Xz w0 177 (.agg ys.toArray) (Zdo h):=by
 obtain⟨k,ln,cl,sel,num,sd,tk,tl,how,nm,cop,c1,c2⟩:=h;unfold Zdo;dsimp only at *;rcases hv with⟨hk,_,v1,v2,_⟩ | ⟨hk,_,v1⟩ | ⟨hk,_,v1,v2⟩ | ⟨hk,_,v1,v2,v3,v4,_⟩ | ⟨hk,_,v1,v2,_⟩ | ⟨hk,_,v1,v2⟩ | ⟨hk,_,v1,v2⟩
 ·dsimp only at hk v1 v2
  rw[if_pos hk];have hS:=pSel w0 N sel v1 sv hs;have hN:=pEx w0 N num v2 nv hn;rcases hk with rfl | rfl | rfl
  ·exact pPlain_1 w0 ys sv nv pv sd tk tl how nm thn els ha _ hS _ hN
  ·exact pPlain_2 w0 ys sv nv pv sd tk tl how nm thn els ha _ hS _ hN
  ·exact pPlain_12 w0 ys sv nv pv sd tk tl how nm thn els ha _ hS _ hN
 ·dsimp only at hk v1
  rw[if_neg (by omega),if_pos hk];have hS:=pSel w0 N sel v1 sv hs;rcases hk with rfl | rfl | rfl
  ·exact pPlain_3 w0 ys sv nv pv sd tk tl how nm thn els ha _ hS
  ·exact pPlain_5 w0 ys sv nv pv sd tk tl how nm thn els ha _ hS
  ·exact pPlain_14 w0 ys sv nv pv sd tk tl how nm thn els ha _ hS
 ·dsimp only at hk v1 v2
  rw[if_neg (by omega),if_neg (by omega),if_pos hk];subst hk;exact pPlain_4 w0 ys sv nv pv sd tk tl how nm thn els ha _ (pSel w0 N sel v1 sv hs) _ (pTo w0 tk tl v2)
 ·dsimp only at hk v1 v2 v3 v4
  rw[if_neg (by omega),if_neg (by omega),if_neg (by omega),if_pos hk];subst hk;exact pPlain_6 w0 ys sv nv pv sd tk tl how nm thn els ha v2.1 v2.2 _ (pTo w0 tk tl v3) _ (pEx w0 N num v4 nv hn)
 ·dsimp only at hk v1 v2
  rw[if_neg (by omega),if_neg (by omega),if_neg (by omega),if_neg (by omega),if_pos hk];have hN:=pEx w0 N num v2 nv hn;rcases hk with rfl | rfl
  ·exact pPlain_7 w0 ys sv nv pv sd tk tl how nm thn els ha v1.1 v1.2 _ hN
  ·exact pPlain_9 w0 ys sv nv pv sd tk tl how nm thn els ha v1.1 v1.2 _ hN
 ·dsimp only at hk v1 v2
  rw[if_neg (by omega),if_neg (by omega),if_neg (by omega),if_neg (by omega),if_neg (by omega),if_pos hk];subst hk;exact pPlain_8 w0 ys sv nv pv sd tk tl how nm thn els ha v1.1 v1.2 v2.1 v2.2
 ·dsimp only at hk v1 v2
  rw[if_neg (by omega),if_neg (by omega),if_neg (by omega),if_neg (by omega),if_neg (by omega),if_neg (by omega)];have hT:=pTo w0 tk tl v2;rcases hk with rfl | rfl
  ·exact pPlain_13 w0 ys sv nv pv sd tk tl how nm thn els ha v1.1 v1.2 _ hT
  ·exact pPlain_15 w0 ys sv nv pv sd tk tl how nm thn els ha v1.1 v1.2 _ hT
theorem pAct(w0:World)(N:Nat→Prop)(d:Nat)(h:AH)(t e:Acs)(hv:Zbb d (.cons h t e .nil))(ht:Zjy w0 N t)(he:Zjy w0 N e)(ys:List Value)(hd:Zt N w0 (h.dsr t.len t.ds e.len e.ds) ys) :
  Xz w0 149 (.agg ys.toArray) (kAct h (Zaz t) (Zaz e) e.isNil):=by
 obtain⟨sel,num,pl,pr,thn,els,rfl,h1,h2,h3,h4,h5,h6⟩:=act_of hd;have e1:sel.length=6:=by rw[h1.len,Se.ds_len]
 have e2:num.length=12:=by rw[h2.len,Ex.ds_len]
 have e3:pl.length=12:=by rw[h3.len,Ex.ds_len]
 have e4:pr.length=12:=by rw[h4.len,Ex.ds_len]
 have ha:=actR (k:=h.kind) (l:=h.line) (c:=h.col) (sd:=h.side) (tk:=h.tk) (tl:=h.tl) (how:=h.how) (cop:=h.cop) (nm:=h.name) (thn:=thn) (els:=els) e1 e2 e3 e4;have hbt:=pBlock w0 thn _ (ht thn h5);have hbe:=pBlock w0 els _ (he els h6);obtain⟨U,uc,_,eu,_⟩:=h5.inRow;obtain⟨V,vc,_,ev,_⟩:=h6.inRow;generalize Xa h.kind h.line h.col sel num h.side h.tk h.tl h.how h.name h.cop pl pr thn els=ys at *;have hk:=acts_kind hv;unfold kAct;rcases hv.1 with⟨_,vc2,_⟩ | ⟨_,vc2,_,_⟩ | ⟨vp,_,_⟩
 ·have h10:=vc2.kind
  obtain⟨_,vo,vl,vr⟩:=vc2;have hcd:=pCond w0 h.cop pl pr e3 e4 vo.1 vo.2 _ _ (pEx w0 N h.cl vl.1 pl h3) (pEx w0 N h.cr vr.1 pr h4);rw[if_pos h10];rw[h10]at ha ⊢;cases e with
  |nil=>
   have:=pAct_10n w0 ys sel num _ h.side h.tk h.tl h.how h.name thn els V vc ev ha _ hcd _ hbt;simpa[Zny,Acs.isNil,kCond]using this
  |cons eh et ee er=>
   have:=pAct_10e w0 ys sel num _ h.side h.tk h.tl h.how h.name thn els V _ vc ev (by show 0<er.len+1;omega) ha _ hcd _ hbt _ hbe;simpa[Zny,Acs.isNil,kCond]using this
 ·have h11:=vc2.kind
  rw[if_neg (by omega),if_pos h11];rw[h11]at ha ⊢;exact pAct_11 w0 ys sel num _ h.side h.tk h.tl h.how h.name thn els ha _ (pSel w0 N h.sel vc2.2 sel h1) _ hbt
 ·have hkp:=vp.kind.2.2
  rw[if_neg hkp.1,if_neg hkp.2];exact pAct_p w0 ys sel num _ h.side h.tk h.tl h.how h.name thn els h.kind ha hk.1 hk.2 hkp.1 hkp.2 _ (pPlain w0 N d h vp ys sel num _ thn els ha h1 h2)
def Acs.dropQ:Acs→Nat→Acs
 |x,0=>x
 |.nil,_=>.nil
 |.cons _ _ _ r,n+1=>r.dropQ n
theorem Acs.dropQ_at:∀(l:Acs)(k:Nat)(u:AH×Acs×Acs),l.at? k=some u→l.dropQ k=.cons u.1 u.2.1 u.2.2 (l.dropQ (k+1))
 |.nil,k,u,h=>by cases k<;>cases h
 |.cons h t e r,0,u,hu=>by
  have hu:some (h,t,e)=some u:=hu;injection hu with hu;subst hu;show Acs.cons h t e r=.cons h t e (r.dropQ 0);cases r<;>rfl
 |.cons h t e r,k+1,u,hu=>Acs.dropQ_at r k u hu
theorem Acs.dropQ_end:∀(l:Acs)(k:Nat),l.len≤k→l.dropQ k=.nil
 |.nil,0,_=>rfl
 |.nil,k+1,_=>rfl
 |.cons h t e r,0,hl=>by unfold Acs.len at hl;omega
 |.cons h t e r,k+1,hl=>Acs.dropQ_end r k (by unfold Acs.len at hl;omega)
theorem Acs.at_valid:∀(d:Nat)(l:Acs)(k:Nat)(u:AH×Acs×Acs),Zbb d l→l.at? k=some u→Zbb d (.cons u.1 u.2.1 u.2.2 .nil)
 |d,.nil,k,u,_,h=>by cases k<;>cases h
 |d,.cons h t e r,0,u,hv,hu=>by
  have hu:some (h,t,e)=some u:=hu;injection hu with hu;subst hu;exact⟨hv.1,trivial⟩
 |d,.cons h t e r,k+1,u,hv,hu=>Acs.at_valid d r k u hv.2 hu
theorem pActs_walk(w0:World)(N:Nat→Prop)(d:Nat)(l:Acs)(hvl:Zbb d l)(hall:∀ k u,l.at? k=some u→Zjy w0 N u.2.1∧Zjy w0 N u.2.2):Zjy w0 N l:=by
 intro v hv b st own x h hr;obtain⟨B,bc,xs,rfl,hn,hw,hd⟩:=hv.inRow;clear hv;obtain⟨n,hn0⟩:∃ n,n=l.len:=⟨_,rfl⟩
 rw[←hn0]at hn ⊢;obtain⟨sF,hF⟩:∃ s,s=Zs st (Zaz l):=⟨_,rfl⟩
 rw[←hF];have HN:=Hh hn0;have HW:=Hh (ζ hw hd);have HX:=Hh (fun k u hu ys hy=>pAct w0 N d u.1 u.2.1 u.2.2 (Acs.at_valid d l k u hvl hu) (hall k u hu).1 (hall k u hu).2 ys hy);have HF:=Hh (ζ hr hF);clear hw hd hn0 hall hF hr hvl;have l63:(n:Int)≤9223372036854775807:=by omega
 have T:=Hh h;clear h;go_enter Tryz.func114,Tryz.ntmps114;go_wp2_with fail
 go_loopw [8] (fun i wr=>∃(m:Nat)(sm:List Int×Bool),i=I J m∧m≤n∧PE w0 b sm own wr∧Hid (Yw sm (Zaz (l.dropQ m))∧sF=Zs sm (Zaz (l.dropQ m)))) (fun i _=>n - (intOf i).toNat)
 case atStart=>exact⟨0,st,by go_num,Nat.zero_le _,T.out,Hh (by cases l<;>exact HF.out)⟩
 case round=>
  obtain⟨m,sm,rfl,hm,hT,hz⟩:=hrel;have T:=Hh hT;clear hT;by_cases hlt:m<n
  · obtain⟨u,hu⟩:=Acs.at_some l m (by rw[←HN.out];exact hlt)
    obtain⟨g,ys,rfl,hg,hR,hy⟩:=act_at HW.out.1 HW.out.2 hu;have hyl:ys.length=53:=by rw[hy.len,AH.dsr_len]
    have hz2:=hz.out;rw[Acs.dropQ_at l m u hu]at hz2;unfold Zaz at hz2;have hx:=HX.out m u hu ys hy;generalize kAct u.1 (Zaz u.2.1) (Zaz u.2.2) u.2.2.isNil=K at *;obtain⟨s1,E1⟩:∃ s,s=Zs sm K:=⟨_,rfl⟩
    have P1:=Hh (hx.at_ (b:=b) E1 hz2.1.first);have HZ:Hid (Yw s1 (Zaz (l.dropQ (m+1)))∧sF=Zs s1 (Zaz (l.dropQ (m+1)))):=Hh ⟨by rw[E1];exact hz2.1.next,by rw[hz2.2,Yl,E1]⟩;have HR:=Hh hR;have HY:=Hh hy.one;have HYL:=Hh hyl;clear hy hR hu hz hz2 hx E1 hyl;have lk:(m:Int)<(n:Int):=by omega
    go_wp2_with(first
 |((with_reducible refine Zd 11 ?_);refine Zr 58 _ g (m*53) (ys) (T.out.ranges HR.out hg) Znn (by rw[HYL.out];exact Zin) rfl rfl rfl ?_)
 |((with_reducible refine Zd 5 ?_);refine Vx T.out 58 (zAcQ) rfl rfl qz_ac ?_;intro wn g5 tn;have T:=Hh tn;clear tn)
 |((with_reducible refine Zi 5 11 ?_);refine Za 58 _ _ 58 g5 _ (ys) (T.out.get 0 rfl) HYL.out (by rw[HYL.out];exact Zin) HY.out rfl rfl rfl rfl rfl ?_;intro wn p;have T:=Hh (T.out.put 0 rfl p);clear p)
 |((with_reducible refine Zd 13 ?_);refine Zb 58 _ 58 g5 (ys) (T.out.get 0 rfl) Znn (by rw[HYL.out];exact Zin) rfl rfl rfl ?_)
 |(go_at_call 149;refine(P1.out _ _ T.out).mono ?_;rintro e wn ⟨rfl,tn⟩;have T:=Hh tn;clear tn))
    go_roundw
    case rel=>exact⟨m+1,s1,by go_num,by omega,T.out.tail,HZ⟩
    case measure=>simp[intOf];omega
  · have hz2:=hz.out
    rw[Acs.dropQ_end l m (by have:=HN.out;omega)]at hz2;have hz3:sF=sm:=hz2.2;subst hz3;clear hz hz2;go_wp2
    go_end0
    exact⟨rfl,T.out⟩
theorem Zov(w0:World)(N:Nat→Prop):Zjy w0 N .nil:=pActs_walk w0 N 0 .nil trivial (fun k u hu=>by cases k<;>cases hu)
theorem pActs(w0:World)(N:Nat→Prop)(d:Nat)(l:Acs)(hv:Zbb d l):Zjy w0 N l:=
 pActs_walk w0 N d l hv fun k u hu=>
  have h:=Acs.at_lt l k u hu;have hvs:=Acs.at_valid d l k u hv hu
  ⟨by
    rcases hvs.1 with⟨_,_,v1,_⟩ | ⟨_,_,v1,_⟩ | ⟨_,e1,_⟩
    ·exact pActs w0 N (d+1) u.2.1 v1
    ·exact pActs w0 N (d+1) u.2.1 v1
    ·rw[e1];exact Zov w0 N,by
    rcases hvs.1 with⟨_,_,_,v2⟩ | ⟨_,_,_,e2⟩ | ⟨_,_,e2⟩
    ·exact pActs w0 N (d+1) u.2.2 v2
    ·rw[e2];exact Zov w0 N
    ·rw[e2];exact Zov w0 N⟩
termination_by SizeOf.sizeOf l
decreasing_by
 all_goals first | exact(Acs.at_lt l k u hu).1 | exact(Acs.at_lt l k u hu).2
def RzC(f:Nat)(w:World)(v:Value)(S:ByteArray):Prop:=∀ y,Below w.heap.size w y→Calls Φ f #[v] y fun e w'=>e=η (Ψ S)∧Below y.heap.size y w'
theorem rz_act1(w:World)(ys sv nv pv:List Value)(sd:Int)(how:Int)(tk tl:Int)(nm:ByteArray)(thn els:Value)  (ha:Zcs ys sv nv pv 1 sd tk tl how nm thn els)(S:ByteArray)(zS:S.size≤10000000000)(hS:RzC 118 w (.agg sv.toArray) S)(E:ByteArray)(zE:E.size≤10000000000)(hE:RzC 116 w (.agg nv.toArray) E) :
  Calls Φ 89 #[.agg ys.toArray] w fun e w'=>e=η (Ψ (⟨#[112,111,119,101,114]⟩++⟨#[32]⟩++S++⟨#[32]⟩++E++⟨#[59]⟩))∧Below w.heap.size w w':=by
 have T:=Hh (Env.start w);have HA:=Hh ha;have HS:=Hh hS;have HE:=Hh hE;clear ha hS hE;go_enter Tryz.func89,Tryz.ntmps89;go_wp2_with(first
 |((with_reducible refine Zd 1 ?_);refine Zk T.out 58 _ ys rfl rfl rfl ?_;intro wn g0 tn;have T:=Hh tn;clear tn;have c0:=(T.out.get 0 rfl).nthQ 0 HA.out.c0)
 |(go_at_call 115;refine(Zas _).mono ?_;rintro e wn ⟨gw,rfl,hg,bn⟩;have T:=Hh (T.out.call bn);have cg:wn.cell? ⟨gw,1,none⟩=some (Ψ ⟨#[112,111,119,101,114]⟩):=Wi (L:=Xr) (k:=1) hg (by decide) (by decide);clear bn hg;have c0:=(T.out.get 0 rfl).nthQ 0 HA.out.c0)
 |((with_reducible refine Zd 75 ?_);refine Zr 49 _ g0 3 sv (HA.out.rs _ _ _ (T.out.get 0 rfl)) Vr (by rw[HA.out.slen];exact Ve) rfl rfl rfl ?_)
 |(go_at_call 118;refine(HS.out _ T.out.below).mono ?_;rintro e wn ⟨rfl,bn⟩;have T:=Hh (T.out.call bn);clear bn;have c0:=(T.out.get 0 rfl).nthQ 0 HA.out.c0)
 |((with_reducible refine Zd 149 ?_);refine Zr 54 _ g0 9 nv (HA.out.rn _ _ _ (T.out.get 0 rfl)) Xm (by rw[HA.out.nlen];exact Yz) rfl rfl rfl ?_)
 |(go_at_call 116;refine(HE.out _ T.out.below).mono ?_;rintro e wn ⟨rfl,bn⟩;have T:=Hh (T.out.call bn);clear bn;have c0:=(T.out.get 0 rfl).nthQ 0 HA.out.c0))
 go_ret;exact⟨rfl,T.out.below⟩
theorem rz_act2(w:World)(ys sv nv pv:List Value)(sd:Int)(how:Int)(tk tl:Int)(nm:ByteArray)(thn els:Value)  (ha:Zcs ys sv nv pv 2 sd tk tl how nm thn els)(S:ByteArray)(zS:S.size≤10000000000)(hS:RzC 118 w (.agg sv.toArray) S)(E:ByteArray)(zE:E.size≤10000000000)(hE:RzC 116 w (.agg nv.toArray) E) :
  Calls Φ 89 #[.agg ys.toArray] w fun e w'=>e=η (Ψ (⟨#[115,101,116]⟩++⟨#[32]⟩++S++⟨#[32]⟩++E++⟨#[59]⟩))∧Below w.heap.size w w':=by
 have T:=Hh (Env.start w);have HA:=Hh ha;have HS:=Hh hS;have HE:=Hh hE;clear ha hS hE;go_enter Tryz.func89,Tryz.ntmps89;go_wp2_with(first
 |((with_reducible refine Zd 1 ?_);refine Zk T.out 58 _ ys rfl rfl rfl ?_;intro wn g0 tn;have T:=Hh tn;clear tn;have c0:=(T.out.get 0 rfl).nthQ 0 HA.out.c0)
 |(go_at_call 115;refine(Zas _).mono ?_;rintro e wn ⟨gw,rfl,hg,bn⟩;have T:=Hh (T.out.call bn);have cg:wn.cell? ⟨gw,2,none⟩=some (Ψ ⟨#[115,101,116]⟩):=Wi (L:=Xr) (k:=2) hg (by decide) (by decide);clear bn hg;have c0:=(T.out.get 0 rfl).nthQ 0 HA.out.c0)
 |((with_reducible refine Zd 75 ?_);refine Zr 49 _ g0 3 sv (HA.out.rs _ _ _ (T.out.get 0 rfl)) Vr (by rw[HA.out.slen];exact Ve) rfl rfl rfl ?_)
 |(go_at_call 118;refine(HS.out _ T.out.below).mono ?_;rintro e wn ⟨rfl,bn⟩;have T:=Hh (T.out.call bn);clear bn;have c0:=(T.out.get 0 rfl).nthQ 0 HA.out.c0)
 |((with_reducible refine Zd 149 ?_);refine Zr 54 _ g0 9 nv (HA.out.rn _ _ _ (T.out.get 0 rfl)) Xm (by rw[HA.out.nlen];exact Yz) rfl rfl rfl ?_)
 |(go_at_call 116;refine(HE.out _ T.out.below).mono ?_;rintro e wn ⟨rfl,bn⟩;have T:=Hh (T.out.call bn);clear bn;have c0:=(T.out.get 0 rfl).nthQ 0 HA.out.c0))
 go_ret;exact⟨rfl,T.out.below⟩
theorem rz_act12(w:World)(ys sv nv pv:List Value)(sd:Int)(how:Int)(tk tl:Int)(nm:ByteArray)(thn els:Value)  (ha:Zcs ys sv nv pv 12 sd tk tl how nm thn els)(S:ByteArray)(zS:S.size≤10000000000)(hS:RzC 118 w (.agg sv.toArray) S)(E:ByteArray)(zE:E.size≤10000000000)(hE:RzC 116 w (.agg nv.toArray) E) :
  Calls Φ 89 #[.agg ys.toArray] w fun e w'=>e=η (Ψ (⟨#[97,117,114,97]⟩++⟨#[32]⟩++S++⟨#[32]⟩++E++⟨#[59]⟩))∧Below w.heap.size w w':=by
 have T:=Hh (Env.start w);have HA:=Hh ha;have HS:=Hh hS;have HE:=Hh hE;clear ha hS hE;go_enter Tryz.func89,Tryz.ntmps89;go_wp2_with(first
 |((with_reducible refine Zd 1 ?_);refine Zk T.out 58 _ ys rfl rfl rfl ?_;intro wn g0 tn;have T:=Hh tn;clear tn;have c0:=(T.out.get 0 rfl).nthQ 0 HA.out.c0)
 |(go_at_call 115;refine(Zas _).mono ?_;rintro e wn ⟨gw,rfl,hg,bn⟩;have T:=Hh (T.out.call bn);have cg:wn.cell? ⟨gw,12,none⟩=some (Ψ ⟨#[97,117,114,97]⟩):=Wi (L:=Xr) (k:=12) hg (by decide) (by decide);clear bn hg;have c0:=(T.out.get 0 rfl).nthQ 0 HA.out.c0)
 |((with_reducible refine Zd 75 ?_);refine Zr 49 _ g0 3 sv (HA.out.rs _ _ _ (T.out.get 0 rfl)) Vr (by rw[HA.out.slen];exact Ve) rfl rfl rfl ?_)
 |(go_at_call 118;refine(HS.out _ T.out.below).mono ?_;rintro e wn ⟨rfl,bn⟩;have T:=Hh (T.out.call bn);clear bn;have c0:=(T.out.get 0 rfl).nthQ 0 HA.out.c0)
 |((with_reducible refine Zd 149 ?_);refine Zr 54 _ g0 9 nv (HA.out.rn _ _ _ (T.out.get 0 rfl)) Xm (by rw[HA.out.nlen];exact Yz) rfl rfl rfl ?_)
 |(go_at_call 116;refine(HE.out _ T.out.below).mono ?_;rintro e wn ⟨rfl,bn⟩;have T:=Hh (T.out.call bn);clear bn;have c0:=(T.out.get 0 rfl).nthQ 0 HA.out.c0))
 go_ret;exact⟨rfl,T.out.below⟩
theorem rz_act3(w:World)(ys sv nv pv:List Value)(sd:Int)(how:Int)(tk tl:Int)(nm:ByteArray)(thn els:Value)  (ha:Zcs ys sv nv pv 3 sd tk tl how nm thn els)(S:ByteArray)(zS:S.size≤10000000000)(hS:RzC 118 w (.agg sv.toArray) S) :
  Calls Φ 89 #[.agg ys.toArray] w fun e w'=>e=η (Ψ (⟨#[100,101,115,116,114,111,121]⟩++⟨#[32]⟩++S++⟨#[59]⟩))∧Below w.heap.size w w':=by
 have T:=Hh (Env.start w);have HA:=Hh ha;have HS:=Hh hS;clear ha hS;go_enter Tryz.func89,Tryz.ntmps89;go_wp2_with(first
 |((with_reducible refine Zd 1 ?_);refine Zk T.out 58 _ ys rfl rfl rfl ?_;intro wn g0 tn;have T:=Hh tn;clear tn;have c0:=(T.out.get 0 rfl).nthQ 0 HA.out.c0)
 |(go_at_call 115;refine(Zas _).mono ?_;rintro e wn ⟨gw,rfl,hg,bn⟩;have T:=Hh (T.out.call bn);have cg:wn.cell? ⟨gw,3,none⟩=some (Ψ ⟨#[100,101,115,116,114,111,121]⟩):=Wi (L:=Xr) (k:=3) hg (by decide) (by decide);clear bn hg;have c0:=(T.out.get 0 rfl).nthQ 0 HA.out.c0)
 |((with_reducible refine Zd 75 ?_);refine Zr 49 _ g0 3 sv (HA.out.rs _ _ _ (T.out.get 0 rfl)) Vr (by rw[HA.out.slen];exact Ve) rfl rfl rfl ?_)
 |(go_at_call 118;refine(HS.out _ T.out.below).mono ?_;rintro e wn ⟨rfl,bn⟩;have T:=Hh (T.out.call bn);clear bn;have c0:=(T.out.get 0 rfl).nthQ 0 HA.out.c0))
 go_ret;exact⟨rfl,T.out.below⟩
theorem rz_act5(w:World)(ys sv nv pv:List Value)(sd:Int)(how:Int)(tk tl:Int)(nm:ByteArray)(thn els:Value)  (ha:Zcs ys sv nv pv 5 sd tk tl how nm thn els)(S:ByteArray)(zS:S.size≤10000000000)(hS:RzC 118 w (.agg sv.toArray) S) :
  Calls Φ 89 #[.agg ys.toArray] w fun e w'=>e=η (Ψ (⟨#[114,101,116,117,114,110]⟩++⟨#[32]⟩++S++⟨#[59]⟩))∧Below w.heap.size w w':=by
 have T:=Hh (Env.start w);have HA:=Hh ha;have HS:=Hh hS;clear ha hS;go_enter Tryz.func89,Tryz.ntmps89;go_wp2_with(first
 |((with_reducible refine Zd 1 ?_);refine Zk T.out 58 _ ys rfl rfl rfl ?_;intro wn g0 tn;have T:=Hh tn;clear tn;have c0:=(T.out.get 0 rfl).nthQ 0 HA.out.c0)
 |(go_at_call 115;refine(Zas _).mono ?_;rintro e wn ⟨gw,rfl,hg,bn⟩;have T:=Hh (T.out.call bn);have cg:wn.cell? ⟨gw,5,none⟩=some (Ψ ⟨#[114,101,116,117,114,110]⟩):=Wi (L:=Xr) (k:=5) hg (by decide) (by decide);clear bn hg;have c0:=(T.out.get 0 rfl).nthQ 0 HA.out.c0)
 |((with_reducible refine Zd 75 ?_);refine Zr 49 _ g0 3 sv (HA.out.rs _ _ _ (T.out.get 0 rfl)) Vr (by rw[HA.out.slen];exact Ve) rfl rfl rfl ?_)
 |(go_at_call 118;refine(HS.out _ T.out.below).mono ?_;rintro e wn ⟨rfl,bn⟩;have T:=Hh (T.out.call bn);clear bn;have c0:=(T.out.get 0 rfl).nthQ 0 HA.out.c0))
 go_ret;exact⟨rfl,T.out.below⟩
theorem rz_act14(w:World)(ys sv nv pv:List Value)(sd:Int)(how:Int)(tk tl:Int)(nm:ByteArray)(thn els:Value)  (ha:Zcs ys sv nv pv 14 sd tk tl how nm thn els)(S:ByteArray)(zS:S.size≤10000000000)(hS:RzC 118 w (.agg sv.toArray) S) :
  Calls Φ 89 #[.agg ys.toArray] w fun e w'=>e=η (Ψ (⟨#[115,104,105,101,108,100]⟩++⟨#[32]⟩++S++⟨#[59]⟩))∧Below w.heap.size w w':=by
 have T:=Hh (Env.start w);have HA:=Hh ha;have HS:=Hh hS;clear ha hS;go_enter Tryz.func89,Tryz.ntmps89;go_wp2_with(first
 |((with_reducible refine Zd 1 ?_);refine Zk T.out 58 _ ys rfl rfl rfl ?_;intro wn g0 tn;have T:=Hh tn;clear tn;have c0:=(T.out.get 0 rfl).nthQ 0 HA.out.c0)
 |(go_at_call 115;refine(Zas _).mono ?_;rintro e wn ⟨gw,rfl,hg,bn⟩;have T:=Hh (T.out.call bn);have cg:wn.cell? ⟨gw,14,none⟩=some (Ψ ⟨#[115,104,105,101,108,100]⟩):=Wi (L:=Xr) (k:=14) hg (by decide) (by decide);clear bn hg;have c0:=(T.out.get 0 rfl).nthQ 0 HA.out.c0)
 |((with_reducible refine Zd 75 ?_);refine Zr 49 _ g0 3 sv (HA.out.rs _ _ _ (T.out.get 0 rfl)) Vr (by rw[HA.out.slen];exact Ve) rfl rfl rfl ?_)
 |(go_at_call 118;refine(HS.out _ T.out.below).mono ?_;rintro e wn ⟨rfl,bn⟩;have T:=Hh (T.out.call bn);clear bn;have c0:=(T.out.get 0 rfl).nthQ 0 HA.out.c0))
 go_ret;exact⟨rfl,T.out.below⟩
theorem rz_act4(w:World)(ys sv nv pv:List Value)(sd:Int)(how:Int)(tk tl:Int)(nm:ByteArray)(thn els:Value)  (ha:Zcs ys sv nv pv 4 sd tk tl how nm thn els)(S:ByteArray)(zS:S.size≤10000000000)(hS:RzC 118 w (.agg sv.toArray) S)(L:ByteArray)(zL:L.size≤1000)(hL:RzC 120 w (.agg #[I J tk,I J tl]) L) :
  Calls Φ 89 #[.agg ys.toArray] w fun e w'=>e=η (Ψ (⟨#[109,111,118,101]⟩++⟨#[32]⟩++S++⟨#[32]⟩++L++⟨#[59]⟩))∧Below w.heap.size w w':=by
 have T:=Hh (Env.start w);have HA:=Hh ha;have HS:=Hh hS;have HL:=Hh hL;clear ha hS hL;go_enter Tryz.func89,Tryz.ntmps89;go_wp2_with(first
 |((with_reducible refine Zd 1 ?_);refine Zk T.out 58 _ ys rfl rfl rfl ?_;intro wn g0 tn;have T:=Hh tn;clear tn;have c0:=(T.out.get 0 rfl).nthQ 0 HA.out.c0)
 |(go_at_call 115;refine(Zas _).mono ?_;rintro e wn ⟨gw,rfl,hg,bn⟩;have T:=Hh (T.out.call bn);have cg:wn.cell? ⟨gw,4,none⟩=some (Ψ ⟨#[109,111,118,101]⟩):=Wi (L:=Xr) (k:=4) hg (by decide) (by decide);clear bn hg;have c0:=(T.out.get 0 rfl).nthQ 0 HA.out.c0)
 |((with_reducible refine Zd 75 ?_);refine Zr 49 _ g0 3 sv (HA.out.rs _ _ _ (T.out.get 0 rfl)) Vr (by rw[HA.out.slen];exact Ve) rfl rfl rfl ?_)
 |(go_at_call 118;refine(HS.out _ T.out.below).mono ?_;rintro e wn ⟨rfl,bn⟩;have T:=Hh (T.out.call bn);clear bn;have c0:=(T.out.get 0 rfl).nthQ 0 HA.out.c0)
 |((with_reducible refine Zd 111 ?_);refine Zr 51 _ g0 22 ([I J tk,I J tl]) (HA.out.rt _ _ _ (T.out.get 0 rfl)) Zfq Zdk rfl rfl rfl ?_)
 |(go_at_call 120;refine(HL.out _ T.out.below).mono ?_;rintro e wn ⟨rfl,bn⟩;have T:=Hh (T.out.call bn);clear bn;have c0:=(T.out.get 0 rfl).nthQ 0 HA.out.c0))
 go_ret;exact⟨rfl,T.out.below⟩
theorem rz_act11(w:World)(ys sv nv pv:List Value)(sd:Int)(how:Int)(tk tl:Int)(nm:ByteArray)(thn els:Value)  (ha:Zcs ys sv nv pv 11 sd tk tl how nm thn els)(S:ByteArray)(zS:S.size≤10000000000)(hS:RzC 118 w (.agg sv.toArray) S)(B:ByteArray)(zB:B.size≤10000000000)(hB:RzC 62 w thn B) :
  Calls Φ 89 #[.agg ys.toArray] w fun e w'=>e=η (Ψ (⟨#[101,97,99,104]⟩++⟨#[32]⟩++S++⟨#[32]⟩++B))∧Below w.heap.size w w':=by
 have T:=Hh (Env.start w);have HA:=Hh ha;have HS:=Hh hS;have HB:=Hh hB;clear ha hS hB;go_enter Tryz.func89,Tryz.ntmps89;go_wp2_with(first
 |((with_reducible refine Zd 1 ?_);refine Zk T.out 58 _ ys rfl rfl rfl ?_;intro wn g0 tn;have T:=Hh tn;clear tn;have c0:=(T.out.get 0 rfl).nthQ 0 HA.out.c0;have c51:=(T.out.get 0 rfl).nthQ 51 HA.out.c51)
 |(go_at_call 115;refine(Zas _).mono ?_;rintro e wn ⟨gw,rfl,hg,bn⟩;have T:=Hh (T.out.call bn);have cg:wn.cell? ⟨gw,11,none⟩=some (Ψ ⟨#[101,97,99,104]⟩):=Wi (L:=Xr) (k:=11) hg (by decide) (by decide);clear bn hg;have c0:=(T.out.get 0 rfl).nthQ 0 HA.out.c0;have c51:=(T.out.get 0 rfl).nthQ 51 HA.out.c51)
 |((with_reducible refine Zd 75 ?_);refine Zr 49 _ g0 3 sv (HA.out.rs _ _ _ (T.out.get 0 rfl)) Vr (by rw[HA.out.slen];exact Ve) rfl rfl rfl ?_)
 |(go_at_call 118;refine(HS.out _ T.out.below).mono ?_;rintro e wn ⟨rfl,bn⟩;have T:=Hh (T.out.call bn);clear bn;have c0:=(T.out.get 0 rfl).nthQ 0 HA.out.c0;have c51:=(T.out.get 0 rfl).nthQ 51 HA.out.c51)
 |(go_at_call 62;refine(HB.out _ T.out.below).mono ?_;rintro e wn ⟨rfl,bn⟩;have T:=Hh (T.out.call bn);clear bn;have c0:=(T.out.get 0 rfl).nthQ 0 HA.out.c0;have c51:=(T.out.get 0 rfl).nthQ 51 HA.out.c51))
 go_ret;exact⟨rfl,T.out.below⟩
theorem rz_act7(w:World)(ys sv nv pv:List Value)(s:Nat)(hs1:1≤s)(hs3:s≤3)(how:Int)(tk tl:Int)(nm:ByteArray)(thn els:Value)  (ha:Zcs ys sv nv pv 7 (s:Int) tk tl how nm thn els)(E:ByteArray)(zE:E.size≤10000000000)(hE:RzC 116 w (.agg nv.toArray) E) :
  Calls Φ 89 #[.agg ys.toArray] w fun e w'=>e=η (Ψ ((⟨#[100,114,97,119]⟩++⟨#[32]⟩++wd Zg (s:Int))++⟨#[32]⟩++E++⟨#[59]⟩))∧Below w.heap.size w w':=by
 have T:=Hh (Env.start w);have HA:=Hh ha;have HE:=Hh hE;have i1:(0:Int)≤(s:Int):=by omega
 have i2:(s:Int)<4:=by omega
 clear ha hE;go_enter Tryz.func89,Tryz.ntmps89;go_upto_region 12 with(first
 |((with_reducible refine Zd 1 ?_);refine Zk T.out 58 _ ys rfl rfl rfl ?_;intro wn g0 tn;have T:=Hh tn;clear tn;have c0:=(T.out.get 0 rfl).nthQ 0 HA.out.c0)
 |(go_at_call 115;refine(Zas _).mono ?_;rintro e wn ⟨gw,rfl,hg,bn⟩;have T:=Hh (T.out.call bn);have cg:wn.cell? ⟨gw,7,none⟩=some (Ψ ⟨#[100,114,97,119]⟩):=Wi (L:=Xr) (k:=7) hg (by decide) (by decide);clear bn hg;have c0:=(T.out.get 0 rfl).nthQ 0 HA.out.c0))
 clear c0 cg;refine Xg (fun x=>Env w [(g0,58,ys)] [] [] x) (by kernel_rfl) T.out.drew ?_;have hst:Zdp (fun x=>Env w [(g0,58,ys)] [] [] x):=fun x y h e=>Env.call h e
 refine AB.tk 0 (Ψ ⟨#[100,114,97,119]⟩) rfl rfl (by kernel_rfl) (fun _ _ _ h=>h) hst (Vn rfl rfl rfl) ?_;simp only[Qy,Qx];refine AB.tk 1 (Ψ (⟨#[100,114,97,119]⟩++⟨#[32]⟩)) rfl rfl (by kernel_rfl) (fun _ _ _ h=>h) hst (Yi rfl rfl rfl rfl (by(try simp only[Δ]);have z1:=Yr (L:=Zg) (by decide) (s:Int);have z4:(⟨#[32]⟩:ByteArray).size=1:=rfl;have z5:((⟨#[100,114,97,119]⟩:ByteArray)).size≤20:=(by decide);omega)) ?_;simp only[Qy,Qx];refine AB.tk 3 (Ω (some ⟨g0,21,none⟩)) rfl rfl (by kernel_rfl) (fun _ _ _ h=>h) hst (Zn rfl (fun y hy=>by go_simp)) ?_;simp only[Qy,Qx];refine AB.tk 4 (I J (s:Int)) rfl rfl (by kernel_rfl) (fun _ _ _ h=>h) hst (Zn rfl (fun y hy=>by have c0:=Ze.nthQ (Env.get (hy) 0 rfl) 21 HA.out.c21;go_simp)) ?_;simp only[Qy,Qx];refine AB.one (i:=2) (by kernel_rfl) (Zeg.some (val:=fun g=>Λ (some ⟨g,0,none⟩) 4 4) (φ :=fun g x=>Ze x g 9 (Zgy.map Value.string).toArray) rfl rfl rfl hst (fun y hy=>by kernel_rfl) (fun y hy=>(Zen y).mono fun e w2 ⟨g,he,hg,hb⟩=>⟨g,he,hg,hb⟩) (fun g x y h e=>Ze.below h e (Ze.inside h)) (fun ga=>?_));simp only[Qy,Qx];refine AB.tk 5 (Ω (some ⟨ga,s,none⟩)) rfl rfl (by kernel_rfl) (fun _ _ _ h=>h) (hst.and fun x y h e=>Ze.below h e (Ze.inside h)) (Zn rfl (fun y hy=>by go_simp)) ?_;simp only[Qy,Qx];refine AB.tk 6 (Ψ (wd Zg (s:Int))) rfl rfl (by kernel_rfl) (fun _ _ _ h=>h) (hst.and fun x y h e=>Ze.below h e (Ze.inside h)) (Zn rfl (fun y hy=>by have c0:=Wi (L:=Zg) (hy.2) hs1 hs3;go_simp)) ?_;simp only[Qy,Qx];refine AB.tk 7 (Ψ (⟨#[100,114,97,119]⟩++⟨#[32]⟩++wd Zg (s:Int))) rfl rfl (by kernel_rfl) (fun _ _ _ h=>h) (hst.and fun x y h e=>Ze.below h e (Ze.inside h)) (Yi rfl rfl rfl rfl (by(try simp only[Δ]);have z1:=Yr (L:=Zg) (by decide) (s:Int);have z4:(⟨#[32]⟩:ByteArray).size=1:=rfl;have z5:((⟨#[100,114,97,119]⟩:ByteArray)).size≤20:=(by decide);omega)) ?_;simp only[Qy,Qx];refine AB.tk 8 (Ψ (⟨#[100,114,97,119]⟩++⟨#[32]⟩++wd Zg (s:Int))) rfl rfl (by kernel_rfl) (fun _ _ _ h=>h) (hst.and fun x y h e=>Ze.below h e (Ze.inside h)) (Zn rfl (fun y hy=>by go_simp)) ?_;simp only[Qy,Qx];refine AB.done (by kernel_rfl) (fun wn hS=>?_);have T:=Hh hS.1;clear hS;have zP:((⟨#[100,114,97,119]⟩++⟨#[32]⟩++wd Zg (s:Int)):ByteArray).size≤10000001000:=by(try simp only[Δ]);have z1:=Yr (L:=Zg) (by decide) (s:Int);have z4:(⟨#[32]⟩:ByteArray).size=1:=rfl;have z5:((⟨#[100,114,97,119]⟩:ByteArray)).size≤20:=(by decide);omega
 obtain⟨pp,hpp⟩:∃ x,x=(⟨#[100,114,97,119]⟩++⟨#[32]⟩++wd Zg (s:Int)):=⟨_,rfl⟩
 rw[←hpp]at zP ⊢;have HPP:=Hh hpp;clear hpp;have c0:=(T.out.get 0 rfl).nthQ 0 HA.out.c0;go_wp2_with(first
 |((with_reducible refine Zd 149 ?_);refine Zr 54 _ g0 9 nv (HA.out.rn _ _ _ (T.out.get 0 rfl)) Xm (by rw[HA.out.nlen];exact Yz) rfl rfl rfl ?_)
 |(go_at_call 116;refine(HE.out _ T.out.below).mono ?_;rintro e wn ⟨rfl,bn⟩;have T:=Hh (T.out.call bn);clear bn;have c0:=(T.out.get 0 rfl).nthQ 0 HA.out.c0))
 go_ret;exact⟨by rw[HPP.out];rfl,T.out.below⟩
theorem rz_act9(w:World)(ys sv nv pv:List Value)(s:Nat)(hs1:1≤s)(hs3:s≤3)(how:Int)(tk tl:Int)(nm:ByteArray)(thn els:Value)  (ha:Zcs ys sv nv pv 9 (s:Int) tk tl how nm thn els)(E:ByteArray)(zE:E.size≤10000000000)(hE:RzC 116 w (.agg nv.toArray) E) :
  Calls Φ 89 #[.agg ys.toArray] w fun e w'=>e=η (Ψ ((⟨#[101,110,101,114,103,121]⟩++⟨#[32]⟩++wd Zg (s:Int))++⟨#[32]⟩++E++⟨#[59]⟩))∧Below w.heap.size w w':=by
 have T:=Hh (Env.start w);have HA:=Hh ha;have HE:=Hh hE;have i1:(0:Int)≤(s:Int):=by omega
 have i2:(s:Int)<4:=by omega
 clear ha hE;go_enter Tryz.func89,Tryz.ntmps89;go_upto_region 12 with(first
 |((with_reducible refine Zd 1 ?_);refine Zk T.out 58 _ ys rfl rfl rfl ?_;intro wn g0 tn;have T:=Hh tn;clear tn;have c0:=(T.out.get 0 rfl).nthQ 0 HA.out.c0)
 |(go_at_call 115;refine(Zas _).mono ?_;rintro e wn ⟨gw,rfl,hg,bn⟩;have T:=Hh (T.out.call bn);have cg:wn.cell? ⟨gw,9,none⟩=some (Ψ ⟨#[101,110,101,114,103,121]⟩):=Wi (L:=Xr) (k:=9) hg (by decide) (by decide);clear bn hg;have c0:=(T.out.get 0 rfl).nthQ 0 HA.out.c0))
 clear c0 cg;refine Xg (fun x=>Env w [(g0,58,ys)] [] [] x) (by kernel_rfl) T.out.drew ?_;have hst:Zdp (fun x=>Env w [(g0,58,ys)] [] [] x):=fun x y h e=>Env.call h e
 refine AB.tk 0 (Ψ ⟨#[101,110,101,114,103,121]⟩) rfl rfl (by kernel_rfl) (fun _ _ _ h=>h) hst (Vn rfl rfl rfl) ?_;simp only[Qy,Qx];refine AB.tk 1 (Ψ (⟨#[101,110,101,114,103,121]⟩++⟨#[32]⟩)) rfl rfl (by kernel_rfl) (fun _ _ _ h=>h) hst (Yi rfl rfl rfl rfl (by(try simp only[Δ]);have z1:=Yr (L:=Zg) (by decide) (s:Int);have z4:(⟨#[32]⟩:ByteArray).size=1:=rfl;have z5:((⟨#[101,110,101,114,103,121]⟩:ByteArray)).size≤20:=(by decide);omega)) ?_;simp only[Qy,Qx];refine AB.tk 3 (Ω (some ⟨g0,21,none⟩)) rfl rfl (by kernel_rfl) (fun _ _ _ h=>h) hst (Zn rfl (fun y hy=>by go_simp)) ?_;simp only[Qy,Qx];refine AB.tk 4 (I J (s:Int)) rfl rfl (by kernel_rfl) (fun _ _ _ h=>h) hst (Zn rfl (fun y hy=>by have c0:=Ze.nthQ (Env.get (hy) 0 rfl) 21 HA.out.c21;go_simp)) ?_;simp only[Qy,Qx];refine AB.one (i:=2) (by kernel_rfl) (Zeg.some (val:=fun g=>Λ (some ⟨g,0,none⟩) 4 4) (φ :=fun g x=>Ze x g 9 (Zgy.map Value.string).toArray) rfl rfl rfl hst (fun y hy=>by kernel_rfl) (fun y hy=>(Zen y).mono fun e w2 ⟨g,he,hg,hb⟩=>⟨g,he,hg,hb⟩) (fun g x y h e=>Ze.below h e (Ze.inside h)) (fun ga=>?_));simp only[Qy,Qx];refine AB.tk 5 (Ω (some ⟨ga,s,none⟩)) rfl rfl (by kernel_rfl) (fun _ _ _ h=>h) (hst.and fun x y h e=>Ze.below h e (Ze.inside h)) (Zn rfl (fun y hy=>by go_simp)) ?_;simp only[Qy,Qx];refine AB.tk 6 (Ψ (wd Zg (s:Int))) rfl rfl (by kernel_rfl) (fun _ _ _ h=>h) (hst.and fun x y h e=>Ze.below h e (Ze.inside h)) (Zn rfl (fun y hy=>by have c0:=Wi (L:=Zg) (hy.2) hs1 hs3;go_simp)) ?_;simp only[Qy,Qx];refine AB.tk 7 (Ψ (⟨#[101,110,101,114,103,121]⟩++⟨#[32]⟩++wd Zg (s:Int))) rfl rfl (by kernel_rfl) (fun _ _ _ h=>h) (hst.and fun x y h e=>Ze.below h e (Ze.inside h)) (Yi rfl rfl rfl rfl (by(try simp only[Δ]);have z1:=Yr (L:=Zg) (by decide) (s:Int);have z4:(⟨#[32]⟩:ByteArray).size=1:=rfl;have z5:((⟨#[101,110,101,114,103,121]⟩:ByteArray)).size≤20:=(by decide);omega)) ?_;simp only[Qy,Qx];refine AB.tk 8 (Ψ (⟨#[101,110,101,114,103,121]⟩++⟨#[32]⟩++wd Zg (s:Int))) rfl rfl (by kernel_rfl) (fun _ _ _ h=>h) (hst.and fun x y h e=>Ze.below h e (Ze.inside h)) (Zn rfl (fun y hy=>by go_simp)) ?_;simp only[Qy,Qx];refine AB.done (by kernel_rfl) (fun wn hS=>?_);have T:=Hh hS.1;clear hS;have zP:((⟨#[101,110,101,114,103,121]⟩++⟨#[32]⟩++wd Zg (s:Int)):ByteArray).size≤10000001000:=by(try simp only[Δ]);have z1:=Yr (L:=Zg) (by decide) (s:Int);have z4:(⟨#[32]⟩:ByteArray).size=1:=rfl;have z5:((⟨#[101,110,101,114,103,121]⟩:ByteArray)).size≤20:=(by decide);omega
 obtain⟨pp,hpp⟩:∃ x,x=(⟨#[101,110,101,114,103,121]⟩++⟨#[32]⟩++wd Zg (s:Int)):=⟨_,rfl⟩
 rw[←hpp]at zP ⊢;have HPP:=Hh hpp;clear hpp;have c0:=(T.out.get 0 rfl).nthQ 0 HA.out.c0;go_wp2_with(first
 |((with_reducible refine Zd 149 ?_);refine Zr 54 _ g0 9 nv (HA.out.rn _ _ _ (T.out.get 0 rfl)) Xm (by rw[HA.out.nlen];exact Yz) rfl rfl rfl ?_)
 |(go_at_call 116;refine(HE.out _ T.out.below).mono ?_;rintro e wn ⟨rfl,bn⟩;have T:=Hh (T.out.call bn);clear bn;have c0:=(T.out.get 0 rfl).nthQ 0 HA.out.c0))
 go_ret;exact⟨by rw[HPP.out];rfl,T.out.below⟩
theorem rz_act13(w:World)(ys sv nv pv:List Value)(s:Nat)(hs1:1≤s)(hs3:s≤3)(how:Int)(tk tl:Int)(nm:ByteArray)(thn els:Value)  (ha:Zcs ys sv nv pv 13 (s:Int) tk tl how nm thn els)(L:ByteArray)(zL:L.size≤1000)(hL:RzC 120 w (.agg #[I J tk,I J tl]) L) :
  Calls Φ 89 #[.agg ys.toArray] w fun e w'=>e=η (Ψ ((⟨#[100,111,117,98,108,101]⟩++⟨#[32]⟩++wd Zg (s:Int))++⟨#[32]⟩++L++⟨#[59]⟩))∧Below w.heap.size w w':=by
 have T:=Hh (Env.start w);have HA:=Hh ha;have HL:=Hh hL;have i1:(0:Int)≤(s:Int):=by omega
 have i2:(s:Int)<4:=by omega
 clear ha hL;go_enter Tryz.func89,Tryz.ntmps89;go_upto_region 12 with(first
 |((with_reducible refine Zd 1 ?_);refine Zk T.out 58 _ ys rfl rfl rfl ?_;intro wn g0 tn;have T:=Hh tn;clear tn;have c0:=(T.out.get 0 rfl).nthQ 0 HA.out.c0)
 |(go_at_call 115;refine(Zas _).mono ?_;rintro e wn ⟨gw,rfl,hg,bn⟩;have T:=Hh (T.out.call bn);have cg:wn.cell? ⟨gw,13,none⟩=some (Ψ ⟨#[100,111,117,98,108,101]⟩):=Wi (L:=Xr) (k:=13) hg (by decide) (by decide);clear bn hg;have c0:=(T.out.get 0 rfl).nthQ 0 HA.out.c0))
 clear c0 cg;refine Xg (fun x=>Env w [(g0,58,ys)] [] [] x) (by kernel_rfl) T.out.drew ?_;have hst:Zdp (fun x=>Env w [(g0,58,ys)] [] [] x):=fun x y h e=>Env.call h e
 refine AB.tk 0 (Ψ ⟨#[100,111,117,98,108,101]⟩) rfl rfl (by kernel_rfl) (fun _ _ _ h=>h) hst (Vn rfl rfl rfl) ?_;simp only[Qy,Qx];refine AB.tk 1 (Ψ (⟨#[100,111,117,98,108,101]⟩++⟨#[32]⟩)) rfl rfl (by kernel_rfl) (fun _ _ _ h=>h) hst (Yi rfl rfl rfl rfl (by(try simp only[Δ]);have z1:=Yr (L:=Zg) (by decide) (s:Int);have z4:(⟨#[32]⟩:ByteArray).size=1:=rfl;have z5:((⟨#[100,111,117,98,108,101]⟩:ByteArray)).size≤20:=(by decide);omega)) ?_;simp only[Qy,Qx];refine AB.tk 3 (Ω (some ⟨g0,21,none⟩)) rfl rfl (by kernel_rfl) (fun _ _ _ h=>h) hst (Zn rfl (fun y hy=>by go_simp)) ?_;simp only[Qy,Qx];refine AB.tk 4 (I J (s:Int)) rfl rfl (by kernel_rfl) (fun _ _ _ h=>h) hst (Zn rfl (fun y hy=>by have c0:=Ze.nthQ (Env.get (hy) 0 rfl) 21 HA.out.c21;go_simp)) ?_;simp only[Qy,Qx];refine AB.one (i:=2) (by kernel_rfl) (Zeg.some (val:=fun g=>Λ (some ⟨g,0,none⟩) 4 4) (φ :=fun g x=>Ze x g 9 (Zgy.map Value.string).toArray) rfl rfl rfl hst (fun y hy=>by kernel_rfl) (fun y hy=>(Zen y).mono fun e w2 ⟨g,he,hg,hb⟩=>⟨g,he,hg,hb⟩) (fun g x y h e=>Ze.below h e (Ze.inside h)) (fun ga=>?_));simp only[Qy,Qx];refine AB.tk 5 (Ω (some ⟨ga,s,none⟩)) rfl rfl (by kernel_rfl) (fun _ _ _ h=>h) (hst.and fun x y h e=>Ze.below h e (Ze.inside h)) (Zn rfl (fun y hy=>by go_simp)) ?_;simp only[Qy,Qx];refine AB.tk 6 (Ψ (wd Zg (s:Int))) rfl rfl (by kernel_rfl) (fun _ _ _ h=>h) (hst.and fun x y h e=>Ze.below h e (Ze.inside h)) (Zn rfl (fun y hy=>by have c0:=Wi (L:=Zg) (hy.2) hs1 hs3;go_simp)) ?_;simp only[Qy,Qx];refine AB.tk 7 (Ψ (⟨#[100,111,117,98,108,101]⟩++⟨#[32]⟩++wd Zg (s:Int))) rfl rfl (by kernel_rfl) (fun _ _ _ h=>h) (hst.and fun x y h e=>Ze.below h e (Ze.inside h)) (Yi rfl rfl rfl rfl (by(try simp only[Δ]);have z1:=Yr (L:=Zg) (by decide) (s:Int);have z4:(⟨#[32]⟩:ByteArray).size=1:=rfl;have z5:((⟨#[100,111,117,98,108,101]⟩:ByteArray)).size≤20:=(by decide);omega)) ?_;simp only[Qy,Qx];refine AB.tk 8 (Ψ (⟨#[100,111,117,98,108,101]⟩++⟨#[32]⟩++wd Zg (s:Int))) rfl rfl (by kernel_rfl) (fun _ _ _ h=>h) (hst.and fun x y h e=>Ze.below h e (Ze.inside h)) (Zn rfl (fun y hy=>by go_simp)) ?_;simp only[Qy,Qx];refine AB.done (by kernel_rfl) (fun wn hS=>?_);have T:=Hh hS.1;clear hS;have zP:((⟨#[100,111,117,98,108,101]⟩++⟨#[32]⟩++wd Zg (s:Int)):ByteArray).size≤10000001000:=by(try simp only[Δ]);have z1:=Yr (L:=Zg) (by decide) (s:Int);have z4:(⟨#[32]⟩:ByteArray).size=1:=rfl;have z5:((⟨#[100,111,117,98,108,101]⟩:ByteArray)).size≤20:=(by decide);omega
 obtain⟨pp,hpp⟩:∃ x,x=(⟨#[100,111,117,98,108,101]⟩++⟨#[32]⟩++wd Zg (s:Int)):=⟨_,rfl⟩
 rw[←hpp]at zP ⊢;have HPP:=Hh hpp;clear hpp;have c0:=(T.out.get 0 rfl).nthQ 0 HA.out.c0;go_wp2_with(first
 |((with_reducible refine Zd 111 ?_);refine Zr 51 _ g0 22 ([I J tk,I J tl]) (HA.out.rt _ _ _ (T.out.get 0 rfl)) Zfq Zdk rfl rfl rfl ?_)
 |(go_at_call 120;refine(HL.out _ T.out.below).mono ?_;rintro e wn ⟨rfl,bn⟩;have T:=Hh (T.out.call bn);clear bn;have c0:=(T.out.get 0 rfl).nthQ 0 HA.out.c0))
 go_ret;exact⟨by rw[HPP.out];rfl,T.out.below⟩
theorem rz_act15(w:World)(ys sv nv pv:List Value)(s:Nat)(hs1:1≤s)(hs3:s≤3)(how:Int)(tk tl:Int)(nm:ByteArray)(thn els:Value)  (ha:Zcs ys sv nv pv 15 (s:Int) tk tl how nm thn els)(L:ByteArray)(zL:L.size≤1000)(hL:RzC 120 w (.agg #[I J tk,I J tl]) L) :
  Calls Φ 89 #[.agg ys.toArray] w fun e w'=>e=η (Ψ ((⟨#[98,97,114]⟩++⟨#[32]⟩++wd Zg (s:Int))++⟨#[32]⟩++L++⟨#[59]⟩))∧Below w.heap.size w w':=by
 have T:=Hh (Env.start w);have HA:=Hh ha;have HL:=Hh hL;have i1:(0:Int)≤(s:Int):=by omega
 have i2:(s:Int)<4:=by omega
 clear ha hL;go_enter Tryz.func89,Tryz.ntmps89;go_upto_region 12 with(first
 |((with_reducible refine Zd 1 ?_);refine Zk T.out 58 _ ys rfl rfl rfl ?_;intro wn g0 tn;have T:=Hh tn;clear tn;have c0:=(T.out.get 0 rfl).nthQ 0 HA.out.c0)
 |(go_at_call 115;refine(Zas _).mono ?_;rintro e wn ⟨gw,rfl,hg,bn⟩;have T:=Hh (T.out.call bn);have cg:wn.cell? ⟨gw,15,none⟩=some (Ψ ⟨#[98,97,114]⟩):=Wi (L:=Xr) (k:=15) hg (by decide) (by decide);clear bn hg;have c0:=(T.out.get 0 rfl).nthQ 0 HA.out.c0))
 clear c0 cg;refine Xg (fun x=>Env w [(g0,58,ys)] [] [] x) (by kernel_rfl) T.out.drew ?_;have hst:Zdp (fun x=>Env w [(g0,58,ys)] [] [] x):=fun x y h e=>Env.call h e
 refine AB.tk 0 (Ψ ⟨#[98,97,114]⟩) rfl rfl (by kernel_rfl) (fun _ _ _ h=>h) hst (Vn rfl rfl rfl) ?_;simp only[Qy,Qx];refine AB.tk 1 (Ψ (⟨#[98,97,114]⟩++⟨#[32]⟩)) rfl rfl (by kernel_rfl) (fun _ _ _ h=>h) hst (Yi rfl rfl rfl rfl (by(try simp only[Δ]);have z1:=Yr (L:=Zg) (by decide) (s:Int);have z4:(⟨#[32]⟩:ByteArray).size=1:=rfl;have z5:((⟨#[98,97,114]⟩:ByteArray)).size≤20:=(by decide);omega)) ?_;simp only[Qy,Qx];refine AB.tk 3 (Ω (some ⟨g0,21,none⟩)) rfl rfl (by kernel_rfl) (fun _ _ _ h=>h) hst (Zn rfl (fun y hy=>by go_simp)) ?_;simp only[Qy,Qx];refine AB.tk 4 (I J (s:Int)) rfl rfl (by kernel_rfl) (fun _ _ _ h=>h) hst (Zn rfl (fun y hy=>by have c0:=Ze.nthQ (Env.get (hy) 0 rfl) 21 HA.out.c21;go_simp)) ?_;simp only[Qy,Qx];refine AB.one (i:=2) (by kernel_rfl) (Zeg.some (val:=fun g=>Λ (some ⟨g,0,none⟩) 4 4) (φ :=fun g x=>Ze x g 9 (Zgy.map Value.string).toArray) rfl rfl rfl hst (fun y hy=>by kernel_rfl) (fun y hy=>(Zen y).mono fun e w2 ⟨g,he,hg,hb⟩=>⟨g,he,hg,hb⟩) (fun g x y h e=>Ze.below h e (Ze.inside h)) (fun ga=>?_));simp only[Qy,Qx];refine AB.tk 5 (Ω (some ⟨ga,s,none⟩)) rfl rfl (by kernel_rfl) (fun _ _ _ h=>h) (hst.and fun x y h e=>Ze.below h e (Ze.inside h)) (Zn rfl (fun y hy=>by go_simp)) ?_;simp only[Qy,Qx];refine AB.tk 6 (Ψ (wd Zg (s:Int))) rfl rfl (by kernel_rfl) (fun _ _ _ h=>h) (hst.and fun x y h e=>Ze.below h e (Ze.inside h)) (Zn rfl (fun y hy=>by have c0:=Wi (L:=Zg) (hy.2) hs1 hs3;go_simp)) ?_;simp only[Qy,Qx];refine AB.tk 7 (Ψ (⟨#[98,97,114]⟩++⟨#[32]⟩++wd Zg (s:Int))) rfl rfl (by kernel_rfl) (fun _ _ _ h=>h) (hst.and fun x y h e=>Ze.below h e (Ze.inside h)) (Yi rfl rfl rfl rfl (by(try simp only[Δ]);have z1:=Yr (L:=Zg) (by decide) (s:Int);have z4:(⟨#[32]⟩:ByteArray).size=1:=rfl;have z5:((⟨#[98,97,114]⟩:ByteArray)).size≤20:=(by decide);omega)) ?_;simp only[Qy,Qx];refine AB.tk 8 (Ψ (⟨#[98,97,114]⟩++⟨#[32]⟩++wd Zg (s:Int))) rfl rfl (by kernel_rfl) (fun _ _ _ h=>h) (hst.and fun x y h e=>Ze.below h e (Ze.inside h)) (Zn rfl (fun y hy=>by go_simp)) ?_;simp only[Qy,Qx];refine AB.done (by kernel_rfl) (fun wn hS=>?_);have T:=Hh hS.1;clear hS;have zP:((⟨#[98,97,114]⟩++⟨#[32]⟩++wd Zg (s:Int)):ByteArray).size≤10000001000:=by(try simp only[Δ]);have z1:=Yr (L:=Zg) (by decide) (s:Int);have z4:(⟨#[32]⟩:ByteArray).size=1:=rfl;have z5:((⟨#[98,97,114]⟩:ByteArray)).size≤20:=(by decide);omega
 obtain⟨pp,hpp⟩:∃ x,x=(⟨#[98,97,114]⟩++⟨#[32]⟩++wd Zg (s:Int)):=⟨_,rfl⟩
 rw[←hpp]at zP ⊢;have HPP:=Hh hpp;clear hpp;have c0:=(T.out.get 0 rfl).nthQ 0 HA.out.c0;go_wp2_with(first
 |((with_reducible refine Zd 111 ?_);refine Zr 51 _ g0 22 ([I J tk,I J tl]) (HA.out.rt _ _ _ (T.out.get 0 rfl)) Zfq Zdk rfl rfl rfl ?_)
 |(go_at_call 120;refine(HL.out _ T.out.below).mono ?_;rintro e wn ⟨rfl,bn⟩;have T:=Hh (T.out.call bn);clear bn;have c0:=(T.out.get 0 rfl).nthQ 0 HA.out.c0))
 go_ret;exact⟨by rw[HPP.out];rfl,T.out.below⟩
theorem rz_act8(w:World)(ys sv nv pv:List Value)(s:Nat)(hs1:1≤s)(hs3:s≤3)(hw:Nat)(hh1:1≤hw)(hh4:hw≤4)(tk tl:Int)(nm:ByteArray)(thn els:Value)  (ha:Zcs ys sv nv pv 8 (s:Int) tk tl (hw:Int) nm thn els)  :
  Calls Φ 89 #[.agg ys.toArray] w fun e w'=>e=η (Ψ ((⟨#[100,105,115,99,97,114,100]⟩++⟨#[32]⟩++wd Zg (s:Int))++⟨#[32]⟩++wd Zde (hw:Int)++⟨#[59]⟩))∧Below w.heap.size w w':=by
 have T:=Hh (Env.start w);have HA:=Hh ha;have i1:(0:Int)≤(s:Int):=by omega
 have i2:(s:Int)<4:=by omega
 have i3:(0:Int)≤(hw:Int):=by omega
 have i4:(hw:Int)<5:=by omega
 clear ha ;go_enter Tryz.func89,Tryz.ntmps89;go_upto_region 12 with(first
 |((with_reducible refine Zd 1 ?_);refine Zk T.out 58 _ ys rfl rfl rfl ?_;intro wn g0 tn;have T:=Hh tn;clear tn;have c0:=(T.out.get 0 rfl).nthQ 0 HA.out.c0)
 |(go_at_call 115;refine(Zas _).mono ?_;rintro e wn ⟨gw,rfl,hg,bn⟩;have T:=Hh (T.out.call bn);have cg:wn.cell? ⟨gw,8,none⟩=some (Ψ ⟨#[100,105,115,99,97,114,100]⟩):=Wi (L:=Xr) (k:=8) hg (by decide) (by decide);clear bn hg;have c0:=(T.out.get 0 rfl).nthQ 0 HA.out.c0))
 clear c0 cg;refine Xg (fun x=>Env w [(g0,58,ys)] [] [] x) (by kernel_rfl) T.out.drew ?_;have hst:Zdp (fun x=>Env w [(g0,58,ys)] [] [] x):=fun x y h e=>Env.call h e
 refine AB.tk 0 (Ψ ⟨#[100,105,115,99,97,114,100]⟩) rfl rfl (by kernel_rfl) (fun _ _ _ h=>h) hst (Vn rfl rfl rfl) ?_;simp only[Qy,Qx];refine AB.tk 1 (Ψ (⟨#[100,105,115,99,97,114,100]⟩++⟨#[32]⟩)) rfl rfl (by kernel_rfl) (fun _ _ _ h=>h) hst (Yi rfl rfl rfl rfl (by(try simp only[Δ]);have z1:=Yr (L:=Zg) (by decide) (s:Int);have z4:(⟨#[32]⟩:ByteArray).size=1:=rfl;have z5:((⟨#[100,105,115,99,97,114,100]⟩:ByteArray)).size≤20:=(by decide);omega)) ?_;simp only[Qy,Qx];refine AB.tk 3 (Ω (some ⟨g0,21,none⟩)) rfl rfl (by kernel_rfl) (fun _ _ _ h=>h) hst (Zn rfl (fun y hy=>by go_simp)) ?_;simp only[Qy,Qx];refine AB.tk 4 (I J (s:Int)) rfl rfl (by kernel_rfl) (fun _ _ _ h=>h) hst (Zn rfl (fun y hy=>by have c0:=Ze.nthQ (Env.get (hy) 0 rfl) 21 HA.out.c21;go_simp)) ?_;simp only[Qy,Qx];refine AB.one (i:=2) (by kernel_rfl) (Zeg.some (val:=fun g=>Λ (some ⟨g,0,none⟩) 4 4) (φ :=fun g x=>Ze x g 9 (Zgy.map Value.string).toArray) rfl rfl rfl hst (fun y hy=>by kernel_rfl) (fun y hy=>(Zen y).mono fun e w2 ⟨g,he,hg,hb⟩=>⟨g,he,hg,hb⟩) (fun g x y h e=>Ze.below h e (Ze.inside h)) (fun ga=>?_));simp only[Qy,Qx];refine AB.tk 5 (Ω (some ⟨ga,s,none⟩)) rfl rfl (by kernel_rfl) (fun _ _ _ h=>h) (hst.and fun x y h e=>Ze.below h e (Ze.inside h)) (Zn rfl (fun y hy=>by go_simp)) ?_;simp only[Qy,Qx];refine AB.tk 6 (Ψ (wd Zg (s:Int))) rfl rfl (by kernel_rfl) (fun _ _ _ h=>h) (hst.and fun x y h e=>Ze.below h e (Ze.inside h)) (Zn rfl (fun y hy=>by have c0:=Wi (L:=Zg) (hy.2) hs1 hs3;go_simp)) ?_;simp only[Qy,Qx];refine AB.tk 7 (Ψ (⟨#[100,105,115,99,97,114,100]⟩++⟨#[32]⟩++wd Zg (s:Int))) rfl rfl (by kernel_rfl) (fun _ _ _ h=>h) (hst.and fun x y h e=>Ze.below h e (Ze.inside h)) (Yi rfl rfl rfl rfl (by(try simp only[Δ]);have z1:=Yr (L:=Zg) (by decide) (s:Int);have z4:(⟨#[32]⟩:ByteArray).size=1:=rfl;have z5:((⟨#[100,105,115,99,97,114,100]⟩:ByteArray)).size≤20:=(by decide);omega)) ?_;simp only[Qy,Qx];refine AB.tk 8 (Ψ (⟨#[100,105,115,99,97,114,100]⟩++⟨#[32]⟩++wd Zg (s:Int))) rfl rfl (by kernel_rfl) (fun _ _ _ h=>h) (hst.and fun x y h e=>Ze.below h e (Ze.inside h)) (Zn rfl (fun y hy=>by go_simp)) ?_;simp only[Qy,Qx];refine AB.done (by kernel_rfl) (fun wn hS=>?_);have T:=Hh hS.1;clear hS;have zP:((⟨#[100,105,115,99,97,114,100]⟩++⟨#[32]⟩++wd Zg (s:Int)):ByteArray).size≤10000001000:=by(try simp only[Δ]);have z1:=Yr (L:=Zg) (by decide) (s:Int);have z4:(⟨#[32]⟩:ByteArray).size=1:=rfl;have z5:((⟨#[100,105,115,99,97,114,100]⟩:ByteArray)).size≤20:=(by decide);omega
 obtain⟨pp,hpp⟩:∃ x,x=(⟨#[100,105,115,99,97,114,100]⟩++⟨#[32]⟩++wd Zg (s:Int)):=⟨_,rfl⟩
 rw[←hpp]at zP ⊢;have HPP:=Hh hpp;clear hpp;have c0:=(T.out.get 0 rfl).nthQ 0 HA.out.c0;go_upto_region 18 with(fail)
 clear c0;refine Xg (fun x=>Env w [(g0,58,ys)] [] [] x) (by kernel_rfl) T.out.drew ?_;have hst:Zdp (fun x=>Env w [(g0,58,ys)] [] [] x):=fun x y h e=>Env.call h e
 refine AB.tk 0 (Ψ pp) rfl rfl (by kernel_rfl) (fun _ _ _ h=>h) hst (Vn rfl rfl rfl) ?_;simp only[Qy,Qx];refine AB.tk 1 (Ψ (pp++⟨#[32]⟩)) rfl rfl (by kernel_rfl) (fun _ _ _ h=>h) hst (Yi rfl rfl rfl rfl (by(try simp only[Δ]);have z1:=Yr (L:=Zde) (by decide) (hw:Int);have z4:(⟨#[32]⟩:ByteArray).size=1:=rfl;have z5:=zP;omega)) ?_;simp only[Qy,Qx];refine AB.tk 3 (Ω (some ⟨g0,24,none⟩)) rfl rfl (by kernel_rfl) (fun _ _ _ h=>h) hst (Zn rfl (fun y hy=>by go_simp)) ?_;simp only[Qy,Qx];refine AB.tk 4 (I J (hw:Int)) rfl rfl (by kernel_rfl) (fun _ _ _ h=>h) hst (Zn rfl (fun y hy=>by have c0:=Ze.nthQ (Env.get (hy) 0 rfl) 24 HA.out.c24;go_simp)) ?_;simp only[Qy,Qx];refine AB.one (i:=2) (by kernel_rfl) (Zeg.some (val:=fun g=>Λ (some ⟨g,0,none⟩) 5 5) (φ :=fun g x=>Ze x g 9 (wHows.map Value.string).toArray) rfl rfl rfl hst (fun y hy=>by kernel_rfl) (fun y hy=>(rz_hows y).mono fun e w2 ⟨g,he,hg,hb⟩=>⟨g,he,hg,hb⟩) (fun g x y h e=>Ze.below h e (Ze.inside h)) (fun gb=>?_));simp only[Qy,Qx];refine AB.tk 5 (Ω (some ⟨gb,hw,none⟩)) rfl rfl (by kernel_rfl) (fun _ _ _ h=>h) (hst.and fun x y h e=>Ze.below h e (Ze.inside h)) (Zn rfl (fun y hy=>by go_simp)) ?_;simp only[Qy,Qx];refine AB.tk 6 (Ψ (wd Zde (hw:Int))) rfl rfl (by kernel_rfl) (fun _ _ _ h=>h) (hst.and fun x y h e=>Ze.below h e (Ze.inside h)) (Zn rfl (fun y hy=>by have c0:=Wi (L:=Zde) (hy.2) hh1 hh4;go_simp)) ?_;simp only[Qy,Qx];refine AB.tk 7 (Ψ (pp++⟨#[32]⟩++wd Zde (hw:Int))) rfl rfl (by kernel_rfl) (fun _ _ _ h=>h) (hst.and fun x y h e=>Ze.below h e (Ze.inside h)) (Yi rfl rfl rfl rfl (by(try simp only[Δ]);have z1:=Yr (L:=Zde) (by decide) (hw:Int);have z4:(⟨#[32]⟩:ByteArray).size=1:=rfl;have z5:=zP;omega)) ?_;simp only[Qy,Qx];refine AB.tk 8 (Ψ (pp++⟨#[32]⟩++wd Zde (hw:Int))) rfl rfl (by kernel_rfl) (fun _ _ _ h=>h) (hst.and fun x y h e=>Ze.below h e (Ze.inside h)) (Zn rfl (fun y hy=>by go_simp)) ?_;simp only[Qy,Qx];refine AB.done (by kernel_rfl) (fun wn hS=>?_);have T:=Hh hS.1;clear hS;have z9:=Yr (L:=Zde) (by decide) (hw:Int);go_wp2_with fail
 go_ret;exact⟨by rw[HPP.out];rfl,T.out.below⟩
theorem rz_act6(w:World)(ys sv nv pv:List Value)(s:Nat)(hs1:1≤s)(hs3:s≤3)(how:Int)(tk tl:Int)(nm:ByteArray)(thn els:Value)(zN:nm.size≤10000000000)(ha:Zcs ys sv nv pv 6 (s:Int) tk tl how nm thn els)(L:ByteArray)(zL:L.size≤1000)(hL:RzC 120 w (.agg #[I J tk,I J tl]) L)(E:ByteArray)(zE:E.size≤10000000000)(hE:RzC 116 w (.agg nv.toArray) E) :
  Calls Φ 89 #[.agg ys.toArray] w fun e w'=>e=η (Ψ (((⟨#[115,112,97,119,110]⟩++⟨#[32,34]⟩++nm++⟨#[34]⟩)++⟨#[32]⟩++wd Zg (s:Int))++⟨#[32]⟩++L++⟨#[32]⟩++E++⟨#[59]⟩))∧Below w.heap.size w w':=by
 have T:=Hh (Env.start w);have HA:=Hh ha;have HL:=Hh hL;have HE:=Hh hE;have i1:(0:Int)≤(s:Int):=by omega
 have i2:(s:Int)<4:=by omega
 clear ha hL hE;go_enter Tryz.func89,Tryz.ntmps89;have zNM:((⟨#[115,112,97,119,110]⟩++⟨#[32,34]⟩++nm++⟨#[34]⟩):ByteArray).size≤10000000100:=by simp only[Δ];have y1:(⟨#[115,112,97,119,110]⟩:ByteArray).size=5:=rfl;have y2:(⟨#[32,34]⟩:ByteArray).size=2:=rfl;have y3:(⟨#[34]⟩:ByteArray).size=1:=rfl;omega
 go_upto_region 12 with(first
 |((with_reducible refine Zd 1 ?_);refine Zk T.out 58 _ ys rfl rfl rfl ?_;intro wn g0 tn;have T:=Hh tn;clear tn;have c0:=(T.out.get 0 rfl).nthQ 0 HA.out.c0;have c25:=(T.out.get 0 rfl).nthQ 25 HA.out.c25)
 |(go_at_call 115;refine(Zas _).mono ?_;rintro e wn ⟨gw,rfl,hg,bn⟩;have T:=Hh (T.out.call bn);have cg:wn.cell? ⟨gw,6,none⟩=some (Ψ ⟨#[115,112,97,119,110]⟩):=Wi (L:=Xr) (k:=6) hg (by decide) (by decide);clear bn hg;have c0:=(T.out.get 0 rfl).nthQ 0 HA.out.c0;have c25:=(T.out.get 0 rfl).nthQ 25 HA.out.c25))
 clear c0 cg c25;refine Xg (fun x=>Env w [(g0,58,ys)] [] [] x) (by kernel_rfl) T.out.drew ?_;have hst:Zdp (fun x=>Env w [(g0,58,ys)] [] [] x):=fun x y h e=>Env.call h e
 refine AB.tk 0 (Ψ (⟨#[115,112,97,119,110]⟩++⟨#[32,34]⟩++nm++⟨#[34]⟩)) rfl rfl (by kernel_rfl) (fun _ _ _ h=>h) hst (Vn rfl rfl rfl) ?_;simp only[Qy,Qx];refine AB.tk 1 (Ψ ((⟨#[115,112,97,119,110]⟩++⟨#[32,34]⟩++nm++⟨#[34]⟩)++⟨#[32]⟩)) rfl rfl (by kernel_rfl) (fun _ _ _ h=>h) hst (Yi rfl rfl rfl rfl (by have z5:=zNM;(try simp only[Δ]at z5 ⊢);have z1:=Yr (L:=Zg) (by decide) (s:Int);have z4:(⟨#[32]⟩:ByteArray).size=1:=rfl;omega)) ?_;simp only[Qy,Qx];refine AB.tk 3 (Ω (some ⟨g0,21,none⟩)) rfl rfl (by kernel_rfl) (fun _ _ _ h=>h) hst (Zn rfl (fun y hy=>by go_simp)) ?_;simp only[Qy,Qx];refine AB.tk 4 (I J (s:Int)) rfl rfl (by kernel_rfl) (fun _ _ _ h=>h) hst (Zn rfl (fun y hy=>by have c0:=Ze.nthQ (Env.get (hy) 0 rfl) 21 HA.out.c21;go_simp)) ?_;simp only[Qy,Qx];refine AB.one (i:=2) (by kernel_rfl) (Zeg.some (val:=fun g=>Λ (some ⟨g,0,none⟩) 4 4) (φ :=fun g x=>Ze x g 9 (Zgy.map Value.string).toArray) rfl rfl rfl hst (fun y hy=>by kernel_rfl) (fun y hy=>(Zen y).mono fun e w2 ⟨g,he,hg,hb⟩=>⟨g,he,hg,hb⟩) (fun g x y h e=>Ze.below h e (Ze.inside h)) (fun ga=>?_));simp only[Qy,Qx];refine AB.tk 5 (Ω (some ⟨ga,s,none⟩)) rfl rfl (by kernel_rfl) (fun _ _ _ h=>h) (hst.and fun x y h e=>Ze.below h e (Ze.inside h)) (Zn rfl (fun y hy=>by go_simp)) ?_;simp only[Qy,Qx];refine AB.tk 6 (Ψ (wd Zg (s:Int))) rfl rfl (by kernel_rfl) (fun _ _ _ h=>h) (hst.and fun x y h e=>Ze.below h e (Ze.inside h)) (Zn rfl (fun y hy=>by have c0:=Wi (L:=Zg) (hy.2) hs1 hs3;go_simp)) ?_;simp only[Qy,Qx];refine AB.tk 7 (Ψ ((⟨#[115,112,97,119,110]⟩++⟨#[32,34]⟩++nm++⟨#[34]⟩)++⟨#[32]⟩++wd Zg (s:Int))) rfl rfl (by kernel_rfl) (fun _ _ _ h=>h) (hst.and fun x y h e=>Ze.below h e (Ze.inside h)) (Yi rfl rfl rfl rfl (by have z5:=zNM;(try simp only[Δ]at z5 ⊢);have z1:=Yr (L:=Zg) (by decide) (s:Int);have z4:(⟨#[32]⟩:ByteArray).size=1:=rfl;omega)) ?_;simp only[Qy,Qx];refine AB.tk 8 (Ψ ((⟨#[115,112,97,119,110]⟩++⟨#[32,34]⟩++nm++⟨#[34]⟩)++⟨#[32]⟩++wd Zg (s:Int))) rfl rfl (by kernel_rfl) (fun _ _ _ h=>h) (hst.and fun x y h e=>Ze.below h e (Ze.inside h)) (Zn rfl (fun y hy=>by go_simp)) ?_;simp only[Qy,Qx];refine AB.done (by kernel_rfl) (fun wn hS=>?_);have T:=Hh hS.1;clear hS;have zP:(((⟨#[115,112,97,119,110]⟩++⟨#[32,34]⟩++nm++⟨#[34]⟩)++⟨#[32]⟩++wd Zg (s:Int)):ByteArray).size≤10000001000:=by have z5:=zNM;(try simp only[Δ]at z5 ⊢);have z1:=Yr (L:=Zg) (by decide) (s:Int);have z4:(⟨#[32]⟩:ByteArray).size=1:=rfl;omega
 obtain⟨pp,hpp⟩:∃ x,x=((⟨#[115,112,97,119,110]⟩++⟨#[32,34]⟩++nm++⟨#[34]⟩)++⟨#[32]⟩++wd Zg (s:Int)):=⟨_,rfl⟩
 rw[←hpp]at zP ⊢;have HPP:=Hh hpp;clear hpp;have c0:=(T.out.get 0 rfl).nthQ 0 HA.out.c0;go_wp2_with(first
 |((with_reducible refine Zd 111 ?_);refine Zr 51 _ g0 22 ([I J tk,I J tl]) (HA.out.rt _ _ _ (T.out.get 0 rfl)) Zfq Zdk rfl rfl rfl ?_)
 |(go_at_call 120;refine(HL.out _ T.out.below).mono ?_;rintro e wn ⟨rfl,bn⟩;have T:=Hh (T.out.call bn);clear bn;have c0:=(T.out.get 0 rfl).nthQ 0 HA.out.c0;have c25:=(T.out.get 0 rfl).nthQ 25 HA.out.c25)
 |((with_reducible refine Zd 149 ?_);refine Zr 54 _ g0 9 nv (HA.out.rn _ _ _ (T.out.get 0 rfl)) Xm (by rw[HA.out.nlen];exact Yz) rfl rfl rfl ?_)
 |(go_at_call 116;refine(HE.out _ T.out.below).mono ?_;rintro e wn ⟨rfl,bn⟩;have T:=Hh (T.out.call bn);clear bn;have c0:=(T.out.get 0 rfl).nthQ 0 HA.out.c0;have c25:=(T.out.get 0 rfl).nthQ 25 HA.out.c25))
 go_ret;exact⟨by rw[HPP.out];rfl,T.out.below⟩
end Go.Proofs.YtdngkgickbaboaaGreat
