/- Parts of the proof. No conditions but those that each names. -/
import Derived.Test.YtbdecchpleiepaaGreatRows
import Derived.Shelf.SlSortCmp.NoneTotal
import Derived.Shelf.Spec.SearchS
import Derived.Shelf.Small.Strs
import Derived.Lib.Bytealg
import Derived.Deep.QuietTactic
import Derived.BigQuiet
import Derived.Deep.RegionHeld3
import Derived.Deep.RegionWith
import Derived.Below
import Derived.Outline
import Derived.Deep.OwnRows
import Derived.Test.YtbdecchpleiepaaGreatQL28
set_option maxRecDepth 20000
set_option maxHeartbeats 99000000
set_option linter.unusedVariables false
set_option linter.unusedSimpArgs false
namespace Go.Proofs.YtbdecchpleiepaaGreat
open Go.Value renaming int→I,slice→Λ,pointer→Ω,string→Ψ,oneCell'→Γ
open Go.IntKind renaming i64→J
open _root_.Go.Proofs.Tryz renaming prog→Φ
open Nat renaming le_refl→Θ
open Nat renaming le_trans→Ξ
open Go.Ending renaming returned→η
open Go Go.RowKit
theorem lrow_hd:(Tryz.prog.underlying 67).map TypeDesc.isRow=some true:=by kernel_rfl
theorem Zat:(Tryz.prog.info? 67).map (·.size)=some 3:=by kernel_rfl
theorem Zkf:(Tryz.prog.info? 67).map (fun i=>i.zero.map Value.cells)=some (some ([Ψ ⟨#[]⟩,I J 0,I J 0]:List Value).toArray):=by kernel_rfl
theorem whole4{w:World}{g:Nat}{t:TypeId}{a b c d:Value}(W:Zi w g t #[a,b,c,d]):w.cell? ⟨g,0,none⟩=some a∧w.cell? ⟨g,1,none⟩=some b∧w.cell? ⟨g,2,none⟩=some c∧w.cell? ⟨g,3,none⟩=some d:=⟨W.read 0,W.read 1,W.read 2,W.read 3⟩
theorem lHeadC(nm:ByteArray)(cost pow cln ccl:Int)(D:Option Addr)(n k:Nat)(w:World) :
  Calls Φ 25 #[.agg ([Ψ nm,I J cost,I J pow,I J cln,I J ccl,Λ D n k]:List Value).toArray] w fun e w'=>e=η (.agg ([Ψ nm,I J cln,I J ccl]:List Value).toArray)∧Below w.heap.size w w':=by
 have T:=Hh (Env.start w);go_enter Tryz.func25,Tryz.ntmps25;go_wp2_with(first
 |((with_reducible refine Zd 1 ?_);refine Zf T.out 36 _ ([Ψ nm,I J cost,I J pow,I J cln,I J ccl,Λ D n k]) rfl rfl rfl ?_;intro wa g0 tn;have T:=Hh tn;clear tn)
 |((with_reducible refine Zd 2 ?_);refine Zb T.out 67 _ rfl rfl Zkf ?_;intro wb g1 tn;have T:=Hh tn;clear tn;obtain⟨fc0,fc1,fc2,fc3,fc4,fc5⟩:=Vm (T.out.get 0 rfl))
 |((with_reducible refine Zg 2 9 ?_);refine Za 67 _ _ 67 g1 _ ([Ψ nm,I J cln,I J ccl]) (T.out.get 1 rfl) rfl Zat (by simp[Γ]) rfl rfl rfl rfl rfl ?_;intro wd p;have T:=Hh (T.out.put 1 rfl p);clear p))
 exact Ya 2 67 67 g1 ([Ψ nm,I J cln,I J ccl]) rfl (T.out.get 1 rfl) lrow_hd Zat rfl rfl ⟨rfl,T.out.below⟩
theorem lHeadP(nm:ByteArray)(pln pcl:Int)(D:Option Addr)(n k:Nat)(w:World) :
  Calls Φ 26 #[.agg ([Ψ nm,I J pln,I J pcl,Λ D n k]:List Value).toArray] w fun e w'=>e=η (.agg ([Ψ nm,I J pln,I J pcl]:List Value).toArray)∧Below w.heap.size w w':=by
 have T:=Hh (Env.start w);go_enter Tryz.func26,Tryz.ntmps26;go_wp2_with(first
 |((with_reducible refine Zd 1 ?_);refine Zf T.out 45 _ ([Ψ nm,I J pln,I J pcl,Λ D n k]) rfl rfl rfl ?_;intro wa g0 tn;have T:=Hh tn;clear tn)
 |((with_reducible refine Zd 2 ?_);refine Zb T.out 67 _ rfl rfl Zkf ?_;intro wb g1 tn;have T:=Hh tn;clear tn;obtain⟨fc0,fc1,fc2,fc3⟩:=whole4 (T.out.get 0 rfl))
 |((with_reducible refine Zg 2 9 ?_);refine Za 67 _ _ 67 g1 _ ([Ψ nm,I J pln,I J pcl]) (T.out.get 1 rfl) rfl Zat (by simp[Γ]) rfl rfl rfl rfl rfl ?_;intro wd p;have T:=Hh (T.out.put 1 rfl p);clear p))
 exact Ya 2 67 67 g1 ([Ψ nm,I J pln,I J pcl]) rfl (T.out.get 1 rfl) lrow_hd Zat rfl rfl ⟨rfl,T.out.below⟩
theorem lCard_any(x:Ca)(w:World)(N:Nat→Prop)(vs:List Value)(h:Zs N w x.ds vs) :
  Calls Φ 9 #[.agg vs.toArray] w fun e w'=>e=η (faV (Zfr x))∧Below w.heap.size w w':=by
 have h1:=fun w=>Ziv x.cost 0 9 w
 have h2:=fun w=>Ziv x.power (-20) 20 w
 have hv:Zfr x=if(Zew x.cost 0 9 || Zew x.power (-20) 20)=true then(12,x.line,x.col)else Uy false 0 x.rules:=rfl
 generalize Zfr x=V at *;generalize Zew x.cost 0 9=q1 at *;generalize Zew x.power (-20) 20=q2 at *;obtain⟨nm,cost,pow,cln,ccl,rules⟩:=x;obtain⟨_,rfl,_,rfl,_,rfl,_,rfl,_,rfl,D,k,zs,_,rfl,hnn,hwz,hdz,rfl⟩:=h;have hrow:Zs N w (.row rules.length (Un rules) .nil) [Λ D rules.length k]:=⟨D,k,zs,[],rfl,hnn,hwz,hdz,rfl⟩
 have hr:=fun x (hb:Below w.heap.size w x)=>lRules_any false rules x N _ (hrow.below hb)
 dsimp only at *;generalize Uy false 0 rules=F at *;generalize rules.length=n at *;clear hrow hnn hwz hdz;have T:=Hh (Env.start w);go_enter Tryz.func9,Tryz.ntmps9;cases q1
 ·cases q2
  · simp only[Bool.or_self,Bool.false_eq_true,if_false]at hv
    go_wp2_with(first
 |((with_reducible refine Zd 1 ?_);refine Zf T.out 36 _ ([Ψ nm,I J cost,I J pow,I J cln,I J ccl,Λ D n k]) rfl rfl rfl ?_;intro wa g0 tn;have T:=Hh tn;clear tn)
 |((with_reducible refine Zd 2 ?_);refine Zb T.out 29 _ rfl rfl Wu ?_;intro wb g1 tn;have T:=Hh tn;clear tn;obtain⟨fc0,fc1,fc2,fc3,fc4,fc5⟩:=Vm (T.out.get 0 rfl))
 |(go_at_call 30;(with_reducible refine(h1 _).mono ?_);rintro r wc ⟨rfl,bn⟩;have T:=Hh (T.out.call bn);clear bn;obtain⟨fc0,fc1,fc2,fc3,fc4,fc5⟩:=Vm (T.out.get 0 rfl))
 |(go_at_call 30;(with_reducible refine(h2 _).mono ?_);rintro r wc ⟨rfl,bn⟩;have T:=Hh (T.out.call bn);clear bn;obtain⟨fc0,fc1,fc2,fc3,fc4,fc5⟩:=Vm (T.out.get 0 rfl))
 |(go_at_call 31;refine(hr _ T.out.below).mono ?_;rintro r wc ⟨rfl,bn⟩;have T:=Hh (T.out.call bn);clear bn)
 |((with_reducible refine Zg 2 15 ?_);refine Za 29 _ _ 29 g1 _ ([I J 12,I J cln,I J ccl]) (T.out.get 1 rfl) rfl Zj (by simp[Γ]) rfl rfl rfl rfl rfl ?_;intro wd p;have T:=Hh (T.out.put 1 rfl p);clear p)
 |((with_reducible refine Zg 2 18 ?_);refine Za 29 _ _ 29 g1 _ (faL F) (T.out.get 1 rfl) rfl Zj (Zhq _) rfl rfl rfl rfl rfl ?_;intro wd p;have T:=Hh (T.out.put 1 rfl p);clear p))
    exact Ya 2 29 29 g1 (faL F) rfl (T.out.get 1 rfl) Yf Zj rfl rfl ⟨by rw[hv];rfl,T.out.below⟩
  · simp only[Bool.or_true,if_true]at hv
    go_wp2_with(first
 |((with_reducible refine Zd 1 ?_);refine Zf T.out 36 _ ([Ψ nm,I J cost,I J pow,I J cln,I J ccl,Λ D n k]) rfl rfl rfl ?_;intro wa g0 tn;have T:=Hh tn;clear tn)
 |((with_reducible refine Zd 2 ?_);refine Zb T.out 29 _ rfl rfl Wu ?_;intro wb g1 tn;have T:=Hh tn;clear tn;obtain⟨fc0,fc1,fc2,fc3,fc4,fc5⟩:=Vm (T.out.get 0 rfl))
 |(go_at_call 30;(with_reducible refine(h1 _).mono ?_);rintro r wc ⟨rfl,bn⟩;have T:=Hh (T.out.call bn);clear bn;obtain⟨fc0,fc1,fc2,fc3,fc4,fc5⟩:=Vm (T.out.get 0 rfl))
 |(go_at_call 30;(with_reducible refine(h2 _).mono ?_);rintro r wc ⟨rfl,bn⟩;have T:=Hh (T.out.call bn);clear bn;obtain⟨fc0,fc1,fc2,fc3,fc4,fc5⟩:=Vm (T.out.get 0 rfl))
 |(go_at_call 31;refine(hr _ T.out.below).mono ?_;rintro r wc ⟨rfl,bn⟩;have T:=Hh (T.out.call bn);clear bn)
 |((with_reducible refine Zg 2 15 ?_);refine Za 29 _ _ 29 g1 _ ([I J 12,I J cln,I J ccl]) (T.out.get 1 rfl) rfl Zj (by simp[Γ]) rfl rfl rfl rfl rfl ?_;intro wd p;have T:=Hh (T.out.put 1 rfl p);clear p)
 |((with_reducible refine Zg 2 18 ?_);refine Za 29 _ _ 29 g1 _ (faL F) (T.out.get 1 rfl) rfl Zj (Zhq _) rfl rfl rfl rfl rfl ?_;intro wd p;have T:=Hh (T.out.put 1 rfl p);clear p))
    exact Ya 2 29 29 g1 ([I J 12,I J cln,I J ccl]) rfl (T.out.get 1 rfl) Yf Zj rfl rfl ⟨by rw[hv];rfl,T.out.below⟩
 ·simp only[Bool.true_or,if_true]at hv
  go_wp2_with(first
 |((with_reducible refine Zd 1 ?_);refine Zf T.out 36 _ ([Ψ nm,I J cost,I J pow,I J cln,I J ccl,Λ D n k]) rfl rfl rfl ?_;intro wa g0 tn;have T:=Hh tn;clear tn)
 |((with_reducible refine Zd 2 ?_);refine Zb T.out 29 _ rfl rfl Wu ?_;intro wb g1 tn;have T:=Hh tn;clear tn;obtain⟨fc0,fc1,fc2,fc3,fc4,fc5⟩:=Vm (T.out.get 0 rfl))
 |(go_at_call 30;(with_reducible refine(h1 _).mono ?_);rintro r wc ⟨rfl,bn⟩;have T:=Hh (T.out.call bn);clear bn;obtain⟨fc0,fc1,fc2,fc3,fc4,fc5⟩:=Vm (T.out.get 0 rfl))
 |(go_at_call 30;(with_reducible refine(h2 _).mono ?_);rintro r wc ⟨rfl,bn⟩;have T:=Hh (T.out.call bn);clear bn;obtain⟨fc0,fc1,fc2,fc3,fc4,fc5⟩:=Vm (T.out.get 0 rfl))
 |(go_at_call 31;refine(hr _ T.out.below).mono ?_;rintro r wc ⟨rfl,bn⟩;have T:=Hh (T.out.call bn);clear bn)
 |((with_reducible refine Zg 2 15 ?_);refine Za 29 _ _ 29 g1 _ ([I J 12,I J cln,I J ccl]) (T.out.get 1 rfl) rfl Zj (by simp[Γ]) rfl rfl rfl rfl rfl ?_;intro wd p;have T:=Hh (T.out.put 1 rfl p);clear p)
 |((with_reducible refine Zg 2 18 ?_);refine Za 29 _ _ 29 g1 _ (faL F) (T.out.get 1 rfl) rfl Zj (Zhq _) rfl rfl rfl rfl rfl ?_;intro wd p;have T:=Hh (T.out.put 1 rfl p);clear p))
  exact Ya 2 29 29 g1 ([I J 12,I J cln,I J ccl]) rfl (T.out.get 1 rfl) Yf Zj rfl rfl ⟨by rw[hv];rfl,T.out.below⟩
theorem lPlace_any(x:Pl)(w:World)(N:Nat→Prop)(vs:List Value)(h:Zs N w x.ds vs) :
  Calls Φ 13 #[.agg vs.toArray] w fun e w'=>e=η (faV (Zfq x))∧Below w.heap.size w w':=by
 obtain⟨nm,pln,pcl,rules⟩:=x;obtain⟨_,rfl,_,rfl,_,rfl,D,k,zs,_,rfl,hnn,hwz,hdz,rfl⟩:=h;have hrow:Zs N w (.row rules.length (Un rules) .nil) [Λ D rules.length k]:=⟨D,k,zs,[],rfl,hnn,hwz,hdz,rfl⟩
 have hr:=fun x (hb:Below w.heap.size w x)=>lRules_any true rules x N _ (hrow.below hb)
 have hv:Zfq ⟨nm,pln,pcl,rules⟩=Uy true 0 rules:=rfl;rw[hv];dsimp only at *;generalize Uy true 0 rules=F at *;generalize rules.length=n at *;clear hrow hnn hwz hdz hv;have T:=Hh (Env.start w);go_enter Tryz.func13,Tryz.ntmps13;go_wp2_with(first
 |((with_reducible refine Zd 1 ?_);refine Zf T.out 45 _ ([Ψ nm,I J pln,I J pcl,Λ D n k]) rfl rfl rfl ?_;intro wa g0 tn;have T:=Hh tn;clear tn)
 |((with_reducible refine Zd 2 ?_);refine Zb T.out 29 _ rfl rfl Wu ?_;intro wb g1 tn;have T:=Hh tn;clear tn;obtain⟨fc0,fc1,fc2,fc3⟩:=whole4 (T.out.get 0 rfl))
 |(go_at_call 31;refine(hr _ T.out.below).mono ?_;rintro r wc ⟨rfl,bn⟩;have T:=Hh (T.out.call bn);clear bn)
 |((with_reducible refine Zg 2 5 ?_);refine Za 29 _ _ 29 g1 _ (faL F) (T.out.get 1 rfl) rfl Zj (Zhq _) rfl rfl rfl rfl rfl ?_;intro wd p;have T:=Hh (T.out.put 1 rfl p);clear p))
 exact Ya 2 29 29 g1 (faL F) rfl (T.out.get 1 rfl) Yf Zj rfl rfl ⟨rfl,T.out.below⟩
open Go.Shelf
def sortL_ren:Go.Shelf.Ren:=⟨fun | 6=>121 | 15=>150 | 14=>149 | 28=>175 | 29=>176 | 20=>167 | 21=>168 | 22=>169 | 23=>170 | 24=>171 | 25=>172 | 26=>173 | 27=>174 | 46=>190 | 47=>191 | 48=>192 | 49=>193 | 50=>194 | 57=>201 | n=>n,fun | 22=>160 | 24=>3 | 25=>192 | 3=>3 | 39=>193 | 0=>0 | 53=>224 | 55=>226 | 4=>4 | 46=>218 | 45=>217 | 50=>164 | 5=>5 | 9=>9 | 66=>232 | 70=>236 | 76=>239 | 77=>146 | n=>n,fun | n=>n⟩
theorem sortL:Go.Proofs.SlLaysF.n6 Φ sortL_ren:= {
 mixed:=by kernel_rfl
 f6:=⟨Tryz.f121.name,by decide,Tryz.func121.trans (congrArg some (by kernel_rfl))⟩
 f14:=⟨Tryz.f149.name,by decide,Tryz.func149.trans (congrArg some (by kernel_rfl))⟩
 f15:=Tryz.func150.trans (congrArg some (by kernel_rfl))
 f20:=⟨Tryz.f167.name,by decide,Tryz.func167.trans (congrArg some (by kernel_rfl))⟩
 f21:=⟨Tryz.f168.name,by decide,Tryz.func168.trans (congrArg some (by kernel_rfl))⟩
 f22:=⟨Tryz.f169.name,by decide,Tryz.func169.trans (congrArg some (by kernel_rfl))⟩
 f23:=⟨Tryz.f170.name,by decide,Tryz.func170.trans (congrArg some (by kernel_rfl))⟩
 f24:=⟨Tryz.f171.name,by decide,Tryz.func171.trans (congrArg some (by kernel_rfl))⟩
 f25:=⟨Tryz.f172.name,by decide,Tryz.func172.trans (congrArg some (by kernel_rfl))⟩
 f26:=⟨Tryz.f173.name,by decide,Tryz.func173.trans (congrArg some (by kernel_rfl))⟩
 f27:=⟨Tryz.f174.name,by decide,Tryz.func174.trans (congrArg some (by kernel_rfl))⟩
 f28:=Tryz.func175.trans (congrArg some (by kernel_rfl))
 f29:=Tryz.func176.trans (congrArg some (by kernel_rfl))
 f46:=⟨Tryz.f190.name,by decide,Tryz.func190.trans (congrArg some (by kernel_rfl))⟩
 f47:=Tryz.func191.trans (congrArg some (by kernel_rfl))
 f48:=Tryz.func192.trans (congrArg some (by kernel_rfl))
 f49:=⟨Tryz.f193.name,by decide,Tryz.func193.trans (congrArg some (by kernel_rfl))⟩
 f50:=⟨Tryz.f194.name,by decide,Tryz.func194.trans (congrArg some (by kernel_rfl))⟩
 f57:=⟨Tryz.f201.name,by decide,Tryz.func201.trans (congrArg some (by kernel_rfl))⟩
 t0:=Tryz.underlying0
 a0:=Tryz.isAgg0
 z0:=Tryz.sizeOf0
 v0:=Tryz.zeroValue0
 t3:=Tryz.underlying3
 a3:=Tryz.isAgg3
 z3:=Tryz.sizeOf3
 v3:=Tryz.zeroValue3
 t4:=Tryz.underlying4
 a4:=Tryz.isAgg4
 z4:=Tryz.sizeOf4
 v4:=Tryz.zeroValue4
 t5:=Tryz.underlying5
 a5:=Tryz.isAgg5
 z5:=Tryz.sizeOf5
 v5:=Tryz.zeroValue5
 t9:=Tryz.underlying9
 a9:=Tryz.isAgg9
 z9:=Tryz.sizeOf9
 v9:=Tryz.zeroValue9
 t22:=Tryz.underlying160
 a22:=Tryz.isAgg160
 z22:=Tryz.sizeOf160
 v22:=Tryz.zeroValue160
 a24:=Tryz.isAgg3
 z24:=Tryz.sizeOf3
 t25:=Tryz.underlying192
 a25:=Tryz.isAgg192
 z25:=Tryz.sizeOf192
 v25:=Tryz.zeroValue192
 t39:=Tryz.underlying193
 a39:=Tryz.isAgg193
 z39:=Tryz.sizeOf193
 v39:=Tryz.zeroValue193
 t45:=Tryz.underlying217
 a45:=Tryz.isAgg217
 z45:=Tryz.sizeOf217
 v45:=Tryz.zeroValue217
 t46:=Tryz.underlying218
 a46:=Tryz.isAgg218
 z46:=Tryz.sizeOf218
 v46:=Tryz.zeroValue218
 t50:=Tryz.underlying164
 a50:=Tryz.isAgg164
 z50:=Tryz.sizeOf164
 v50:=Tryz.zeroValue164
 t53:=Tryz.underlying224
 a53:=Tryz.isAgg224
 z53:=Tryz.sizeOf224
 v53:=Tryz.zeroValue224
 t55:=Tryz.underlying226
 a55:=Tryz.isAgg226
 z55:=Tryz.sizeOf226
 v55:=Tryz.zeroValue226
 t66:=Tryz.underlying232
 a66:=Tryz.isAgg232
 z66:=Tryz.sizeOf232
 v66:=Tryz.zeroValue232
 t70:=Tryz.underlying236
 a70:=Tryz.isAgg236
 z70:=Tryz.sizeOf236
 v70:=Tryz.zeroValue236
 t76:=Tryz.underlying239
 a76:=Tryz.isAgg239
 z76:=Tryz.sizeOf239
 v76:=Tryz.zeroValue239
 t77:=Tryz.underlying146
 a77:=Tryz.isAgg146
 z77:=Tryz.sizeOf146
 v77:=Tryz.zeroValue146 }
def compareL_ren:Go.Shelf.Ren:=⟨fun | 106=>124 | 213=>151 | 265=>177 | n=>n,fun | 9=>9 | 3=>3 | n=>n,fun | n=>n⟩
theorem compareL:Go.Proofs.Lays.n106 Φ compareL_ren:= {
 mixed:=by kernel_rfl
 f106:=Tryz.func124.trans (congrArg some (by kernel_rfl))
 f213:=Tryz.func151.trans (congrArg some (by kernel_rfl))
 f265:=Tryz.func177.trans (congrArg some (by kernel_rfl))
 t3:=Tryz.underlying3
 a3:=Tryz.isAgg3
 z3:=Tryz.sizeOf3
 v3:=Tryz.zeroValue3
 t9:=Tryz.underlying9
 a9:=Tryz.isAgg9
 z9:=Tryz.sizeOf9
 v9:=Tryz.zeroValue9 }
def searchL_ren:Go.Shelf.Ren:=⟨fun | 26=>98 | 33=>126 | 34=>127 | 38=>153 | n=>n,fun | 24=>58 | 9=>9 | 3=>3 | 4=>4 | 40=>193 | 0=>0 | n=>n,fun | n=>n⟩
theorem searchL:Go.Proofs.Lays2.n26 Φ searchL_ren:= {
 mixed:=by kernel_rfl
 f26:=Tryz.func98.trans (congrArg some (by kernel_rfl))
 f33:=Tryz.func126.trans (congrArg some (by kernel_rfl))
 f34:=Tryz.func127.trans (congrArg some (by kernel_rfl))
 f38:=Tryz.func153.trans (congrArg some (by kernel_rfl))
 t0:=Tryz.underlying0
 a0:=Tryz.isAgg0
 z0:=Tryz.sizeOf0
 v0:=Tryz.zeroValue0
 t3:=Tryz.underlying3
 a3:=Tryz.isAgg3
 z3:=Tryz.sizeOf3
 v3:=Tryz.zeroValue3
 t4:=Tryz.underlying4
 a4:=Tryz.isAgg4
 z4:=Tryz.sizeOf4
 v4:=Tryz.zeroValue4
 t9:=Tryz.underlying9
 a9:=Tryz.isAgg9
 z9:=Tryz.sizeOf9
 v9:=Tryz.zeroValue9
 t24:=Tryz.underlying58
 a24:=Tryz.isAgg58
 z24:=Tryz.sizeOf58
 v24:=Tryz.zeroValue58
 t40:=Tryz.underlying193
 a40:=Tryz.isAgg193
 z40:=Tryz.sizeOf193
 v40:=Tryz.zeroValue193 }
open Go
abbrev Bs:=List UInt8
theorem bs_tri(a b:Bs):a<b∨a=b∨b<a:=by
 by_cases h:a<b
 ·exact .inl h
 ·by_cases h2:b<a
  ·exact .inr (.inr h2)
  ·exact .inr (.inl (List.le_antisymm (List.not_lt.1 h2) (List.not_lt.1 h)))
theorem Znb(a:Bs):¬ a<a:=List.lt_irrefl a
theorem Zmh{a b c:Bs}(h:a<b)(k:b<c):a<c:=List.lt_trans h k
theorem bs_asym{a b:Bs}(h:a<b):¬ b<a:=fun k=>Znb a (Zmh h k)
theorem Zez:∀(x y:Bs),Op.bytesLess x y=decide (x<y)
 |[],[]=>by simp[Op.bytesLess]
 |_::_,[]=>by simp[Op.bytesLess]
 |[],_::_=>by simp[Op.bytesLess]
 |a::x,b::y=>by
  rw[Op.bytesLess,Zez x y];simp only[List.cons_lt_cons_iff];by_cases h1:a<b<;>by_cases h2:a=b<;>by_cases h3:x<y<;>simp[h1,h2,h3]
theorem Zhy:∀(x y:Bs),(Lib.compareBytes x y<0↔x<y)∧(Lib.compareBytes x y=0↔x=y)
 |[],[]=>by simp[Lib.compareBytes]
 |_::_,[]=>by simp[Lib.compareBytes]
 |[],_::_=>by simp[Lib.compareBytes]
 |a::x,b::y=>by
  have ih:=Zhy x y;unfold Lib.compareBytes;simp only[List.cons_lt_cons_iff,List.cons.injEq];by_cases h1:a<b
  ·have:a≠b:=fun e=>UInt8.lt_irrefl a (by rw[←e]at h1;exact h1)
   simp[h1,this]
  ·by_cases h2:b<a
   ·have:a≠b:=fun e=>UInt8.lt_irrefl a (by rw[←e]at h2;exact h2)
    simp[h1,h2,this]
   ·have:a=b:=UInt8.le_antisymm (UInt8.not_lt.1 h2) (UInt8.not_lt.1 h1)
    subst this;simp[h1,ih.1,ih.2]
def Ua(N:List Bs)(i:Nat):Bs:=N.getD i []
def before(N:List Bs)(i j:Nat):Prop:=Ua N i<Ua N j∨(Ua N i=Ua N j∧i<j)
instance (N:List Bs) (i j:Nat):Decidable (before N i j):=by unfold before;infer_instance
theorem Zfv(N:List Bs)(i:Nat):¬ before N i i:=by rintro(h | ⟨_,h⟩);exact Znb _ h;omega
theorem Zdj{N:List Bs}{i j k:Nat}(h:before N i j)(g:before N j k):before N i k:=by
 rcases h with h | ⟨h,h'⟩<;>rcases g with g | ⟨g,g'⟩
 ·exact .inl (Zmh h g)
 ·exact .inl (g ▸ h)
 ·exact .inl (h ▸ g)
 ·exact .inr ⟨h.trans g,by omega⟩
theorem Zfu(N:List Bs){i j:Nat}(hn:i≠j):before N i j∨before N j i:=by
 rcases bs_tri (Ua N i) (Ua N j)with h | h | h
 ·exact .inl (.inl h)
 ·rcases Nat.lt_or_gt_of_ne hn with h2 | h2
  ·exact .inl (.inr ⟨h,h2⟩)
  ·exact .inr (.inr ⟨h.symm,h2⟩)
 ·exact .inr (.inl h)
theorem Znz{N:List Bs}{i j:Nat}(h:before N i j):¬ before N j i:=fun g=>Zfv N i (Zdj h g)
structure Zmj(N:List Bs)(O:List Nat):Prop where
 perm:O.Perm (List.range N.length)
 sorted:O.Pairwise (before N)
theorem Zmj.unique{N:List Bs}{O O':List Nat}(h:Zmj N O)(g:Zmj N O'):O=O':=
 List.Perm.eq_of_pairwise (fun _ _ _ _ h1 h2=>absurd h2 (Znz h1)) h.sorted g.sorted (h.perm.trans g.perm.symm)
def Ux(N:List Bs):List Nat:=(List.range N.length).mergeSort fun i j=>decide (before N i j∨i=j)
theorem Zfd(N:List Bs):Zmj N (Ux N):=by
 have hp:(Ux N).Perm (List.range N.length):=List.mergeSort_perm _ _;refine⟨hp,?_⟩
 have hs:(Ux N).Pairwise fun i j=>decide (before N i j∨i=j)=true:=by
  refine List.pairwise_mergeSort ?_ ?_ _
  ·intro a b c h1 h2
   simp only[decide_eq_true_eq]at *;rcases h1 with h1 | rfl
   ·rcases h2 with h2 | rfl
    ·exact .inl (Zdj h1 h2)
    ·exact .inl h1
   ·exact h2
  ·intro a b
   by_cases e:a=b
   ·simp[e]
   ·rcases Zfu N e with h | h<;>simp[h]
 have hn:(Ux N).Nodup:=hp.nodup_iff.2 List.nodup_range;refine(hs.and hn).imp ?_;intro a b ⟨h1,h2⟩;simp only[decide_eq_true_eq]at h1;rcases h1 with h1 | h1
 ·exact h1
 ·exact absurd h1 h2
theorem orderN_eq{N:List Bs}{O:List Nat}(h:Zmj N O):O=Ux N:=h.unique (Zfd N)
theorem Uj(N:List Bs):(Ux N).length=N.length:=by rw[(Zfd N).perm.length_eq,List.length_range]
theorem Zhl{N:List Bs}{i:Nat}:i ∈ Ux N↔i<N.length:=by rw[(Zfd N).perm.mem_iff,List.mem_range]
def Jw(N:List Bs)(s:Bs):Nat:=N.findIdx (· == s)
def Zgu(N:List Bs)(s:Bs):Int:=if Jw N s<N.length then(Jw N s:Int)else -1
theorem Zgv{N:List Bs}{s:Bs}:Jw N s<N.length↔s ∈ N:=by
 unfold Jw;rw[List.findIdx_lt_length];simp
theorem Zgw{N:List Bs}{s:Bs}(h:s ∈ N):Ua N (Jw N s)=s:=by
 have hl:=Zgv.2 h;have:=List.findIdx_getElem (xs:=N) (p:=(· == s)) (w:=hl);have e:=eq_of_beq this;unfold Ua;rw[List.getD_eq_getElem?_getD,List.getElem?_eq_getElem hl];exact e
theorem Znu{N:List Bs}{s:Bs}{i:Nat}(h:i<N.length)(e:Ua N i=s):Jw N s≤i:=by
 unfold Jw;by_cases hh:N.findIdx (· == s)≤i
 ·exact hh
 ·have:=List.not_of_lt_findIdx (p:=(· == s)) (xs:=N) (i:=i) (by omega)
  unfold Ua at e;rw[List.getD_eq_getElem?_getD,List.getElem?_eq_getElem h]at e;simp at this e;exact absurd e this
theorem nmAt_mem{N:List Bs}{i:Nat}(h:i<N.length):Ua N i ∈ N:=by
 unfold Ua;rw[List.getD_eq_getElem?_getD,List.getElem?_eq_getElem h];simp
def isF(N:List Bs)(i:Nat):Bool:=Jw N (Ua N i) == i
theorem isF_find{N:List Bs}{s:Bs}(h:s ∈ N):isF N (Jw N s)=true:=by unfold isF;rw[Zgw h];simp
theorem isF_eq{N:List Bs}{i j:Nat}(hi:isF N i=true)(hj:isF N j=true)(e:Ua N i=Ua N j):i=j:=by
 unfold isF at *;simp only[beq_iff_eq]at *;rw[←hi,←hj,e]
def Xj(N:List Bs)(k:Nat):List Nat:=((Ux N).take k).filter (isF N)
def Vl(N:List Bs):List Nat:=(Ux N).filter (isF N)
theorem Ziy(N:List Bs):Xj N N.length=Vl N:=by
 unfold Xj Vl;rw[List.take_of_length_le (by rw[Uj];omega)]
def Vz(N:List Bs)(k:Nat):Nat:=(Ux N).getD k 0
theorem Zfe{N:List Bs}{k:Nat}(h:k<N.length):(Ux N)[k]'(by rw[Uj];exact h)=Vz N k:=by
 unfold Vz;simp[List.getD,List.getElem?_eq_getElem (show k<(Ux N).length by rw[Uj];exact h)]
theorem ordAt_lt{N:List Bs}{k:Nat}(h:k<N.length):Vz N k<N.length:=by
 have:=List.getElem_mem (l:=Ux N) (n:=k) (by rw[Uj];exact h);rw[Zfe h]at this;exact Zhl.1 this
theorem take_ord{N:List Bs}{k:Nat}(h:k<N.length):(Ux N).take (k+1)=(Ux N).take k++[Vz N k]:=by
 rw[List.take_succ_eq_append_getElem (by rw[Uj];exact h),Zfe h]
theorem firstsK_yes{N:List Bs}{k:Nat}(h:k<N.length)(hf:isF N (Vz N k)=true):Xj N (k+1)=Xj N k++[Vz N k]:=by
 unfold Xj;rw[take_ord h,List.filter_append];simp[hf]
theorem firstsK_no{N:List Bs}{k:Nat}(h:k<N.length)(hf:isF N (Vz N k)=false):Xj N (k+1)=Xj N k:=by
 unfold Xj;rw[take_ord h,List.filter_append];simp[hf]
theorem firstsK_le(N:List Bs)(k:Nat):(Xj N k).length≤k:=by
 unfold Xj;exact Ξ (List.length_filter_le _ _) (by simp;omega)
theorem before_take{N:List Bs}{k i:Nat}(hk:k<N.length)(hi:i<N.length)(hb:before N i (Vz N k)):i ∈ (Ux N).take k:=by
 have hm:=Zhl.2 hi;rw[←List.take_append_drop k (Ux N)]at hm;rcases List.mem_append.1 hm with h | h
 ·exact h
 ·exfalso
  have hs:=(Zfd N).sorted;rw[List.mem_iff_getElem]at h;obtain⟨j,hj,e⟩:=h;rw[List.getElem_drop]at e;have hj':k+j<(Ux N).length:=by simp at hj;omega
  by_cases j0:j=0
  ·subst j0
   simp only[Nat.add_zero]at e;rw[Zfe hk]at e;rw[e]at hb;exact Zfv _ _ hb
  ·have:=(List.pairwise_iff_getElem.1 hs) k (k+j) (by omega) hj' (by omega)
   rw[e,Zfe hk]at this;exact Znz hb this
theorem Zni{N:List Bs}{k i:Nat}(hk:k<N.length)(h:i ∈ (Ux N).take k):before N i (Vz N k):=by
 rw[List.mem_iff_getElem]at h;obtain⟨j,hj,e⟩:=h;rw[List.getElem_take]at e;have hj':j<k:=by simp at hj;omega
 have:=(List.pairwise_iff_getElem.1 (Zfd N).sorted) j k (by rw[Uj];omega) (by rw[Uj];omega) hj';rw[e,Zfe hk]at this;exact this
theorem Zix(N:List Bs)(k:Nat):(Xj N k).Pairwise (before N):=((Zfd N).sorted.sublist (List.take_sublist k _)).sublist List.filter_sublist
def Ziu(N:List Bs)(k:Nat):Nat:=(Xj N k).getD ((Xj N k).length - 1) 0
theorem lastK_mem{N:List Bs}{k:Nat}(h:Xj N k≠[]):Ziu N k ∈ Xj N k:=by
 have:(Xj N k).length - 1<(Xj N k).length:=by have:=List.length_pos_iff.2 h;omega
 unfold Ziu;rw[List.getD_eq_getElem?_getD,List.getElem?_eq_getElem this];simp
theorem lastK_ge{N:List Bs}{k i:Nat}(h:i ∈ Xj N k):i=Ziu N k∨before N i (Ziu N k):=by
 have hne:Xj N k≠[]:=by intro e;rw[e]at h;cases h
 have hl:(Xj N k).length - 1<(Xj N k).length:=by have:=List.length_pos_iff.2 hne;omega
 have e:(Xj N k)[(Xj N k).length - 1]=Ziu N k:=by
  unfold Ziu;rw[List.getD_eq_getElem?_getD,List.getElem?_eq_getElem hl];simp
 rw[List.mem_iff_getElem]at h;obtain⟨j,hj,e2⟩:=h;by_cases hjl:j=(Xj N k).length - 1
 ·subst hjl;exact .inl (e2.symm.trans e)
 ·have:=(List.pairwise_iff_getElem.1 (Zix N k)) j _ hj hl (by omega)
  rw[e,e2]at this;exact .inr this
theorem isF_step{N:List Bs}{k:Nat}(hk:k<N.length):isF N (Vz N k)=true↔Xj N k=[]∨Ua N (Ziu N k)≠Ua N (Vz N k):=by
 have ho:=ordAt_lt hk;constructor
 ·intro hf
  by_cases hne:Xj N k=[]
  ·exact .inl hne
  ·right
   intro e;have hm:=lastK_mem hne;obtain⟨hm1,hm2⟩:=List.mem_filter.1 hm;have:=isF_eq hm2 hf e;have hb:=Zni hk hm1;rw[this]at hb;exact Zfv _ _ hb
 ·intro h
  cases hf:isF N (Vz N k)with
  |true=>rfl
  |false=>
   exfalso;have hmem:Ua N (Vz N k) ∈ N:=nmAt_mem ho
   have h0:Jw N (Ua N (Vz N k))≠Vz N k:=by
    intro e;unfold isF at hf;rw[e]at hf;simp at hf
   have hle:=Znu ho rfl;have hb:before N (Jw N (Ua N (Vz N k))) (Vz N k):=.inr ⟨Zgw hmem,by omega⟩;have hin:Jw N (Ua N (Vz N k)) ∈ Xj N k:=List.mem_filter.2 ⟨before_take hk (Zgv.2 hmem) hb,isF_find hmem⟩;rcases h with h | h
   ·rw[h]at hin;cases hin
   ·apply h
    have hne:Xj N k≠[]:=by intro e;rw[e]at hin;cases hin
    have hl:=Zni hk (List.mem_filter.1 (lastK_mem hne)).1;have e0:=Zgw hmem;rcases lastK_ge hin with e | g
    ·rw[←e,e0]
    ·rcases g with g | ⟨g,_⟩
     ·rw[e0]at g
      rcases hl with hl | ⟨hl,_⟩
      ·exact absurd hl (bs_asym g)
      ·rw[hl]at g;exact absurd g (Znb _)
     ·rw[←g,e0]
def dist(N:List Bs):List Bs:=(Vl N).map (Ua N)
theorem Zmf(N:List Bs):(dist N).length=(Vl N).length:=by simp[dist]
theorem firsts_le(N:List Bs):(Vl N).length≤N.length:=by rw[←Ziy];exact firstsK_le N _
theorem Znx(N:List Bs):(dist N).Pairwise (· < ·):=by
 unfold dist;rw[List.pairwise_map];have hs:=Zix N N.length;rw[Ziy]at hs;refine List.Pairwise.imp_of_mem ?_ hs;intro a b ha hb h;rcases h with h | ⟨h,h2⟩
 ·exact h
 ·have:=isF_eq (List.mem_filter.1 ha).2 (List.mem_filter.1 hb).2 h
  omega
theorem dist_mem{N:List Bs}{s:Bs}:s ∈ dist N↔s ∈ N:=by
 unfold dist;rw[List.mem_map];constructor
 ·rintro⟨i,hi,rfl⟩
  exact nmAt_mem (Zhl.1 (List.mem_filter.1 hi).1)
 ·intro h
  exact⟨Jw N s,List.mem_filter.2 ⟨Zhl.2 (Zgv.2 h),isF_find h⟩,Zgw h⟩
theorem countP_lt:∀{D:List Bs}(_:D.Pairwise (· < ·))(s:Bs)(t:Nat)(h:t<D.length),D[t]<s↔t<D.countP fun x=>decide (x<s)
 |[],_,_,_,h=>by simp at h
 |x::D,hs,s,0,h=>by
  rw[List.countP_cons];by_cases hx:x<s
  ·simp[hx]
  ·simp only[List.getElem_cons_zero,hx,decide_false,false_iff]
   have:D.countP (fun y=>decide (y<s))=0:=by
    rw[List.countP_eq_zero];intro y hy;have:=List.rel_of_pairwise_cons hs hy;simp only[decide_eq_true_eq];exact fun k=>hx (Zmh this k)
   simp[this]
 |x::D,hs,s,t+1,h=>by
  rw[List.countP_cons,List.getElem_cons_succ,countP_lt hs.of_cons s t (by simpa using h)];by_cases hx:x<s
  ·simp[hx]
  ·have:D.countP (fun y=>decide (y<s))=0:=by
    rw[List.countP_eq_zero];intro y hy;have:=List.rel_of_pairwise_cons hs hy;simp only[decide_eq_true_eq];exact fun k=>hx (Zmh this k)
   simp[hx,this]
def pos(N:List Bs)(s:Bs):Nat:=(dist N).countP fun x=>decide (x<s)
theorem pos_le(N:List Bs)(s:Bs):pos N s≤(Vl N).length:=by rw[←Zmf];exact List.countP_le_length
theorem pos_lt{N:List Bs}(s:Bs){t:Nat}(h:t<(Vl N).length):Ua N ((Vl N).getD t 0)<s↔t<pos N s:=by
 have:=countP_lt (Znx N) s t (by rw[Zmf];exact h);unfold pos;rw[←this];unfold dist;rw[List.getElem_map,List.getD_eq_getElem?_getD,List.getElem?_eq_getElem h];rfl
def nmF(N:List Bs)(t:Nat):Bs:=Ua N ((Vl N).getD t 0)
theorem Zon{N:List Bs}{t:Nat}(h:t<(Vl N).length):(dist N)[t]'(by rw[Zmf];exact h)=nmF N t:=by
 unfold dist nmF;rw[List.getElem_map,List.getD_eq_getElem?_getD,List.getElem?_eq_getElem h];rfl
theorem nmF_mem{N:List Bs}{t:Nat}(h:t<(Vl N).length):nmF N t ∈ N:=by
 rw[←Zon h];exact dist_mem.1 (List.getElem_mem _)
theorem nmF_mono{N:List Bs}{t u:Nat}(h:t<u)(hu:u<(Vl N).length):nmF N t<nmF N u:=by
 rw[←Zon hu,←Zon (show t<_ by omega)];exact(List.pairwise_iff_getElem.1 (Znx N)) t u _ _ h
theorem mem_nmF{N:List Bs}{s:Bs}(h:s ∈ N):∃ t,t<(Vl N).length∧nmF N t=s:=by
 have:=dist_mem.2 h;rw[List.mem_iff_getElem]at this;obtain⟨t,ht,e⟩:=this;rw[Zmf]at ht;rw[Zon ht]at e;exact⟨t,ht,e⟩
def hit(N:List Bs)(s:Bs):Bool:=decide (pos N s<(Vl N).length∧nmF N (pos N s)=s)
theorem hit_iff{N:List Bs}{s:Bs}:hit N s=true↔s ∈ N:=by
 unfold hit;rw[decide_eq_true_eq];constructor
 ·rintro⟨h,e⟩
  rw[←e];exact nmF_mem h
 ·intro h
  obtain⟨t,ht,e⟩:=mem_nmF h
  have ht2:¬ t<pos N s:=by
   rw[←pos_lt s ht];show ¬ nmF N t<s;rw[e];exact Znb _
  have:pos N s=t:=by
   by_cases hp:pos N s<t
   ·exfalso
    have h1:=nmF_mono hp ht;rw[e]at h1;exact absurd ((pos_lt s (show pos N s<_ by omega)).1 h1) (by omega)
   ·omega
  rw[this];exact⟨ht,e⟩
theorem hit_find{N:List Bs}{s:Bs}(h:hit N s=true):(Vl N).getD (pos N s) 0=Jw N s:=by
 have hm:=hit_iff.1 h;unfold hit at h;rw[decide_eq_true_eq]at h;obtain⟨h,e⟩:=h
 have hin:(Vl N).getD (pos N s) 0 ∈ Vl N:=by
  rw[List.getD_eq_getElem?_getD,List.getElem?_eq_getElem h];simp
 exact isF_eq (List.mem_filter.1 hin).2 (isF_find hm) (by rw[Zgw hm];exact e)
theorem findZ_hit{N:List Bs}{s:Bs}(h:hit N s=true):Zgu N s=(Jw N s:Int):=by
 unfold Zgu;rw[if_pos (Zgv.2 (hit_iff.1 h))]
theorem findZ_no{N:List Bs}{s:Bs}(h:hit N s=false):Zgu N s = -1:=by
 unfold Zgu;rw[if_neg];rw[Zgv,←hit_iff,h];simp
def NextIs(N:List Bs)(s r:Bs):Prop:=(r=[]∧∀ x ∈ N,¬ s<x)∨(r ∈ N∧s<r∧∀ x ∈ N,s<x→¬ x<r)
theorem NextIs.unique{N:List Bs}{s r r':Bs}(h:NextIs N s r)(g:NextIs N s r'):r=r':=by
 rcases h with⟨rfl,h⟩ | ⟨h1,h2,h3⟩<;>rcases g with⟨rfl,g⟩ | ⟨g1,g2,g3⟩
 ·rfl
 ·exact absurd g2 (h _ g1)
 ·exact absurd h2 (g _ h1)
 ·rcases bs_tri r r' with k | k | k
  ·exact absurd k (g3 _ h1 h2)
  ·exact k
  ·exact absurd k (h3 _ g1 g2)
def Jn(N:List Bs):Int:=match(List.range N.length).find? (fun i=> !isF N i)with | some i=>(i:Int) | none=> -1
theorem find_range{p:Nat→Bool}{n i:Nat}(hi:i<n)(hp:p i=true)(hb:∀ j,j<i→p j=false):(List.range n).find? p=some i:=by
 rw[List.find?_eq_some_iff_append];refine⟨hp,List.range i,(List.range n).drop (i+1),?_,?_⟩
 ·have h1:=(List.take_append_drop i (List.range n)).symm
  rw[List.take_range,Nat.min_eq_left (Nat.le_of_lt hi),List.drop_eq_getElem_cons (by simpa using hi)]at h1;simpa using h1
 ·intro a ha;simpa using hb a (List.mem_range.1 ha)
theorem twice_at{N:List Bs}{i:Nat}(hi:i<N.length)(h:isF N i=false)(hb:∀ j,j<i→isF N j=true):Jn N=i:=by
 unfold Jn;rw[find_range (p:=fun i=> !isF N i) hi (by simp[h]) (fun j hj=>by simp[hb j hj])]
theorem twice_no{N:List Bs}(hb:∀ j,j<N.length→isF N j=true):Jn N = -1:=by
 unfold Jn;rw[List.find?_eq_none.2 (fun x hx=>by simp[hb x (List.mem_range.1 hx)])]
theorem isF_lt{N:List Bs}{i:Nat}(hi:i<N.length):Zgu N (Ua N i)=(Jw N (Ua N i):Int)∧Jw N (Ua N i)≤i:=by
 have hm:=nmAt_mem hi;exact⟨by unfold Zgu;rw[if_pos (Zgv.2 hm)],Znu hi rfl⟩
theorem isF_of{N:List Bs}{i:Nat}(hi:i<N.length)(b:Bool)(h:isF N i=b):Zgu N (Ua N i)<i↔b=false:=by
 obtain⟨h1,h2⟩:=isF_lt hi;rw[h1];unfold isF at h;cases b
 ·simp at h;simp;omega
 ·simp at h;simp;omega
open Go Go.RowKit Go.Lib
theorem sCompare_any(a b:ByteArray)(w:World):Calls Φ 124 #[Ψ a,Ψ b] w fun e w'=>e=η (I J (Lib.compareBytes a.toList b.toList))∧w=w':=by
 have h:=Any.strings_Compare compareL a b w;change Calls Φ 124 _ _ _ at h
 rw[←Lib.toList_data,←Lib.toList_data]at h;exact h.mono fun e w' h=>⟨h.1,h.2.symm⟩
theorem Zgy(x y:Int):(x<y∧Lib.compareInt x y = -1)∨(x=y∧Lib.compareInt x y=0)∨(y<x∧Lib.compareInt x y=1):=by
 unfold Lib.compareInt;by_cases h1:x<y
 ·simp[h1]
 ·by_cases h2:x>y
  ·right;right;simp[h1,h2]
  ·right;left;refine⟨by omega,by simp[h1,h2]⟩
theorem isNaNi_any(x:Int)(w:World):Calls Φ 152 #[I J x] w fun e w'=>e=η (.bool false)∧w=w':=by
 go_enter Tryz.func152,Tryz.ntmps152;go_wp2
 go_ret;exact⟨by simp,rfl⟩
theorem cCompare_any(x y:Int)(w:World):Calls Φ 125 #[I J x,I J y] w fun e w'=>e=η (I J (Lib.compareInt x y))∧w=w':=by
 obtain⟨h,e⟩ | ⟨h,e⟩ | ⟨h,e⟩:=Zgy x y
 all_goals
  rw[e];clear e;first | (have h1:decide (x<y)=true:=by simp[h]) | (have h1:decide (x<y)=false:=by simp;omega)
  first | (have h2:decide (y<x)=true:=by simp[h]) | (have h2:decide (y<x)=false:=by simp;omega)
  clear h;go_enter Tryz.func125,Tryz.ntmps125;go_wp2_with(go_at_call 152;refine(isNaNi_any _ _).mono ?_;rintro e w' ⟨rfl,rfl⟩)
  go_ret;exact⟨rfl,rfl⟩
theorem cOr_any(g:Nat)(a b:Int)(w:World)(c0:w.cell? ⟨g,0,none⟩=some (I J a))(c1:w.cell? ⟨g,1,none⟩=some (I J b)) :
  Calls Φ 123 #[Λ (some ⟨g,0,none⟩) 2 2] w fun e w'=>e=η (I J (if a=0 then b else a))∧w=w':=by
 by_cases h0:a=0
 ·subst h0
  rw[if_pos rfl];by_cases h1:b=0
  ·subst h1
   go_enter Tryz.func123,Tryz.ntmps123;go_wp2
   refine wp_loop_rounds 3 ?_;rw[rounds_succ];go_wp2
   rw[rounds_succ];go_wp2
   rw[rounds_succ];go_wp2
   go_ret;exact⟨rfl,rfl⟩
  ·have h1':(b == 0)=false:=by simpa using h1
   go_enter Tryz.func123,Tryz.ntmps123;go_wp2
   refine wp_loop_rounds 3 ?_;rw[rounds_succ];go_wp2
   rw[rounds_succ];go_wp2
   go_ret;exact⟨rfl,rfl⟩
 ·rw[if_neg h0]
  have h1':(a == 0)=false:=by simpa using h0
  go_enter Tryz.func123,Tryz.ntmps123;go_wp2
  refine wp_loop_rounds 3 ?_;rw[rounds_succ];go_wp2
  go_ret;exact⟨rfl,rfl⟩
open Go Go.RowKit Go.Lib Go.Sort
def Zdn(W w:World):Prop:=∃ q os,w=grow (W.drewN q) os
theorem Zdn.refl(W:World):Zdn W W:=⟨0,#[],by rw[grow_empty];rfl⟩
theorem Zdn.drew{W w:World}(h:Zdn W w):Zdn W w.drew:=by
 obtain⟨q,os,rfl⟩:=h;exact⟨q+1,os,rfl⟩
theorem Zdn.alloc{W w:World}(h:Zdn W w)(o:Obj):Zdn W (w.alloc o):=by
 obtain⟨q,os,rfl⟩:=h;exact⟨q,os.push o,by unfold World.alloc grow;simp⟩
theorem Zht{x:Addr}{n:Nat}(h:x.block<n)(i:Nat):(x.add i).block<n:=by unfold Addr.add;split<;>exact h
theorem kept3{W:World}{p:Addr}{v:Value}{o:Obj}(h:p.block<W.heap.size)(hc:W.cell? p=some v):(W.alloc o).drew.cell? p=some v:=
 (((Below.refl W.heap.size W).alloc (Θ _) o).cell (p:=p) h).trans hc
theorem new0(W:World)(a b:Value)(t:TypeId):(W.alloc (.cells #[a,b] t)).drew.cell? ⟨W.heap.size,0,none⟩=some a:=by simp
theorem new1(W:World)(a b:Value)(t:TypeId):(W.alloc (.cells #[a,b] t)).drew.cell? ⟨W.heap.size,1,none⟩=some b:=by simp
def cmpP(a b:ByteArray)(i j:Nat):Int:=if Lib.compareBytes a.toList b.toList=0 then Lib.compareInt i j else Lib.compareBytes a.toList b.toList
theorem closure_any(c:Nat)(x:Addr)(n cap:Nat)(a b:ByteArray)(i j:Nat)(W:World)(hi:i<n)(hj:j<n)(hx:x.block<W.heap.size)(hcb:c<W.heap.size)(hn:n≤maxLen)
  (hc:W.cell? ⟨c,0,none⟩=some (Λ (some x) n cap))(hli:W.cell? (x.add i)=some (Ψ a))(hlj:W.cell? (x.add j)=some (Ψ b)) :
  Calls Φ 122 #[I J i,I J j,Ω (some ⟨c,0,none⟩)] W fun e w'=>e=η (I J (cmpP a b i j))∧Zdn W w':=by
 unfold cmpP maxLen at *;obtain⟨r,hr⟩:∃ r,Lib.compareBytes a.toList b.toList=r:=⟨_,rfl⟩
 obtain⟨u,hu⟩:∃ u,Lib.compareInt i j=u:=⟨_,rfl⟩
 have k1:=fun w=>sCompare_any a b w
 have k2:=fun w=>cCompare_any i j w
 rw[hr]at k1 ⊢;rw[hu]at k2 ⊢;have k3:=fun g w h0 h1=>cOr_any g r u w h0 h1
 obtain⟨v,hv⟩:∃ v,(if r=0 then u else r)=v:=⟨_,rfl⟩
 simp only[hv]at k3 ⊢;clear hr hu hv;go_enter Tryz.func122,Tryz.ntmps122;go_wp2_with fail
 go_region_held3 (fun w=>w.cell? ⟨c,0,none⟩=some (Λ (some x) n cap)∧w.cell? (x.add i)=some (Ψ a)∧w.cell? (x.add j)=some (Ψ b)∧Zdn W w) (first
 |exact⟨hc,hli,hlj,Zdn.refl _⟩
 |exact⟨hc,hli,hlj,Zdn.drew (Zdn.refl _)⟩
 |exact⟨kept3 hcb hc,kept3 (Zht hx i) hli,kept3 (Zht hx j) hlj,Zdn.drew (Zdn.alloc (Zdn.refl _) _)⟩) (first
 |(go_at_call 124;(with_reducible refine(k1 _).mono ?_);rintro e w1 ⟨rfl,rfl⟩)
 |(go_at_call 125;(with_reducible refine(k2 _).mono ?_);rintro e w1 ⟨rfl,rfl⟩)
 |(go_at_call 123;(with_reducible refine(k3 _ _ (new0 _ _ _ _) (new1 _ _ _ _)).mono ?_);rintro e w1 ⟨rfl,rfl⟩))
 go_wp2
 go_ret;exact⟨rfl,Zdn.drew (Zdn.alloc (Zdn.refl _) _)⟩
def Ys(L:List ByteArray):List Bs:=L.map ByteArray.toList
theorem Wr(L:List ByteArray):(Ys L).length=L.length:=by simp[Ys]
def nmS(L:List ByteArray)(i:Nat):ByteArray:=L.getD i ByteArray.empty
theorem Zkv(L:List ByteArray)(i:Nat):Ua (Ys L) i=(nmS L i).toList:=by
 unfold Ua nmS Ys;rw[List.getD_eq_getElem?_getD,List.getD_eq_getElem?_getD,List.getElem?_map];cases L[i]? with
 |none=>simp[ByteArray.toList_empty]
 |some x=>rfl
theorem cmpP_lt(a b:ByteArray)(i j:Nat):cmpP a b i j<0↔(a.toList<b.toList∨(a.toList=b.toList∧i<j)):=by
 obtain⟨h1,h2⟩:=Zhy a.toList b.toList;unfold cmpP;by_cases h:Lib.compareBytes a.toList b.toList=0
 ·rw[if_pos h]
  have e:=h2.1 h;rw[e];have hn:¬ b.toList<b.toList:=Znb _;rcases Zgy i j with⟨k,ke⟩ | ⟨k,ke⟩ | ⟨k,ke⟩<;>rw[ke]<;>simp[hn]<;>omega
 ·rw[if_neg h,h1]
  have hn:¬ a.toList=b.toList:=fun e=>h (h2.2 e)
  simp[hn]
def cfF(L:List ByteArray)(n:Nat)(x y:Fin n):Int:=cmpP (nmS L x) (nmS L y) x y
theorem ltF(L:List ByteArray)(n:Nat)(x y:Fin n):ltOf (cfF L n) x y=decide (before (Ys L) x y):=by
 have h:=cmpP_lt (nmS L x) (nmS L y) x y;rw[←Zkv,←Zkv]at h;unfold ltOf cfF;exact decide_eq_decide.2 h
theorem swoF(L:List ByteArray)(n:Nat):SWO (ltOf (cfF L n)) where
 irrefl x:=by rw[ltF];simp[Zfv]
 trans x y z h1 h2:=by rw[ltF]at *;simp only[decide_eq_true_eq]at *;exact Zdj h1 h2
 ntrans x y z h1 h2:=by
  rw[ltF]at *;simp only[decide_eq_false_iff_not]at *;intro h;by_cases e:(x:Nat)=y
  ·rw[e]at h;exact h2 h
  ·rcases Zfu (Ys L) e with k | k
   ·exact h1 k
   ·by_cases e2:(y:Nat)=z
    ·rw[←e2]at h;exact h1 h
    ·rcases Zfu (Ys L) e2 with k2 | k2
     ·exact h2 k2
     ·exact Zfv _ _ (Zdj h (Zdj k2 k))
theorem totF(L:List ByteArray)(n:Nat)(x y:Fin n)(h1:ltOf (cfF L n) x y=false)(h2:ltOf (cfF L n) y x=false):x=y:=by
 rw[ltF]at *;simp only[decide_eq_false_iff_not]at *;by_cases e:(x:Nat)=y
 ·exact Fin.ext e
 ·rcases Zfu (Ys L) e with k | k
  ·exact absurd k h1
  ·exact absurd k h2
theorem sortedF(L:List ByteArray):((List.finRange L.length).mergeSort fun x y=> !ltOf (cfF L L.length) y x).map Fin.val=Ux (Ys L):=by
 apply orderN_eq
 have e0:(List.finRange L.length).map Fin.val=List.range L.length:=by
  apply List.ext_getElem (by simp);intro i h1 h2;simp
 constructor
 ·rw[Wr,←e0]
  exact(List.mergeSort_perm _ _).map _
 ·rw[List.pairwise_map]
  have hs:=List.pairwise_mergeSort (le:=fun x y=> !ltOf (cfF L L.length) y x) (by
    intro a b c h1 h2;simp only[Bool.not_eq_true']at *;exact(swoF L L.length).ntrans c b a h2 h1) (by
    intro a b;cases h:ltOf (cfF L L.length) b a with
    |false=>simp
    |true=>simp[(swoF L L.length).asymmA h]) (List.finRange L.length)
  have hn:((List.finRange L.length).mergeSort fun x y=> !ltOf (cfF L L.length) y x).Nodup:=(List.mergeSort_perm _ _).nodup_iff.2 (by
   have:((List.finRange L.length).map Fin.val).Nodup:=by rw[e0];exact List.nodup_range
   exact List.Pairwise.of_map Fin.val (fun a b h e=>h (by rw[e])) this)
  refine(hs.and hn).imp ?_;intro a b ⟨h1,h2⟩;simp only[Bool.not_eq_true']at h1;rw[ltF,decide_eq_false_iff_not]at h1;have hne:(a:Nat)≠b:=fun e=>h2 (Fin.ext e)
  rcases Zfu (Ys L) hne with k | k
  ·exact k
  ·exact absurd k h1
theorem below_putRow'{α:Type} [Inhabited α](enc:α→Value){B:Nat}{w0 w:World}{g q:Nat}{d:Array α}(h:Below B w0 w)(hg:B≤g):Below B w0 (putRow enc (Sort.ahead w q) g 0 d):=by
 refine⟨h.os,h.tape,h.output,?_,?_⟩
 ·rw[size_putRow];exact h.size
 ·intro k hk
  rw[←h.block k hk];unfold putRow mapBlock;simp only[Array.getElem?_modify];rw[if_neg (by omega)];rfl
theorem below_grow'{B:Nat}{w0 w:World}(h:Below B w0 w)(hB:B≤w.heap.size)(os:Array Obj):Below B w0 (grow w os):=by
 refine⟨h.os,h.tape,h.output,?_,?_⟩
 ·rw[size_grow];have:=h.size;omega
 ·intro k hk
  rw[←h.block k hk];unfold grow;exact Array.getElem?_append_left (by omega)
def Wy(O:List Nat):List Value:=O.map fun i:Nat=>I J (i:Int)
def Zdz(n k:Nat):Array Value:=((List.range n).map fun i=>I J (if i<k then(i:Int)else 0)).toArray
theorem ordArr_zero(n:Nat):madeCells #[I J 0] n=Zdz n 0:=by
 apply Array.ext';rw[toList_madeCells_one];simp only[Zdz,Nat.not_lt_zero,if_false];rw[List.map_const',List.length_range]
theorem Zfn(n k i:Nat)(h:i<n):(Zdz n k)[i]?=some (I J (if i<k then(i:Int)else 0)):=by
 simp[Zdz,h]
theorem ordArr_set{n k:Nat}(h:k<n):(Zdz n k).setIfInBounds k (I J k)=Zdz n (k+1):=by
 apply Array.ext_getElem?;intro i;rw[Array.getElem?_setIfInBounds];by_cases e:k=i
 ·subst e
  rw[if_pos rfl,if_pos (by simp[Zdz,h]),Zfn n _ k h,if_pos (by omega)]
 ·rw[if_neg e]
  by_cases hi:i<n
  ·rw[Zfn n k i hi,Zfn n _ i hi]
   by_cases h1:i<k
   ·rw[if_pos h1,if_pos (by omega)]
   ·rw[if_neg h1,if_neg (by omega)]
  ·rw[Array.getElem?_eq_none (by simp[Zdz];omega),Array.getElem?_eq_none (by simp[Zdz];omega)]
theorem fin_get!{n:Nat} [Inhabited (Fin n)](j:Nat)(h:j<n):((List.finRange n).toArray[j]!:Fin n).val=j:=by
 rw[getElem!_pos _ _ (by simpa using h)];simp
theorem sort_any(c g:Nat)(x:Addr)(n cap:Nat)(L:List ByteArray)(W:World)(hn:L.length=n)(h0:0<n)(hmax:n≤1000000)
  (hbox:W.cell? ⟨c,0,none⟩=some (Λ (some x) n cap))(hx:x.block<W.heap.size)(hL:∀ i,i<n→W.cell? (x.add i)=some (Ψ (nmS L i)))
  (hcg:c≠g)(hxg:x.block≠g)(hw:Zi W g 3 (Zdz n n))(hB:∀ B,B≤g→B≤W.heap.size) :
  Calls Φ 121 #[Λ (some ⟨g,0,none⟩) n n,.func (.func 122) #[] #[Ω (some ⟨c,0,none⟩)]] W fun e w'=>
   e=η (.tuple #[])∧(∀ B,B≤g→Below B W w')∧Zbp w' (some ⟨g,0,none⟩) (Wy (Ux (Ys L))):=by
 subst hn;have hne:NeZero L.length:=⟨by omega⟩
 have hInh:Inhabited (Fin L.length):=⟨⟨0,h0⟩⟩
 have hcb:=World.block_lt_of_cell? _ _ hbox
 have hH:Holds (fun i:Fin L.length=>I J (i.val:Int)) W g 0 (List.finRange L.length).toArray:=by
  intro j hj;have hj':j<L.length:=by simpa using hj
  refine⟨?_,?_⟩
  ·rw[hw.read,Nat.zero_add,Zfn _ _ _ hj',if_pos hj']
   exact congrArg some (vI (by rw[fin_get! j hj']))
  ·exact hw.thawed _
 have eg:∀ args w,(callFunc 122 args).run Φ w=.ok (.enter 122 args) w:=enters_of Tryz.func122 (by kernel_rfl) rfl
 have hcmp:CmpLays1 Φ 122 #[Ω (some ⟨c,0,none⟩)] (fun i:Fin L.length=>I J (i.val:Int)) (cfF L L.length) g 0 (List.finRange L.length).toArray.size W:=by
  intro m os dk hs i j
  have key:∀ p:Addr,p.block<W.heap.size→p.block≠g→(sortWorld (fun i:Fin L.length=>I J (i.val:Int)) W g 0 m dk os).cell? p=W.cell? p:=by
   intro p hp hpg;unfold sortWorld;rw[cell?_grow _ _ _ (by rw[size_putRow];exact hp),cell?_putRow_other _ _ _ _ _ _ (.inl hpg)];rfl
  have hsz:W.heap.size≤(sortWorld (fun i:Fin L.length=>I J (i.val:Int)) W g 0 m dk os).heap.size:=by
   unfold sortWorld;rw[size_grow,size_putRow];show W.heap.size≤W.heap.size+_;omega
  refine(closure_any c x L.length cap (nmS L i) (nmS L j) i j _ i.isLt j.isLt (by omega) (Nat.lt_of_lt_of_le hcb hsz) (by unfold maxLen;omega) ?_ ?_ ?_).mono ?_
  ·rw[key _ hcb hcg];exact hbox
  ·rw[key _ (Zht hx _) (by unfold Addr.add;split<;>exact hxg)];exact hL _ i.isLt
  ·rw[key _ (Zht hx _) (by unfold Addr.add;split<;>exact hxg)];exact hL _ j.isLt
  ·intro e w' h
   exact h
 have h:=Any.slices_SortFunc_total sortL (fun i:Fin L.length=>I J (i.val:Int)) (fun _=>rfl) (cfF L L.length) (swoF L L.length) 122 #[Ω (some ⟨c,0,none⟩)] g 0 L.length (List.finRange L.length).toArray W eg hcmp hH hw.inside (by simp;omega) (totF L L.length);change Calls Φ 121 _ _ _ at h
 have es:(List.finRange L.length).toArray.size=L.length:=by simp
 rw[es]at h;refine h.mono ?_;rintro e w' ⟨rfl,q,os,rfl⟩;refine⟨rfl,fun B hg=>below_grow' (below_putRow' _ (Below.refl _ _) hg) (by rw[size_putRow];exact hB B hg) _,?_⟩;have hs:((List.finRange L.length).toArray.toList.mergeSort fun x y=> !ltOf (cfF L L.length) y x).toArray.size=(List.finRange L.length).toArray.size:=by simp
 have hh:=SW.holds (⟨q,os,rfl⟩:SW (fun i:Fin L.length=>I J (i.val:Int)) W g 0 _ (sortWorld (fun i:Fin L.length=>I J (i.val:Int)) W g 0 q ((List.finRange L.length).toArray.toList.mergeSort fun x y=> !ltOf (cfF L L.length) y x).toArray os)) hw.inside hH hs;refine .inr ⟨_,rfl,?_,fun j hj=>?_⟩
 ·unfold sortWorld;rw[size_grow,size_putRow];have:=hw.inside;show g<W.heap.size+_;omega
 ·rw[Addr.add_lit]
  have hj2:j<L.length:=by simpa[Wy,Uj,Wr]using hj
  have:=(hh j (by rw[hs];simpa using hj2)).1;rw[this];unfold Wy;rw[←sortedF,List.map_map,List.getElem?_map];rw[getElem!_pos _ _ (by rw[hs];simpa using hj2)];simp only[List.getElem_toArray,Function.comp];rw[List.getElem?_eq_getElem (by simpa using hj2)];rfl
def Vh(L:List ByteArray):List Value:=L.map Value.string
theorem Zmo{L:List ByteArray}{i:Nat}(h:i<L.length):(Vh L)[i]?=some (Ψ (nmS L i)):=by
 unfold Vh nmS;rw[List.getElem?_map,List.getElem?_eq_getElem h,List.getD_eq_getElem?_getD,List.getElem?_eq_getElem h];rfl
def OrderIs(N:List Bs)(n:Nat)(w:World)(e:Ending)(w':World):Prop:=
 ∃ g,e=η (Λ (some ⟨g,0,none⟩) n n)∧w.heap.size≤g∧g<w'.heap.size∧Zbp w' (some ⟨g,0,none⟩) (Wy (Ux N))∧Below w.heap.size w w'
theorem make_ints(n:Nat)(hn:n≤1000000)(w:World):(Instr.makeSlice 160 (I J (n:Int)) (I J (n:Int))).run Φ w=.ok (Λ (some ⟨w.heap.size,0,none⟩) n n) (w.alloc (.cells (Zdz n 0) 3)):=by
 rw[←ordArr_zero];exact run_make_row' 160 3 (I J 0) 8 (by kernel_rfl) (by kernel_rfl) rfl .i64 .i64 n (by omega) (by omega) w
theorem sort_none(c g:Nat)(W:World):Calls Φ 121 #[Λ (some ⟨g,0,none⟩) 0 0,.func (.func 122) #[] #[Ω (some ⟨c,0,none⟩)]] W fun e w'=>e=η (.tuple #[])∧W=w':=
 (AnyF.slices_SortFunc_none (P:=Φ) (ρ :=sortL_ren) { sortL with } (some ⟨g,0,none⟩) 0 (.func (.func 122) #[] #[Ω (some ⟨c,0,none⟩)]) W).mono fun e w' h=>⟨h.1,h.2.symm⟩
theorem order_any(A:Option Addr)(cap:Nat)(L:List ByteArray)(w:World)(hr:Zbp w A (Vh L))(hmax:L.length≤1000000) :
  Calls Φ 97 #[Λ A L.length cap] w (OrderIs (Ys L) L.length w):=by
 obtain⟨n,hn⟩:∃ n,L.length=n:=⟨_,rfl⟩
 have hmk:=make_ints n (by omega);have hlenS:(Vh L).length=n:=by unfold Vh;rw[List.length_map];exact hn
 have HN:=Hh hn;rw[hn];rw[hn]at hmax;clear hn;go_enter Tryz.func97,Tryz.ntmps97;go_wp2
 go_loopw [10] (fun i wr=>∃ k:Nat,k≤n∧i=I J k∧Zi wr w.heap.size 58 #[Λ A n cap]∧Zi wr (w.heap.size+1) 3 (Zdz n k)∧Below w.heap.size w wr∧wr.heap.size=w.heap.size+2) (fun i _=>n - (intOf i).toNat)
 case atStart=>
  refine⟨0,by omega,rfl,?_,?_,?_,?_⟩
  ·exact(Zi.made w _ _).alloc _
  ·have:=Zi.made (w.alloc (.cells #[Λ A n cap] 58)) 3 (Zdz n 0)
   simpa using this
  ·exact((Below.refl _ _).alloc (Θ _) _).alloc (by simp) _
  ·simp
 case round=>
  obtain⟨k,hk,rfl,hw1,hw2,hb,hz⟩:=hrel;by_cases hlt:k<n
  ·have hc:=hw2.read k
   rw[Zfn n k k hlt]at hc;have hf:=hw2.thawed k;have HW1:=Hh hw1;have HW2:=Hh hw2;have HZ:=Hh hz;clear hw1 hw2 hz;go_wp2
   go_roundw
   case rel=>
    refine⟨k+1,by omega,by go_num,HW1.out.aside (by simp) _,?_,hb.setCell (by simp) _,?_⟩
    ·have:=HW2.out.write k (I J k)
     rw[ordArr_set hlt]at this;exact this
    ·simp[HZ.out]
   case measure=>simp[intOf];omega
  ·have hkn:k=n:=by omega
   subst hkn;by_cases h0:0<k
   ·obtain⟨x,rfl,hx,hc⟩:=hr.at_ (by omega)
    have hs:=sort_any w.heap.size (w.heap.size+1) x k cap L wr HN.out h0 hmax (by rw[hw1.read];rfl) (Nat.lt_of_lt_of_le hx hb.size)
     (fun i hi=>by
       rw[hb.cell (p:=x.add i) (Zht hx i),hc i (by omega)];exact Zmo (by rw[HN.out];exact hi))
     (by omega) (by omega) hw2 (fun B hB=>by omega)
    have HW1:=Hh hw1;have HW2:=Hh hw2;have HZ:=Hh hz;have HB:=Hh hb;clear hw1 hw2 hz hb hc hr;go_wp2_with(go_at_call 121;refine hs.mono ?_;rintro e w' ⟨rfl,hb2,hr2⟩;have HB2:=Hh hb2;have HR2:=Hh hr2;clear hb2 hr2)
    go_ret;refine⟨w.heap.size+1,rfl,by omega,?_,HR2.out,HB.out.trans (HB2.out w.heap.size (by omega))⟩;have:=(HB2.out (w.heap.size+1) (Θ _)).size;have:=HZ.out;omega
   ·obtain rfl:k=0:=by omega
    have HW1:=Hh hw1;have HW2:=Hh hw2;have HZ:=Hh hz;have HB:=Hh hb;clear hw1 hw2 hz hb hr;go_wp2_with(go_at_call 121;refine(sort_none _ _ _).mono ?_;rintro e w' ⟨rfl,rfl⟩)
    go_ret;refine⟨w.heap.size+1,rfl,by omega,by rw[HZ.out];omega,.inl ?_,HB.out⟩;apply List.eq_nil_of_length_eq_zero;unfold Wy;rw[List.length_map,Uj,Wr,HN.out]
end Go.Proofs.YtbdecchpleiepaaGreat
