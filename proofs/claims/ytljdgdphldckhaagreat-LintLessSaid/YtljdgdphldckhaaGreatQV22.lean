/-
  No conditions but those that each theorem names.
-/
import Derived.Test.YtljdgdphldckhaaGreatRows
import Derived.Shelf.SlSortCmp.NoneTotal
import Derived.Shelf.Spec.SearchS
import Derived.Shelf.Small.Strs
import Derived.Lib.Bytealg
import Derived.Deep.QuietTactic
import Derived.BigQuiet
import Derived.Deep.RegionHeld3
import Derived.Deep.RegionWith
import Derived.Below
import Derived.Outline
import Derived.Deep.OwnRows
import Derived.Test.YtljdgdphldckhaaGreatQV21
set_option maxRecDepth 20000
set_option maxHeartbeats 12800000
namespace Go.Proofs.YtljdgdphldckhaaGreat
open Go Go.RowKit
set_option linter.unusedVariables false
set_option linter.unusedSimpArgs false
theorem lrow_hd:(Tryz.prog.underlying 136).map TypeDesc.isRow=some true:=by kernel_rfl
theorem Vv:(Tryz.prog.info? 136).map (·.size)=some 3:=by kernel_rfl
theorem Zgd:(Tryz.prog.info? 136).map (fun i=>i.zero.map Value.cells)=some (some ([.string ⟨#[]⟩,.int .i64 0,.int .i64 0]:List Value).toArray):=by kernel_rfl
theorem whole4{w:World}{g:Nat}{t:TypeId}{a b c d:Value}(W:Zb w g t #[a,b,c,d]):w.cell? ⟨g,0,none⟩=some a∧w.cell? ⟨g,1,none⟩=some b∧w.cell? ⟨g,2,none⟩=some c∧w.cell? ⟨g,3,none⟩=some d:=⟨W.read 0,W.read 1,W.read 2,W.read 3⟩
theorem lHeadC(nm:ByteArray)(cost pow cln ccl:Int)(D:Option Addr)(n k:Nat)(w:World) :
  Calls Tryz.prog 86 #[.agg ([.string nm,.int .i64 cost,.int .i64 pow,.int .i64 cln,.int .i64 ccl,.slice D n k]:List Value).toArray] w fun e w'=>e=.returned (.agg ([.string nm,.int .i64 cln,.int .i64 ccl]:List Value).toArray)∧Below w.heap.size w w':=by
 have T:=Hh (Env.start w);go_enter Tryz.func86,Tryz.ntmps86;go_wp2_with(first
 |((with_reducible refine at_ld 1 ?_);refine Ze T.out 35 _ ([.string nm,.int .i64 cost,.int .i64 pow,.int .i64 cln,.int .i64 ccl,.slice D n k]) rfl rfl rfl ?_;intro wa g0 tn;have T:=Hh tn;clear tn)
 |((with_reducible refine at_ld 2 ?_);refine wpList_allocE T.out 136 _ rfl rfl Zgd ?_;intro wb g1 tn;have T:=Hh tn;clear tn;obtain⟨fc0,fc1,fc2,fc3,fc4,fc5⟩:=Wx (T.out.get 0 rfl))
 |((with_reducible refine at_st 2 9 ?_);refine wpList_storeW 136 _ _ 136 g1 _ ([.string nm,.int .i64 cln,.int .i64 ccl]) (T.out.get 1 rfl) rfl Vv (by simp[Value.oneCell']) rfl rfl rfl rfl rfl ?_;intro wd p;have T:=Hh (T.out.put 1 rfl p);clear p))
 exact Zj 2 136 136 g1 ([.string nm,.int .i64 cln,.int .i64 ccl]) rfl (T.out.get 1 rfl) lrow_hd Vv rfl rfl ⟨rfl,T.out.below⟩
theorem lHeadP(nm:ByteArray)(pln pcl:Int)(D:Option Addr)(n k:Nat)(w:World) :
  Calls Tryz.prog 87 #[.agg ([.string nm,.int .i64 pln,.int .i64 pcl,.slice D n k]:List Value).toArray] w fun e w'=>e=.returned (.agg ([.string nm,.int .i64 pln,.int .i64 pcl]:List Value).toArray)∧Below w.heap.size w w':=by
 have T:=Hh (Env.start w);go_enter Tryz.func87,Tryz.ntmps87;go_wp2_with(first
 |((with_reducible refine at_ld 1 ?_);refine Ze T.out 38 _ ([.string nm,.int .i64 pln,.int .i64 pcl,.slice D n k]) rfl rfl rfl ?_;intro wa g0 tn;have T:=Hh tn;clear tn)
 |((with_reducible refine at_ld 2 ?_);refine wpList_allocE T.out 136 _ rfl rfl Zgd ?_;intro wb g1 tn;have T:=Hh tn;clear tn;obtain⟨fc0,fc1,fc2,fc3⟩:=whole4 (T.out.get 0 rfl))
 |((with_reducible refine at_st 2 9 ?_);refine wpList_storeW 136 _ _ 136 g1 _ ([.string nm,.int .i64 pln,.int .i64 pcl]) (T.out.get 1 rfl) rfl Vv (by simp[Value.oneCell']) rfl rfl rfl rfl rfl ?_;intro wd p;have T:=Hh (T.out.put 1 rfl p);clear p))
 exact Zj 2 136 136 g1 ([.string nm,.int .i64 pln,.int .i64 pcl]) rfl (T.out.get 1 rfl) lrow_hd Vv rfl rfl ⟨rfl,T.out.below⟩
theorem lCard_any(x:Ca)(w:World)(N:Nat→Prop)(vs:List Value)(h:Deep N w x.ds vs) :
  Calls Tryz.prog 34 #[.agg vs.toArray] w fun e w'=>e=.returned (faV (lCard x))∧Below w.heap.size w w':=by
 have h1:=fun w=>Zez x.cost 0 9 w
 have h2:=fun w=>Zez x.power (-20) 20 w
 have hv:lCard x=if(Zbw x.cost 0 9 || Zbw x.power (-20) 20)=true then(12,x.line,x.col)else Vu false 0 x.rules:=rfl
 generalize lCard x=V at *;generalize Zbw x.cost 0 9=q1 at *;generalize Zbw x.power (-20) 20=q2 at *;obtain⟨nm,cost,pow,cln,ccl,rules⟩:=x;obtain⟨_,rfl,_,rfl,_,rfl,_,rfl,_,rfl,D,k,zs,_,rfl,hnn,hwz,hdz,rfl⟩:=h;have hrow:Deep N w (.row rules.length (rusDs rules) .nil) [.slice D rules.length k]:=⟨D,k,zs,[],rfl,hnn,hwz,hdz,rfl⟩
 have hr:=fun x (hb:Below w.heap.size w x)=>lRules_any false rules x N _ (hrow.below hb)
 dsimp only at *;generalize Vu false 0 rules=F at *;generalize rules.length=n at *;clear hrow hnn hwz hdz;have T:=Hh (Env.start w);go_enter Tryz.func34,Tryz.ntmps34;cases q1
 ·cases q2
  · simp only[Bool.or_self,Bool.false_eq_true,if_false]at hv
    go_wp2_with(first
 |((with_reducible refine at_ld 1 ?_);refine Ze T.out 35 _ ([.string nm,.int .i64 cost,.int .i64 pow,.int .i64 cln,.int .i64 ccl,.slice D n k]) rfl rfl rfl ?_;intro wa g0 tn;have T:=Hh tn;clear tn)
 |((with_reducible refine at_ld 2 ?_);refine wpList_allocE T.out 29 _ rfl rfl Uv ?_;intro wb g1 tn;have T:=Hh tn;clear tn;obtain⟨fc0,fc1,fc2,fc3,fc4,fc5⟩:=Wx (T.out.get 0 rfl))
 |(go_at_call 91;(with_reducible refine(h1 _).mono ?_);rintro r wc ⟨rfl,bn⟩;have T:=Hh (T.out.call bn);clear bn;obtain⟨fc0,fc1,fc2,fc3,fc4,fc5⟩:=Wx (T.out.get 0 rfl))
 |(go_at_call 91;(with_reducible refine(h2 _).mono ?_);rintro r wc ⟨rfl,bn⟩;have T:=Hh (T.out.call bn);clear bn;obtain⟨fc0,fc1,fc2,fc3,fc4,fc5⟩:=Wx (T.out.get 0 rfl))
 |(go_at_call 92;refine(hr _ T.out.below).mono ?_;rintro r wc ⟨rfl,bn⟩;have T:=Hh (T.out.call bn);clear bn)
 |((with_reducible refine at_st 2 15 ?_);refine wpList_storeW 29 _ _ 29 g1 _ ([.int .i64 12,.int .i64 cln,.int .i64 ccl]) (T.out.get 1 rfl) rfl Zf (by simp[Value.oneCell']) rfl rfl rfl rfl rfl ?_;intro wd p;have T:=Hh (T.out.put 1 rfl p);clear p)
 |((with_reducible refine at_st 2 18 ?_);refine wpList_storeW 29 _ _ 29 g1 _ (faL F) (T.out.get 1 rfl) rfl Zf (Zeh _) rfl rfl rfl rfl rfl ?_;intro wd p;have T:=Hh (T.out.put 1 rfl p);clear p))
    exact Zj 2 29 29 g1 (faL F) rfl (T.out.get 1 rfl) Zw Zf rfl rfl ⟨by rw[hv];rfl,T.out.below⟩
  · simp only[Bool.or_true,if_true]at hv
    go_wp2_with(first
 |((with_reducible refine at_ld 1 ?_);refine Ze T.out 35 _ ([.string nm,.int .i64 cost,.int .i64 pow,.int .i64 cln,.int .i64 ccl,.slice D n k]) rfl rfl rfl ?_;intro wa g0 tn;have T:=Hh tn;clear tn)
 |((with_reducible refine at_ld 2 ?_);refine wpList_allocE T.out 29 _ rfl rfl Uv ?_;intro wb g1 tn;have T:=Hh tn;clear tn;obtain⟨fc0,fc1,fc2,fc3,fc4,fc5⟩:=Wx (T.out.get 0 rfl))
 |(go_at_call 91;(with_reducible refine(h1 _).mono ?_);rintro r wc ⟨rfl,bn⟩;have T:=Hh (T.out.call bn);clear bn;obtain⟨fc0,fc1,fc2,fc3,fc4,fc5⟩:=Wx (T.out.get 0 rfl))
 |(go_at_call 91;(with_reducible refine(h2 _).mono ?_);rintro r wc ⟨rfl,bn⟩;have T:=Hh (T.out.call bn);clear bn;obtain⟨fc0,fc1,fc2,fc3,fc4,fc5⟩:=Wx (T.out.get 0 rfl))
 |(go_at_call 92;refine(hr _ T.out.below).mono ?_;rintro r wc ⟨rfl,bn⟩;have T:=Hh (T.out.call bn);clear bn)
 |((with_reducible refine at_st 2 15 ?_);refine wpList_storeW 29 _ _ 29 g1 _ ([.int .i64 12,.int .i64 cln,.int .i64 ccl]) (T.out.get 1 rfl) rfl Zf (by simp[Value.oneCell']) rfl rfl rfl rfl rfl ?_;intro wd p;have T:=Hh (T.out.put 1 rfl p);clear p)
 |((with_reducible refine at_st 2 18 ?_);refine wpList_storeW 29 _ _ 29 g1 _ (faL F) (T.out.get 1 rfl) rfl Zf (Zeh _) rfl rfl rfl rfl rfl ?_;intro wd p;have T:=Hh (T.out.put 1 rfl p);clear p))
    exact Zj 2 29 29 g1 ([.int .i64 12,.int .i64 cln,.int .i64 ccl]) rfl (T.out.get 1 rfl) Zw Zf rfl rfl ⟨by rw[hv];rfl,T.out.below⟩
 ·simp only[Bool.true_or,if_true]at hv
  go_wp2_with(first
 |((with_reducible refine at_ld 1 ?_);refine Ze T.out 35 _ ([.string nm,.int .i64 cost,.int .i64 pow,.int .i64 cln,.int .i64 ccl,.slice D n k]) rfl rfl rfl ?_;intro wa g0 tn;have T:=Hh tn;clear tn)
 |((with_reducible refine at_ld 2 ?_);refine wpList_allocE T.out 29 _ rfl rfl Uv ?_;intro wb g1 tn;have T:=Hh tn;clear tn;obtain⟨fc0,fc1,fc2,fc3,fc4,fc5⟩:=Wx (T.out.get 0 rfl))
 |(go_at_call 91;(with_reducible refine(h1 _).mono ?_);rintro r wc ⟨rfl,bn⟩;have T:=Hh (T.out.call bn);clear bn;obtain⟨fc0,fc1,fc2,fc3,fc4,fc5⟩:=Wx (T.out.get 0 rfl))
 |(go_at_call 91;(with_reducible refine(h2 _).mono ?_);rintro r wc ⟨rfl,bn⟩;have T:=Hh (T.out.call bn);clear bn;obtain⟨fc0,fc1,fc2,fc3,fc4,fc5⟩:=Wx (T.out.get 0 rfl))
 |(go_at_call 92;refine(hr _ T.out.below).mono ?_;rintro r wc ⟨rfl,bn⟩;have T:=Hh (T.out.call bn);clear bn)
 |((with_reducible refine at_st 2 15 ?_);refine wpList_storeW 29 _ _ 29 g1 _ ([.int .i64 12,.int .i64 cln,.int .i64 ccl]) (T.out.get 1 rfl) rfl Zf (by simp[Value.oneCell']) rfl rfl rfl rfl rfl ?_;intro wd p;have T:=Hh (T.out.put 1 rfl p);clear p)
 |((with_reducible refine at_st 2 18 ?_);refine wpList_storeW 29 _ _ 29 g1 _ (faL F) (T.out.get 1 rfl) rfl Zf (Zeh _) rfl rfl rfl rfl rfl ?_;intro wd p;have T:=Hh (T.out.put 1 rfl p);clear p))
  exact Zj 2 29 29 g1 ([.int .i64 12,.int .i64 cln,.int .i64 ccl]) rfl (T.out.get 1 rfl) Zw Zf rfl rfl ⟨by rw[hv];rfl,T.out.below⟩
theorem lPlace_any(x:Pl)(w:World)(N:Nat→Prop)(vs:List Value)(h:Deep N w x.ds vs) :
  Calls Tryz.prog 38 #[.agg vs.toArray] w fun e w'=>e=.returned (faV (Jj x))∧Below w.heap.size w w':=by
 obtain⟨nm,pln,pcl,rules⟩:=x;obtain⟨_,rfl,_,rfl,_,rfl,D,k,zs,_,rfl,hnn,hwz,hdz,rfl⟩:=h;have hrow:Deep N w (.row rules.length (rusDs rules) .nil) [.slice D rules.length k]:=⟨D,k,zs,[],rfl,hnn,hwz,hdz,rfl⟩
 have hr:=fun x (hb:Below w.heap.size w x)=>lRules_any true rules x N _ (hrow.below hb)
 have hv:Jj ⟨nm,pln,pcl,rules⟩=Vu true 0 rules:=rfl;rw[hv];dsimp only at *;generalize Vu true 0 rules=F at *;generalize rules.length=n at *;clear hrow hnn hwz hdz hv;have T:=Hh (Env.start w);go_enter Tryz.func38,Tryz.ntmps38;go_wp2_with(first
 |((with_reducible refine at_ld 1 ?_);refine Ze T.out 38 _ ([.string nm,.int .i64 pln,.int .i64 pcl,.slice D n k]) rfl rfl rfl ?_;intro wa g0 tn;have T:=Hh tn;clear tn)
 |((with_reducible refine at_ld 2 ?_);refine wpList_allocE T.out 29 _ rfl rfl Uv ?_;intro wb g1 tn;have T:=Hh tn;clear tn;obtain⟨fc0,fc1,fc2,fc3⟩:=whole4 (T.out.get 0 rfl))
 |(go_at_call 92;refine(hr _ T.out.below).mono ?_;rintro r wc ⟨rfl,bn⟩;have T:=Hh (T.out.call bn);clear bn)
 |((with_reducible refine at_st 2 5 ?_);refine wpList_storeW 29 _ _ 29 g1 _ (faL F) (T.out.get 1 rfl) rfl Zf (Zeh _) rfl rfl rfl rfl rfl ?_;intro wd p;have T:=Hh (T.out.put 1 rfl p);clear p))
 exact Zj 2 29 29 g1 (faL F) rfl (T.out.get 1 rfl) Zw Zf rfl rfl ⟨rfl,T.out.below⟩
open Go.Shelf
def sortL_ren:Go.Shelf.Ren:=⟨fun | 6=>243 | 15=>272 | 14=>271 | 28=>295 | 29=>296 | 20=>287 | 21=>288 | 22=>289 | 23=>290 | 24=>291 | 25=>292 | 26=>293 | 27=>294 | 46=>300 | 47=>301 | 48=>302 | 49=>303 | 50=>304 | 57=>305 | n=>n,fun | 22=>270 | 24=>3 | 25=>300 | 3=>3 | 39=>301 | 0=>0 | 53=>320 | 55=>322 | 4=>4 | 46=>314 | 45=>313 | 50=>274 | 5=>5 | 9=>9 | 66=>324 | 70=>328 | 76=>330 | 77=>243 | n=>n,fun | n=>n⟩
theorem sortL:Go.Proofs.SlLaysF.n6 Tryz.prog sortL_ren:= {
 mixed:=by kernel_rfl
 f6:=⟨Tryz.f243.name,by decide,Tryz.func243.trans (congrArg some (by kernel_rfl))⟩
 f14:=⟨Tryz.f271.name,by decide,Tryz.func271.trans (congrArg some (by kernel_rfl))⟩
 f15:=Tryz.func272.trans (congrArg some (by kernel_rfl))
 f20:=⟨Tryz.f287.name,by decide,Tryz.func287.trans (congrArg some (by kernel_rfl))⟩
 f21:=⟨Tryz.f288.name,by decide,Tryz.func288.trans (congrArg some (by kernel_rfl))⟩
 f22:=⟨Tryz.f289.name,by decide,Tryz.func289.trans (congrArg some (by kernel_rfl))⟩
 f23:=⟨Tryz.f290.name,by decide,Tryz.func290.trans (congrArg some (by kernel_rfl))⟩
 f24:=⟨Tryz.f291.name,by decide,Tryz.func291.trans (congrArg some (by kernel_rfl))⟩
 f25:=⟨Tryz.f292.name,by decide,Tryz.func292.trans (congrArg some (by kernel_rfl))⟩
 f26:=⟨Tryz.f293.name,by decide,Tryz.func293.trans (congrArg some (by kernel_rfl))⟩
 f27:=⟨Tryz.f294.name,by decide,Tryz.func294.trans (congrArg some (by kernel_rfl))⟩
 f28:=Tryz.func295.trans (congrArg some (by kernel_rfl))
 f29:=Tryz.func296.trans (congrArg some (by kernel_rfl))
 f46:=⟨Tryz.f300.name,by decide,Tryz.func300.trans (congrArg some (by kernel_rfl))⟩
 f47:=Tryz.func301.trans (congrArg some (by kernel_rfl))
 f48:=Tryz.func302.trans (congrArg some (by kernel_rfl))
 f49:=⟨Tryz.f303.name,by decide,Tryz.func303.trans (congrArg some (by kernel_rfl))⟩
 f50:=⟨Tryz.f304.name,by decide,Tryz.func304.trans (congrArg some (by kernel_rfl))⟩
 f57:=⟨Tryz.f305.name,by decide,Tryz.func305.trans (congrArg some (by kernel_rfl))⟩
 t0:=Tryz.underlying0
 a0:=Tryz.isAgg0
 z0:=Tryz.sizeOf0
 v0:=Tryz.zeroValue0
 t3:=Tryz.underlying3
 a3:=Tryz.isAgg3
 z3:=Tryz.sizeOf3
 v3:=Tryz.zeroValue3
 t4:=Tryz.underlying4
 a4:=Tryz.isAgg4
 z4:=Tryz.sizeOf4
 v4:=Tryz.zeroValue4
 t5:=Tryz.underlying5
 a5:=Tryz.isAgg5
 z5:=Tryz.sizeOf5
 v5:=Tryz.zeroValue5
 t9:=Tryz.underlying9
 a9:=Tryz.isAgg9
 z9:=Tryz.sizeOf9
 v9:=Tryz.zeroValue9
 t22:=Tryz.underlying270
 a22:=Tryz.isAgg270
 z22:=Tryz.sizeOf270
 v22:=Tryz.zeroValue270
 a24:=Tryz.isAgg3
 z24:=Tryz.sizeOf3
 t25:=Tryz.underlying300
 a25:=Tryz.isAgg300
 z25:=Tryz.sizeOf300
 v25:=Tryz.zeroValue300
 t39:=Tryz.underlying301
 a39:=Tryz.isAgg301
 z39:=Tryz.sizeOf301
 v39:=Tryz.zeroValue301
 t45:=Tryz.underlying313
 a45:=Tryz.isAgg313
 z45:=Tryz.sizeOf313
 v45:=Tryz.zeroValue313
 t46:=Tryz.underlying314
 a46:=Tryz.isAgg314
 z46:=Tryz.sizeOf314
 v46:=Tryz.zeroValue314
 t50:=Tryz.underlying274
 a50:=Tryz.isAgg274
 z50:=Tryz.sizeOf274
 v50:=Tryz.zeroValue274
 t53:=Tryz.underlying320
 a53:=Tryz.isAgg320
 z53:=Tryz.sizeOf320
 v53:=Tryz.zeroValue320
 t55:=Tryz.underlying322
 a55:=Tryz.isAgg322
 z55:=Tryz.sizeOf322
 v55:=Tryz.zeroValue322
 t66:=Tryz.underlying324
 a66:=Tryz.isAgg324
 z66:=Tryz.sizeOf324
 v66:=Tryz.zeroValue324
 t70:=Tryz.underlying328
 a70:=Tryz.isAgg328
 z70:=Tryz.sizeOf328
 v70:=Tryz.zeroValue328
 t76:=Tryz.underlying330
 a76:=Tryz.isAgg330
 z76:=Tryz.sizeOf330
 v76:=Tryz.zeroValue330
 t77:=Tryz.underlying243
 a77:=Tryz.isAgg243
 z77:=Tryz.sizeOf243
 v77:=Tryz.zeroValue243 }
def compareL_ren:Go.Shelf.Ren:=⟨fun | 106=>246 | 213=>273 | 265=>297 | n=>n,fun | 9=>9 | 3=>3 | n=>n,fun | n=>n⟩
theorem compareL:Go.Proofs.Lays.n106 Tryz.prog compareL_ren:= {
 mixed:=by kernel_rfl
 f106:=Tryz.func246.trans (congrArg some (by kernel_rfl))
 f213:=Tryz.func273.trans (congrArg some (by kernel_rfl))
 f265:=Tryz.func297.trans (congrArg some (by kernel_rfl))
 t3:=Tryz.underlying3
 a3:=Tryz.isAgg3
 z3:=Tryz.sizeOf3
 v3:=Tryz.zeroValue3
 t9:=Tryz.underlying9
 a9:=Tryz.isAgg9
 z9:=Tryz.sizeOf9
 v9:=Tryz.zeroValue9 }
def searchL_ren:Go.Shelf.Ren:=⟨fun | 26=>213 | 33=>248 | 34=>249 | 38=>275 | n=>n,fun | 24=>75 | 9=>9 | 3=>3 | 4=>4 | 40=>301 | 0=>0 | n=>n,fun | n=>n⟩
theorem searchL:Go.Proofs.Lays2.n26 Tryz.prog searchL_ren:= {
 mixed:=by kernel_rfl
 f26:=Tryz.func213.trans (congrArg some (by kernel_rfl))
 f33:=Tryz.func248.trans (congrArg some (by kernel_rfl))
 f34:=Tryz.func249.trans (congrArg some (by kernel_rfl))
 f38:=Tryz.func275.trans (congrArg some (by kernel_rfl))
 t0:=Tryz.underlying0
 a0:=Tryz.isAgg0
 z0:=Tryz.sizeOf0
 v0:=Tryz.zeroValue0
 t3:=Tryz.underlying3
 a3:=Tryz.isAgg3
 z3:=Tryz.sizeOf3
 v3:=Tryz.zeroValue3
 t4:=Tryz.underlying4
 a4:=Tryz.isAgg4
 z4:=Tryz.sizeOf4
 v4:=Tryz.zeroValue4
 t9:=Tryz.underlying9
 a9:=Tryz.isAgg9
 z9:=Tryz.sizeOf9
 v9:=Tryz.zeroValue9
 t24:=Tryz.underlying75
 a24:=Tryz.isAgg75
 z24:=Tryz.sizeOf75
 v24:=Tryz.zeroValue75
 t40:=Tryz.underlying301
 a40:=Tryz.isAgg301
 z40:=Tryz.sizeOf301
 v40:=Tryz.zeroValue301 }
open Go
abbrev Bs:=List UInt8
theorem bs_tri(a b:Bs):a<b∨a=b∨b<a:=by
 by_cases h:a<b
 ·exact .inl h
 ·by_cases h2:b<a
  ·exact .inr (.inr h2)
  ·exact .inr (.inl (List.le_antisymm (List.not_lt.1 h2) (List.not_lt.1 h)))
theorem Ziy(a:Bs):¬ a<a:=List.lt_irrefl a
theorem Zif{a b c:Bs}(h:a<b)(k:b<c):a<c:=List.lt_trans h k
theorem bs_asym{a b:Bs}(h:a<b):¬ b<a:=fun k=>Ziy a (Zif h k)
theorem Zbl:∀(x y:Bs),Op.bytesLess x y=decide (x<y)
 |[],[]=>by simp[Op.bytesLess]
 |_::_,[]=>by simp[Op.bytesLess]
 |[],_::_=>by simp[Op.bytesLess]
 |a::x,b::y=>by
  rw[Op.bytesLess,Zbl x y];simp only[List.cons_lt_cons_iff];by_cases h1:a<b<;>by_cases h2:a=b<;>by_cases h3:x<y<;>simp[h1,h2,h3]
theorem Zem:∀(x y:Bs),(Lib.compareBytes x y<0↔x<y)∧(Lib.compareBytes x y=0↔x=y)
 |[],[]=>by simp[Lib.compareBytes]
 |_::_,[]=>by simp[Lib.compareBytes]
 |[],_::_=>by simp[Lib.compareBytes]
 |a::x,b::y=>by
  have ih:=Zem x y;unfold Lib.compareBytes;simp only[List.cons_lt_cons_iff,List.cons.injEq];by_cases h1:a<b
  ·have:a≠b:=fun e=>UInt8.lt_irrefl a (by rw[←e]at h1;exact h1)
   simp[h1,this]
  ·by_cases h2:b<a
   ·have:a≠b:=fun e=>UInt8.lt_irrefl a (by rw[←e]at h2;exact h2)
    simp[h1,h2,this]
   ·have:a=b:=UInt8.le_antisymm (UInt8.not_lt.1 h2) (UInt8.not_lt.1 h1)
    subst this;simp[h1,ih.1,ih.2]
def Jd(N:List Bs)(i:Nat):Bs:=N.getD i []
def before(N:List Bs)(i j:Nat):Prop:=Jd N i<Jd N j∨(Jd N i=Jd N j∧i<j)
instance (N:List Bs) (i j:Nat):Decidable (before N i j):=by unfold before;infer_instance
theorem Zcd(N:List Bs)(i:Nat):¬ before N i i:=by rintro(h | ⟨_,h⟩);exact Ziy _ h;omega
theorem Zab{N:List Bs}{i j k:Nat}(h:before N i j)(g:before N j k):before N i k:=by
 rcases h with h | ⟨h,h'⟩<;>rcases g with g | ⟨g,g'⟩
 ·exact .inl (Zif h g)
 ·exact .inl (g ▸ h)
 ·exact .inl (h ▸ g)
 ·exact .inr ⟨h.trans g,by omega⟩
theorem Zcc(N:List Bs){i j:Nat}(hn:i≠j):before N i j∨before N j i:=by
 rcases bs_tri (Jd N i) (Jd N j)with h | h | h
 ·exact .inl (.inl h)
 ·rcases Nat.lt_or_gt_of_ne hn with h2 | h2
  ·exact .inl (.inr ⟨h,h2⟩)
  ·exact .inr (.inr ⟨h.symm,h2⟩)
 ·exact .inr (.inl h)
theorem Zjv{N:List Bs}{i j:Nat}(h:before N i j):¬ before N j i:=fun g=>Zcd N i (Zab h g)
structure Zih(N:List Bs)(O:List Nat):Prop where
 perm:O.Perm (List.range N.length)
 sorted:O.Pairwise (before N)
theorem Zih.unique{N:List Bs}{O O':List Nat}(h:Zih N O)(g:Zih N O'):O=O':=
 List.Perm.eq_of_pairwise (fun _ _ _ _ h1 h2=>absurd h2 (Zjv h1)) h.sorted g.sorted (h.perm.trans g.perm.symm)
def Wv(N:List Bs):List Nat:=(List.range N.length).mergeSort fun i j=>decide (before N i j∨i=j)
theorem Zbn(N:List Bs):Zih N (Wv N):=by
 have hp:(Wv N).Perm (List.range N.length):=List.mergeSort_perm _ _;refine⟨hp,?_⟩
 have hs:(Wv N).Pairwise fun i j=>decide (before N i j∨i=j)=true:=by
  refine List.pairwise_mergeSort ?_ ?_ _
  ·intro a b c h1 h2
   simp only[decide_eq_true_eq]at *;rcases h1 with h1 | rfl
   ·rcases h2 with h2 | rfl
    ·exact .inl (Zab h1 h2)
    ·exact .inl h1
   ·exact h2
  ·intro a b
   by_cases e:a=b
   ·simp[e]
   ·rcases Zcc N e with h | h<;>simp[h]
 have hn:(Wv N).Nodup:=hp.nodup_iff.2 List.nodup_range;refine(hs.and hn).imp ?_;intro a b ⟨h1,h2⟩;simp only[decide_eq_true_eq]at h1;rcases h1 with h1 | h1
 ·exact h1
 ·exact absurd h1 h2
theorem orderN_eq{N:List Bs}{O:List Nat}(h:Zih N O):O=Wv N:=h.unique (Zbn N)
theorem Wk(N:List Bs):(Wv N).length=N.length:=by rw[(Zbn N).perm.length_eq,List.length_range]
theorem Zdy{N:List Bs}{i:Nat}:i ∈ Wv N↔i<N.length:=by rw[(Zbn N).perm.mem_iff,List.mem_range]
def Vt(N:List Bs)(s:Bs):Nat:=N.findIdx (· == s)
def Zdl(N:List Bs)(s:Bs):Int:=if Vt N s<N.length then(Vt N s:Int)else -1
theorem Zdm{N:List Bs}{s:Bs}:Vt N s<N.length↔s ∈ N:=by
 unfold Vt;rw[List.findIdx_lt_length];simp
theorem Zfe{N:List Bs}{s:Bs}(h:s ∈ N):Jd N (Vt N s)=s:=by
 have hl:=Zdm.2 h;have:=List.findIdx_getElem (xs:=N) (p:=(· == s)) (w:=hl);have e:=eq_of_beq this;unfold Jd;rw[List.getD_eq_getElem?_getD,List.getElem?_eq_getElem hl];exact e
theorem Zjq{N:List Bs}{s:Bs}{i:Nat}(h:i<N.length)(e:Jd N i=s):Vt N s≤i:=by
 unfold Vt;by_cases hh:N.findIdx (· == s)≤i
 ·exact hh
 ·have:=List.not_of_lt_findIdx (p:=(· == s)) (xs:=N) (i:=i) (by omega)
  unfold Jd at e;rw[List.getD_eq_getElem?_getD,List.getElem?_eq_getElem h]at e;simp at this e;exact absurd e this
theorem nmAt_mem{N:List Bs}{i:Nat}(h:i<N.length):Jd N i ∈ N:=by
 unfold Jd;rw[List.getD_eq_getElem?_getD,List.getElem?_eq_getElem h];simp
def isF(N:List Bs)(i:Nat):Bool:=Vt N (Jd N i) == i
theorem isF_find{N:List Bs}{s:Bs}(h:s ∈ N):isF N (Vt N s)=true:=by unfold isF;rw[Zfe h];simp
theorem isF_eq{N:List Bs}{i j:Nat}(hi:isF N i=true)(hj:isF N j=true)(e:Jd N i=Jd N j):i=j:=by
 unfold isF at *;simp only[beq_iff_eq]at *;rw[←hi,←hj,e]
def Ym(N:List Bs)(k:Nat):List Nat:=((Wv N).take k).filter (isF N)
def Xu(N:List Bs):List Nat:=(Wv N).filter (isF N)
theorem Zfc(N:List Bs):Ym N N.length=Xu N:=by
 unfold Ym Xu;rw[List.take_of_length_le (by rw[Wk];omega)]
def We(N:List Bs)(k:Nat):Nat:=(Wv N).getD k 0
theorem Zbo{N:List Bs}{k:Nat}(h:k<N.length):(Wv N)[k]'(by rw[Wk];exact h)=We N k:=by
 unfold We;simp[List.getD,List.getElem?_eq_getElem (show k<(Wv N).length by rw[Wk];exact h)]
theorem ordAt_lt{N:List Bs}{k:Nat}(h:k<N.length):We N k<N.length:=by
 have:=List.getElem_mem (l:=Wv N) (n:=k) (by rw[Wk];exact h);rw[Zbo h]at this;exact Zdy.1 this
theorem take_ord{N:List Bs}{k:Nat}(h:k<N.length):(Wv N).take (k+1)=(Wv N).take k++[We N k]:=by
 rw[List.take_succ_eq_append_getElem (by rw[Wk];exact h),Zbo h]
theorem firstsK_yes{N:List Bs}{k:Nat}(h:k<N.length)(hf:isF N (We N k)=true):Ym N (k+1)=Ym N k++[We N k]:=by
 unfold Ym;rw[take_ord h,List.filter_append];simp[hf]
theorem firstsK_no{N:List Bs}{k:Nat}(h:k<N.length)(hf:isF N (We N k)=false):Ym N (k+1)=Ym N k:=by
 unfold Ym;rw[take_ord h,List.filter_append];simp[hf]
theorem firstsK_le(N:List Bs)(k:Nat):(Ym N k).length≤k:=by
 unfold Ym;exact Nat.le_trans (List.length_filter_le _ _) (by simp;omega)
theorem before_take{N:List Bs}{k i:Nat}(hk:k<N.length)(hi:i<N.length)(hb:before N i (We N k)):i ∈ (Wv N).take k:=by
 have hm:=Zdy.2 hi;rw[←List.take_append_drop k (Wv N)]at hm;rcases List.mem_append.1 hm with h | h
 ·exact h
 ·exfalso
  have hs:=(Zbn N).sorted;rw[List.mem_iff_getElem]at h;obtain⟨j,hj,e⟩:=h;rw[List.getElem_drop]at e;have hj':k+j<(Wv N).length:=by simp at hj;omega
  by_cases j0:j=0
  ·subst j0
   simp only[Nat.add_zero]at e;rw[Zbo hk]at e;rw[e]at hb;exact Zcd _ _ hb
  ·have:=(List.pairwise_iff_getElem.1 hs) k (k+j) (by omega) hj' (by omega)
   rw[e,Zbo hk]at this;exact Zjv hb this
theorem Zjf{N:List Bs}{k i:Nat}(hk:k<N.length)(h:i ∈ (Wv N).take k):before N i (We N k):=by
 rw[List.mem_iff_getElem]at h;obtain⟨j,hj,e⟩:=h;rw[List.getElem_take]at e;have hj':j<k:=by simp at hj;omega
 have:=(List.pairwise_iff_getElem.1 (Zbn N).sorted) j k (by rw[Wk];omega) (by rw[Wk];omega) hj';rw[e,Zbo hk]at this;exact this
theorem Zfb(N:List Bs)(k:Nat):(Ym N k).Pairwise (before N):=((Zbn N).sorted.sublist (List.take_sublist k _)).sublist List.filter_sublist
def Zey(N:List Bs)(k:Nat):Nat:=(Ym N k).getD ((Ym N k).length - 1) 0
theorem lastK_mem{N:List Bs}{k:Nat}(h:Ym N k≠[]):Zey N k ∈ Ym N k:=by
 have:(Ym N k).length - 1<(Ym N k).length:=by have:=List.length_pos_iff.2 h;omega
 unfold Zey;rw[List.getD_eq_getElem?_getD,List.getElem?_eq_getElem this];simp
theorem lastK_ge{N:List Bs}{k i:Nat}(h:i ∈ Ym N k):i=Zey N k∨before N i (Zey N k):=by
 have hne:Ym N k≠[]:=by intro e;rw[e]at h;cases h
 have hl:(Ym N k).length - 1<(Ym N k).length:=by have:=List.length_pos_iff.2 hne;omega
 have e:(Ym N k)[(Ym N k).length - 1]=Zey N k:=by
  unfold Zey;rw[List.getD_eq_getElem?_getD,List.getElem?_eq_getElem hl];simp
 rw[List.mem_iff_getElem]at h;obtain⟨j,hj,e2⟩:=h;by_cases hjl:j=(Ym N k).length - 1
 ·subst hjl;exact .inl (e2.symm.trans e)
 ·have:=(List.pairwise_iff_getElem.1 (Zfb N k)) j _ hj hl (by omega)
  rw[e,e2]at this;exact .inr this
theorem isF_step{N:List Bs}{k:Nat}(hk:k<N.length):isF N (We N k)=true↔Ym N k=[]∨Jd N (Zey N k)≠Jd N (We N k):=by
 have ho:=ordAt_lt hk;constructor
 ·intro hf
  by_cases hne:Ym N k=[]
  ·exact .inl hne
  ·right
   intro e;have hm:=lastK_mem hne;obtain⟨hm1,hm2⟩:=List.mem_filter.1 hm;have:=isF_eq hm2 hf e;have hb:=Zjf hk hm1;rw[this]at hb;exact Zcd _ _ hb
 ·intro h
  cases hf:isF N (We N k)with
  |true=>rfl
  |false=>
   exfalso;have hmem:Jd N (We N k) ∈ N:=nmAt_mem ho
   have h0:Vt N (Jd N (We N k))≠We N k:=by
    intro e;unfold isF at hf;rw[e]at hf;simp at hf
   have hle:=Zjq ho rfl;have hb:before N (Vt N (Jd N (We N k))) (We N k):=.inr ⟨Zfe hmem,by omega⟩;have hin:Vt N (Jd N (We N k)) ∈ Ym N k:=List.mem_filter.2 ⟨before_take hk (Zdm.2 hmem) hb,isF_find hmem⟩;rcases h with h | h
   ·rw[h]at hin;cases hin
   ·apply h
    have hne:Ym N k≠[]:=by intro e;rw[e]at hin;cases hin
    have hl:=Zjf hk (List.mem_filter.1 (lastK_mem hne)).1;have e0:=Zfe hmem;rcases lastK_ge hin with e | g
    ·rw[←e,e0]
    ·rcases g with g | ⟨g,_⟩
     ·rw[e0]at g
      rcases hl with hl | ⟨hl,_⟩
      ·exact absurd hl (bs_asym g)
      ·rw[hl]at g;exact absurd g (Ziy _)
     ·rw[←g,e0]
def dist(N:List Bs):List Bs:=(Xu N).map (Jd N)
theorem Zic(N:List Bs):(dist N).length=(Xu N).length:=by simp[dist]
theorem firsts_le(N:List Bs):(Xu N).length≤N.length:=by rw[←Zfc];exact firstsK_le N _
theorem Zjt(N:List Bs):(dist N).Pairwise (· < ·):=by
 unfold dist;rw[List.pairwise_map];have hs:=Zfb N N.length;rw[Zfc]at hs;refine List.Pairwise.imp_of_mem ?_ hs;intro a b ha hb h;rcases h with h | ⟨h,h2⟩
 ·exact h
 ·have:=isF_eq (List.mem_filter.1 ha).2 (List.mem_filter.1 hb).2 h
  omega
theorem dist_mem{N:List Bs}{s:Bs}:s ∈ dist N↔s ∈ N:=by
 unfold dist;rw[List.mem_map];constructor
 ·rintro⟨i,hi,rfl⟩
  exact nmAt_mem (Zdy.1 (List.mem_filter.1 hi).1)
 ·intro h
  exact⟨Vt N s,List.mem_filter.2 ⟨Zdy.2 (Zdm.2 h),isF_find h⟩,Zfe h⟩
theorem countP_lt:∀{D:List Bs}(_:D.Pairwise (· < ·))(s:Bs)(t:Nat)(h:t<D.length),D[t]<s↔t<D.countP fun x=>decide (x<s)
 |[],_,_,_,h=>by simp at h
 |x::D,hs,s,0,h=>by
  rw[List.countP_cons];by_cases hx:x<s
  ·simp[hx]
  ·simp only[List.getElem_cons_zero,hx,decide_false,false_iff]
   have:D.countP (fun y=>decide (y<s))=0:=by
    rw[List.countP_eq_zero];intro y hy;have:=List.rel_of_pairwise_cons hs hy;simp only[decide_eq_true_eq];exact fun k=>hx (Zif this k)
   simp[this]
 |x::D,hs,s,t+1,h=>by
  rw[List.countP_cons,List.getElem_cons_succ,countP_lt hs.of_cons s t (by simpa using h)];by_cases hx:x<s
  ·simp[hx]
  ·have:D.countP (fun y=>decide (y<s))=0:=by
    rw[List.countP_eq_zero];intro y hy;have:=List.rel_of_pairwise_cons hs hy;simp only[decide_eq_true_eq];exact fun k=>hx (Zif this k)
   simp[hx,this]
def pos(N:List Bs)(s:Bs):Nat:=(dist N).countP fun x=>decide (x<s)
theorem pos_le(N:List Bs)(s:Bs):pos N s≤(Xu N).length:=by rw[←Zic];exact List.countP_le_length
theorem pos_lt{N:List Bs}(s:Bs){t:Nat}(h:t<(Xu N).length):Jd N ((Xu N).getD t 0)<s↔t<pos N s:=by
 have:=countP_lt (Zjt N) s t (by rw[Zic];exact h);unfold pos;rw[←this];unfold dist;rw[List.getElem_map,List.getD_eq_getElem?_getD,List.getElem?_eq_getElem h];rfl
def nmF(N:List Bs)(t:Nat):Bs:=Jd N ((Xu N).getD t 0)
theorem Zkj{N:List Bs}{t:Nat}(h:t<(Xu N).length):(dist N)[t]'(by rw[Zic];exact h)=nmF N t:=by
 unfold dist nmF;rw[List.getElem_map,List.getD_eq_getElem?_getD,List.getElem?_eq_getElem h];rfl
theorem nmF_mem{N:List Bs}{t:Nat}(h:t<(Xu N).length):nmF N t ∈ N:=by
 rw[←Zkj h];exact dist_mem.1 (List.getElem_mem _)
theorem nmF_mono{N:List Bs}{t u:Nat}(h:t<u)(hu:u<(Xu N).length):nmF N t<nmF N u:=by
 rw[←Zkj hu,←Zkj (show t<_ by omega)];exact(List.pairwise_iff_getElem.1 (Zjt N)) t u _ _ h
theorem mem_nmF{N:List Bs}{s:Bs}(h:s ∈ N):∃ t,t<(Xu N).length∧nmF N t=s:=by
 have:=dist_mem.2 h;rw[List.mem_iff_getElem]at this;obtain⟨t,ht,e⟩:=this;rw[Zic]at ht;rw[Zkj ht]at e;exact⟨t,ht,e⟩
def hit(N:List Bs)(s:Bs):Bool:=decide (pos N s<(Xu N).length∧nmF N (pos N s)=s)
theorem hit_iff{N:List Bs}{s:Bs}:hit N s=true↔s ∈ N:=by
 unfold hit;rw[decide_eq_true_eq];constructor
 ·rintro⟨h,e⟩
  rw[←e];exact nmF_mem h
 ·intro h
  obtain⟨t,ht,e⟩:=mem_nmF h
  have ht2:¬ t<pos N s:=by
   rw[←pos_lt s ht];show ¬ nmF N t<s;rw[e];exact Ziy _
  have:pos N s=t:=by
   by_cases hp:pos N s<t
   ·exfalso
    have h1:=nmF_mono hp ht;rw[e]at h1;exact absurd ((pos_lt s (show pos N s<_ by omega)).1 h1) (by omega)
   ·omega
  rw[this];exact⟨ht,e⟩
theorem hit_find{N:List Bs}{s:Bs}(h:hit N s=true):(Xu N).getD (pos N s) 0=Vt N s:=by
 have hm:=hit_iff.1 h;unfold hit at h;rw[decide_eq_true_eq]at h;obtain⟨h,e⟩:=h
 have hin:(Xu N).getD (pos N s) 0 ∈ Xu N:=by
  rw[List.getD_eq_getElem?_getD,List.getElem?_eq_getElem h];simp
 exact isF_eq (List.mem_filter.1 hin).2 (isF_find hm) (by rw[Zfe hm];exact e)
theorem findZ_hit{N:List Bs}{s:Bs}(h:hit N s=true):Zdl N s=(Vt N s:Int):=by
 unfold Zdl;rw[if_pos (Zdm.2 (hit_iff.1 h))]
theorem findZ_no{N:List Bs}{s:Bs}(h:hit N s=false):Zdl N s = -1:=by
 unfold Zdl;rw[if_neg];rw[Zdm,←hit_iff,h];simp
def NextIs(N:List Bs)(s r:Bs):Prop:=(r=[]∧∀ x ∈ N,¬ s<x)∨(r ∈ N∧s<r∧∀ x ∈ N,s<x→¬ x<r)
theorem NextIs.unique{N:List Bs}{s r r':Bs}(h:NextIs N s r)(g:NextIs N s r'):r=r':=by
 rcases h with⟨rfl,h⟩ | ⟨h1,h2,h3⟩<;>rcases g with⟨rfl,g⟩ | ⟨g1,g2,g3⟩
 ·rfl
 ·exact absurd g2 (h _ g1)
 ·exact absurd h2 (g _ h1)
 ·rcases bs_tri r r' with k | k | k
  ·exact absurd k (g3 _ h1 h2)
  ·exact k
  ·exact absurd k (h3 _ g1 g2)
def Wt(N:List Bs):Int:=match(List.range N.length).find? (fun i=> !isF N i)with | some i=>(i:Int) | none=> -1
theorem find_range{p:Nat→Bool}{n i:Nat}(hi:i<n)(hp:p i=true)(hb:∀ j,j<i→p j=false):(List.range n).find? p=some i:=by
 rw[List.find?_eq_some_iff_append];refine⟨hp,List.range i,(List.range n).drop (i+1),?_,?_⟩
 ·have h1:=(List.take_append_drop i (List.range n)).symm
  rw[List.take_range,Nat.min_eq_left (Nat.le_of_lt hi),List.drop_eq_getElem_cons (by simpa using hi)]at h1;simpa using h1
 ·intro a ha;simpa using hb a (List.mem_range.1 ha)
theorem twice_at{N:List Bs}{i:Nat}(hi:i<N.length)(h:isF N i=false)(hb:∀ j,j<i→isF N j=true):Wt N=i:=by
 unfold Wt;rw[find_range (p:=fun i=> !isF N i) hi (by simp[h]) (fun j hj=>by simp[hb j hj])]
theorem twice_no{N:List Bs}(hb:∀ j,j<N.length→isF N j=true):Wt N = -1:=by
 unfold Wt;rw[List.find?_eq_none.2 (fun x hx=>by simp[hb x (List.mem_range.1 hx)])]
theorem isF_lt{N:List Bs}{i:Nat}(hi:i<N.length):Zdl N (Jd N i)=(Vt N (Jd N i):Int)∧Vt N (Jd N i)≤i:=by
 have hm:=nmAt_mem hi;exact⟨by unfold Zdl;rw[if_pos (Zdm.2 hm)],Zjq hi rfl⟩
theorem isF_of{N:List Bs}{i:Nat}(hi:i<N.length)(b:Bool)(h:isF N i=b):Zdl N (Jd N i)<i↔b=false:=by
 obtain⟨h1,h2⟩:=isF_lt hi;rw[h1];unfold isF at h;cases b
 ·simp at h;simp;omega
 ·simp at h;simp;omega
open Go Go.RowKit Go.Lib
theorem sCompare_any(a b:ByteArray)(w:World):Calls Tryz.prog 246 #[.string a,.string b] w fun e w'=>e=.returned (.int .i64 (Lib.compareBytes a.toList b.toList))∧w=w':=by
 have h:=Any.strings_Compare compareL a b w;change Calls Tryz.prog 246 _ _ _ at h
 rw[←Lib.toList_data,←Lib.toList_data]at h;exact h.mono fun e w' h=>⟨h.1,h.2.symm⟩
theorem Zdq(x y:Int):(x<y∧Lib.compareInt x y = -1)∨(x=y∧Lib.compareInt x y=0)∨(y<x∧Lib.compareInt x y=1):=by
 unfold Lib.compareInt;by_cases h1:x<y
 ·simp[h1]
 ·by_cases h2:x>y
  ·right;right;simp[h1,h2]
  ·right;left;refine⟨by omega,by simp[h1,h2]⟩
theorem isNaNi_any(x:Int)(w:World):Calls Tryz.prog 274 #[.int .i64 x] w fun e w'=>e=.returned (.bool false)∧w=w':=by
 go_enter Tryz.func274,Tryz.ntmps274;go_wp2
 go_ret;exact⟨by simp,rfl⟩
theorem cCompare_any(x y:Int)(w:World):Calls Tryz.prog 247 #[.int .i64 x,.int .i64 y] w fun e w'=>e=.returned (.int .i64 (Lib.compareInt x y))∧w=w':=by
 obtain⟨h,e⟩ | ⟨h,e⟩ | ⟨h,e⟩:=Zdq x y
 all_goals
  rw[e];clear e;first | (have h1:decide (x<y)=true:=by simp[h]) | (have h1:decide (x<y)=false:=by simp;omega)
  first | (have h2:decide (y<x)=true:=by simp[h]) | (have h2:decide (y<x)=false:=by simp;omega)
  clear h;go_enter Tryz.func247,Tryz.ntmps247;go_wp2_with(go_at_call 274;refine(isNaNi_any _ _).mono ?_;rintro e w' ⟨rfl,rfl⟩)
  go_ret;exact⟨rfl,rfl⟩
theorem cOr_any(g:Nat)(a b:Int)(w:World)(c0:w.cell? ⟨g,0,none⟩=some (.int .i64 a))(c1:w.cell? ⟨g,1,none⟩=some (.int .i64 b)) :
  Calls Tryz.prog 245 #[.slice (some ⟨g,0,none⟩) 2 2] w fun e w'=>e=.returned (.int .i64 (if a=0 then b else a))∧w=w':=by
 by_cases h0:a=0
 ·subst h0
  rw[if_pos rfl];by_cases h1:b=0
  ·subst h1
   go_enter Tryz.func245,Tryz.ntmps245;go_wp2
   refine wp_loop_rounds 3 ?_;rw[rounds_succ];go_wp2
   rw[rounds_succ];go_wp2
   rw[rounds_succ];go_wp2
   go_ret;exact⟨rfl,rfl⟩
  ·have h1':(b == 0)=false:=by simpa using h1
   go_enter Tryz.func245,Tryz.ntmps245;go_wp2
   refine wp_loop_rounds 3 ?_;rw[rounds_succ];go_wp2
   rw[rounds_succ];go_wp2
   go_ret;exact⟨rfl,rfl⟩
 ·rw[if_neg h0]
  have h1':(a == 0)=false:=by simpa using h0
  go_enter Tryz.func245,Tryz.ntmps245;go_wp2
  refine wp_loop_rounds 3 ?_;rw[rounds_succ];go_wp2
  go_ret;exact⟨rfl,rfl⟩
open Go Go.RowKit Go.Lib Go.Sort
def Zaf(W w:World):Prop:=∃ q os,w=grow (W.drewN q) os
theorem Zaf.refl(W:World):Zaf W W:=⟨0,#[],by rw[grow_empty];rfl⟩
theorem Zaf.drew{W w:World}(h:Zaf W w):Zaf W w.drew:=by
 obtain⟨q,os,rfl⟩:=h;exact⟨q+1,os,rfl⟩
theorem Zaf.alloc{W w:World}(h:Zaf W w)(o:Obj):Zaf W (w.alloc o):=by
 obtain⟨q,os,rfl⟩:=h;exact⟨q,os.push o,by unfold World.alloc grow;simp⟩
theorem Zek{x:Addr}{n:Nat}(h:x.block<n)(i:Nat):(x.add i).block<n:=by unfold Addr.add;split<;>exact h
theorem kept3{W:World}{p:Addr}{v:Value}{o:Obj}(h:p.block<W.heap.size)(hc:W.cell? p=some v):(W.alloc o).drew.cell? p=some v:=
 (((Below.refl W.heap.size W).alloc (Nat.le_refl _) o).cell (p:=p) h).trans hc
theorem new0(W:World)(a b:Value)(t:TypeId):(W.alloc (.cells #[a,b] t)).drew.cell? ⟨W.heap.size,0,none⟩=some a:=by simp
theorem new1(W:World)(a b:Value)(t:TypeId):(W.alloc (.cells #[a,b] t)).drew.cell? ⟨W.heap.size,1,none⟩=some b:=by simp
def cmpP(a b:ByteArray)(i j:Nat):Int:=if Lib.compareBytes a.toList b.toList=0 then Lib.compareInt i j else Lib.compareBytes a.toList b.toList
theorem closure_any(c:Nat)(x:Addr)(n cap:Nat)(a b:ByteArray)(i j:Nat)(W:World)(hi:i<n)(hj:j<n)(hx:x.block<W.heap.size)(hcb:c<W.heap.size)(hn:n≤maxLen)
  (hc:W.cell? ⟨c,0,none⟩=some (.slice (some x) n cap))(hli:W.cell? (x.add i)=some (.string a))(hlj:W.cell? (x.add j)=some (.string b)) :
  Calls Tryz.prog 244 #[.int .i64 i,.int .i64 j,.pointer (some ⟨c,0,none⟩)] W fun e w'=>e=.returned (.int .i64 (cmpP a b i j))∧Zaf W w':=by
 unfold cmpP maxLen at *;obtain⟨r,hr⟩:∃ r,Lib.compareBytes a.toList b.toList=r:=⟨_,rfl⟩
 obtain⟨u,hu⟩:∃ u,Lib.compareInt i j=u:=⟨_,rfl⟩
 have k1:=fun w=>sCompare_any a b w
 have k2:=fun w=>cCompare_any i j w
 rw[hr]at k1 ⊢;rw[hu]at k2 ⊢;have k3:=fun g w h0 h1=>cOr_any g r u w h0 h1
 obtain⟨v,hv⟩:∃ v,(if r=0 then u else r)=v:=⟨_,rfl⟩
 simp only[hv]at k3 ⊢;clear hr hu hv;go_enter Tryz.func244,Tryz.ntmps244;go_wp2_with fail
 go_region_held3 (fun w=>w.cell? ⟨c,0,none⟩=some (.slice (some x) n cap)∧w.cell? (x.add i)=some (.string a)∧w.cell? (x.add j)=some (.string b)∧Zaf W w) (first
 |exact⟨hc,hli,hlj,Zaf.refl _⟩
 |exact⟨hc,hli,hlj,Zaf.drew (Zaf.refl _)⟩
 |exact⟨kept3 hcb hc,kept3 (Zek hx i) hli,kept3 (Zek hx j) hlj,Zaf.drew (Zaf.alloc (Zaf.refl _) _)⟩) (first
 |(go_at_call 246;(with_reducible refine(k1 _).mono ?_);rintro e w1 ⟨rfl,rfl⟩)
 |(go_at_call 247;(with_reducible refine(k2 _).mono ?_);rintro e w1 ⟨rfl,rfl⟩)
 |(go_at_call 245;(with_reducible refine(k3 _ _ (new0 _ _ _ _) (new1 _ _ _ _)).mono ?_);rintro e w1 ⟨rfl,rfl⟩))
 go_wp2
 go_ret;exact⟨rfl,Zaf.drew (Zaf.alloc (Zaf.refl _) _)⟩
def Yd(L:List ByteArray):List Bs:=L.map ByteArray.toList
theorem Xx(L:List ByteArray):(Yd L).length=L.length:=by simp[Yd]
def nmS(L:List ByteArray)(i:Nat):ByteArray:=L.getD i ByteArray.empty
theorem Zit(L:List ByteArray)(i:Nat):Jd (Yd L) i=(nmS L i).toList:=by
 unfold Jd nmS Yd;rw[List.getD_eq_getElem?_getD,List.getD_eq_getElem?_getD,List.getElem?_map];cases L[i]? with
 |none=>simp[ByteArray.toList_empty]
 |some x=>rfl
theorem cmpP_lt(a b:ByteArray)(i j:Nat):cmpP a b i j<0↔(a.toList<b.toList∨(a.toList=b.toList∧i<j)):=by
 obtain⟨h1,h2⟩:=Zem a.toList b.toList;unfold cmpP;by_cases h:Lib.compareBytes a.toList b.toList=0
 ·rw[if_pos h]
  have e:=h2.1 h;rw[e];have hn:¬ b.toList<b.toList:=Ziy _;rcases Zdq i j with⟨k,ke⟩ | ⟨k,ke⟩ | ⟨k,ke⟩<;>rw[ke]<;>simp[hn]<;>omega
 ·rw[if_neg h,h1]
  have hn:¬ a.toList=b.toList:=fun e=>h (h2.2 e)
  simp[hn]
def cfF(L:List ByteArray)(n:Nat)(x y:Fin n):Int:=cmpP (nmS L x) (nmS L y) x y
theorem ltF(L:List ByteArray)(n:Nat)(x y:Fin n):ltOf (cfF L n) x y=decide (before (Yd L) x y):=by
 have h:=cmpP_lt (nmS L x) (nmS L y) x y;rw[←Zit,←Zit]at h;unfold ltOf cfF;exact decide_eq_decide.2 h
theorem swoF(L:List ByteArray)(n:Nat):SWO (ltOf (cfF L n)) where
 irrefl x:=by rw[ltF];simp[Zcd]
 trans x y z h1 h2:=by rw[ltF]at *;simp only[decide_eq_true_eq]at *;exact Zab h1 h2
 ntrans x y z h1 h2:=by
  rw[ltF]at *;simp only[decide_eq_false_iff_not]at *;intro h;by_cases e:(x:Nat)=y
  ·rw[e]at h;exact h2 h
  ·rcases Zcc (Yd L) e with k | k
   ·exact h1 k
   ·by_cases e2:(y:Nat)=z
    ·rw[←e2]at h;exact h1 h
    ·rcases Zcc (Yd L) e2 with k2 | k2
     ·exact h2 k2
     ·exact Zcd _ _ (Zab h (Zab k2 k))
theorem totF(L:List ByteArray)(n:Nat)(x y:Fin n)(h1:ltOf (cfF L n) x y=false)(h2:ltOf (cfF L n) y x=false):x=y:=by
 rw[ltF]at *;simp only[decide_eq_false_iff_not]at *;by_cases e:(x:Nat)=y
 ·exact Fin.ext e
 ·rcases Zcc (Yd L) e with k | k
  ·exact absurd k h1
  ·exact absurd k h2
theorem sortedF(L:List ByteArray):((List.finRange L.length).mergeSort fun x y=> !ltOf (cfF L L.length) y x).map Fin.val=Wv (Yd L):=by
 apply orderN_eq
 have e0:(List.finRange L.length).map Fin.val=List.range L.length:=by
  apply List.ext_getElem (by simp);intro i h1 h2;simp
 constructor
 ·rw[Xx,←e0]
  exact(List.mergeSort_perm _ _).map _
 ·rw[List.pairwise_map]
  have hs:=List.pairwise_mergeSort (le:=fun x y=> !ltOf (cfF L L.length) y x) (by
    intro a b c h1 h2;simp only[Bool.not_eq_true']at *;exact(swoF L L.length).ntrans c b a h2 h1) (by
    intro a b;cases h:ltOf (cfF L L.length) b a with
    |false=>simp
    |true=>simp[(swoF L L.length).asymmA h]) (List.finRange L.length)
  have hn:((List.finRange L.length).mergeSort fun x y=> !ltOf (cfF L L.length) y x).Nodup:=(List.mergeSort_perm _ _).nodup_iff.2 (by
   have:((List.finRange L.length).map Fin.val).Nodup:=by rw[e0];exact List.nodup_range
   exact List.Pairwise.of_map Fin.val (fun a b h e=>h (by rw[e])) this)
  refine(hs.and hn).imp ?_;intro a b ⟨h1,h2⟩;simp only[Bool.not_eq_true']at h1;rw[ltF,decide_eq_false_iff_not]at h1;have hne:(a:Nat)≠b:=fun e=>h2 (Fin.ext e)
  rcases Zcc (Yd L) hne with k | k
  ·exact k
  ·exact absurd k h1
theorem below_putRow'{α:Type} [Inhabited α](enc:α→Value){B:Nat}{w0 w:World}{g q:Nat}{d:Array α}(h:Below B w0 w)(hg:B≤g):Below B w0 (putRow enc (Sort.ahead w q) g 0 d):=by
 refine⟨h.os,h.tape,h.output,?_,?_⟩
 ·rw[size_putRow];exact h.size
 ·intro k hk
  rw[←h.block k hk];unfold putRow mapBlock;simp only[Array.getElem?_modify];rw[if_neg (by omega)];rfl
theorem below_grow'{B:Nat}{w0 w:World}(h:Below B w0 w)(hB:B≤w.heap.size)(os:Array Obj):Below B w0 (grow w os):=by
 refine⟨h.os,h.tape,h.output,?_,?_⟩
 ·rw[size_grow];have:=h.size;omega
 ·intro k hk
  rw[←h.block k hk];unfold grow;exact Array.getElem?_append_left (by omega)
def Xm(O:List Nat):List Value:=O.map fun i:Nat=>Value.int .i64 (i:Int)
def Zao(n k:Nat):Array Value:=((List.range n).map fun i=>Value.int .i64 (if i<k then(i:Int)else 0)).toArray
theorem ordArr_zero(n:Nat):madeCells #[.int .i64 0] n=Zao n 0:=by
 apply Array.ext';rw[toList_madeCells_one];simp only[Zao,Nat.not_lt_zero,if_false];rw[List.map_const',List.length_range]
theorem Zbx(n k i:Nat)(h:i<n):(Zao n k)[i]?=some (.int .i64 (if i<k then(i:Int)else 0)):=by
 simp[Zao,h]
theorem ordArr_set{n k:Nat}(h:k<n):(Zao n k).setIfInBounds k (.int .i64 k)=Zao n (k+1):=by
 apply Array.ext_getElem?;intro i;rw[Array.getElem?_setIfInBounds];by_cases e:k=i
 ·subst e
  rw[if_pos rfl,if_pos (by simp[Zao,h]),Zbx n _ k h,if_pos (by omega)]
 ·rw[if_neg e]
  by_cases hi:i<n
  ·rw[Zbx n k i hi,Zbx n _ i hi]
   by_cases h1:i<k
   ·rw[if_pos h1,if_pos (by omega)]
   ·rw[if_neg h1,if_neg (by omega)]
  ·rw[Array.getElem?_eq_none (by simp[Zao];omega),Array.getElem?_eq_none (by simp[Zao];omega)]
theorem fin_get!{n:Nat} [Inhabited (Fin n)](j:Nat)(h:j<n):((List.finRange n).toArray[j]!:Fin n).val=j:=by
 rw[getElem!_pos _ _ (by simpa using h)];simp
theorem sort_any(c g:Nat)(x:Addr)(n cap:Nat)(L:List ByteArray)(W:World)(hn:L.length=n)(h0:0<n)(hmax:n≤1000000)
  (hbox:W.cell? ⟨c,0,none⟩=some (.slice (some x) n cap))(hx:x.block<W.heap.size)(hL:∀ i,i<n→W.cell? (x.add i)=some (.string (nmS L i)))
  (hcg:c≠g)(hxg:x.block≠g)(hw:Zb W g 3 (Zao n n))(hB:∀ B,B≤g→B≤W.heap.size) :
  Calls Tryz.prog 243 #[.slice (some ⟨g,0,none⟩) n n,.func (.func 244) #[] #[.pointer (some ⟨c,0,none⟩)]] W fun e w'=>
   e=.returned (.tuple #[])∧(∀ B,B≤g→Below B W w')∧Un w' (some ⟨g,0,none⟩) (Xm (Wv (Yd L))):=by
 subst hn;have hne:NeZero L.length:=⟨by omega⟩
 have hInh:Inhabited (Fin L.length):=⟨⟨0,h0⟩⟩
 have hcb:=World.block_lt_of_cell? _ _ hbox
 have hH:Holds (fun i:Fin L.length=>Value.int .i64 (i.val:Int)) W g 0 (List.finRange L.length).toArray:=by
  intro j hj;have hj':j<L.length:=by simpa using hj
  refine⟨?_,?_⟩
  ·rw[hw.read,Nat.zero_add,Zbx _ _ _ hj',if_pos hj']
   exact congrArg some (vI (by rw[fin_get! j hj']))
  ·exact hw.thawed _
 have eg:∀ args w,(callFunc 244 args).run Tryz.prog w=.ok (.enter 244 args) w:=enters_of Tryz.func244 (by kernel_rfl) rfl
 have hcmp:CmpLays1 Tryz.prog 244 #[.pointer (some ⟨c,0,none⟩)] (fun i:Fin L.length=>Value.int .i64 (i.val:Int)) (cfF L L.length) g 0 (List.finRange L.length).toArray.size W:=by
  intro m os dk hs i j
  have key:∀ p:Addr,p.block<W.heap.size→p.block≠g→(sortWorld (fun i:Fin L.length=>Value.int .i64 (i.val:Int)) W g 0 m dk os).cell? p=W.cell? p:=by
   intro p hp hpg;unfold sortWorld;rw[cell?_grow _ _ _ (by rw[size_putRow];exact hp),cell?_putRow_other _ _ _ _ _ _ (.inl hpg)];rfl
  have hsz:W.heap.size≤(sortWorld (fun i:Fin L.length=>Value.int .i64 (i.val:Int)) W g 0 m dk os).heap.size:=by
   unfold sortWorld;rw[size_grow,size_putRow];show W.heap.size≤W.heap.size+_;omega
  refine(closure_any c x L.length cap (nmS L i) (nmS L j) i j _ i.isLt j.isLt (by omega) (Nat.lt_of_lt_of_le hcb hsz) (by unfold maxLen;omega) ?_ ?_ ?_).mono ?_
  ·rw[key _ hcb hcg];exact hbox
  ·rw[key _ (Zek hx _) (by unfold Addr.add;split<;>exact hxg)];exact hL _ i.isLt
  ·rw[key _ (Zek hx _) (by unfold Addr.add;split<;>exact hxg)];exact hL _ j.isLt
  ·intro e w' h
   exact h
 have h:=Any.slices_SortFunc_total sortL (fun i:Fin L.length=>Value.int .i64 (i.val:Int)) (fun _=>rfl) (cfF L L.length) (swoF L L.length) 244 #[.pointer (some ⟨c,0,none⟩)] g 0 L.length (List.finRange L.length).toArray W eg hcmp hH hw.inside (by simp;omega) (totF L L.length);change Calls Tryz.prog 243 _ _ _ at h
 have es:(List.finRange L.length).toArray.size=L.length:=by simp
 rw[es]at h;refine h.mono ?_;rintro e w' ⟨rfl,q,os,rfl⟩;refine⟨rfl,fun B hg=>below_grow' (below_putRow' _ (Below.refl _ _) hg) (by rw[size_putRow];exact hB B hg) _,?_⟩;have hs:((List.finRange L.length).toArray.toList.mergeSort fun x y=> !ltOf (cfF L L.length) y x).toArray.size=(List.finRange L.length).toArray.size:=by simp
 have hh:=SW.holds (⟨q,os,rfl⟩:SW (fun i:Fin L.length=>Value.int .i64 (i.val:Int)) W g 0 _ (sortWorld (fun i:Fin L.length=>Value.int .i64 (i.val:Int)) W g 0 q ((List.finRange L.length).toArray.toList.mergeSort fun x y=> !ltOf (cfF L L.length) y x).toArray os)) hw.inside hH hs;refine .inr ⟨_,rfl,?_,fun j hj=>?_⟩
 ·unfold sortWorld;rw[size_grow,size_putRow];have:=hw.inside;show g<W.heap.size+_;omega
 ·rw[Addr.add_lit]
  have hj2:j<L.length:=by simpa[Xm,Wk,Xx]using hj
  have:=(hh j (by rw[hs];simpa using hj2)).1;rw[this];unfold Xm;rw[←sortedF,List.map_map,List.getElem?_map];rw[getElem!_pos _ _ (by rw[hs];simpa using hj2)];simp only[List.getElem_toArray,Function.comp];rw[List.getElem?_eq_getElem (by simpa using hj2)];rfl
def Xt(L:List ByteArray):List Value:=L.map Value.string
theorem Zim{L:List ByteArray}{i:Nat}(h:i<L.length):(Xt L)[i]?=some (.string (nmS L i)):=by
 unfold Xt nmS;rw[List.getElem?_map,List.getElem?_eq_getElem h,List.getD_eq_getElem?_getD,List.getElem?_eq_getElem h];rfl
def OrderIs(N:List Bs)(n:Nat)(w:World)(e:Ending)(w':World):Prop:=
 ∃ g,e=.returned (.slice (some ⟨g,0,none⟩) n n)∧w.heap.size≤g∧g<w'.heap.size∧Un w' (some ⟨g,0,none⟩) (Xm (Wv N))∧Below w.heap.size w w'
theorem make_ints(n:Nat)(hn:n≤1000000)(w:World):(Instr.makeSlice 270 (.int .i64 (n:Int)) (.int .i64 (n:Int))).run Tryz.prog w=.ok (.slice (some ⟨w.heap.size,0,none⟩) n n) (w.alloc (.cells (Zao n 0) 3)):=by
 rw[←ordArr_zero];exact run_make_row' 270 3 (.int .i64 0) 8 (by kernel_rfl) (by kernel_rfl) rfl .i64 .i64 n (by omega) (by omega) w
theorem sort_none(c g:Nat)(W:World):Calls Tryz.prog 243 #[.slice (some ⟨g,0,none⟩) 0 0,.func (.func 244) #[] #[.pointer (some ⟨c,0,none⟩)]] W fun e w'=>e=.returned (.tuple #[])∧W=w':=
 (AnyF.slices_SortFunc_none (P:=Tryz.prog) (ρ :=sortL_ren) { sortL with } (some ⟨g,0,none⟩) 0 (.func (.func 244) #[] #[.pointer (some ⟨c,0,none⟩)]) W).mono fun e w' h=>⟨h.1,h.2.symm⟩
theorem order_any(A:Option Addr)(cap:Nat)(L:List ByteArray)(w:World)(hr:Un w A (Xt L))(hmax:L.length≤1000000) :
  Calls Tryz.prog 212 #[.slice A L.length cap] w (OrderIs (Yd L) L.length w):=by
 obtain⟨n,hn⟩:∃ n,L.length=n:=⟨_,rfl⟩
 have hmk:=make_ints n (by omega);have hlenS:(Xt L).length=n:=by unfold Xt;rw[List.length_map];exact hn
 have HN:=Hh hn;rw[hn];rw[hn]at hmax;clear hn;go_enter Tryz.func212,Tryz.ntmps212;go_wp2
 go_loopw [10] (fun i wr=>∃ k:Nat,k≤n∧i=.int .i64 k∧Zb wr w.heap.size 75 #[.slice A n cap]∧Zb wr (w.heap.size+1) 3 (Zao n k)∧Below w.heap.size w wr∧wr.heap.size=w.heap.size+2) (fun i _=>n - (intOf i).toNat)
 case atStart=>
  refine⟨0,by omega,rfl,?_,?_,?_,?_⟩
  ·exact(Zb.made w _ _).alloc _
  ·have:=Zb.made (w.alloc (.cells #[.slice A n cap] 75)) 3 (Zao n 0)
   simpa using this
  ·exact((Below.refl _ _).alloc (Nat.le_refl _) _).alloc (by simp) _
  ·simp
 case round=>
  obtain⟨k,hk,rfl,hw1,hw2,hb,hz⟩:=hrel;by_cases hlt:k<n
  ·have hc:=hw2.read k
   rw[Zbx n k k hlt]at hc;have hf:=hw2.thawed k;have HW1:=Hh hw1;have HW2:=Hh hw2;have HZ:=Hh hz;clear hw1 hw2 hz;go_wp2
   go_roundw
   case rel=>
    refine⟨k+1,by omega,by go_num,HW1.out.aside (by simp) _,?_,hb.setCell (by simp) _,?_⟩
    ·have:=HW2.out.write k (.int .i64 k)
     rw[ordArr_set hlt]at this;exact this
    ·simp[HZ.out]
   case measure=>simp[intOf];omega
  ·have hkn:k=n:=by omega
   subst hkn;by_cases h0:0<k
   ·obtain⟨x,rfl,hx,hc⟩:=hr.at_ (by omega)
    have hs:=sort_any w.heap.size (w.heap.size+1) x k cap L wr HN.out h0 hmax (by rw[hw1.read];rfl) (Nat.lt_of_lt_of_le hx hb.size)
     (fun i hi=>by
       rw[hb.cell (p:=x.add i) (Zek hx i),hc i (by omega)];exact Zim (by rw[HN.out];exact hi))
     (by omega) (by omega) hw2 (fun B hB=>by omega)
    have HW1:=Hh hw1;have HW2:=Hh hw2;have HZ:=Hh hz;have HB:=Hh hb;clear hw1 hw2 hz hb hc hr;go_wp2_with(go_at_call 243;refine hs.mono ?_;rintro e w' ⟨rfl,hb2,hr2⟩;have HB2:=Hh hb2;have HR2:=Hh hr2;clear hb2 hr2)
    go_ret;refine⟨w.heap.size+1,rfl,by omega,?_,HR2.out,HB.out.trans (HB2.out w.heap.size (by omega))⟩;have:=(HB2.out (w.heap.size+1) (Nat.le_refl _)).size;have:=HZ.out;omega
   ·obtain rfl:k=0:=by omega
    have HW1:=Hh hw1;have HW2:=Hh hw2;have HZ:=Hh hz;have HB:=Hh hb;clear hw1 hw2 hz hb hr;go_wp2_with(go_at_call 243;refine(sort_none _ _ _).mono ?_;rintro e w' ⟨rfl,rfl⟩)
    go_ret;refine⟨w.heap.size+1,rfl,by omega,by rw[HZ.out];omega,.inl ?_,HB.out⟩;apply List.eq_nil_of_length_eq_zero;unfold Xm;rw[List.length_map,Wk,Xx,HN.out]
end Go.Proofs.YtljdgdphldckhaaGreat
