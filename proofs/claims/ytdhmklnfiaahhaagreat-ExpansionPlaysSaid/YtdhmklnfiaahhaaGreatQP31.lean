/-
  Texts Lint13, NamesShelf, NamesMath, NamesCmp, NamesOrder, NamesOrder2, NamesOrd, NamesNew, NamesIdx, NamesRef. No conditions but those that each theorem names.
-/
import Derived.Test.YtdhmklnfiaahhaaGreatRows
import Derived.Shelf.SlSortCmp.NoneTotal
import Derived.Shelf.Spec.SearchS
import Derived.Shelf.Small.Strs
import Derived.Lib.Bytealg
import Derived.Deep.QuietTactic
import Derived.BigQuiet
import Derived.Deep.RegionHeld3
import Derived.Deep.RegionWith
import Derived.Below
import Derived.Outline
import Derived.Deep.OwnRows
import Derived.Deep.AppendLies
import Derived.Deep.RegionLaw
import Derived.Test.YtdhmklnfiaahhaaGreatQP30
set_option maxRecDepth 20000
set_option maxHeartbeats 12800000
namespace Go.Proofs.YtdhmklnfiaahhaaGreat
open Go Go.RowKit
set_option linter.unusedVariables false
set_option linter.unusedSimpArgs false
theorem lrow_hd : (Tryz.prog.underlying 131).map TypeDesc.isRow = some true := by kernel_rfl
theorem Uk : (Tryz.prog.info? 131).map (·.size) = some 3 := by kernel_rfl
theorem lz_hd : (Tryz.prog.info? 131).map (fun i => i.zero.map Value.cells) = some (some ([.string ⟨#[]⟩, .int .i64 0, .int .i64 0] : List Value).toArray) := by kernel_rfl
theorem whole4 {w : World} {g : Nat} {t : TypeId} {a b c d : Value} (W : Zb w g t #[a, b, c, d]) : w.cell? ⟨g, 0, none⟩ = some a ∧ w.cell? ⟨g, 1, none⟩ = some b ∧ w.cell? ⟨g, 2, none⟩ = some c ∧ w.cell? ⟨g, 3, none⟩ = some d := ⟨W.read 0, W.read 1, W.read 2, W.read 3⟩
theorem lHeadC (nm : ByteArray) (cost pow cln ccl : Int) (D : Option Addr) (n k : Nat) (w : World) :
   Calls Tryz.prog 80 #[.agg ([.string nm, .int .i64 cost, .int .i64 pow, .int .i64 cln, .int .i64 ccl, .slice D n k] : List Value).toArray] w fun e w' => e = .returned (.agg ([.string nm, .int .i64 cln, .int .i64 ccl] : List Value).toArray) ∧ Below w.heap.size w w' := by
 have T := Hh (Env.start w)
 go_enter Tryz.func80, Tryz.ntmps80
 go_wp2_with (first
 | ((with_reducible refine Ze 1 ?_); refine Zg T.out 35 _ ([.string nm, .int .i64 cost, .int .i64 pow, .int .i64 cln, .int .i64 ccl, .slice D n k]) rfl rfl rfl ?_; intro wa g0 tn; have T := Hh tn; clear tn)
 | ((with_reducible refine Ze 2 ?_); refine Zh T.out 131 _ rfl rfl lz_hd ?_; intro wb g1 tn; have T := Hh tn; clear tn; obtain ⟨fc0, fc1, fc2, fc3, fc4, fc5⟩ := Vm (T.out.get 0 rfl))
 | ((with_reducible refine Zk 2 9 ?_); refine Zc 131 _ _ 131 g1 _ ([.string nm, .int .i64 cln, .int .i64 ccl]) (T.out.get 1 rfl) rfl Uk (by simp [Value.oneCell']) rfl rfl rfl rfl rfl ?_; intro wd p; have T := Hh (T.out.put 1 rfl p); clear p))
 exact Zs 2 131 131 g1 ([.string nm, .int .i64 cln, .int .i64 ccl]) rfl (T.out.get 1 rfl) lrow_hd Uk rfl rfl ⟨rfl, T.out.below⟩
theorem lHeadP (nm : ByteArray) (pln pcl : Int) (D : Option Addr) (n k : Nat) (w : World) :
   Calls Tryz.prog 81 #[.agg ([.string nm, .int .i64 pln, .int .i64 pcl, .slice D n k] : List Value).toArray] w fun e w' => e = .returned (.agg ([.string nm, .int .i64 pln, .int .i64 pcl] : List Value).toArray) ∧ Below w.heap.size w w' := by
 have T := Hh (Env.start w)
 go_enter Tryz.func81, Tryz.ntmps81
 go_wp2_with (first
 | ((with_reducible refine Ze 1 ?_); refine Zg T.out 38 _ ([.string nm, .int .i64 pln, .int .i64 pcl, .slice D n k]) rfl rfl rfl ?_; intro wa g0 tn; have T := Hh tn; clear tn)
 | ((with_reducible refine Ze 2 ?_); refine Zh T.out 131 _ rfl rfl lz_hd ?_; intro wb g1 tn; have T := Hh tn; clear tn; obtain ⟨fc0, fc1, fc2, fc3⟩ := whole4 (T.out.get 0 rfl))
 | ((with_reducible refine Zk 2 9 ?_); refine Zc 131 _ _ 131 g1 _ ([.string nm, .int .i64 pln, .int .i64 pcl]) (T.out.get 1 rfl) rfl Uk (by simp [Value.oneCell']) rfl rfl rfl rfl rfl ?_; intro wd p; have T := Hh (T.out.put 1 rfl p); clear p))
 exact Zs 2 131 131 g1 ([.string nm, .int .i64 pln, .int .i64 pcl]) rfl (T.out.get 1 rfl) lrow_hd Uk rfl rfl ⟨rfl, T.out.below⟩
theorem lCard_any (x : Ca) (w : World) (N : Nat → Prop) (vs : List Value) (h : Zi N w x.ds vs) :
   Calls Tryz.prog 84 #[.agg vs.toArray] w fun e w' => e = .returned (faV (lCard x)) ∧ Below w.heap.size w w' := by
 have h1 := fun w => lOutside x.cost 0 9 w
 have h2 := fun w => lOutside x.power (-20) 20 w
 have hv : lCard x = if (outB x.cost 0 9 || outB x.power (-20) 20) = true then (12, x.line, x.col) else lRules false 0 x.rules := rfl
 generalize lCard x = V at *
 generalize outB x.cost 0 9 = q1 at *
 generalize outB x.power (-20) 20 = q2 at *
 obtain ⟨nm, cost, pow, cln, ccl, rules⟩ := x
 obtain ⟨_, rfl, _, rfl, _, rfl, _, rfl, _, rfl, D, k, zs, _, rfl, hnn, hwz, hdz, rfl⟩ := h
 have hrow : Zi N w (.row rules.length (Zal rules) .nil) [.slice D rules.length k] := ⟨D, k, zs, [], rfl, hnn, hwz, hdz, rfl⟩
 have hr := fun x (hb : Below w.heap.size w x) => lRules_any false rules x N _ (hrow.below hb)
 dsimp only at *
 generalize lRules false 0 rules = F at *
 generalize rules.length = n at *
 clear hrow hnn hwz hdz
 have T := Hh (Env.start w)
 go_enter Tryz.func84, Tryz.ntmps84
 cases q1
 · cases q2
   · simp only [Bool.or_self, Bool.false_eq_true, if_false] at hv
     go_wp2_with (first
 | ((with_reducible refine Ze 1 ?_); refine Zg T.out 35 _ ([.string nm, .int .i64 cost, .int .i64 pow, .int .i64 cln, .int .i64 ccl, .slice D n k]) rfl rfl rfl ?_; intro wa g0 tn; have T := Hh tn; clear tn)
 | ((with_reducible refine Ze 2 ?_); refine Zh T.out 29 _ rfl rfl Jq ?_; intro wb g1 tn; have T := Hh tn; clear tn; obtain ⟨fc0, fc1, fc2, fc3, fc4, fc5⟩ := Vm (T.out.get 0 rfl))
 | (go_at_call 131; (with_reducible refine (h1 _).mono ?_); rintro r wc ⟨rfl, bn⟩; have T := Hh (T.out.call bn); clear bn; obtain ⟨fc0, fc1, fc2, fc3, fc4, fc5⟩ := Vm (T.out.get 0 rfl))
 | (go_at_call 131; (with_reducible refine (h2 _).mono ?_); rintro r wc ⟨rfl, bn⟩; have T := Hh (T.out.call bn); clear bn; obtain ⟨fc0, fc1, fc2, fc3, fc4, fc5⟩ := Vm (T.out.get 0 rfl))
 | (go_at_call 132; refine (hr _ T.out.below).mono ?_; rintro r wc ⟨rfl, bn⟩; have T := Hh (T.out.call bn); clear bn)
 | ((with_reducible refine Zk 2 15 ?_); refine Zc 29 _ _ 29 g1 _ ([.int .i64 12, .int .i64 cln, .int .i64 ccl]) (T.out.get 1 rfl) rfl Zj (by simp [Value.oneCell']) rfl rfl rfl rfl rfl ?_; intro wd p; have T := Hh (T.out.put 1 rfl p); clear p)
 | ((with_reducible refine Zk 2 18 ?_); refine Zc 29 _ _ 29 g1 _ (faL F) (T.out.get 1 rfl) rfl Zj (faL_one _) rfl rfl rfl rfl rfl ?_; intro wd p; have T := Hh (T.out.put 1 rfl p); clear p))
     exact Zs 2 29 29 g1 (faL F) rfl (T.out.get 1 rfl) Yh Zj rfl rfl ⟨by rw [hv]; rfl, T.out.below⟩
   · simp only [Bool.or_true, if_true] at hv
     go_wp2_with (first
 | ((with_reducible refine Ze 1 ?_); refine Zg T.out 35 _ ([.string nm, .int .i64 cost, .int .i64 pow, .int .i64 cln, .int .i64 ccl, .slice D n k]) rfl rfl rfl ?_; intro wa g0 tn; have T := Hh tn; clear tn)
 | ((with_reducible refine Ze 2 ?_); refine Zh T.out 29 _ rfl rfl Jq ?_; intro wb g1 tn; have T := Hh tn; clear tn; obtain ⟨fc0, fc1, fc2, fc3, fc4, fc5⟩ := Vm (T.out.get 0 rfl))
 | (go_at_call 131; (with_reducible refine (h1 _).mono ?_); rintro r wc ⟨rfl, bn⟩; have T := Hh (T.out.call bn); clear bn; obtain ⟨fc0, fc1, fc2, fc3, fc4, fc5⟩ := Vm (T.out.get 0 rfl))
 | (go_at_call 131; (with_reducible refine (h2 _).mono ?_); rintro r wc ⟨rfl, bn⟩; have T := Hh (T.out.call bn); clear bn; obtain ⟨fc0, fc1, fc2, fc3, fc4, fc5⟩ := Vm (T.out.get 0 rfl))
 | (go_at_call 132; refine (hr _ T.out.below).mono ?_; rintro r wc ⟨rfl, bn⟩; have T := Hh (T.out.call bn); clear bn)
 | ((with_reducible refine Zk 2 15 ?_); refine Zc 29 _ _ 29 g1 _ ([.int .i64 12, .int .i64 cln, .int .i64 ccl]) (T.out.get 1 rfl) rfl Zj (by simp [Value.oneCell']) rfl rfl rfl rfl rfl ?_; intro wd p; have T := Hh (T.out.put 1 rfl p); clear p)
 | ((with_reducible refine Zk 2 18 ?_); refine Zc 29 _ _ 29 g1 _ (faL F) (T.out.get 1 rfl) rfl Zj (faL_one _) rfl rfl rfl rfl rfl ?_; intro wd p; have T := Hh (T.out.put 1 rfl p); clear p))
     exact Zs 2 29 29 g1 ([.int .i64 12, .int .i64 cln, .int .i64 ccl]) rfl (T.out.get 1 rfl) Yh Zj rfl rfl ⟨by rw [hv]; rfl, T.out.below⟩
 · simp only [Bool.true_or, if_true] at hv
   go_wp2_with (first
 | ((with_reducible refine Ze 1 ?_); refine Zg T.out 35 _ ([.string nm, .int .i64 cost, .int .i64 pow, .int .i64 cln, .int .i64 ccl, .slice D n k]) rfl rfl rfl ?_; intro wa g0 tn; have T := Hh tn; clear tn)
 | ((with_reducible refine Ze 2 ?_); refine Zh T.out 29 _ rfl rfl Jq ?_; intro wb g1 tn; have T := Hh tn; clear tn; obtain ⟨fc0, fc1, fc2, fc3, fc4, fc5⟩ := Vm (T.out.get 0 rfl))
 | (go_at_call 131; (with_reducible refine (h1 _).mono ?_); rintro r wc ⟨rfl, bn⟩; have T := Hh (T.out.call bn); clear bn; obtain ⟨fc0, fc1, fc2, fc3, fc4, fc5⟩ := Vm (T.out.get 0 rfl))
 | (go_at_call 131; (with_reducible refine (h2 _).mono ?_); rintro r wc ⟨rfl, bn⟩; have T := Hh (T.out.call bn); clear bn; obtain ⟨fc0, fc1, fc2, fc3, fc4, fc5⟩ := Vm (T.out.get 0 rfl))
 | (go_at_call 132; refine (hr _ T.out.below).mono ?_; rintro r wc ⟨rfl, bn⟩; have T := Hh (T.out.call bn); clear bn)
 | ((with_reducible refine Zk 2 15 ?_); refine Zc 29 _ _ 29 g1 _ ([.int .i64 12, .int .i64 cln, .int .i64 ccl]) (T.out.get 1 rfl) rfl Zj (by simp [Value.oneCell']) rfl rfl rfl rfl rfl ?_; intro wd p; have T := Hh (T.out.put 1 rfl p); clear p)
 | ((with_reducible refine Zk 2 18 ?_); refine Zc 29 _ _ 29 g1 _ (faL F) (T.out.get 1 rfl) rfl Zj (faL_one _) rfl rfl rfl rfl rfl ?_; intro wd p; have T := Hh (T.out.put 1 rfl p); clear p))
   exact Zs 2 29 29 g1 ([.int .i64 12, .int .i64 cln, .int .i64 ccl]) rfl (T.out.get 1 rfl) Yh Zj rfl rfl ⟨by rw [hv]; rfl, T.out.below⟩
theorem lPlace_any (x : Pl) (w : World) (N : Nat → Prop) (vs : List Value) (h : Zi N w x.ds vs) :
   Calls Tryz.prog 86 #[.agg vs.toArray] w fun e w' => e = .returned (faV (lPlace x)) ∧ Below w.heap.size w w' := by
 obtain ⟨nm, pln, pcl, rules⟩ := x
 obtain ⟨_, rfl, _, rfl, _, rfl, D, k, zs, _, rfl, hnn, hwz, hdz, rfl⟩ := h
 have hrow : Zi N w (.row rules.length (Zal rules) .nil) [.slice D rules.length k] := ⟨D, k, zs, [], rfl, hnn, hwz, hdz, rfl⟩
 have hr := fun x (hb : Below w.heap.size w x) => lRules_any true rules x N _ (hrow.below hb)
 have hv : lPlace ⟨nm, pln, pcl, rules⟩ = lRules true 0 rules := rfl
 rw [hv]
 dsimp only at *
 generalize lRules true 0 rules = F at *
 generalize rules.length = n at *
 clear hrow hnn hwz hdz hv
 have T := Hh (Env.start w)
 go_enter Tryz.func86, Tryz.ntmps86
 go_wp2_with (first
 | ((with_reducible refine Ze 1 ?_); refine Zg T.out 38 _ ([.string nm, .int .i64 pln, .int .i64 pcl, .slice D n k]) rfl rfl rfl ?_; intro wa g0 tn; have T := Hh tn; clear tn)
 | ((with_reducible refine Ze 2 ?_); refine Zh T.out 29 _ rfl rfl Jq ?_; intro wb g1 tn; have T := Hh tn; clear tn; obtain ⟨fc0, fc1, fc2, fc3⟩ := whole4 (T.out.get 0 rfl))
 | (go_at_call 132; refine (hr _ T.out.below).mono ?_; rintro r wc ⟨rfl, bn⟩; have T := Hh (T.out.call bn); clear bn)
 | ((with_reducible refine Zk 2 5 ?_); refine Zc 29 _ _ 29 g1 _ (faL F) (T.out.get 1 rfl) rfl Zj (faL_one _) rfl rfl rfl rfl rfl ?_; intro wd p; have T := Hh (T.out.put 1 rfl p); clear p))
 exact Zs 2 29 29 g1 (faL F) rfl (T.out.get 1 rfl) Yh Zj rfl rfl ⟨rfl, T.out.below⟩
end Go.Proofs.YtdhmklnfiaahhaaGreat
namespace Go.Proofs.YtdhmklnfiaahhaaGreat
open Go.Shelf
def sortL_ren : Go.Shelf.Ren := ⟨fun | 6 => 226 | 15 => 254 | 14 => 253 | 28 => 281 | 29 => 282 | 20 => 273 | 21 => 274 | 22 => 275 | 23 => 276 | 24 => 277 | 25 => 278 | 26 => 279 | 27 => 280 | 46 => 289 | 47 => 290 | 48 => 291 | 49 => 292 | 50 => 293 | 57 => 294 | n => n, fun | 22 => 257 | 24 => 3 | 25 => 286 | 3 => 3 | 39 => 287 | 0 => 0 | 53 => 310 | 55 => 312 | 4 => 4 | 46 => 304 | 45 => 303 | 50 => 261 | 5 => 5 | 9 => 9 | 66 => 315 | 70 => 319 | 76 => 321 | 77 => 230 | n => n, fun | n => n⟩
theorem sortL : Go.Proofs.SlLaysF.n6 Tryz.prog sortL_ren := {
 mixed := by kernel_rfl
 f6 := ⟨Tryz.f226.name, by decide, Tryz.func226.trans (congrArg some (by kernel_rfl))⟩
 f14 := ⟨Tryz.f253.name, by decide, Tryz.func253.trans (congrArg some (by kernel_rfl))⟩
 f15 := Tryz.func254.trans (congrArg some (by kernel_rfl))
 f20 := ⟨Tryz.f273.name, by decide, Tryz.func273.trans (congrArg some (by kernel_rfl))⟩
 f21 := ⟨Tryz.f274.name, by decide, Tryz.func274.trans (congrArg some (by kernel_rfl))⟩
 f22 := ⟨Tryz.f275.name, by decide, Tryz.func275.trans (congrArg some (by kernel_rfl))⟩
 f23 := ⟨Tryz.f276.name, by decide, Tryz.func276.trans (congrArg some (by kernel_rfl))⟩
 f24 := ⟨Tryz.f277.name, by decide, Tryz.func277.trans (congrArg some (by kernel_rfl))⟩
 f25 := ⟨Tryz.f278.name, by decide, Tryz.func278.trans (congrArg some (by kernel_rfl))⟩
 f26 := ⟨Tryz.f279.name, by decide, Tryz.func279.trans (congrArg some (by kernel_rfl))⟩
 f27 := ⟨Tryz.f280.name, by decide, Tryz.func280.trans (congrArg some (by kernel_rfl))⟩
 f28 := Tryz.func281.trans (congrArg some (by kernel_rfl))
 f29 := Tryz.func282.trans (congrArg some (by kernel_rfl))
 f46 := ⟨Tryz.f289.name, by decide, Tryz.func289.trans (congrArg some (by kernel_rfl))⟩
 f47 := Tryz.func290.trans (congrArg some (by kernel_rfl))
 f48 := Tryz.func291.trans (congrArg some (by kernel_rfl))
 f49 := ⟨Tryz.f292.name, by decide, Tryz.func292.trans (congrArg some (by kernel_rfl))⟩
 f50 := ⟨Tryz.f293.name, by decide, Tryz.func293.trans (congrArg some (by kernel_rfl))⟩
 f57 := ⟨Tryz.f294.name, by decide, Tryz.func294.trans (congrArg some (by kernel_rfl))⟩
 t0 := Tryz.underlying0
 a0 := Tryz.isAgg0
 z0 := Tryz.sizeOf0
 v0 := Tryz.zeroValue0
 t3 := Tryz.underlying3
 a3 := Tryz.isAgg3
 z3 := Tryz.sizeOf3
 v3 := Tryz.zeroValue3
 t4 := Tryz.underlying4
 a4 := Tryz.isAgg4
 z4 := Tryz.sizeOf4
 v4 := Tryz.zeroValue4
 t5 := Tryz.underlying5
 a5 := Tryz.isAgg5
 z5 := Tryz.sizeOf5
 v5 := Tryz.zeroValue5
 t9 := Tryz.underlying9
 a9 := Tryz.isAgg9
 z9 := Tryz.sizeOf9
 v9 := Tryz.zeroValue9
 t22 := Tryz.underlying257
 a22 := Tryz.isAgg257
 z22 := Tryz.sizeOf257
 v22 := Tryz.zeroValue257
 a24 := Tryz.isAgg3
 z24 := Tryz.sizeOf3
 t25 := Tryz.underlying286
 a25 := Tryz.isAgg286
 z25 := Tryz.sizeOf286
 v25 := Tryz.zeroValue286
 t39 := Tryz.underlying287
 a39 := Tryz.isAgg287
 z39 := Tryz.sizeOf287
 v39 := Tryz.zeroValue287
 t45 := Tryz.underlying303
 a45 := Tryz.isAgg303
 z45 := Tryz.sizeOf303
 v45 := Tryz.zeroValue303
 t46 := Tryz.underlying304
 a46 := Tryz.isAgg304
 z46 := Tryz.sizeOf304
 v46 := Tryz.zeroValue304
 t50 := Tryz.underlying261
 a50 := Tryz.isAgg261
 z50 := Tryz.sizeOf261
 v50 := Tryz.zeroValue261
 t53 := Tryz.underlying310
 a53 := Tryz.isAgg310
 z53 := Tryz.sizeOf310
 v53 := Tryz.zeroValue310
 t55 := Tryz.underlying312
 a55 := Tryz.isAgg312
 z55 := Tryz.sizeOf312
 v55 := Tryz.zeroValue312
 t66 := Tryz.underlying315
 a66 := Tryz.isAgg315
 z66 := Tryz.sizeOf315
 v66 := Tryz.zeroValue315
 t70 := Tryz.underlying319
 a70 := Tryz.isAgg319
 z70 := Tryz.sizeOf319
 v70 := Tryz.zeroValue319
 t76 := Tryz.underlying321
 a76 := Tryz.isAgg321
 z76 := Tryz.sizeOf321
 v76 := Tryz.zeroValue321
 t77 := Tryz.underlying230
 a77 := Tryz.isAgg230
 z77 := Tryz.sizeOf230
 v77 := Tryz.zeroValue230 }
def compareL_ren : Go.Shelf.Ren := ⟨fun | 106 => 229 | 213 => 255 | 265 => 283 | n => n, fun | 9 => 9 | 3 => 3 | n => n, fun | n => n⟩
theorem compareL : Go.Proofs.Lays.n106 Tryz.prog compareL_ren := {
 mixed := by kernel_rfl
 f106 := Tryz.func229.trans (congrArg some (by kernel_rfl))
 f213 := Tryz.func255.trans (congrArg some (by kernel_rfl))
 f265 := Tryz.func283.trans (congrArg some (by kernel_rfl))
 t3 := Tryz.underlying3
 a3 := Tryz.isAgg3
 z3 := Tryz.sizeOf3
 v3 := Tryz.zeroValue3
 t9 := Tryz.underlying9
 a9 := Tryz.isAgg9
 z9 := Tryz.sizeOf9
 v9 := Tryz.zeroValue9 }
def searchL_ren : Go.Shelf.Ren := ⟨fun | 26 => 195 | 33 => 231 | 34 => 232 | 38 => 257 | n => n, fun | 24 => 70 | 9 => 9 | 3 => 3 | 4 => 4 | 40 => 287 | 0 => 0 | n => n, fun | n => n⟩
theorem searchL : Go.Proofs.Lays2.n26 Tryz.prog searchL_ren := {
 mixed := by kernel_rfl
 f26 := Tryz.func195.trans (congrArg some (by kernel_rfl))
 f33 := Tryz.func231.trans (congrArg some (by kernel_rfl))
 f34 := Tryz.func232.trans (congrArg some (by kernel_rfl))
 f38 := Tryz.func257.trans (congrArg some (by kernel_rfl))
 t0 := Tryz.underlying0
 a0 := Tryz.isAgg0
 z0 := Tryz.sizeOf0
 v0 := Tryz.zeroValue0
 t3 := Tryz.underlying3
 a3 := Tryz.isAgg3
 z3 := Tryz.sizeOf3
 v3 := Tryz.zeroValue3
 t4 := Tryz.underlying4
 a4 := Tryz.isAgg4
 z4 := Tryz.sizeOf4
 v4 := Tryz.zeroValue4
 t9 := Tryz.underlying9
 a9 := Tryz.isAgg9
 z9 := Tryz.sizeOf9
 v9 := Tryz.zeroValue9
 t24 := Tryz.underlying70
 a24 := Tryz.isAgg70
 z24 := Tryz.sizeOf70
 v24 := Tryz.zeroValue70
 t40 := Tryz.underlying287
 a40 := Tryz.isAgg287
 z40 := Tryz.sizeOf287
 v40 := Tryz.zeroValue287 }
end Go.Proofs.YtdhmklnfiaahhaaGreat
namespace Go.Proofs.YtdhmklnfiaahhaaGreat
open Go
abbrev Bs := List UInt8
theorem bs_tri (a b : Bs) : a < b ∨ a = b ∨ b < a := by
 by_cases h : a < b
 · exact .inl h
 · by_cases h2 : b < a
   · exact .inr (.inr h2)
   · exact .inr (.inl (List.le_antisymm (List.not_lt.1 h2) (List.not_lt.1 h)))
theorem bs_irr (a : Bs) : ¬ a < a := List.lt_irrefl a
theorem bs_trans {a b c : Bs} (h : a < b) (k : b < c) : a < c := List.lt_trans h k
theorem bs_asym {a b : Bs} (h : a < b) : ¬ b < a := fun k => bs_irr a (bs_trans h k)
theorem bytesLess_lt : ∀ (x y : Bs), Op.bytesLess x y = decide (x < y)
 | [], [] => by simp [Op.bytesLess]
 | _ :: _, [] => by simp [Op.bytesLess]
 | [], _ :: _ => by simp [Op.bytesLess]
 | a :: x, b :: y => by
   rw [Op.bytesLess, bytesLess_lt x y]
   simp only [List.cons_lt_cons_iff]
   by_cases h1 : a < b <;> by_cases h2 : a = b <;> by_cases h3 : x < y <;> simp [h1, h2, h3]
theorem compareBytes_lt : ∀ (x y : Bs), (Lib.compareBytes x y < 0 ↔ x < y) ∧ (Lib.compareBytes x y = 0 ↔ x = y)
 | [], [] => by simp [Lib.compareBytes]
 | _ :: _, [] => by simp [Lib.compareBytes]
 | [], _ :: _ => by simp [Lib.compareBytes]
 | a :: x, b :: y => by
   have ih := compareBytes_lt x y
   unfold Lib.compareBytes
   simp only [List.cons_lt_cons_iff, List.cons.injEq]
   by_cases h1 : a < b
   · have : a ≠ b := fun e => UInt8.lt_irrefl a (by rw [← e] at h1; exact h1)
     simp [h1, this]
   · by_cases h2 : b < a
     · have : a ≠ b := fun e => UInt8.lt_irrefl a (by rw [← e] at h2; exact h2)
       simp [h1, h2, this]
     · have : a = b := UInt8.le_antisymm (UInt8.not_lt.1 h2) (UInt8.not_lt.1 h1)
       subst this
       simp [h1, ih.1, ih.2]
def Jy (N : List Bs) (i : Nat) : Bs := N.getD i []
def before (N : List Bs) (i j : Nat) : Prop := Jy N i < Jy N j ∨ (Jy N i = Jy N j ∧ i < j)
instance (N : List Bs) (i j : Nat) : Decidable (before N i j) := by unfold before; infer_instance
theorem before_irr (N : List Bs) (i : Nat) : ¬ before N i i := by rintro (h | ⟨_, h⟩); exact bs_irr _ h; omega
theorem Zat {N : List Bs} {i j k : Nat} (h : before N i j) (g : before N j k) : before N i k := by
 rcases h with h | ⟨h, h'⟩ <;> rcases g with g | ⟨g, g'⟩
 · exact .inl (bs_trans h g)
 · exact .inl (g ▸ h)
 · exact .inl (h ▸ g)
 · exact .inr ⟨h.trans g, by omega⟩
theorem before_tot (N : List Bs) {i j : Nat} (hn : i ≠ j) : before N i j ∨ before N j i := by
 rcases bs_tri (Jy N i) (Jy N j) with h | h | h
 · exact .inl (.inl h)
 · rcases Nat.lt_or_gt_of_ne hn with h2 | h2
   · exact .inl (.inr ⟨h, h2⟩)
   · exact .inr (.inr ⟨h.symm, h2⟩)
 · exact .inr (.inl h)
theorem before_asym {N : List Bs} {i j : Nat} (h : before N i j) : ¬ before N j i := fun g => before_irr N i (Zat h g)
structure IsOrder (N : List Bs) (O : List Nat) : Prop where
 perm : O.Perm (List.range N.length)
 sorted : O.Pairwise (before N)
theorem IsOrder.unique {N : List Bs} {O O' : List Nat} (h : IsOrder N O) (g : IsOrder N O') : O = O' :=
 List.Perm.eq_of_pairwise (fun _ _ _ _ h1 h2 => absurd h2 (before_asym h1)) h.sorted g.sorted (h.perm.trans g.perm.symm)
def Vl (N : List Bs) : List Nat := (List.range N.length).mergeSort fun i j => decide (before N i j ∨ i = j)
theorem orderN_is (N : List Bs) : IsOrder N (Vl N) := by
 have hp : (Vl N).Perm (List.range N.length) := List.mergeSort_perm _ _
 refine ⟨hp, ?_⟩
 have hs : (Vl N).Pairwise fun i j => decide (before N i j ∨ i = j) = true := by
   refine List.pairwise_mergeSort ?_ ?_ _
   · intro a b c h1 h2
     simp only [decide_eq_true_eq] at *
     rcases h1 with h1 | rfl
     · rcases h2 with h2 | rfl
       · exact .inl (Zat h1 h2)
       · exact .inl h1
     · exact h2
   · intro a b
     by_cases e : a = b
     · simp [e]
     · rcases before_tot N e with h | h <;> simp [h]
 have hn : (Vl N).Nodup := hp.nodup_iff.2 List.nodup_range
 refine (hs.and hn).imp ?_
 intro a b ⟨h1, h2⟩
 simp only [decide_eq_true_eq] at h1
 rcases h1 with h1 | h1
 · exact h1
 · exact absurd h1 h2
theorem orderN_eq {N : List Bs} {O : List Nat} (h : IsOrder N O) : O = Vl N := h.unique (orderN_is N)
theorem Vb (N : List Bs) : (Vl N).length = N.length := by rw [(orderN_is N).perm.length_eq, List.length_range]
theorem orderN_mem {N : List Bs} {i : Nat} : i ∈ Vl N ↔ i < N.length := by rw [(orderN_is N).perm.mem_iff, List.mem_range]
def Ur (N : List Bs) (s : Bs) : Nat := N.findIdx (· == s)
def findZ (N : List Bs) (s : Bs) : Int := if Ur N s < N.length then (Ur N s : Int) else -1
theorem findN_lt {N : List Bs} {s : Bs} : Ur N s < N.length ↔ s ∈ N := by
 unfold Ur
 rw [List.findIdx_lt_length]
 simp
theorem findN_at {N : List Bs} {s : Bs} (h : s ∈ N) : Jy N (Ur N s) = s := by
 have hl := findN_lt.2 h
 have := List.findIdx_getElem (xs := N) (p := (· == s)) (w := hl)
 have e := eq_of_beq this
 unfold Jy
 rw [List.getD_eq_getElem?_getD, List.getElem?_eq_getElem hl]
 exact e
theorem findN_first {N : List Bs} {s : Bs} {i : Nat} (h : i < N.length) (e : Jy N i = s) : Ur N s ≤ i := by
 unfold Ur
 by_cases hh : N.findIdx (· == s) ≤ i
 · exact hh
 · have := List.not_of_lt_findIdx (p := (· == s)) (xs := N) (i := i) (by omega)
   unfold Jy at e
   rw [List.getD_eq_getElem?_getD, List.getElem?_eq_getElem h] at e
   simp at this e
   exact absurd e this
theorem nmAt_mem {N : List Bs} {i : Nat} (h : i < N.length) : Jy N i ∈ N := by
 unfold Jy
 rw [List.getD_eq_getElem?_getD, List.getElem?_eq_getElem h]
 simp
def isF (N : List Bs) (i : Nat) : Bool := Ur N (Jy N i) == i
theorem isF_find {N : List Bs} {s : Bs} (h : s ∈ N) : isF N (Ur N s) = true := by unfold isF; rw [findN_at h]; simp
theorem isF_eq {N : List Bs} {i j : Nat} (hi : isF N i = true) (hj : isF N j = true) (e : Jy N i = Jy N j) : i = j := by
 unfold isF at *
 simp only [beq_iff_eq] at *
 rw [← hi, ← hj, e]
def Yw (N : List Bs) (k : Nat) : List Nat := ((Vl N).take k).filter (isF N)
def Wl (N : List Bs) : List Nat := (Vl N).filter (isF N)
theorem firstsK_all (N : List Bs) : Yw N N.length = Wl N := by
 unfold Yw Wl
 rw [List.take_of_length_le (by rw [Vb]; omega)]
def Wv (N : List Bs) (k : Nat) : Nat := (Vl N).getD k 0
theorem ordAt_get {N : List Bs} {k : Nat} (h : k < N.length) : (Vl N)[k]'(by rw [Vb]; exact h) = Wv N k := by
 unfold Wv; simp [List.getD, List.getElem?_eq_getElem (show k < (Vl N).length by rw [Vb]; exact h)]
theorem ordAt_lt {N : List Bs} {k : Nat} (h : k < N.length) : Wv N k < N.length := by
 have := List.getElem_mem (l := Vl N) (n := k) (by rw [Vb]; exact h)
 rw [ordAt_get h] at this
 exact orderN_mem.1 this
theorem take_ord {N : List Bs} {k : Nat} (h : k < N.length) : (Vl N).take (k + 1) = (Vl N).take k ++ [Wv N k] := by
 rw [List.take_succ_eq_append_getElem (by rw [Vb]; exact h), ordAt_get h]
theorem firstsK_yes {N : List Bs} {k : Nat} (h : k < N.length) (hf : isF N (Wv N k) = true) : Yw N (k + 1) = Yw N k ++ [Wv N k] := by
 unfold Yw
 rw [take_ord h, List.filter_append]
 simp [hf]
theorem firstsK_no {N : List Bs} {k : Nat} (h : k < N.length) (hf : isF N (Wv N k) = false) : Yw N (k + 1) = Yw N k := by
 unfold Yw
 rw [take_ord h, List.filter_append]
 simp [hf]
theorem firstsK_le (N : List Bs) (k : Nat) : (Yw N k).length ≤ k := by
 unfold Yw
 exact Nat.le_trans (List.length_filter_le _ _) (by simp; omega)
theorem before_take {N : List Bs} {k i : Nat} (hk : k < N.length) (hi : i < N.length) (hb : before N i (Wv N k)) : i ∈ (Vl N).take k := by
 have hm := orderN_mem.2 hi
 rw [← List.take_append_drop k (Vl N)] at hm
 rcases List.mem_append.1 hm with h | h
 · exact h
 · exfalso
   have hs := (orderN_is N).sorted
   rw [List.mem_iff_getElem] at h
   obtain ⟨j, hj, e⟩ := h
   rw [List.getElem_drop] at e
   have hj' : k + j < (Vl N).length := by simp at hj; omega
   by_cases j0 : j = 0
   · subst j0
     simp only [Nat.add_zero] at e
     rw [ordAt_get hk] at e
     rw [e] at hb
     exact before_irr _ _ hb
   · have := (List.pairwise_iff_getElem.1 hs) k (k + j) (by omega) hj' (by omega)
     rw [e, ordAt_get hk] at this
     exact before_asym hb this
theorem take_before {N : List Bs} {k i : Nat} (hk : k < N.length) (h : i ∈ (Vl N).take k) : before N i (Wv N k) := by
 rw [List.mem_iff_getElem] at h
 obtain ⟨j, hj, e⟩ := h
 rw [List.getElem_take] at e
 have hj' : j < k := by simp at hj; omega
 have := (List.pairwise_iff_getElem.1 (orderN_is N).sorted) j k (by rw [Vb]; omega) (by rw [Vb]; omega) hj'
 rw [e, ordAt_get hk] at this
 exact this
theorem firstsK_sorted (N : List Bs) (k : Nat) : (Yw N k).Pairwise (before N) := ((orderN_is N).sorted.sublist (List.take_sublist k _)).sublist List.filter_sublist
def lastK (N : List Bs) (k : Nat) : Nat := (Yw N k).getD ((Yw N k).length - 1) 0
theorem lastK_mem {N : List Bs} {k : Nat} (h : Yw N k ≠ []) : lastK N k ∈ Yw N k := by
 have : (Yw N k).length - 1 < (Yw N k).length := by have := List.length_pos_iff.2 h; omega
 unfold lastK
 rw [List.getD_eq_getElem?_getD, List.getElem?_eq_getElem this]
 simp
theorem lastK_ge {N : List Bs} {k i : Nat} (h : i ∈ Yw N k) : i = lastK N k ∨ before N i (lastK N k) := by
 have hne : Yw N k ≠ [] := by intro e; rw [e] at h; cases h
 have hl : (Yw N k).length - 1 < (Yw N k).length := by have := List.length_pos_iff.2 hne; omega
 have e : (Yw N k)[(Yw N k).length - 1] = lastK N k := by
   unfold lastK
   rw [List.getD_eq_getElem?_getD, List.getElem?_eq_getElem hl]
   simp
 rw [List.mem_iff_getElem] at h
 obtain ⟨j, hj, e2⟩ := h
 by_cases hjl : j = (Yw N k).length - 1
 · subst hjl; exact .inl (e2.symm.trans e)
 · have := (List.pairwise_iff_getElem.1 (firstsK_sorted N k)) j _ hj hl (by omega)
   rw [e, e2] at this
   exact .inr this
theorem isF_step {N : List Bs} {k : Nat} (hk : k < N.length) : isF N (Wv N k) = true ↔ Yw N k = [] ∨ Jy N (lastK N k) ≠ Jy N (Wv N k) := by
 have ho := ordAt_lt hk
 constructor
 · intro hf
   by_cases hne : Yw N k = []
   · exact .inl hne
   · right
     intro e
     have hm := lastK_mem hne
     obtain ⟨hm1, hm2⟩ := List.mem_filter.1 hm
     have := isF_eq hm2 hf e
     have hb := take_before hk hm1
     rw [this] at hb
     exact before_irr _ _ hb
 · intro h
   cases hf : isF N (Wv N k) with
   | true => rfl
   | false =>
     exfalso
     have hmem : Jy N (Wv N k) ∈ N := nmAt_mem ho
     have h0 : Ur N (Jy N (Wv N k)) ≠ Wv N k := by
       intro e; unfold isF at hf; rw [e] at hf; simp at hf
     have hle := findN_first ho rfl
     have hb : before N (Ur N (Jy N (Wv N k))) (Wv N k) := .inr ⟨findN_at hmem, by omega⟩
     have hin : Ur N (Jy N (Wv N k)) ∈ Yw N k := List.mem_filter.2 ⟨before_take hk (findN_lt.2 hmem) hb, isF_find hmem⟩
     rcases h with h | h
     · rw [h] at hin; cases hin
     · apply h
       have hne : Yw N k ≠ [] := by intro e; rw [e] at hin; cases hin
       have hl := take_before hk (List.mem_filter.1 (lastK_mem hne)).1
       have e0 := findN_at hmem
       rcases lastK_ge hin with e | g
       · rw [← e, e0]
       · rcases g with g | ⟨g, _⟩
         · rw [e0] at g
           rcases hl with hl | ⟨hl, _⟩
           · exact absurd hl (bs_asym g)
           · rw [hl] at g; exact absurd g (bs_irr _)
         · rw [← g, e0]
def dist (N : List Bs) : List Bs := (Wl N).map (Jy N)
theorem dist_len (N : List Bs) : (dist N).length = (Wl N).length := by simp [dist]
theorem firsts_le (N : List Bs) : (Wl N).length ≤ N.length := by rw [← firstsK_all]; exact firstsK_le N _
theorem dist_sorted (N : List Bs) : (dist N).Pairwise (· < ·) := by
 unfold dist
 rw [List.pairwise_map]
 have hs := firstsK_sorted N N.length
 rw [firstsK_all] at hs
 refine List.Pairwise.imp_of_mem ?_ hs
 intro a b ha hb h
 rcases h with h | ⟨h, h2⟩
 · exact h
 · have := isF_eq (List.mem_filter.1 ha).2 (List.mem_filter.1 hb).2 h
   omega
theorem dist_mem {N : List Bs} {s : Bs} : s ∈ dist N ↔ s ∈ N := by
 unfold dist
 rw [List.mem_map]
 constructor
 · rintro ⟨i, hi, rfl⟩
   exact nmAt_mem (orderN_mem.1 (List.mem_filter.1 hi).1)
 · intro h
   exact ⟨Ur N s, List.mem_filter.2 ⟨orderN_mem.2 (findN_lt.2 h), isF_find h⟩, findN_at h⟩
theorem countP_lt : ∀ {D : List Bs} (_ : D.Pairwise (· < ·)) (s : Bs) (t : Nat) (h : t < D.length), D[t] < s ↔ t < D.countP fun x => decide (x < s)
 | [], _, _, _, h => by simp at h
 | x :: D, hs, s, 0, h => by
   rw [List.countP_cons]
   by_cases hx : x < s
   · simp [hx]
   · simp only [List.getElem_cons_zero, hx, decide_false, false_iff]
     have : D.countP (fun y => decide (y < s)) = 0 := by
       rw [List.countP_eq_zero]
       intro y hy
       have := List.rel_of_pairwise_cons hs hy
       simp only [decide_eq_true_eq]
       exact fun k => hx (bs_trans this k)
     simp [this]
 | x :: D, hs, s, t + 1, h => by
   rw [List.countP_cons, List.getElem_cons_succ, countP_lt hs.of_cons s t (by simpa using h)]
   by_cases hx : x < s
   · simp [hx]
   · have : D.countP (fun y => decide (y < s)) = 0 := by
       rw [List.countP_eq_zero]
       intro y hy
       have := List.rel_of_pairwise_cons hs hy
       simp only [decide_eq_true_eq]
       exact fun k => hx (bs_trans this k)
     simp [hx, this]
def pos (N : List Bs) (s : Bs) : Nat := (dist N).countP fun x => decide (x < s)
theorem pos_le (N : List Bs) (s : Bs) : pos N s ≤ (Wl N).length := by rw [← dist_len]; exact List.countP_le_length
theorem pos_lt {N : List Bs} (s : Bs) {t : Nat} (h : t < (Wl N).length) : Jy N ((Wl N).getD t 0) < s ↔ t < pos N s := by
 have := countP_lt (dist_sorted N) s t (by rw [dist_len]; exact h)
 unfold pos
 rw [← this]
 unfold dist
 rw [List.getElem_map, List.getD_eq_getElem?_getD, List.getElem?_eq_getElem h]
 rfl
def nmF (N : List Bs) (t : Nat) : Bs := Jy N ((Wl N).getD t 0)
theorem nmF_get {N : List Bs} {t : Nat} (h : t < (Wl N).length) : (dist N)[t]'(by rw [dist_len]; exact h) = nmF N t := by
 unfold dist nmF
 rw [List.getElem_map, List.getD_eq_getElem?_getD, List.getElem?_eq_getElem h]
 rfl
theorem nmF_mem {N : List Bs} {t : Nat} (h : t < (Wl N).length) : nmF N t ∈ N := by
 rw [← nmF_get h]
 exact dist_mem.1 (List.getElem_mem _)
theorem nmF_mono {N : List Bs} {t u : Nat} (h : t < u) (hu : u < (Wl N).length) : nmF N t < nmF N u := by
 rw [← nmF_get hu, ← nmF_get (show t < _ by omega)]
 exact (List.pairwise_iff_getElem.1 (dist_sorted N)) t u _ _ h
theorem mem_nmF {N : List Bs} {s : Bs} (h : s ∈ N) : ∃ t, t < (Wl N).length ∧ nmF N t = s := by
 have := dist_mem.2 h
 rw [List.mem_iff_getElem] at this
 obtain ⟨t, ht, e⟩ := this
 rw [dist_len] at ht
 rw [nmF_get ht] at e
 exact ⟨t, ht, e⟩
def hit (N : List Bs) (s : Bs) : Bool := decide (pos N s < (Wl N).length ∧ nmF N (pos N s) = s)
theorem hit_iff {N : List Bs} {s : Bs} : hit N s = true ↔ s ∈ N := by
 unfold hit
 rw [decide_eq_true_eq]
 constructor
 · rintro ⟨h, e⟩
   rw [← e]; exact nmF_mem h
 · intro h
   obtain ⟨t, ht, e⟩ := mem_nmF h
   have ht2 : ¬ t < pos N s := by
     rw [← pos_lt s ht]
     show ¬ nmF N t < s
     rw [e]; exact bs_irr _
   have : pos N s = t := by
     by_cases hp : pos N s < t
     · exfalso
       have h1 := nmF_mono hp ht
       rw [e] at h1
       exact absurd ((pos_lt s (show pos N s < _ by omega)).1 h1) (by omega)
     · omega
   rw [this]; exact ⟨ht, e⟩
theorem hit_find {N : List Bs} {s : Bs} (h : hit N s = true) : (Wl N).getD (pos N s) 0 = Ur N s := by
 have hm := hit_iff.1 h
 unfold hit at h
 rw [decide_eq_true_eq] at h
 obtain ⟨h, e⟩ := h
 have hin : (Wl N).getD (pos N s) 0 ∈ Wl N := by
   rw [List.getD_eq_getElem?_getD, List.getElem?_eq_getElem h]; simp
 exact isF_eq (List.mem_filter.1 hin).2 (isF_find hm) (by rw [findN_at hm]; exact e)
theorem findZ_hit {N : List Bs} {s : Bs} (h : hit N s = true) : findZ N s = (Ur N s : Int) := by
 unfold findZ; rw [if_pos (findN_lt.2 (hit_iff.1 h))]
theorem findZ_no {N : List Bs} {s : Bs} (h : hit N s = false) : findZ N s = -1 := by
 unfold findZ; rw [if_neg]
 rw [findN_lt, ← hit_iff, h]; simp
def NextIs (N : List Bs) (s r : Bs) : Prop := (r = [] ∧ ∀ x ∈ N, ¬ s < x) ∨ (r ∈ N ∧ s < r ∧ ∀ x ∈ N, s < x → ¬ x < r)
theorem NextIs.unique {N : List Bs} {s r r' : Bs} (h : NextIs N s r) (g : NextIs N s r') : r = r' := by
 rcases h with ⟨rfl, h⟩ | ⟨h1, h2, h3⟩ <;> rcases g with ⟨rfl, g⟩ | ⟨g1, g2, g3⟩
 · rfl
 · exact absurd g2 (h _ g1)
 · exact absurd h2 (g _ h1)
 · rcases bs_tri r r' with k | k | k
   · exact absurd k (g3 _ h1 h2)
   · exact k
   · exact absurd k (h3 _ g1 g2)
def Uz (N : List Bs) : Int := match (List.range N.length).find? (fun i => !isF N i) with | some i => (i : Int) | none => -1
theorem find_range {p : Nat → Bool} {n i : Nat} (hi : i < n) (hp : p i = true) (hb : ∀ j, j < i → p j = false) : (List.range n).find? p = some i := by
 rw [List.find?_eq_some_iff_append]
 refine ⟨hp, List.range i, (List.range n).drop (i + 1), ?_, ?_⟩
 · have h1 := (List.take_append_drop i (List.range n)).symm
   rw [List.take_range, Nat.min_eq_left (Nat.le_of_lt hi), List.drop_eq_getElem_cons (by simpa using hi)] at h1
   simpa using h1
 · intro a ha; simpa using hb a (List.mem_range.1 ha)
theorem twice_at {N : List Bs} {i : Nat} (hi : i < N.length) (h : isF N i = false) (hb : ∀ j, j < i → isF N j = true) : Uz N = i := by
 unfold Uz
 rw [find_range (p := fun i => !isF N i) hi (by simp [h]) (fun j hj => by simp [hb j hj])]
theorem twice_no {N : List Bs} (hb : ∀ j, j < N.length → isF N j = true) : Uz N = -1 := by
 unfold Uz
 rw [List.find?_eq_none.2 (fun x hx => by simp [hb x (List.mem_range.1 hx)])]
theorem isF_lt {N : List Bs} {i : Nat} (hi : i < N.length) : findZ N (Jy N i) = (Ur N (Jy N i) : Int) ∧ Ur N (Jy N i) ≤ i := by
 have hm := nmAt_mem hi
 exact ⟨by unfold findZ; rw [if_pos (findN_lt.2 hm)], findN_first hi rfl⟩
theorem isF_of {N : List Bs} {i : Nat} (hi : i < N.length) (b : Bool) (h : isF N i = b) : findZ N (Jy N i) < i ↔ b = false := by
 obtain ⟨h1, h2⟩ := isF_lt hi
 rw [h1]
 unfold isF at h
 cases b
 · simp at h; simp; omega
 · simp at h; simp; omega
end Go.Proofs.YtdhmklnfiaahhaaGreat
namespace Go.Proofs.YtdhmklnfiaahhaaGreat
open Go Go.RowKit Go.Lib
set_option linter.unusedVariables false
theorem sCompare_any (a b : ByteArray) (w : World) : Calls Tryz.prog 229 #[.string a, .string b] w fun e w' => e = .returned (.int .i64 (Lib.compareBytes a.toList b.toList)) ∧ w = w' := by
 have h := Any.strings_Compare compareL a b w
 change Calls Tryz.prog 229 _ _ _ at h
 rw [← Lib.toList_data, ← Lib.toList_data] at h
 exact h.mono fun e w' h => ⟨h.1, h.2.symm⟩
theorem compareInt_cases (x y : Int) : (x < y ∧ Lib.compareInt x y = -1) ∨ (x = y ∧ Lib.compareInt x y = 0) ∨ (y < x ∧ Lib.compareInt x y = 1) := by
 unfold Lib.compareInt
 by_cases h1 : x < y
 · simp [h1]
 · by_cases h2 : x > y
   · right; right; simp [h1, h2]
   · right; left; refine ⟨by omega, by simp [h1, h2]⟩
theorem isNaNi_any (x : Int) (w : World) : Calls Tryz.prog 256 #[.int .i64 x] w fun e w' => e = .returned (.bool false) ∧ w = w' := by
 go_enter Tryz.func256, Tryz.ntmps256
 go_wp2
 go_ret
 exact ⟨by simp, rfl⟩
theorem cCompare_any (x y : Int) (w : World) : Calls Tryz.prog 230 #[.int .i64 x, .int .i64 y] w fun e w' => e = .returned (.int .i64 (Lib.compareInt x y)) ∧ w = w' := by
 obtain ⟨h, e⟩ | ⟨h, e⟩ | ⟨h, e⟩ := compareInt_cases x y
 all_goals
   rw [e]; clear e
   first | (have h1 : decide (x < y) = true := by simp [h]) | (have h1 : decide (x < y) = false := by simp; omega)
   first | (have h2 : decide (y < x) = true := by simp [h]) | (have h2 : decide (y < x) = false := by simp; omega)
   clear h
   go_enter Tryz.func230, Tryz.ntmps230
   go_wp2_with (go_at_call 256; refine (isNaNi_any _ _).mono ?_; rintro e w' ⟨rfl, rfl⟩)
   go_ret
   exact ⟨rfl, rfl⟩
theorem cOr_any (g : Nat) (a b : Int) (w : World) (c0 : w.cell? ⟨g, 0, none⟩ = some (.int .i64 a)) (c1 : w.cell? ⟨g, 1, none⟩ = some (.int .i64 b)) :
   Calls Tryz.prog 228 #[.slice (some ⟨g, 0, none⟩) 2 2] w fun e w' => e = .returned (.int .i64 (if a = 0 then b else a)) ∧ w = w' := by
 by_cases h0 : a = 0
 · subst h0
   rw [if_pos rfl]
   by_cases h1 : b = 0
   · subst h1
     go_enter Tryz.func228, Tryz.ntmps228
     go_wp2
     refine wp_loop_rounds 3 ?_
     rw [rounds_succ]
     go_wp2
     rw [rounds_succ]
     go_wp2
     rw [rounds_succ]
     go_wp2
     go_ret
     exact ⟨rfl, rfl⟩
   · have h1' : (b == 0) = false := by simpa using h1
     go_enter Tryz.func228, Tryz.ntmps228
     go_wp2
     refine wp_loop_rounds 3 ?_
     rw [rounds_succ]
     go_wp2
     rw [rounds_succ]
     go_wp2
     go_ret
     exact ⟨rfl, rfl⟩
 · rw [if_neg h0]
   have h1' : (a == 0) = false := by simpa using h0
   go_enter Tryz.func228, Tryz.ntmps228
   go_wp2
   refine wp_loop_rounds 3 ?_
   rw [rounds_succ]
   go_wp2
   go_ret
   exact ⟨rfl, rfl⟩
end Go.Proofs.YtdhmklnfiaahhaaGreat
namespace Go.Proofs.YtdhmklnfiaahhaaGreat
open Go Go.RowKit Go.Lib Go.Sort
set_option linter.unusedVariables false
def Zax (W w : World) : Prop := ∃ q os, w = grow (W.drewN q) os
theorem Zax.refl (W : World) : Zax W W := ⟨0, #[], by rw [grow_empty]; rfl⟩
theorem Zax.drew {W w : World} (h : Zax W w) : Zax W w.drew := by
 obtain ⟨q, os, rfl⟩ := h
 exact ⟨q + 1, os, rfl⟩
theorem Zax.alloc {W w : World} (h : Zax W w) (o : Obj) : Zax W (w.alloc o) := by
 obtain ⟨q, os, rfl⟩ := h
 exact ⟨q, os.push o, by unfold World.alloc grow; simp⟩
theorem add_lt {x : Addr} {n : Nat} (h : x.block < n) (i : Nat) : (x.add i).block < n := by unfold Addr.add; split <;> exact h
theorem kept3 {W : World} {p : Addr} {v : Value} {o : Obj} (h : p.block < W.heap.size) (hc : W.cell? p = some v) : (W.alloc o).drew.cell? p = some v :=
 (((Below.refl W.heap.size W).alloc (Nat.le_refl _) o).cell (p := p) h).trans hc
theorem new0 (W : World) (a b : Value) (t : TypeId) : (W.alloc (.cells #[a, b] t)).drew.cell? ⟨W.heap.size, 0, none⟩ = some a := by simp
theorem new1 (W : World) (a b : Value) (t : TypeId) : (W.alloc (.cells #[a, b] t)).drew.cell? ⟨W.heap.size, 1, none⟩ = some b := by simp
def cmpP (a b : ByteArray) (i j : Nat) : Int := if Lib.compareBytes a.toList b.toList = 0 then Lib.compareInt i j else Lib.compareBytes a.toList b.toList
theorem closure_any (c : Nat) (x : Addr) (n cap : Nat) (a b : ByteArray) (i j : Nat) (W : World) (hi : i < n) (hj : j < n) (hx : x.block < W.heap.size) (hcb : c < W.heap.size) (hn : n ≤ maxLen)
   (hc : W.cell? ⟨c, 0, none⟩ = some (.slice (some x) n cap)) (hli : W.cell? (x.add i) = some (.string a)) (hlj : W.cell? (x.add j) = some (.string b)) :
   Calls Tryz.prog 227 #[.int .i64 i, .int .i64 j, .pointer (some ⟨c, 0, none⟩)] W fun e w' => e = .returned (.int .i64 (cmpP a b i j)) ∧ Zax W w' := by
 unfold cmpP maxLen at *
 obtain ⟨r, hr⟩ : ∃ r, Lib.compareBytes a.toList b.toList = r := ⟨_, rfl⟩
 obtain ⟨u, hu⟩ : ∃ u, Lib.compareInt i j = u := ⟨_, rfl⟩
 have k1 := fun w => sCompare_any a b w
 have k2 := fun w => cCompare_any i j w
 rw [hr] at k1 ⊢
 rw [hu] at k2 ⊢
 have k3 := fun g w h0 h1 => cOr_any g r u w h0 h1
 obtain ⟨v, hv⟩ : ∃ v, (if r = 0 then u else r) = v := ⟨_, rfl⟩
 simp only [hv] at k3 ⊢
 clear hr hu hv
 go_enter Tryz.func227, Tryz.ntmps227
 go_wp2_with fail
 go_region_held3 (fun w => w.cell? ⟨c, 0, none⟩ = some (.slice (some x) n cap) ∧ w.cell? (x.add i) = some (.string a) ∧ w.cell? (x.add j) = some (.string b) ∧ Zax W w) (first
 | exact ⟨hc, hli, hlj, Zax.refl _⟩
 | exact ⟨hc, hli, hlj, Zax.drew (Zax.refl _)⟩
 | exact ⟨kept3 hcb hc, kept3 (add_lt hx i) hli, kept3 (add_lt hx j) hlj, Zax.drew (Zax.alloc (Zax.refl _) _)⟩) (first
 | (go_at_call 229; (with_reducible refine (k1 _).mono ?_); rintro e w1 ⟨rfl, rfl⟩)
 | (go_at_call 230; (with_reducible refine (k2 _).mono ?_); rintro e w1 ⟨rfl, rfl⟩)
 | (go_at_call 228; (with_reducible refine (k3 _ _ (new0 _ _ _ _) (new1 _ _ _ _)).mono ?_); rintro e w1 ⟨rfl, rfl⟩))
 go_wp2
 go_ret
 exact ⟨rfl, Zax.drew (Zax.alloc (Zax.refl _) _)⟩
end Go.Proofs.YtdhmklnfiaahhaaGreat
namespace Go.Proofs.YtdhmklnfiaahhaaGreat
open Go Go.RowKit Go.Lib Go.Sort
set_option linter.unusedVariables false
set_option linter.unusedSimpArgs false
def Yt (L : List ByteArray) : List Bs := L.map ByteArray.toList
theorem Wo (L : List ByteArray) : (Yt L).length = L.length := by simp [Yt]
def nmS (L : List ByteArray) (i : Nat) : ByteArray := L.getD i ByteArray.empty
theorem nmS_at (L : List ByteArray) (i : Nat) : Jy (Yt L) i = (nmS L i).toList := by
 unfold Jy nmS Yt
 rw [List.getD_eq_getElem?_getD, List.getD_eq_getElem?_getD, List.getElem?_map]
 cases L[i]? with
 | none => simp [ByteArray.toList_empty]
 | some x => rfl
theorem cmpP_lt (a b : ByteArray) (i j : Nat) : cmpP a b i j < 0 ↔ (a.toList < b.toList ∨ (a.toList = b.toList ∧ i < j)) := by
 obtain ⟨h1, h2⟩ := compareBytes_lt a.toList b.toList
 unfold cmpP
 by_cases h : Lib.compareBytes a.toList b.toList = 0
 · rw [if_pos h]
   have e := h2.1 h
   rw [e]
   have hn : ¬ b.toList < b.toList := bs_irr _
   rcases compareInt_cases i j with ⟨k, ke⟩ | ⟨k, ke⟩ | ⟨k, ke⟩ <;> rw [ke] <;> simp [hn] <;> omega
 · rw [if_neg h, h1]
   have hn : ¬ a.toList = b.toList := fun e => h (h2.2 e)
   simp [hn]
def cfF (L : List ByteArray) (n : Nat) (x y : Fin n) : Int := cmpP (nmS L x) (nmS L y) x y
theorem ltF (L : List ByteArray) (n : Nat) (x y : Fin n) : ltOf (cfF L n) x y = decide (before (Yt L) x y) := by
 have h := cmpP_lt (nmS L x) (nmS L y) x y
 rw [← nmS_at, ← nmS_at] at h
 unfold ltOf cfF
 exact decide_eq_decide.2 h
theorem swoF (L : List ByteArray) (n : Nat) : SWO (ltOf (cfF L n)) where
 irrefl x := by rw [ltF]; simp [before_irr]
 trans x y z h1 h2 := by rw [ltF] at *; simp only [decide_eq_true_eq] at *; exact Zat h1 h2
 ntrans x y z h1 h2 := by
   rw [ltF] at *
   simp only [decide_eq_false_iff_not] at *
   intro h
   by_cases e : (x : Nat) = y
   · rw [e] at h; exact h2 h
   · rcases before_tot (Yt L) e with k | k
     · exact h1 k
     · by_cases e2 : (y : Nat) = z
       · rw [← e2] at h; exact h1 h
       · rcases before_tot (Yt L) e2 with k2 | k2
         · exact h2 k2
         · exact before_irr _ _ (Zat h (Zat k2 k))
theorem totF (L : List ByteArray) (n : Nat) (x y : Fin n) (h1 : ltOf (cfF L n) x y = false) (h2 : ltOf (cfF L n) y x = false) : x = y := by
 rw [ltF] at *
 simp only [decide_eq_false_iff_not] at *
 by_cases e : (x : Nat) = y
 · exact Fin.ext e
 · rcases before_tot (Yt L) e with k | k
   · exact absurd k h1
   · exact absurd k h2
theorem sortedF (L : List ByteArray) : ((List.finRange L.length).mergeSort fun x y => !ltOf (cfF L L.length) y x).map Fin.val = Vl (Yt L) := by
 apply orderN_eq
 have e0 : (List.finRange L.length).map Fin.val = List.range L.length := by
   apply List.ext_getElem (by simp)
   intro i h1 h2
   simp
 constructor
 · rw [Wo, ← e0]
   exact (List.mergeSort_perm _ _).map _
 · rw [List.pairwise_map]
   have hs := List.pairwise_mergeSort (le := fun x y => !ltOf (cfF L L.length) y x) (by
       intro a b c h1 h2
       simp only [Bool.not_eq_true'] at *
       exact (swoF L L.length).ntrans c b a h2 h1) (by
       intro a b
       cases h : ltOf (cfF L L.length) b a with
       | false => simp
       | true => simp [(swoF L L.length).asymmA h]) (List.finRange L.length)
   have hn : ((List.finRange L.length).mergeSort fun x y => !ltOf (cfF L L.length) y x).Nodup := (List.mergeSort_perm _ _).nodup_iff.2 (by
     have : ((List.finRange L.length).map Fin.val).Nodup := by rw [e0]; exact List.nodup_range
     exact List.Pairwise.of_map Fin.val (fun a b h e => h (by rw [e])) this)
   refine (hs.and hn).imp ?_
   intro a b ⟨h1, h2⟩
   simp only [Bool.not_eq_true'] at h1
   rw [ltF, decide_eq_false_iff_not] at h1
   have hne : (a : Nat) ≠ b := fun e => h2 (Fin.ext e)
   rcases before_tot (Yt L) hne with k | k
   · exact k
   · exact absurd k h1
theorem below_putRow' {α : Type} [Inhabited α] (enc : α → Value) {B : Nat} {w0 w : World} {g q : Nat} {d : Array α} (h : Below B w0 w) (hg : B ≤ g) : Below B w0 (putRow enc (Sort.ahead w q) g 0 d) := by
 refine ⟨h.os, h.tape, h.output, ?_, ?_⟩
 · rw [size_putRow]; exact h.size
 · intro k hk
   rw [← h.block k hk]
   unfold putRow mapBlock
   simp only [Array.getElem?_modify]
   rw [if_neg (by omega)]
   rfl
theorem below_grow' {B : Nat} {w0 w : World} (h : Below B w0 w) (hB : B ≤ w.heap.size) (os : Array Obj) : Below B w0 (grow w os) := by
 refine ⟨h.os, h.tape, h.output, ?_, ?_⟩
 · rw [size_grow]; have := h.size; omega
 · intro k hk
   rw [← h.block k hk]
   unfold grow
   exact Array.getElem?_append_left (by omega)
def Xz (O : List Nat) : List Value := O.map fun i : Nat => Value.int .i64 (i : Int)
def ordArr (n k : Nat) : Array Value := ((List.range n).map fun i => Value.int .i64 (if i < k then (i : Int) else 0)).toArray
theorem ordArr_zero (n : Nat) : madeCells #[.int .i64 0] n = ordArr n 0 := by
 apply Array.ext'
 rw [toList_madeCells_one]
 simp only [ordArr, Nat.not_lt_zero, if_false]
 rw [List.map_const', List.length_range]
theorem ordArr_get (n k i : Nat) (h : i < n) : (ordArr n k)[i]? = some (.int .i64 (if i < k then (i : Int) else 0)) := by
 simp [ordArr, h]
theorem ordArr_set {n k : Nat} (h : k < n) : (ordArr n k).setIfInBounds k (.int .i64 k) = ordArr n (k + 1) := by
 apply Array.ext_getElem?
 intro i
 rw [Array.getElem?_setIfInBounds]
 by_cases e : k = i
 · subst e
   rw [if_pos rfl, if_pos (by simp [ordArr, h]), ordArr_get n _ k h, if_pos (by omega)]
 · rw [if_neg e]
   by_cases hi : i < n
   · rw [ordArr_get n k i hi, ordArr_get n _ i hi]
     by_cases h1 : i < k
     · rw [if_pos h1, if_pos (by omega)]
     · rw [if_neg h1, if_neg (by omega)]
   · rw [Array.getElem?_eq_none (by simp [ordArr]; omega), Array.getElem?_eq_none (by simp [ordArr]; omega)]
theorem fin_get! {n : Nat} [Inhabited (Fin n)] (j : Nat) (h : j < n) : ((List.finRange n).toArray[j]! : Fin n).val = j := by
 rw [getElem!_pos _ _ (by simpa using h)]
 simp
theorem sort_any (c g : Nat) (x : Addr) (n cap : Nat) (L : List ByteArray) (W : World) (hn : L.length = n) (h0 : 0 < n) (hmax : n ≤ 1000000)
   (hbox : W.cell? ⟨c, 0, none⟩ = some (.slice (some x) n cap)) (hx : x.block < W.heap.size) (hL : ∀ i, i < n → W.cell? (x.add i) = some (.string (nmS L i)))
   (hcg : c ≠ g) (hxg : x.block ≠ g) (hw : Zb W g 3 (ordArr n n)) (hB : ∀ B, B ≤ g → B ≤ W.heap.size) :
   Calls Tryz.prog 226 #[.slice (some ⟨g, 0, none⟩) n n, .func (.func 227) #[] #[.pointer (some ⟨c, 0, none⟩)]] W fun e w' =>
     e = .returned (.tuple #[]) ∧ (∀ B, B ≤ g → Below B W w') ∧ Jg w' (some ⟨g, 0, none⟩) (Xz (Vl (Yt L))) := by
 subst hn
 have hne : NeZero L.length := ⟨by omega⟩
 have hInh : Inhabited (Fin L.length) := ⟨⟨0, h0⟩⟩
 have hcb := World.block_lt_of_cell? _ _ hbox
 have hH : Holds (fun i : Fin L.length => Value.int .i64 (i.val : Int)) W g 0 (List.finRange L.length).toArray := by
   intro j hj
   have hj' : j < L.length := by simpa using hj
   refine ⟨?_, ?_⟩
   · rw [hw.read, Nat.zero_add, ordArr_get _ _ _ hj', if_pos hj']
     exact congrArg some (vI (by rw [fin_get! j hj']))
   · exact hw.thawed _
 have eg : ∀ args w, (callFunc 227 args).run Tryz.prog w = .ok (.enter 227 args) w := enters_of Tryz.func227 (by kernel_rfl) rfl
 have hcmp : CmpLays1 Tryz.prog 227 #[.pointer (some ⟨c, 0, none⟩)] (fun i : Fin L.length => Value.int .i64 (i.val : Int)) (cfF L L.length) g 0 (List.finRange L.length).toArray.size W := by
   intro m os dk hs i j
   have key : ∀ p : Addr, p.block < W.heap.size → p.block ≠ g → (sortWorld (fun i : Fin L.length => Value.int .i64 (i.val : Int)) W g 0 m dk os).cell? p = W.cell? p := by
     intro p hp hpg
     unfold sortWorld
     rw [cell?_grow _ _ _ (by rw [size_putRow]; exact hp), cell?_putRow_other _ _ _ _ _ _ (.inl hpg)]
     rfl
   have hsz : W.heap.size ≤ (sortWorld (fun i : Fin L.length => Value.int .i64 (i.val : Int)) W g 0 m dk os).heap.size := by
     unfold sortWorld
     rw [size_grow, size_putRow]
     show W.heap.size ≤ W.heap.size + _
     omega
   refine (closure_any c x L.length cap (nmS L i) (nmS L j) i j _ i.isLt j.isLt (by omega) (Nat.lt_of_lt_of_le hcb hsz) (by unfold maxLen; omega) ?_ ?_ ?_).mono ?_
   · rw [key _ hcb hcg]; exact hbox
   · rw [key _ (add_lt hx _) (by unfold Addr.add; split <;> exact hxg)]; exact hL _ i.isLt
   · rw [key _ (add_lt hx _) (by unfold Addr.add; split <;> exact hxg)]; exact hL _ j.isLt
   · intro e w' h
     exact h
 have h := Any.slices_SortFunc_total sortL (fun i : Fin L.length => Value.int .i64 (i.val : Int)) (fun _ => rfl) (cfF L L.length) (swoF L L.length) 227 #[.pointer (some ⟨c, 0, none⟩)] g 0 L.length (List.finRange L.length).toArray W eg hcmp hH hw.inside (by simp; omega) (totF L L.length)
 change Calls Tryz.prog 226 _ _ _ at h
 have es : (List.finRange L.length).toArray.size = L.length := by simp
 rw [es] at h
 refine h.mono ?_
 rintro e w' ⟨rfl, q, os, rfl⟩
 refine ⟨rfl, fun B hg => below_grow' (below_putRow' _ (Below.refl _ _) hg) (by rw [size_putRow]; exact hB B hg) _, ?_⟩
 have hs : ((List.finRange L.length).toArray.toList.mergeSort fun x y => !ltOf (cfF L L.length) y x).toArray.size = (List.finRange L.length).toArray.size := by simp
 have hh := SW.holds (⟨q, os, rfl⟩ : SW (fun i : Fin L.length => Value.int .i64 (i.val : Int)) W g 0 _ (sortWorld (fun i : Fin L.length => Value.int .i64 (i.val : Int)) W g 0 q ((List.finRange L.length).toArray.toList.mergeSort fun x y => !ltOf (cfF L L.length) y x).toArray os)) hw.inside hH hs
 refine .inr ⟨_, rfl, ?_, fun j hj => ?_⟩
 · unfold sortWorld; rw [size_grow, size_putRow]; have := hw.inside; show g < W.heap.size + _; omega
 · rw [Addr.add_lit]
   have hj2 : j < L.length := by simpa [Xz, Vb, Wo] using hj
   have := (hh j (by rw [hs]; simpa using hj2)).1
   rw [this]
   unfold Xz
   rw [← sortedF, List.map_map, List.getElem?_map]
   rw [getElem!_pos _ _ (by rw [hs]; simpa using hj2)]
   simp only [List.getElem_toArray, Function.comp]
   rw [List.getElem?_eq_getElem (by simpa using hj2)]
   rfl
end Go.Proofs.YtdhmklnfiaahhaaGreat
namespace Go.Proofs.YtdhmklnfiaahhaaGreat
open Go Go.RowKit Go.Lib Go.Sort
set_option linter.unusedVariables false
def Wj (L : List ByteArray) : List Value := L.map Value.string
theorem strCs_get {L : List ByteArray} {i : Nat} (h : i < L.length) : (Wj L)[i]? = some (.string (nmS L i)) := by
 unfold Wj nmS
 rw [List.getElem?_map, List.getElem?_eq_getElem h, List.getD_eq_getElem?_getD, List.getElem?_eq_getElem h]
 rfl
def OrderIs (N : List Bs) (n : Nat) (w : World) (e : Ending) (w' : World) : Prop :=
 ∃ g, e = .returned (.slice (some ⟨g, 0, none⟩) n n) ∧ w.heap.size ≤ g ∧ g < w'.heap.size ∧ Jg w' (some ⟨g, 0, none⟩) (Xz (Vl N)) ∧ Below w.heap.size w w'
theorem make_ints (n : Nat) (hn : n ≤ 1000000) (w : World) : (Instr.makeSlice 257 (.int .i64 (n : Int)) (.int .i64 (n : Int))).run Tryz.prog w = .ok (.slice (some ⟨w.heap.size, 0, none⟩) n n) (w.alloc (.cells (ordArr n 0) 3)) := by
 rw [← ordArr_zero]
 exact run_make_row' 257 3 (.int .i64 0) 8 (by kernel_rfl) (by kernel_rfl) rfl .i64 .i64 n (by omega) (by omega) w
theorem sort_none (c g : Nat) (W : World) : Calls Tryz.prog 226 #[.slice (some ⟨g, 0, none⟩) 0 0, .func (.func 227) #[] #[.pointer (some ⟨c, 0, none⟩)]] W fun e w' => e = .returned (.tuple #[]) ∧ W = w' :=
 (AnyF.slices_SortFunc_none (P := Tryz.prog) (ρ := sortL_ren) { sortL with } (some ⟨g, 0, none⟩) 0 (.func (.func 227) #[] #[.pointer (some ⟨c, 0, none⟩)]) W).mono fun e w' h => ⟨h.1, h.2.symm⟩
theorem order_any (A : Option Addr) (cap : Nat) (L : List ByteArray) (w : World) (hr : Jg w A (Wj L)) (hmax : L.length ≤ 1000000) :
   Calls Tryz.prog 194 #[.slice A L.length cap] w (OrderIs (Yt L) L.length w) := by
 obtain ⟨n, hn⟩ : ∃ n, L.length = n := ⟨_, rfl⟩
 have hmk := make_ints n (by omega)
 have hlenS : (Wj L).length = n := by unfold Wj; rw [List.length_map]; exact hn
 have HN := Hh hn
 rw [hn]
 rw [hn] at hmax
 clear hn
 go_enter Tryz.func194, Tryz.ntmps194
 go_wp2
 go_loopw [10] (fun i wr => ∃ k : Nat, k ≤ n ∧ i = .int .i64 k ∧ Zb wr w.heap.size 70 #[.slice A n cap] ∧ Zb wr (w.heap.size + 1) 3 (ordArr n k) ∧ Below w.heap.size w wr ∧ wr.heap.size = w.heap.size + 2) (fun i _ => n - (intOf i).toNat)
 case atStart =>
   refine ⟨0, by omega, rfl, ?_, ?_, ?_, ?_⟩
   · exact (Zb.made w _ _).alloc _
   · have := Zb.made (w.alloc (.cells #[.slice A n cap] 70)) 3 (ordArr n 0)
     simpa using this
   · exact ((Below.refl _ _).alloc (Nat.le_refl _) _).alloc (by simp) _
   · simp
 case round =>
   obtain ⟨k, hk, rfl, hw1, hw2, hb, hz⟩ := hrel
   by_cases hlt : k < n
   · have hc := hw2.read k
     rw [ordArr_get n k k hlt] at hc
     have hf := hw2.thawed k
     have HW1 := Hh hw1
     have HW2 := Hh hw2
     have HZ := Hh hz
     clear hw1 hw2 hz
     go_wp2
     go_roundw
     case rel =>
       refine ⟨k + 1, by omega, by go_num, HW1.out.aside (by simp) _, ?_, hb.setCell (by simp) _, ?_⟩
       · have := HW2.out.write k (.int .i64 k)
         rw [ordArr_set hlt] at this
         exact this
       · simp [HZ.out]
     case measure => simp [intOf]; omega
   · have hkn : k = n := by omega
     subst hkn
     by_cases h0 : 0 < k
     · obtain ⟨x, rfl, hx, hc⟩ := hr.at_ (by omega)
       have hs := sort_any w.heap.size (w.heap.size + 1) x k cap L wr HN.out h0 hmax (by rw [hw1.read]; rfl) (Nat.lt_of_lt_of_le hx hb.size)
         (fun i hi => by
           rw [hb.cell (p := x.add i) (add_lt hx i), hc i (by omega)]
           exact strCs_get (by rw [HN.out]; exact hi))
         (by omega) (by omega) hw2 (fun B hB => by omega)
       have HW1 := Hh hw1
       have HW2 := Hh hw2
       have HZ := Hh hz
       have HB := Hh hb
       clear hw1 hw2 hz hb hc hr
       go_wp2_with (go_at_call 226; refine hs.mono ?_; rintro e w' ⟨rfl, hb2, hr2⟩; have HB2 := Hh hb2; have HR2 := Hh hr2; clear hb2 hr2)
       go_ret
       refine ⟨w.heap.size + 1, rfl, by omega, ?_, HR2.out, HB.out.trans (HB2.out w.heap.size (by omega))⟩
       have := (HB2.out (w.heap.size + 1) (Nat.le_refl _)).size
       have := HZ.out
       omega
     · obtain rfl : k = 0 := by omega
       have HW1 := Hh hw1
       have HW2 := Hh hw2
       have HZ := Hh hz
       have HB := Hh hb
       clear hw1 hw2 hz hb hr
       go_wp2_with (go_at_call 226; refine (sort_none _ _ _).mono ?_; rintro e w' ⟨rfl, rfl⟩)
       go_ret
       refine ⟨w.heap.size + 1, rfl, by omega, by rw [HZ.out]; omega, .inl ?_, HB.out⟩
       apply List.eq_nil_of_length_eq_zero
       unfold Xz
       rw [List.length_map, Vb, Wo, HN.out]
end Go.Proofs.YtdhmklnfiaahhaaGreat
namespace Go.Proofs.YtdhmklnfiaahhaaGreat
open Go Go.RowKit Go.Lib Go.Sort
set_option linter.unusedVariables false
def nmK (L : List ByteArray) (k : Nat) : List ByteArray := (Yw (Yt L) k).map (nmS L)
def fK (L : List ByteArray) (k : Nat) : Nat := (Yw (Yt L) k).length
structure Zav (L : List ByteArray) (W : World) (X k : Nat) (v0 v1 : Value) (wr : World) : Prop where
 x : Zb wr X 259 #[v0, v1]
 d : wr.ownsRow W.heap.size 9 1 v0 (fK L k) (Wj (nmK L k))
 i : wr.ownsRow W.heap.size 3 1 v1 (fK L k) (Xz (Yw (Yt L) k))
 ap : Apart v0 v1
 kp : Zo (fun b => b = X ∨ W.heap.size ≤ b) W wr
theorem Zav.start {L : List ByteArray} {W : World} {X : Nat} (h : Zb W X 259 #[.slice none 0 0, .slice none 0 0]) : Zav L W X 0 (.slice none 0 0) (.slice none 0 0) W :=
 ⟨h, World.ownsRow_nil _ _ _ _, World.ownsRow_nil _ _ _ _, Apart.nil _, Zo.refl _ _⟩
theorem Zav.drew {L : List ByteArray} {W wr : World} {X k : Nat} {v0 v1 : Value} (h : Zav L W X k v0 v1 wr) : Zav L W X k v0 v1 wr.drew :=
 ⟨h.x, h.d.drew, h.i.drew, h.ap, h.kp.drew⟩
theorem Zav.drewN {L : List ByteArray} {W wr : World} {X k : Nat} {v0 v1 : Value} (h : Zav L W X k v0 v1 wr) (q : Nat) : Zav L W X k v0 v1 (wr.drewN q) :=
 ⟨h.x, h.d, h.i, h.ap, ⟨h.kp.os, h.kp.tape, h.kp.output, h.kp.size, h.kp.block⟩⟩
theorem Zav.no {L : List ByteArray} {W wr : World} {X k : Nat} {v0 v1 : Value} (h : Zav L W X k v0 v1 wr) (hk : k < L.length) (hf : isF (Yt L) (Wv (Yt L) k) = false) : Zav L W X (k + 1) v0 v1 wr := by
 have e := firstsK_no (N := Yt L) (by rw [Wo]; exact hk) hf
 refine ⟨h.x, ?_, ?_, h.ap, h.kp⟩
 · unfold fK nmK; rw [e]; exact h.d
 · unfold fK; rw [e]; exact h.i
structure NewMid (L : List ByteArray) (W : World) (X k : Nat) (v0 v1 : Value) (wr : World) : Prop where
 x : Zb wr X 259 #[v0, v1]
 d : wr.ownsRow W.heap.size 9 1 v0 (fK L k + 1) (Wj (nmK L (k + 1)))
 i : wr.ownsRow W.heap.size 3 1 v1 (fK L k) (Xz (Yw (Yt L) k))
 ap : Apart v0 v1
 kp : Zo (fun b => b = X ∨ W.heap.size ≤ b) W wr
theorem nmK_yes {L : List ByteArray} {k : Nat} (hk : k < L.length) (hf : isF (Yt L) (Wv (Yt L) k) = true) :
   fK L (k + 1) = fK L k + 1 ∧ Wj (nmK L (k + 1)) = Wj (nmK L k) ++ [.string (nmS L (Wv (Yt L) k))] ∧ Xz (Yw (Yt L) (k + 1)) = Xz (Yw (Yt L) k) ++ [.int .i64 (Wv (Yt L) k : Int)] := by
 have e := firstsK_yes (N := Yt L) (by rw [Wo]; exact hk) hf
 unfold fK nmK Wj Xz
 rw [e]
 simp
theorem Zav.mid {L : List ByteArray} {W wr w3 Y : World} {X k gg cap1 : Nat} {v0 v1 : Value} {o : Obj} {a : ByteArray} (h : Zav L W X k v0 v1 wr) (hX : X < W.heap.size) (hk : k < L.length)
   (hf : isF (Yt L) (Wv (Yt L) k) = true) (ha : nmS L (Wv (Yt L) k) = a) (hgrow : Y.grownBy w3 v0.ownBlock)
   (hown : w3.ownsRow W.heap.size 9 1 (.slice (some ⟨gg, 0, none⟩) (fK L k + 1) cap1) (fK L k + 1) (Wj (nmK L k) ++ [.string a])) (hat : v0.ownBlock = some gg ∨ gg = wr.heap.size + 1) (l : Zaw Y wr o) :
   NewMid L W X k (.slice (some ⟨gg, 0, none⟩) (fK L k + 1) cap1) v1 (w3.setCell ⟨X, 0, none⟩ (.slice (some ⟨gg, 0, none⟩) (fK L k + 1) cap1)) := by
 subst ha
 obtain ⟨e1, e2, e3⟩ := nmK_yes hk hf
 have hWr := h.kp.size
 have hgg : W.heap.size ≤ gg := (hown.lt gg rfl).1
 have hv0 : ∀ b, v0.ownBlock = some b → W.heap.size ≤ b := fun b hb => (h.d.lt b hb).1
 have hv1 : ∀ b, v1.ownBlock = some b → W.heap.size ≤ b := fun b hb => (h.i.lt b hb).1
 have hx0 := l.whole h.x
 have hi0 := l.own h.i
 refine ⟨?_, ?_, ?_, ?_, ?_⟩
 · have := (Vs hgrow hx0 (fun c => by have := hv0 X c; omega)).write 0 (.slice (some ⟨gg, 0, none⟩) (fK L k + 1) cap1)
   exact this
 · rw [e2]
   exact Vy hown (by simp [Value.ownBlock]; omega) _
 · exact Vy (h.ap.symm.kept hi0 hgrow) (fun c => by have := hv1 X c; omega) _
 · intro b hb hb2
   simp only [Value.ownBlock, Option.some.injEq] at hb
   subst hb
   rcases hat with c | c
   · exact h.ap _ c hb2
   · have := (h.i.lt _ hb2).2; omega
 · refine Zo.setCell ?_ (.inl rfl) _
   exact Zo.grown (l.keeps h.kp) hgrow fun b hb => .inr (hv0 b hb)
theorem NewMid.done {L : List ByteArray} {W wr w3 Y : World} {X k gg cap1 : Nat} {v0 v1 : Value} {o : Obj} {a : Nat} (h : NewMid L W X k v0 v1 wr) (hX : X < W.heap.size) (hk : k < L.length)
   (hf : isF (Yt L) (Wv (Yt L) k) = true) (ha : Wv (Yt L) k = a) (hgrow : Y.grownBy w3 v1.ownBlock)
   (hown : w3.ownsRow W.heap.size 3 1 (.slice (some ⟨gg, 0, none⟩) (fK L k + 1) cap1) (fK L k + 1) (Xz (Yw (Yt L) k) ++ [.int .i64 (a : Int)])) (hat : v1.ownBlock = some gg ∨ gg = wr.heap.size + 1) (l : Zaw Y wr o) :
   Zav L W X (k + 1) v0 (.slice (some ⟨gg, 0, none⟩) (fK L k + 1) cap1) (w3.setCell ⟨X, 1, none⟩ (.slice (some ⟨gg, 0, none⟩) (fK L k + 1) cap1)) := by
 subst ha
 obtain ⟨e1, e2, e3⟩ := nmK_yes hk hf
 have hWr := h.kp.size
 have hgg : W.heap.size ≤ gg := (hown.lt gg rfl).1
 have hv0 : ∀ b, v0.ownBlock = some b → W.heap.size ≤ b := fun b hb => (h.d.lt b hb).1
 have hv1 : ∀ b, v1.ownBlock = some b → W.heap.size ≤ b := fun b hb => (h.i.lt b hb).1
 have hx0 := l.whole h.x
 have hi0 := l.own h.d
 refine ⟨?_, ?_, ?_, ?_, ?_⟩
 · have := (Vs hgrow hx0 (fun c => by have := hv1 X c; omega)).write 1 (.slice (some ⟨gg, 0, none⟩) (fK L k + 1) cap1)
   exact this
 · rw [e1]
   exact Vy (h.ap.kept hi0 hgrow) (fun c => by have := hv0 X c; omega) _
 · rw [e1, e3]
   exact Vy hown (by simp [Value.ownBlock]; omega) _
 · intro b hb hb2
   simp only [Value.ownBlock, Option.some.injEq] at hb2
   subst hb2
   rcases hat with c | c
   · exact h.ap _ hb c
   · have := (h.d.lt _ hb).2; omega
 · refine Zo.setCell ?_ (.inl rfl) _
   exact Zo.grown (l.keeps h.kp) hgrow fun b hb => .inr (hv1 b hb)
theorem fK_le (L : List ByteArray) (k : Nat) : fK L k ≤ k := firstsK_le _ _
theorem strInfo : (Tryz.prog.info? 9).map (fun i => (i.zero, i.size, i.bytes)) = some (some (.string ⟨#[]⟩), 1, 16) := by kernel_rfl
theorem intInfo : (Tryz.prog.info? 3).map (fun i => (i.zero, i.size, i.bytes)) = some (some (.int .i64 0), 1, 8) := by kernel_rfl
theorem Zo.cell {S : Nat → Prop} {a b : World} (h : Zo S a b) {p : Addr} (hp : p.block < a.heap.size) (hn : ¬ S p.block) : b.cell? p = a.cell? p := World.cell?_of_block (h.block _ hp hn)
theorem nmK_len (L : List ByteArray) (k : Nat) : (Wj (nmK L k)).length = fK L k := by simp [Wj, nmK, fK]
theorem nmK_last {L : List ByteArray} {k m : Nat} (h : fK L k = m + 1) : (Wj (nmK L k))[m]? = some (.string (nmS L (lastK (Yt L) k))) := by
 unfold fK at h
 have hm : m < (Yw (Yt L) k).length := by omega
 unfold Wj nmK lastK
 rw [List.map_map, List.getElem?_map, List.getElem?_eq_getElem hm, h, Nat.add_sub_cancel, List.getD_eq_getElem?_getD, List.getElem?_eq_getElem hm]
 rfl
theorem step_yes0 {L : List ByteArray} {k : Nat} (hk : k < L.length) (h : fK L k = 0) : isF (Yt L) (Wv (Yt L) k) = true :=
 (isF_step (by rw [Wo]; exact hk)).2 (.inl (List.eq_nil_of_length_eq_zero h))
theorem step_of {L : List ByteArray} {k m : Nat} (hk : k < L.length) (h : fK L k = m + 1) :
   isF (Yt L) (Wv (Yt L) k) = !((nmS L (lastK (Yt L) k)).toList == (nmS L (Wv (Yt L) k)).toList) := by
 have hs := isF_step (N := Yt L) (k := k) (by rw [Wo]; exact hk)
 have hne : Yw (Yt L) k ≠ [] := by intro e; unfold fK at h; rw [e] at h; cases h
 rw [nmS_at, nmS_at] at hs
 rw [Bool.eq_iff_iff, hs]
 simp [hne]
def NewIs (L : List ByteArray) (w : World) (e : Ending) (w' : World) : Prop :=
 ∃ X v0 v1 W, e = .returned (.pointer (some ⟨X, 0, none⟩)) ∧ Zav L W X L.length v0 v1 w' ∧ w.heap.size ≤ X ∧ Below w.heap.size w w'
theorem new_any (A : Option Addr) (cap : Nat) (L : List ByteArray) (w : World) (hr : Jg w A (Wj L)) (hmax : L.length ≤ 1000000) :
   Calls Tryz.prog 170 #[.slice A L.length cap] w (NewIs L w) := by
 obtain ⟨n, hn⟩ : ∃ n, L.length = n := ⟨_, rfl⟩
 have p1 := fun w h => order_any A cap L w h hmax
 have hlenS : (Wj L).length = n := by unfold Wj; rw [List.length_map]; exact hn
 rw [hn] at p1 hmax ⊢
 have HN := Hh hn
 clear hn
 obtain ⟨i0, hi0, hz00, hzs, hzb⟩ := info_parts strInfo
 obtain ⟨i1, hi1, hy00, hys, hyb⟩ := info_parts intInfo
 go_enter Tryz.func170, Tryz.ntmps170
 go_wp2_with (go_at_call 194; refine (p1 _ (hr.alloc _)).mono ?_; rintro e w1 ⟨g, rfl, hg1, hg2, ho, hb⟩)
 have hX := (Zb.made w 259 #[.slice none 0 0, .slice none 0 0]).below hb (by simp)
 have HR := Hh hr
 have hs1 := Zav.start (L := L) hX
 have hbw : Below w.heap.size w w1 := ((Below.refl w.heap.size w).alloc (Nat.le_refl _) _).trans (hb.mono (by simp))
 have HBW := Hh hbw
 have hsz : w.heap.size + 1 ≤ w1.heap.size := by have := hb.size; simpa using this
 have hgX : w.heap.size < g := by simp at hg1; omega
 clear hb hX hr hbw hg1
 go_loopw [12] (fun i wr => ∃ (k : Nat) (v0 v1 : Value), k ≤ n ∧ i = .int .i64 k ∧ Zav L w1 w.heap.size k v0 v1 wr) (fun i _ => n - (intOf i).toNat)
 case atStart => exact ⟨0, _, _, by omega, rfl, hs1⟩
 case round =>
   clear hs1
   obtain ⟨k, v0, v1, hk, rfl, hst⟩ := hrel
   by_cases hlt : k < n
   · obtain ⟨x, rfl, hx, hc⟩ := HR.out.at_ (by omega)
     have hL : k < L.length := by rw [HN.out]; exact hlt
     have hol : Wv (Yt L) k < n := by have := ordAt_lt (N := Yt L) (k := k) (by rw [Wo]; exact hL); rw [Wo, HN.out] at this; exact this
     have hgk : wr.cell? ⟨g, k, none⟩ = some (.int .i64 (Wv (Yt L) k : Int)) := by
       rw [hst.kp.cell (p := ⟨g, k, none⟩) hg2 (by intro h; rcases h with h | h <;> simp at h <;> omega)]
       obtain ⟨y, he, _, hy⟩ := ho.at_ (by unfold Xz; rw [List.length_map, Vb, Wo]; omega)
       injection he with he
       subst he
       have h := hy k (by unfold Xz; rw [List.length_map, Vb, Wo]; omega)
       rw [Addr.add_lit, Nat.zero_add] at h
       rw [h]
       unfold Xz
       rw [List.getElem?_map, List.getElem?_eq_getElem (by rw [Vb, Wo]; exact hL), ordAt_get (by rw [Wo]; exact hL)]
       rfl
     have hlo : wr.cell? (x.add (Wv (Yt L) k)) = some (.string (nmS L (Wv (Yt L) k))) := by
       rw [hst.kp.cell (p := x.add _) (Nat.lt_of_lt_of_le (add_lt hx _) (by omega)) (by have := add_lt hx (Wv (Yt L) k); intro h; rcases h with h | h <;> omega)]
       rw [HBW.out.cell (p := x.add _) (add_lt hx _), hc _ (by omega)]
       exact strCs_get (by rw [HN.out]; exact hol)
     obtain ⟨A0, c0, hv0, hf0, hcm, hcl⟩ := Xy hst.d
     subst hv0
     obtain ⟨hx0, hx1, hz0, hz1⟩ := whole2 hst.x
     have HS := Hh hst
     have HO := Hh ho
     clear hst ho hc
     generalize hoo : Wv (Yt L) k = o at *
     have HOO := Hh hoo
     clear hoo
     have hXl : w.heap.size < wr.heap.size := by have := HS.out.kp.size; omega
     cases hfk : fK L k with
     | zero =>
       have hso := step_yes0 hL hfk
       rw [HOO.out] at hso
       have HSO := Hh hso
       have HFK := Hh hfk
       rw [hfk] at hx0
       clear hcl hfk hso
       generalize hl2 : nmS L o = s2 at *
       have HL2 := Hh hl2
       clear hl2
       · go_wp2_with fail
         go_quiet (fail)
         go_wp2_with fail
         have hne0 : some w.heap.size ≠ (Value.slice (A0) (fK L k) c0).ownBlock := fun c => by have := (HS.out.d.lt _ c.symm).1; omega
         have hal : ∀ q o, ((wr.drewN q).alloc o).cell? ⟨w.heap.size, 0, none⟩ = some (.slice (A0) (0) c0) := fun q o => (World.cell?_of_block (w := wr) (a := ⟨w.heap.size, 0, none⟩) (Below.heap_alloc wr o w.heap.size hXl)).trans hx0
         have a1 : fK L k + 1 ≤ maxLen := by have := HFK.out; unfold maxLen; omega
         have a2 : (fK L k + 1) * 16 ≤ 140737488355328 := by have := HFK.out; omega
         have a3 : ∀ (Y : World) o, Zaw Y wr o → w1.heap.size ≤ Y.heap.size := fun Y o l => by have := HS.out.kp.size; rw [l.size]; omega
         go_region_law (refine step_append_lies _ (by rfl) _ _ _ (by rfl) w1.heap.size 9 i0 _ 1 16 Tryz.underlying70 hi0 hz00 hzs hzb rfl (by omega) (.slice (A0) (fK L k) c0) (fK L k) (Wj (nmK L k)) (by rw [HFK.out]; rfl) (own_heap (HS.out.d.alloc _) rfl) ⟨wr.heap.size, 0, none⟩ 1 1 [.string s2] (by rfl) (by rfl) (World.news_of_block (cs := #[.string s2]) (t := 9) (fr := (0, 0)) (heap_alloc_new _ _)) (by simp [Value.oneCell']) (by omega) a1 a2 (a3 _ _ ⟨rfl, rfl, rfl, rfl⟩) (wr.heap.size + 1) (by simp) ?_; intro gg cap1 w3 hown1 hgrow hat hlt3; have f3a := (Zaw.far ⟨rfl, rfl, rfl, rfl⟩ hgrow (p := ⟨w.heap.size, 0, none⟩) hXl hne0).1.trans hx0; have f3b := (Zaw.far ⟨rfl, rfl, rfl, rfl⟩ hgrow (p := ⟨w.heap.size, 0, none⟩) hXl hne0).2.trans hz0)
         all_goals
           have hmid := HS.out.mid hsz hL (by rw [HOO.out]; exact HSO.out) (by rw [HOO.out]; exact HL2.out) hgrow hown1 hat ⟨rfl, rfl, rfl, rfl⟩
           clear f3a f3b hgrow hown1 hat hlt3 hal a1 a2 a3 hne0 hx0 hx1 hz0 hz1 hgk hlo
           generalize w3.setCell ⟨w.heap.size, 0, none⟩ (.slice (some ⟨gg, 0, none⟩) (fK L k + 1) cap1) = wm at hmid ⊢
           obtain ⟨hx0, hx1, hz0, hz1⟩ := whole2 hmid.x
           have HM := Hh hmid
           have hne1 : some w.heap.size ≠ v1.ownBlock := fun c => by have := (HM.out.i.lt _ c.symm).1; omega
           have hsm := HM.out.kp.size
           have hXm : w.heap.size < wm.heap.size := by omega
           have hfm : fK L k ≤ 1000000 := by have := fK_le L k; omega
           clear hmid
           go_wp2_with (refine wpList_append_lies _ rfl (.tmp 55) (.tmp 57) 257 rfl w1.heap.size 3 i1 _ 1 8 Tryz.underlying257 hi1 hy00 hys hyb rfl (by omega) v1 (fK L k) (Xz (Yw (Yt L) k)) rfl (HM.out.i.alloc _) ⟨wm.heap.size, 0, none⟩ 1 1 [.int .i64 (o : Int)] rfl rfl (World.news_of_block (cs := #[.int .i64 (o : Int)]) (t := 3) (fr := (0, 0)) (heap_alloc_new _ _)) (by simp [Value.oneCell']) (by omega) (by unfold maxLen; omega) (by omega) (by simp; omega) (wm.heap.size + 1) (by simp) ?_; intro gg2 cap2 w4 hown2 hgrow2 hat2 hlt4; have f4a := (Zaw.far ⟨rfl, rfl, rfl, rfl⟩ hgrow2 (p := ⟨w.heap.size, 1, none⟩) hXm hne1).1.trans hx1; have f4b := (Zaw.far ⟨rfl, rfl, rfl, rfl⟩ hgrow2 (p := ⟨w.heap.size, 1, none⟩) hXm hne1).2.trans hz1)
           go_roundw
           case rel => exact ⟨k + 1, _, _, by omega, by go_num, HM.out.done hsz hL (by rw [HOO.out]; exact HSO.out) HOO.out hgrow2 hown2 hat2 ⟨rfl, rfl, rfl, rfl⟩⟩
           case measure => simp [intOf]; omega
     | succ m =>
       have hso := step_of hL hfk
       rw [HOO.out] at hso
       obtain ⟨g0, off, rfl, hg0, hcc⟩ := hcl.at_ (by rw [nmK_len]; omega)
       have hcm := hcc m (by rw [nmK_len]; omega)
       rw [nmK_last hfk] at hcm
       have hmb : (m : Int) < 1000000 := by have := fK_le L k; omega
       have hm0 : (0 : Int) ≤ (m : Int) := Int.natCast_nonneg _
       have hmn : decide ((m : Int) < 0) = false := by simp
       have HFK := Hh hfk
       rw [hfk] at hx0
       clear hcc hcl hfk
       generalize hl1 : nmS L (lastK (Yt L) k) = s1 at *
       generalize hl2 : nmS L o = s2 at *
       have HL2 := Hh hl2
       clear hl1 hl2
       by_cases he : (s1.toList == s2.toList) = true
       · rw [he] at hso
         have HSO := Hh hso
         clear hso
         have hd : (s1.toList != s2.toList) = false := by unfold bne; rw [he]; rfl
         go_wp2_with fail
         go_quiet (fail)
         go_wp2
         go_roundw
         case rel => exact ⟨k + 1, _, _, by omega, by go_num, ((HS.out.no hL (by rw [HOO.out]; exact HSO.out)).drewN _)⟩
         case measure => simp [intOf]; omega
       · have he2 : (s1.toList == s2.toList) = false := by simpa using he
         rw [he2] at hso
         have HSO := Hh hso
         clear hso he
         have hd : (s1.toList != s2.toList) = true := by unfold bne; rw [he2]; rfl
         go_wp2_with fail
         go_quiet (fail)
         go_wp2_with fail
         have hne0 : some w.heap.size ≠ (Value.slice (some ⟨g0, off, none⟩) (fK L k) c0).ownBlock := fun c => by have := (HS.out.d.lt _ c.symm).1; omega
         have hal : ∀ q o, ((wr.drewN q).alloc o).cell? ⟨w.heap.size, 0, none⟩ = some (.slice (some ⟨g0, off, none⟩) (m + 1) c0) := fun q o => (World.cell?_of_block (w := wr) (a := ⟨w.heap.size, 0, none⟩) (Below.heap_alloc wr o w.heap.size hXl)).trans hx0
         have a1 : fK L k + 1 ≤ maxLen := by have := HFK.out; unfold maxLen; omega
         have a2 : (fK L k + 1) * 16 ≤ 140737488355328 := by have := HFK.out; omega
         have a3 : ∀ (Y : World) o, Zaw Y wr o → w1.heap.size ≤ Y.heap.size := fun Y o l => by have := HS.out.kp.size; rw [l.size]; omega
         go_region_law (refine step_append_lies _ (by rfl) _ _ _ (by rfl) w1.heap.size 9 i0 _ 1 16 Tryz.underlying70 hi0 hz00 hzs hzb rfl (by omega) (.slice (some ⟨g0, off, none⟩) (fK L k) c0) (fK L k) (Wj (nmK L k)) (by rw [HFK.out]; rfl) (own_heap (HS.out.d.alloc _) rfl) ⟨wr.heap.size, 0, none⟩ 1 1 [.string s2] (by rfl) (by rfl) (World.news_of_block (cs := #[.string s2]) (t := 9) (fr := (0, 0)) (heap_alloc_new _ _)) (by simp [Value.oneCell']) (by omega) a1 a2 (a3 _ _ ⟨rfl, rfl, rfl, rfl⟩) (wr.heap.size + 1) (by simp) ?_; intro gg cap1 w3 hown1 hgrow hat hlt3; have f3a := (Zaw.far ⟨rfl, rfl, rfl, rfl⟩ hgrow (p := ⟨w.heap.size, 0, none⟩) hXl hne0).1.trans hx0; have f3b := (Zaw.far ⟨rfl, rfl, rfl, rfl⟩ hgrow (p := ⟨w.heap.size, 0, none⟩) hXl hne0).2.trans hz0)
         all_goals
           have hmid := HS.out.mid hsz hL (by rw [HOO.out]; exact HSO.out) (by rw [HOO.out]; exact HL2.out) hgrow hown1 hat ⟨rfl, rfl, rfl, rfl⟩
           clear f3a f3b hgrow hown1 hat hlt3 hal a1 a2 a3 hne0 hx0 hx1 hz0 hz1 hgk hlo
           generalize w3.setCell ⟨w.heap.size, 0, none⟩ (.slice (some ⟨gg, 0, none⟩) (fK L k + 1) cap1) = wm at hmid ⊢
           obtain ⟨hx0, hx1, hz0, hz1⟩ := whole2 hmid.x
           have HM := Hh hmid
           have hne1 : some w.heap.size ≠ v1.ownBlock := fun c => by have := (HM.out.i.lt _ c.symm).1; omega
           have hsm := HM.out.kp.size
           have hXm : w.heap.size < wm.heap.size := by omega
           have hfm : fK L k ≤ 1000000 := by have := fK_le L k; omega
           clear hmid
           go_wp2_with (refine wpList_append_lies _ rfl (.tmp 55) (.tmp 57) 257 rfl w1.heap.size 3 i1 _ 1 8 Tryz.underlying257 hi1 hy00 hys hyb rfl (by omega) v1 (fK L k) (Xz (Yw (Yt L) k)) rfl (HM.out.i.alloc _) ⟨wm.heap.size, 0, none⟩ 1 1 [.int .i64 (o : Int)] rfl rfl (World.news_of_block (cs := #[.int .i64 (o : Int)]) (t := 3) (fr := (0, 0)) (heap_alloc_new _ _)) (by simp [Value.oneCell']) (by omega) (by unfold maxLen; omega) (by omega) (by simp; omega) (wm.heap.size + 1) (by simp) ?_; intro gg2 cap2 w4 hown2 hgrow2 hat2 hlt4; have f4a := (Zaw.far ⟨rfl, rfl, rfl, rfl⟩ hgrow2 (p := ⟨w.heap.size, 1, none⟩) hXm hne1).1.trans hx1; have f4b := (Zaw.far ⟨rfl, rfl, rfl, rfl⟩ hgrow2 (p := ⟨w.heap.size, 1, none⟩) hXm hne1).2.trans hz1)
           go_roundw
           case rel => exact ⟨k + 1, _, _, by omega, by go_num, HM.out.done hsz hL (by rw [HOO.out]; exact HSO.out) HOO.out hgrow2 hown2 hat2 ⟨rfl, rfl, rfl, rfl⟩⟩
           case measure => simp [intOf]; omega
   · obtain rfl : k = n := by omega
     have HS := Hh hst
     have HO := Hh ho
     clear hst ho
     go_wp2
     go_ret
     refine ⟨w.heap.size, v0, v1, w1, rfl, by rw [HN.out]; exact HS.out, Nat.le_refl _, ?_⟩
     refine HBW.out.trans (HS.out.kp.below (by omega) fun b hb => ?_)
     rcases hb with rfl | hb <;> omega
end Go.Proofs.YtdhmklnfiaahhaaGreat
namespace Go.Proofs.YtdhmklnfiaahhaaGreat
open Go Go.RowKit Go.Lib Go.Sort
set_option linter.unusedVariables false
set_option linter.unusedSimpArgs false
theorem ba_eq {a b : ByteArray} : a.toList = b.toList ↔ a = b := by
 constructor
 · intro h
   rw [Lib.toList_data, Lib.toList_data] at h
   cases a with
   | mk x => cases b with
     | mk y => exact congrArg ByteArray.mk (Array.toList_inj.1 h)
 · rintro rfl; rfl
def nF (L : List ByteArray) : Nat := (Wl (Yt L)).length
def fAt (L : List ByteArray) (t : Nat) : Nat := (Wl (Yt L)).getD t 0
structure IdxAt (L : List ByteArray) (X : Nat) (w : World) : Prop where
 mem : ∃ A0 c0 A1 c1, w.cell? ⟨X, 0, none⟩ = some (.slice A0 (nF L) c0) ∧ w.cell? ⟨X, 1, none⟩ = some (.slice A1 (nF L) c1) ∧ Zaf w w.heap.size A0 (Wj ((Wl (Yt L)).map (nmS L))) ∧ Zaf w w.heap.size A1 (Xz (Wl (Yt L)))
 lt : X < w.heap.size
theorem IdxAt.below {L : List ByteArray} {X : Nat} {w w' : World} (h : IdxAt L X w) (hb : Below w.heap.size w w') : IdxAt L X w' := by
 obtain ⟨A0, c0, A1, c1, h1, h2, h3, h4⟩ := h.mem
 refine ⟨⟨A0, c0, A1, c1, ?_, ?_, (h3.below hb).mono hb.size, (h4.below hb).mono hb.size⟩, Nat.lt_of_lt_of_le h.lt hb.size⟩
 · rw [hb.cell (p := ⟨X, 0, none⟩) h.lt]; exact h1
 · rw [hb.cell (p := ⟨X, 1, none⟩) h.lt]; exact h2
theorem IdxAt.drewN {L : List ByteArray} {X : Nat} {w : World} (h : IdxAt L X w) (q : Nat) : IdxAt L X (w.drewN q) := h.below (below_drewN (Below.refl _ _) q)
theorem Zav.idx {L : List ByteArray} {W w : World} {X : Nat} {v0 v1 : Value} (h : Zav L W X L.length v0 v1 w) : IdxAt L X w := by
 obtain ⟨A0, c0, e0, _, _, k0⟩ := Xy h.d
 obtain ⟨A1, c1, e1, _, _, k1⟩ := Xy h.i
 obtain ⟨x0, x1, _, _⟩ := whole2 h.x
 have ea : Yw (Yt L) L.length = Wl (Yt L) := by rw [← Wo L]; exact firstsK_all _
 unfold fK at e0 e1
 unfold nmK at k0
 rw [ea] at e0 e1 k0 k1
 subst e0 e1
 exact ⟨⟨A0, c0, A1, c1, x0, x1, k0, k1⟩, h.x.inside⟩
def Made (L : List ByteArray) (w : World) (e : Ending) (w' : World) : Prop := ∃ X, e = .returned (.pointer (some ⟨X, 0, none⟩)) ∧ IdxAt L X w' ∧ Below w.heap.size w w'
theorem New_any (A : Option Addr) (cap : Nat) (L : List ByteArray) (w : World) (hr : Jg w A (Wj L)) (hmax : L.length ≤ 1000000) :
   Calls Tryz.prog 170 #[.slice A L.length cap] w (Made L w) :=
 (new_any A cap L w hr hmax).mono fun e w' ⟨X, v0, v1, W, he, hs, _, hb⟩ => ⟨X, he, hs.idx, hb⟩
theorem nF_le {L : List ByteArray} (hmax : L.length ≤ 1000000) : nF L ≤ 1000000 := by have := firsts_le (Yt L); rw [Wo] at this; unfold nF; omega
theorem strF_get {L : List ByteArray} {t : Nat} (h : t < nF L) : (Wj ((Wl (Yt L)).map (nmS L)))[t]? = some (.string (nmS L (fAt L t))) := by
 unfold Wj fAt
 unfold nF at h
 rw [List.map_map, List.getElem?_map, List.getElem?_eq_getElem h, List.getD_eq_getElem?_getD, List.getElem?_eq_getElem h]
 rfl
theorem natF_get {L : List ByteArray} {t : Nat} (h : t < nF L) : (Xz (Wl (Yt L)))[t]? = some (.int .i64 (fAt L t : Int)) := by
 unfold Xz fAt
 unfold nF at h
 rw [List.getElem?_map, List.getElem?_eq_getElem h, List.getD_eq_getElem?_getD, List.getElem?_eq_getElem h]
 rfl
theorem strF_len (L : List ByteArray) : (Wj ((Wl (Yt L)).map (nmS L))).length = nF L := by simp [Wj, nF]
theorem natF_len (L : List ByteArray) : (Xz (Wl (Yt L))).length = nF L := by simp [Xz, nF]
theorem fAt_nm (L : List ByteArray) (t : Nat) : (nmS L (fAt L t)).toList = nmF (Yt L) t := by unfold nmF fAt; rw [nmS_at]
theorem search_any (A0 : Option Addr) (c0 : Nat) (L : List ByteArray) (s : ByteArray) (w : World) (hmax : L.length ≤ 1000000) (hc : Zaf w w.heap.size A0 (Wj ((Wl (Yt L)).map (nmS L)))) :
   Calls Tryz.prog 195 #[.slice A0 (nF L) c0, .string s] w fun e w' => e = .returned (.tuple #[.int .i64 (pos (Yt L) s.toList : Nat), .bool (hit (Yt L) s.toList)]) ∧ ∃ q, w' = w.drewN q := by
 have hF := nF_le hmax
 have hp := pos_le (Yt L) s.toList
 by_cases h0 : 0 < nF L
 · obtain ⟨g, off, rfl, _, hcc⟩ := hc.at_ (by rw [strF_len]; exact h0)
   have h := Any2.slices_BinarySearch_string searchL g off (nF L) c0 (fun t => if t < nF L then nmS L (fAt L t) else s) s w (by omega) (fun j hj => by
     rw [hcc j (by rw [strF_len]; exact hj), strF_get hj]
     simp only [hj, if_true])
   change Calls Tryz.prog 195 _ _ _ at h
   have hb : Lib.bsGo (fun t => Op.bytesLess (if t < nF L then nmS L (fAt L t) else s).toList s.toList) (nF L) 0 (nF L) = pos (Yt L) s.toList := by
     refine Lib.bsGo_spec _ _ ?_ ?_ _ _ _ (by omega) (by omega) hp
     · intro t ht
       have h1 : t < nF L := by unfold nF; omega
       rw [if_pos h1, bytesLess_lt, decide_eq_true_eq, fAt_nm]
       exact (pos_lt s.toList h1).2 ht
     · intro t ht
       by_cases h1 : t < nF L
       · rw [if_pos h1, bytesLess_lt, decide_eq_false_iff_not, fAt_nm]
         intro h2
         have := (pos_lt s.toList h1).1 h2
         omega
       · rw [if_neg h1, bytesLess_lt, decide_eq_false_iff_not]
         exact bs_irr _
   rw [hb] at h
   have hd : decide (pos (Yt L) s.toList < nF L ∧ (if pos (Yt L) s.toList < nF L then nmS L (fAt L (pos (Yt L) s.toList)) else s) = s) = hit (Yt L) s.toList := by
     unfold hit
     apply decide_eq_decide.2
     constructor
     · rintro ⟨h1, h2⟩
       rw [if_pos h1] at h2
       exact ⟨h1, by rw [← fAt_nm, h2]⟩
     · rintro ⟨h1, h2⟩
       refine ⟨h1, ?_⟩
       have h3 : pos (Yt L) s.toList < nF L := h1
       rw [if_pos h3]
       apply ba_eq.1
       rw [fAt_nm]; exact h2
   rw [hd] at h
   exact h
 · have hz : nF L = 0 := by omega
   have h := Any2.slices_BinarySearch_string_empty searchL A0 c0 s w
   change Calls Tryz.prog 195 _ _ _ at h
   have hp0 : pos (Yt L) s.toList = 0 := by have : (Wl (Yt L)).length = 0 := hz; omega
   have hh0 : hit (Yt L) s.toList = false := by
     unfold hit
     rw [decide_eq_false_iff_not]
     rintro ⟨h1, _⟩
     have : (Wl (Yt L)).length = 0 := hz
     omega
   rw [hz, hp0, hh0]
   exact h.mono fun e w' h => ⟨h.1, 0, h.2⟩
theorem Find_any (L : List ByteArray) (X : Nat) (s : ByteArray) (w : World) (hmax : L.length ≤ 1000000) (hi : IdxAt L X w) :
   Calls Tryz.prog 171 #[.pointer (some ⟨X, 0, none⟩), .string s] w fun e w' => e = .returned (.int .i64 (findZ (Yt L) s.toList)) ∧ ∃ q, w' = w.drewN q := by
 obtain ⟨A0, c0, A1, c1, h0, h1, k0, k1⟩ := hi.mem
 have hF := nF_le hmax
 have p1 := search_any A0 c0 L s w hmax k0
 cases hh : hit (Yt L) s.toList with
 | false =>
   have hz := findZ_no hh
   rw [hh] at p1
   generalize pos (Yt L) s.toList = t at p1
   rw [hz]
   clear hz hh k0 k1
   go_enter Tryz.func171, Tryz.ntmps171
   go_wp2_with (go_at_call 195; refine p1.mono ?_; rintro e w' ⟨rfl, q, rfl⟩)
   go_ret
   exact ⟨rfl, _, rfl⟩
 | true =>
   have hz := findZ_hit hh
   have ht : pos (Yt L) s.toList < nF L := by unfold hit at hh; rw [decide_eq_true_eq] at hh; exact hh.1
   have hf := hit_find hh
   obtain ⟨g, off, rfl, _, hcc⟩ := k1.at_ (by rw [natF_len]; omega)
   have hc := hcc _ (by rw [natF_len]; exact ht)
   rw [natF_get ht] at hc
   unfold fAt at hc
   rw [hf] at hc
   rw [hh] at p1
   generalize pos (Yt L) s.toList = t at *
   rw [hz]
   clear hz hh k0 k1 hcc hf
   go_enter Tryz.func171, Tryz.ntmps171
   go_wp2_with (go_at_call 195; refine p1.mono ?_; rintro e w' ⟨rfl, q, rfl⟩)
   go_ret
   exact ⟨rfl, _, rfl⟩
def FirstsTo (N : List Bs) (k : Nat) : Prop := ∀ j, j < k → isF N j = true
theorem FirstsTo.next {N : List Bs} {k : Nat} (h : FirstsTo N k) (hk : isF N k = true) : FirstsTo N (k + 1) := fun j hj => by
 by_cases e : j = k
 · rw [e]; exact hk
 · exact h j (by omega)
theorem reads_at {w : World} {A : Option Addr} {L : List ByteArray} (hr : Jg w A (Wj L)) {k : Nat} (hk : k < L.length) : ∃ x, A = some x ∧ x.block < w.heap.size ∧ w.cell? (x.add k) = some (.string (nmS L k)) := by
 have hl : (Wj L).length = L.length := by unfold Wj; rw [List.length_map]
 obtain ⟨x, hA, hx, hc⟩ := hr.at_ (by omega)
 exact ⟨x, hA, hx, by rw [hc k (by omega)]; exact strCs_get hk⟩
theorem Twice_any (A : Option Addr) (cap : Nat) (L : List ByteArray) (w : World) (hr : Jg w A (Wj L)) (hmax : L.length ≤ 1000000) :
   Calls Tryz.prog 130 #[.slice A L.length cap] w fun e w' => e = .returned (.int .i64 (Uz (Yt L))) ∧ Below w.heap.size w w' := by
 have p1 := New_any A cap L w hr hmax
 have p2 := fun X s w hi => Find_any L X s w hmax hi
 obtain ⟨n, hn⟩ : ∃ n, L.length = n := ⟨_, rfl⟩
 have HN := Hh hn
 rw [hn] at p1 hmax ⊢
 have HR := Hh hr
 clear hn hr
 go_enter Tryz.func130, Tryz.ntmps130
 go_wp2_with (go_at_call 170; refine p1.mono ?_; rintro e w1 ⟨X, rfl, hi, hb⟩)
 have HI := Hh hi
 have HB := Hh hb
 clear hi hb p1
 go_loopw [10] (fun i wr => ∃ k : Nat, k ≤ n ∧ i = .int .i64 k ∧ FirstsTo (Yt L) k ∧ Below w1.heap.size w1 wr) (fun i _ => n - (intOf i).toNat)
 case atStart => exact ⟨0, by omega, rfl, fun j hj => by omega, Below.refl _ _⟩
 case round =>
   obtain ⟨k, hk, rfl, hf, hb⟩ := hrel
   by_cases hlt : k < n
   · have hbb := Xl HB.out hb
     obtain ⟨x, rfl, hx, hc⟩ := reads_at HR.out (show k < L.length by rw [HN.out]; exact hlt)
     have hcr : wr.cell? (x.add k) = some (.string (nmS L k)) := by rw [hbb.cell (p := x.add k) (add_lt hx k)]; exact hc
     have p3 := fun s => p2 X s wr (HI.out.below hb)
     have HFF := Hh hf
     have HB2 := Hh hb
     have hN : (Yt L).length = n := by rw [Wo]; exact HN.out
     have hfz : ∀ b, isF (Yt L) k = b → (findZ (Yt L) (nmS L k).toList < (k : Int) ↔ b = false) := fun b hb => by rw [← nmS_at]; exact isF_of (by rw [hN]; exact hlt) b hb
     cases hff : isF (Yt L) k with
     | true =>
       have hd : decide (findZ (Yt L) (nmS L k).toList < (k : Int)) = false := by rw [decide_eq_false_iff_not, hfz _ hff]; simp
       have p4 := p3 (nmS L k)
       generalize findZ (Yt L) (nmS L k).toList = z at *
       clear hf hb hbb hc hN p3 hfz
       go_wp2_with (go_at_call 171; refine p4.mono ?_; rintro e w' ⟨rfl, q, rfl⟩)
       go_roundw
       case rel => exact ⟨k + 1, by omega, by go_num, HFF.out.next hff, below_drewN HB2.out _⟩
       case measure => simp [intOf]; omega
     | false =>
       have hd : decide (findZ (Yt L) (nmS L k).toList < (k : Int)) = true := by rw [decide_eq_true_eq, hfz _ hff]
       have p4 := p3 (nmS L k)
       have ht := twice_at (N := Yt L) (by rw [hN]; exact hlt) hff HFF.out
       have HT := Hh ht
       generalize findZ (Yt L) (nmS L k).toList = z at *
       clear hf hb hbb hc hN p3 hfz ht
       go_wp2_with (go_at_call 171; refine p4.mono ?_; rintro e w' ⟨rfl, q, rfl⟩)
       go_ret
       exact ⟨by rw [HT.out]; rfl, below_drewN (Xl HB.out HB2.out) _⟩
   · obtain rfl : k = n := by omega
     have ht := twice_no (N := Yt L) (by rw [Wo, HN.out]; exact hf)
     have HT := Hh ht
     have HB2 := Hh hb
     clear hf hb ht p2
     go_wp2
     go_ret
     exact ⟨by rw [HT.out]; rfl, Xl HB.out HB2.out⟩
end Go.Proofs.YtdhmklnfiaahhaaGreat
