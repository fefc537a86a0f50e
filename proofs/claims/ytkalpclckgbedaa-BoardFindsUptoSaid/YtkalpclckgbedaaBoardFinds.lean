/-
  For every input the law BoardFinds returns true. Conditions: what comes in is of bulk at most 1048576.
-/
import Derived.Test.YtkalpclckgbedaaStW
import Derived.Test.YtkalpclckgbedaaStSameT
import Derived.Test.YtkalpclckgbedaaBrdL
import Derived.Test.YtkalpclckgbedaaStAll
import Derived.Test.YtkalpclckgbedaaStRoom
import Derived.Test.YtkalpclckgbedaaBrdH
import Derived.BigQuiet
namespace Go.Proofs.Ytkalpclckgbedaa
open Go.ChangeShapes Go.WideShapes Go.ChangeAt Go.RowKit
set_option linter.unusedVariables false
set_option linter.unusedSimpArgs false
set_option maxRecDepth 20000
set_option maxHeartbeats 12800000
theorem walk_BoardFinds {H : Type} {enc : TypeId × Value → H} {b0 base : Nat} {spare : Nat → Bool} {held : Bool} {d0 : DataW H} {p0 : List MemPlace} {d2 : DataW H} {p2 : List MemPlace} (v0 : Value) (a1 : Int) (v2 : Value) (w : World) (ok0 : Value.okWide Try.prog w .any b0 33 v0) (h0 : DataW.Trod enc Try.prog w base spare held 33 v0 d0 p0) (w1 : (Lit.int .i64 a1).wf = true)
    (ok2 : Value.okWide Try.prog w .any b0 34 v2) (h2 : DataW.Trod enc Try.prog w base spare held 34 v2 d2 p2) (hk : Rows.uptoBulk d0 ≤ 1048576) :
    Calls Try.prog 3 #[v0, .int .i64 a1, v2] w fun e w' => e = .returned (.bool true) ∧ Below w.heap.size w w' := by
  obtain ⟨c, r, L, rfl, hcw, hR, hLw, hbk⟩ := open_stateB ok0 h0
  have hlen : ∀ q, q < 12 → (L q).length ≤ 1048576 := fun q hq => Nat.le_trans (hbk q hq) hk
  have hT : (pilesL L 2).length ≤ 2199023255488 := Nat.le_trans (pil_le hlen) (by decide)
  obtain ⟨ax, ay, rfl, _, _⟩ := open_int2 Try.underlying34 Try.underlying3 (by kernel_rfl) (by kernel_rfl) ok2 h2
  have hW0 := Whole.made w 33 (stC c r).toArray
  have T : Hid (Whole ((w.alloc (.cells (stC c r).toArray 33)).alloc (.cells #[.int .i64 ax, .int .i64 ay] 34)) w.heap.size 33 (stC c r).toArray) := Lib.hid (hW0.alloc _)
  have A : Hid (Whole ((w.alloc (.cells (stC c r).toArray 33)).alloc (.cells #[.int .i64 ax, .int .i64 ay] 34)) (w.heap.size + 1) 34 #[.int .i64 ax, .int .i64 ay]) := Lib.hid (by
    have h := Whole.made (w.alloc (.cells (stC c r).toArray 33)) 34 #[.int .i64 ax, .int .i64 ay]
    rw [World.size_alloc] at h
    exact h)
  have BB : Hid (Below w.heap.size w ((w.alloc (.cells (stC c r).toArray 33)).alloc (.cells #[.int .i64 ax, .int .i64 ay] 34))) := Lib.hid (((Below.refl _ _).alloc (Nat.le_refl _) _).alloc (by simp) _)
  have RB : Hid (∀ y, Below w.heap.size w y → Rows12 y r L) := Lib.hid fun y hy q hq => (hR q hq).below hy
  have HSI : Hid (∀ r, (Try.prog.info? 33).map (·.size) = some (stC c r).length) := Lib.hid (fun r => by rw [show (stC c r).length = 30 from rfl]; kernel_rfl)
  have HL : Hid (∀ r, (stC c r).length = 30) := Lib.hid fun r => rfl
  have HST : Hid (∀ r, stV c r = .agg (stC c r).toArray) := Lib.hid fun r => rfl
  have KCo : Hid (∀ y, Below w.heap.size w y → Calls Try.prog 8 #[.agg (stC c r).toArray] y fun e w' => e = .returned (.int .i64 ((pilesL L 2).length : Nat)) ∧ Below y.heap.size y w') := Lib.hid fun y hy => rCount c r L y (RB.out y hy) hT
  rw [show stV c r = .agg (stC c r).toArray from rfl]
  by_cases hN : 100 < (pilesL L 2).length
  · have hN1 : (100 : Int) < (((pilesL L 2).length : Nat) : Int) := by omega
    generalize (pilesL L 2).length = N at *
    clear hlen hT hW0 ok0 h0 ok2 h2 hR hLw hbk hcw hk
    generalize hS : stC c r = S at *
    go_enter Try.func3, Try.ntmps3
    go_wp2_with (first
      | ((with_reducible refine at_ld 18 ?_); refine wpList_loadW 33 (.tmp 3) 33 w.heap.size S T.out (by kernel_rfl) (by rw [← hS]; exact HSI.out _) rfl rfl rfl ?_)
      | (go_at_call 8; (with_reducible refine (KCo.out _ BB.out).mono ?_); rintro e wx1 ⟨rfl, bx⟩; have T := Lib.hid (T.out.below bx T.out.inside); have A := Lib.hid (A.out.below bx A.out.inside); have BB := Lib.hid (bthen BB.out bx))
      | (go_at_call 9; (with_reducible refine (lives22 _).mono ?_); rintro e wx2 ⟨rfl, bx⟩; have T := Lib.hid (T.out.below bx T.out.inside); have A := Lib.hid (A.out.below bx A.out.inside); have BB := Lib.hid (bthen BB.out bx)))
    go_ret
    exact ⟨rfl, BB.out⟩
  · have hN1 : ¬ (100 : Int) < (((pilesL L 2).length : Nat) : Int) := by omega
    have hsz : ∀ q, q < 12 → (L q).length ≤ 1000 := fun q hq => by have := pil_ge (L := L) hq; omega
    generalize (pilesL L 2).length = N at *
    have KFi : Hid (∀ y, Below w.heap.size w y → _) := Lib.hid fun y hy => pFind c r L a1 y (RB.out y hy)
    have KPl : Hid (∀ y, Below w.heap.size w y → _) := Lib.hid fun y hy => rPlace c r L a1 y (RB.out y hy)
    have KFr : Hid (∀ y, Below w.heap.size w y → Calls Try.prog 12 #[.agg (stC c r).toArray] y fun e w' => ∃ r', e = .returned (stV c r') ∧ (∀ q, q < 12 → OwnI w' y.heap.size (r' q) (L q)) ∧ Below y.heap.size y w') := Lib.hid fun y hy => rFresh c r L y (RB.out y hy) hsz
    have KCl : Hid (∀ y, Below w.heap.size w y → Calls Try.prog 13 #[.agg (stC c r).toArray] y fun e w' => ∃ r', e = .returned (stV c r') ∧ OwnSt w' y.heap.size r' L ∧ Below y.heap.size y w') := Lib.hid fun y hy => pClone c r L y (RB.out y hy) hsz
    have KLi : Hid (∀ y, Below w.heap.size w y → Calls Try.prog 16 #[.agg (stC c r).toArray] y fun e w' => ∃ v, e = .returned v ∧ OwnI w' y.heap.size v (catL L 6) ∧ Below y.heap.size y w') := Lib.hid fun y hy => pList c r L y (RB.out y hy) hsz
    have KAl : Hid (∀ y, Below w.heap.size w y → Calls Try.prog 18 #[.agg (stC c r).toArray] y fun e w' => ∃ v, e = .returned v ∧ OwnI w' y.heap.size v (catL L 6) ∧ Below y.heap.size y w') := Lib.hid fun y hy => rAll c r L y (RB.out y hy) hsz
    have KRp : Hid (∀ y, Below w.heap.size w y → Calls Try.prog 19 #[.agg (stC c r).toArray, .int .i64 ax, .int .i64 ay] y fun e w' => e = .returned (.int .i64 (roomZ L ax ay)) ∧ Below y.heap.size y w') := Lib.hid fun y hy => pRoom c r L ax ay y (RB.out y hy)
    have KRr : Hid (∀ y, Below w.heap.size w y → Calls Try.prog 20 #[.agg (stC c r).toArray, .int .i64 ax, .int .i64 ay] y fun e w' => e = .returned (.int .i64 (roomZ L ax ay)) ∧ Below y.heap.size y w') := Lib.hid fun y hy => rRoom c r L ax ay y (RB.out y hy)
    have KSa : Hid (∀ y r1 r2, Rows12 y r1 L → Rows12 y r2 L → Calls Try.prog 14 #[.agg (stC c r1).toArray, .agg (stC c r2).toArray] y fun e w' => e = .returned (.bool true) ∧ Below y.heap.size y w') := Lib.hid fun y r1 r2 h1 h2 => rSame_true c r1 r2 L y h1 h2
    have KSc : Hid (∀ y u v, RowR y u (catL L 6) → RowR y v (catL L 6) → Calls Try.prog 17 #[u, v] y fun e w' => e = .returned (.bool true) ∧ Below y.heap.size y w') := Lib.hid fun y u v h1 h2 => by
      have h := rSameCards _ _ u v y h1 h2
      rw [decide_eq_true rfl] at h
      exact h
    have KSp : Hid (∀ y w1 B r', OwnSt w1 B r' L → Below w1.heap.size w1 y → Calls Try.prog 15 #[.agg (stC c r').toArray] y fun e w' => e = .returned (.tuple #[]) ∧ Keeps (fun k => B ≤ k ∧ k < w1.heap.size) y w') := Lib.hid fun y w1 B r' h hb =>
      rSpoil c r' L B w1.heap.size y hb.size (fun q hq => (h.own q hq).rw_at ((h.own q hq).below hb)) (fun q hq => Nat.le_trans (hsz q hq) (by decide))
    have KSs : Hid (∀ y r2, Rows12 y r L → Rows12 y r2 L → Calls Try.prog 14 #[.agg (stC c r).toArray, .agg (stC c r2).toArray] y fun e w' => e = .returned (.bool true) ∧ Below y.heap.size y w') := Lib.hid fun y r2 h1 h2 => rSame_true c r r2 L y h1 h2
    obtain ⟨E, hE⟩ : ∃ E, stV (emptyC 0 3) nilR = E := ⟨_, rfl⟩
    have KEp : Hid (∀ y, Calls Try.prog 21 #[] y fun e w' => e = .returned E ∧ Below y.heap.size y w') := Lib.hid fun y => by rw [← hE]; exact pEmpty y
    have KEr : Hid (∀ y, Calls Try.prog 22 #[] y fun e w' => e = .returned E ∧ Below y.heap.size y w') := Lib.hid fun y => by rw [← hE]; exact rEmpty y
    have KEs : Hid (∀ y, Calls Try.prog 14 #[E, E] y fun e w' => e = .returned (.bool true) ∧ Below y.heap.size y w') := Lib.hid fun y => by rw [← hE]; exact rSame_true _ _ _ _ y (nilR_rows y) (nilR_rows y)
    clear hlen hT hW0 ok0 h0 ok2 h2 hR hLw hbk hcw hk hsz hE
    rw [HST.out] at KFi KPl
    rcases hpl : placeO L a1 with _ | ⟨q, n⟩
    all_goals
      rw [hpl] at KFi KPl
      simp only [fSeat, fLane, fSlot, placeV, Option.isSome] at KFi KPl
      clear hpl
    case none =>
      generalize hS : stC c r = S at *
      go_enter Try.func3, Try.ntmps3
      go_upto_region 14 with (first
        | ((with_reducible refine at_ld 18 ?_); refine wpList_loadW 33 (.tmp 3) 33 w.heap.size S T.out (by kernel_rfl) (by rw [← hS]; exact HSI.out _) rfl rfl rfl ?_)
        | (go_at_call 8; (with_reducible refine (KCo.out _ BB.out).mono ?_); rintro e wx1 ⟨rfl, bx⟩; have T := Lib.hid (T.out.below bx T.out.inside); have A := Lib.hid (A.out.below bx A.out.inside); have BB := Lib.hid (bthen BB.out bx))
        | ((with_reducible refine at_ld 23 ?_); refine wpList_loadW 33 (.tmp 3) 33 w.heap.size S T.out (by kernel_rfl) (by rw [← hS]; exact HSI.out _) rfl rfl rfl ?_)
        | (go_at_call 10; (with_reducible refine (KFi.out _ BB.out).mono ?_); rintro e wx2 ⟨rfl, bx⟩; have T := Lib.hid (T.out.below bx T.out.inside); have A := Lib.hid (A.out.below bx A.out.inside); have BB := Lib.hid (bthen BB.out bx))
        | ((with_reducible refine at_ld 31 ?_); refine wpList_loadW 33 (.tmp 3) 33 w.heap.size S T.out (by kernel_rfl) (by rw [← hS]; exact HSI.out _) rfl rfl rfl ?_)
        | (go_at_call 11; (with_reducible refine (KPl.out _ BB.out).mono ?_); rintro e wx3 ⟨rfl, bx⟩; have T := Lib.hid (T.out.below bx T.out.inside); have A := Lib.hid (A.out.below bx A.out.inside); have BB := Lib.hid (bthen BB.out bx))
        | ((with_reducible refine at_ld 75 ?_); refine wpList_loadW 33 (.tmp 3) 33 w.heap.size S T.out (by kernel_rfl) (by rw [← hS]; exact HSI.out _) rfl rfl rfl ?_)
        | (go_at_call 12; (with_reducible refine (KFr.out _ BB.out).mono ?_); rintro e wx4 ⟨r1, rfl, o1, bx⟩; have T := Lib.hid (T.out.below bx T.out.inside); have A := Lib.hid (A.out.below bx A.out.inside); have BB := Lib.hid (bthen BB.out bx); have R1 := Lib.hid (rows_own o1); rw [HST.out]; clear o1)
        | ((with_reducible refine at_st 14 76 ?_); refine wpList_storeW 33 (.tmp 14) (.tmp 76) 33 wx4.heap.size zeroSt (stC c r1) (Whole.made wx4 _ _) (HL.out _) (HSI.out _) (stC_one R1.out.one) rfl rfl rfl rfl rfl ?_; intro wx5 p9; have bx := put_new p9; have T := Lib.hid (T.out.below bx T.out.inside); have A := Lib.hid (A.out.below bx A.out.inside); have BB := Lib.hid (bthen BB.out bx); have R1 := Lib.hid (rows_below R1.out bx); have V1 := Lib.hid p9.whole; clear p9)
        | ((with_reducible refine at_ld 77 ?_); refine wpList_loadW 33 (.tmp 3) 33 w.heap.size S T.out (by kernel_rfl) (by rw [← hS]; exact HSI.out _) rfl rfl rfl ?_; have TP := T; have AP := A; have RP := R1; have VP := V1; have BP := BB; have QP : Hid (Below wx5.heap.size wx5 wx5) := Lib.hid (Below.refl _ _))
        | (go_at_call 13; (with_reducible refine (KCl.out _ BB.out).mono ?_); rintro e wx6 ⟨r2, rfl, o2, bx⟩; have T := Lib.hid (T.out.below bx T.out.inside); have A := Lib.hid (A.out.below bx A.out.inside); have BB := Lib.hid (bthen BB.out bx); have R1 := Lib.hid (rows_below R1.out bx); have V1 := Lib.hid (V1.out.below bx V1.out.inside); have QP := Lib.hid (bthen QP.out bx); have R2 := Lib.hid o2; rw [HST.out]; clear o2)
        | ((with_reducible refine at_st 15 78 ?_); refine wpList_storeW 33 (.tmp 15) (.tmp 78) 33 wx6.heap.size zeroSt (stC c r2) (Whole.made wx6 _ _) (HL.out _) (HSI.out _) (stC_one R2.out.rows.one) rfl rfl rfl rfl rfl ?_; intro wx7 p9; have bx := put_new p9; have T := Lib.hid (T.out.below bx T.out.inside); have A := Lib.hid (A.out.below bx A.out.inside); have BB := Lib.hid (bthen BB.out bx); have R1 := Lib.hid (rows_below R1.out bx); have V1 := Lib.hid (V1.out.below bx V1.out.inside); have QP := Lib.hid (bthen QP.out bx); have R2 := Lib.hid (R2.out.below bx); have V2 := Lib.hid p9.whole; clear p9)
        | ((with_reducible refine at_ld 79 ?_); refine wpList_loadW 33 (.tmp 15) 33 wx6.heap.size (stC c r2) V2.out (by kernel_rfl) (HSI.out _) rfl rfl rfl ?_)
        | ((with_reducible refine at_ld 80 ?_); refine wpList_loadW 33 (.tmp 14) 33 wx4.heap.size (stC c r1) V1.out (by kernel_rfl) (HSI.out _) rfl rfl rfl ?_)
        | (go_at_call 14; (with_reducible refine (KSa.out _ _ _ R2.out.rows R1.out).mono ?_); rintro e wx8 ⟨rfl, bx⟩; have T := Lib.hid (T.out.below bx T.out.inside); have A := Lib.hid (A.out.below bx A.out.inside); have BB := Lib.hid (bthen BB.out bx); have R1 := Lib.hid (rows_below R1.out bx); have V1 := Lib.hid (V1.out.below bx V1.out.inside); have QP := Lib.hid (bthen QP.out bx); have R2 := Lib.hid (R2.out.below bx); have V2 := Lib.hid (V2.out.below bx V2.out.inside))
        | ((with_reducible refine at_ld 82 ?_); refine wpList_loadW 33 (.tmp 15) 33 wx6.heap.size (stC c r2) V2.out (by kernel_rfl) (HSI.out _) rfl rfl rfl ?_)
        | (go_at_call 15; (with_reducible refine (KSp.out _ _ _ _ R2.out (Below.refl _ _)).mono ?_); rintro e wx9 ⟨rfl, kx⟩; have bx := QP.out.trans (kx.below QP.out.size (fun k h => h.1)); have T := Lib.hid (TP.out.below bx TP.out.inside); have A := Lib.hid (AP.out.below bx AP.out.inside); have BB := Lib.hid (bthen BP.out bx); have R1 := Lib.hid (rows_below RP.out bx); have V1 := Lib.hid (VP.out.below bx VP.out.inside); clear kx)
        | ((with_reducible refine at_ld 84 ?_); refine wpList_loadW 33 (.tmp 3) 33 w.heap.size S T.out (by kernel_rfl) (by rw [← hS]; exact HSI.out _) rfl rfl rfl ?_)
        | (go_at_call 16; (with_reducible refine (KLi.out _ BB.out).mono ?_); rintro e wx10 ⟨vl, rfl, o3, bx⟩; have T := Lib.hid (T.out.below bx T.out.inside); have A := Lib.hid (A.out.below bx A.out.inside); have BB := Lib.hid (bthen BB.out bx); have R1 := Lib.hid (rows_below R1.out bx); have V1 := Lib.hid (V1.out.below bx V1.out.inside); have OL := Lib.hid (OwnI.row o3); clear o3)
        | ((with_reducible refine at_ld 89 ?_); refine wpList_loadWG 33 (.tmp 3) 33 w.heap.size S T.out (by kernel_rfl) (by rw [← hS]; exact HSI.out _) (by rfl) rfl rfl ?_)
        | ((with_reducible refine at_ld 90 ?_); refine wpList_loadWG 33 (.tmp 14) 33 wx4.heap.size (stC c r1) V1.out (by kernel_rfl) (HSI.out _) (by rfl) rfl rfl ?_)
        | (go_at_call 14; (with_reducible refine (KSs.out _ _ (RB.out _ BB.out) R1.out).mono ?_); rintro e wx11 ⟨rfl, bx⟩; have T := Lib.hid (T.out.below bx T.out.inside); have A := Lib.hid (A.out.below bx A.out.inside); have BB := Lib.hid (bthen BB.out bx); have R1 := Lib.hid (rows_below R1.out bx); have V1 := Lib.hid (V1.out.below bx V1.out.inside); have OL := Lib.hid (OL.out.below bx))
        | ((with_reducible refine at_ld 96 ?_); refine wpList_loadWG 33 (.tmp 3) 33 w.heap.size S T.out (by kernel_rfl) (by rw [← hS]; exact HSI.out _) (by rfl) rfl rfl ?_)
        | (go_at_call 18; (with_reducible refine (KAl.out _ BB.out).mono ?_); rintro e wx12 ⟨va, rfl, o4, bx⟩; have T := Lib.hid (T.out.below bx T.out.inside); have A := Lib.hid (A.out.below bx A.out.inside); have BB := Lib.hid (bthen BB.out bx); have R1 := Lib.hid (rows_below R1.out bx); have V1 := Lib.hid (V1.out.below bx V1.out.inside); have OL := Lib.hid (OL.out.below bx); have OA := Lib.hid (OwnI.row o4); clear o4)
        | (go_at_call 17; (with_reducible refine (KSc.out _ _ _ OL.out OA.out).mono ?_); rintro e wx13 ⟨rfl, bx⟩; have T := Lib.hid (T.out.below bx T.out.inside); have A := Lib.hid (A.out.below bx A.out.inside); have BB := Lib.hid (bthen BB.out bx); have R1 := Lib.hid (rows_below R1.out bx); have V1 := Lib.hid (V1.out.below bx V1.out.inside); have OL := Lib.hid (OL.out.below bx); have OA := Lib.hid (OA.out.below bx)))
      have hst : Stab (fun y => Whole y w.heap.size 33 S.toArray ∧ Whole y (w.heap.size + 1) 34 #[.int .i64 ax, .int .i64 ay] ∧ Below w.heap.size w y) := fun y z h e => ⟨h.1.below e h.1.inside, h.2.1.below e h.2.1.inside, bthen h.2.2 e⟩
      have hzz : (roomZ L ax ay == roomZ L ax ay) = true := by simp
      generalize roomZ L ax ay = Z at *
      refine wp_region_ab (fun y => Whole y w.heap.size 33 S.toArray ∧ Whole y (w.heap.size + 1) 34 #[.int .i64 ax, .int .i64 ay] ∧ Below w.heap.size w y) (by kernel_rfl) (hst _ _ ⟨T.out, A.out, BB.out⟩ (below_drew1 (Below.refl _ _))) ?_
      refine AB.take (i := 0) (v := .agg S.toArray) rfl rfl (by kernel_rfl) (by kernel_rfl) (by kernel_rfl) (fun _ _ _ h => h) hst (gives_loadG (ys := S) (b := w.heap.size) (k := 0) (by kernel_rfl) rfl rfl (fun y hy => whole_range0 hy.1) (by kernel_rfl) (by rw [← hS]; exact HSI.out _)) ?_
      simp only [List.set_cons_zero, List.set_cons_succ]
      refine AB.take (i := 1) (v := .pointer (some ⟨w.heap.size + 1, 0, none⟩)) rfl rfl (by kernel_rfl) (by kernel_rfl) (by kernel_rfl) (fun _ _ _ h => h) hst (gives_ok rfl (fun y hy => by clear hy; go_simp)) ?_
      simp only [List.set_cons_zero, List.set_cons_succ]
      refine AB.take (i := 2) (v := .int .i64 ax) rfl rfl (by kernel_rfl) (by kernel_rfl) (by kernel_rfl) (fun _ _ _ h => h) hst (gives_cell (b := w.heap.size + 1) (k := 0) rfl rfl rfl (fun y hy => by rw [hy.2.1.read]; rfl) (by kernel_rfl)) ?_
      simp only [List.set_cons_zero, List.set_cons_succ]
      refine AB.take (i := 3) (v := .pointer (some ⟨w.heap.size + 1, 1, none⟩)) rfl rfl (by kernel_rfl) (by kernel_rfl) (by kernel_rfl) (fun _ _ _ h => h) hst (gives_ok rfl (fun y hy => by clear hy; go_simp)) ?_
      simp only [List.set_cons_zero, List.set_cons_succ]
      refine AB.take (i := 4) (v := .int .i64 ay) rfl rfl (by kernel_rfl) (by kernel_rfl) (by kernel_rfl) (fun _ _ _ h => h) hst (gives_cell (b := w.heap.size + 1) (k := 1) rfl rfl rfl (fun y hy => by rw [hy.2.1.read]; rfl) (by kernel_rfl)) ?_
      simp only [List.set_cons_zero, List.set_cons_succ]
      refine AB.take (i := 5) (v := .int .i64 Z) rfl rfl (by kernel_rfl) (by kernel_rfl) (by kernel_rfl) (fun _ _ _ h => h) hst (Gives.call rfl (fun w => by kernel_rfl) (fun y hy => KRp.out y hy.2.2)) ?_
      simp only [List.set_cons_zero, List.set_cons_succ]
      refine AB.take (i := 6) (v := .agg S.toArray) rfl rfl (by kernel_rfl) (by kernel_rfl) (by kernel_rfl) (fun _ _ _ h => h) hst (gives_loadG (ys := S) (b := w.heap.size) (k := 0) (by kernel_rfl) rfl rfl (fun y hy => whole_range0 hy.1) (by kernel_rfl) (by rw [← hS]; exact HSI.out _)) ?_
      simp only [List.set_cons_zero, List.set_cons_succ]
      refine AB.take (i := 7) (v := .pointer (some ⟨w.heap.size + 1, 0, none⟩)) rfl rfl (by kernel_rfl) (by kernel_rfl) (by kernel_rfl) (fun _ _ _ h => h) hst (gives_ok rfl (fun y hy => by clear hy; go_simp)) ?_
      simp only [List.set_cons_zero, List.set_cons_succ]
      refine AB.take (i := 8) (v := .int .i64 ax) rfl rfl (by kernel_rfl) (by kernel_rfl) (by kernel_rfl) (fun _ _ _ h => h) hst (gives_cell (b := w.heap.size + 1) (k := 0) rfl rfl rfl (fun y hy => by rw [hy.2.1.read]; rfl) (by kernel_rfl)) ?_
      simp only [List.set_cons_zero, List.set_cons_succ]
      refine AB.take (i := 9) (v := .pointer (some ⟨w.heap.size + 1, 1, none⟩)) rfl rfl (by kernel_rfl) (by kernel_rfl) (by kernel_rfl) (fun _ _ _ h => h) hst (gives_ok rfl (fun y hy => by clear hy; go_simp)) ?_
      simp only [List.set_cons_zero, List.set_cons_succ]
      refine AB.take (i := 10) (v := .int .i64 ay) rfl rfl (by kernel_rfl) (by kernel_rfl) (by kernel_rfl) (fun _ _ _ h => h) hst (gives_cell (b := w.heap.size + 1) (k := 1) rfl rfl rfl (fun y hy => by rw [hy.2.1.read]; rfl) (by kernel_rfl)) ?_
      simp only [List.set_cons_zero, List.set_cons_succ]
      refine AB.take (i := 11) (v := .int .i64 Z) rfl rfl (by kernel_rfl) (by kernel_rfl) (by kernel_rfl) (fun _ _ _ h => h) hst (Gives.call rfl (fun w => by kernel_rfl) (fun y hy => KRr.out y hy.2.2)) ?_
      simp only [List.set_cons_zero, List.set_cons_succ]
      refine AB.take (i := 12) (v := .bool true) rfl rfl (by kernel_rfl) (by kernel_rfl) (by kernel_rfl) (fun _ _ _ h => h) hst (gives_ok rfl (fun y hy => by clear hy; go_simp)) ?_
      simp only [List.set_cons_zero, List.set_cons_succ]
      refine AB.take (i := 13) (v := .bool true) rfl rfl (by kernel_rfl) (by kernel_rfl) (by kernel_rfl) (fun _ _ _ h => h) hst (gives_move rfl rfl rfl) ?_
      simp only [List.set_cons_zero, List.set_cons_succ]
      refine AB.take (i := 14) (v := E) rfl rfl (by kernel_rfl) (by kernel_rfl) (by kernel_rfl) (fun _ _ _ h => h) hst (Gives.callG (by rfl) (fun w => by kernel_rfl) (fun y hy => KEp.out y)) ?_
      simp only [List.set_cons_zero, List.set_cons_succ]
      refine AB.take (i := 15) (v := E) rfl rfl (by kernel_rfl) (by kernel_rfl) (by kernel_rfl) (fun _ _ _ h => h) hst (Gives.callG (by rfl) (fun w => by kernel_rfl) (fun y hy => KEr.out y)) ?_
      simp only [List.set_cons_zero, List.set_cons_succ]
      refine AB.take (i := 16) (v := .bool true) rfl rfl (by kernel_rfl) (by kernel_rfl) (by kernel_rfl) (fun _ _ _ h => h) hst (Gives.callG (by rfl) (fun w => by kernel_rfl) (fun y hy => KEs.out y)) ?_
      simp only [List.set_cons_zero, List.set_cons_succ]
      refine AB.take (i := 17) (v := .bool true) rfl rfl (by kernel_rfl) (by kernel_rfl) (by kernel_rfl) (fun _ _ _ h => h) hst (gives_ok rfl (fun y hy => by clear hy; go_simp)) ?_
      simp only [List.set_cons_zero, List.set_cons_succ]
      refine AB.take (i := 18) (v := .bool true) rfl rfl (by kernel_rfl) (by kernel_rfl) (by kernel_rfl) (fun _ _ _ h => h) hst (gives_move rfl rfl rfl) ?_
      simp only [List.set_cons_zero, List.set_cons_succ]
      refine AB.take (i := 19) (v := .bool true) rfl rfl (by kernel_rfl) (by kernel_rfl) (by kernel_rfl) (fun _ _ _ h => h) hst (Gives.callG (by rfl) (fun w => by kernel_rfl) (fun y hy => lives22 y)) ?_
      simp only [List.set_cons_zero, List.set_cons_succ]
      refine AB.take (i := 20) (v := .bool true) rfl rfl (by kernel_rfl) (by kernel_rfl) (by kernel_rfl) (fun _ _ _ h => h) hst (gives_ok rfl (fun y hy => by clear hy; go_simp)) ?_
      simp only [List.set_cons_zero, List.set_cons_succ]
      refine AB.take (i := 21) (v := .bool true) rfl rfl (by kernel_rfl) (by kernel_rfl) (by kernel_rfl) (fun _ _ _ h => h) hst (gives_ok rfl (fun y hy => by clear hy; go_simp)) ?_
      simp only [List.set_cons_zero, List.set_cons_succ]
      refine AB.done (by kernel_rfl) (fun wn hS => ?_)
      go_wp2
      go_ret
      exact ⟨rfl, hS.2.2⟩
    case some =>
      obtain ⟨k, hkq⟩ : ∃ k, q % 2 = k := ⟨_, rfl⟩
      obtain ⟨i, hiq⟩ : ∃ i, q / 2 = i := ⟨_, rfl⟩
      rw [hkq, hiq] at KFi KPl
      have hk0 : (0 : Int) ≤ (k : Int) := by omega
      clear hkq hiq
      generalize hS : stC c r = S at *
      go_enter Try.func3, Try.ntmps3
      go_upto_region 14 with (first
        | ((with_reducible refine at_ld 18 ?_); refine wpList_loadW 33 (.tmp 3) 33 w.heap.size S T.out (by kernel_rfl) (by rw [← hS]; exact HSI.out _) rfl rfl rfl ?_)
        | (go_at_call 8; (with_reducible refine (KCo.out _ BB.out).mono ?_); rintro e wx1 ⟨rfl, bx⟩; have T := Lib.hid (T.out.below bx T.out.inside); have A := Lib.hid (A.out.below bx A.out.inside); have BB := Lib.hid (bthen BB.out bx))
        | ((with_reducible refine at_ld 23 ?_); refine wpList_loadW 33 (.tmp 3) 33 w.heap.size S T.out (by kernel_rfl) (by rw [← hS]; exact HSI.out _) rfl rfl rfl ?_)
        | (go_at_call 10; (with_reducible refine (KFi.out _ BB.out).mono ?_); rintro e wx2 ⟨rfl, bx⟩; have T := Lib.hid (T.out.below bx T.out.inside); have A := Lib.hid (A.out.below bx A.out.inside); have BB := Lib.hid (bthen BB.out bx))
        | ((with_reducible refine at_ld 31 ?_); refine wpList_loadW 33 (.tmp 3) 33 w.heap.size S T.out (by kernel_rfl) (by rw [← hS]; exact HSI.out _) rfl rfl rfl ?_)
        | (go_at_call 11; (with_reducible refine (KPl.out _ BB.out).mono ?_); rintro e wx3 ⟨rfl, bx⟩; have T := Lib.hid (T.out.below bx T.out.inside); have A := Lib.hid (A.out.below bx A.out.inside); have BB := Lib.hid (bthen BB.out bx))
        | ((with_reducible refine at_ld 75 ?_); refine wpList_loadW 33 (.tmp 3) 33 w.heap.size S T.out (by kernel_rfl) (by rw [← hS]; exact HSI.out _) rfl rfl rfl ?_)
        | (go_at_call 12; (with_reducible refine (KFr.out _ BB.out).mono ?_); rintro e wx4 ⟨r1, rfl, o1, bx⟩; have T := Lib.hid (T.out.below bx T.out.inside); have A := Lib.hid (A.out.below bx A.out.inside); have BB := Lib.hid (bthen BB.out bx); have R1 := Lib.hid (rows_own o1); rw [HST.out]; clear o1)
        | ((with_reducible refine at_st 14 76 ?_); refine wpList_storeW 33 (.tmp 14) (.tmp 76) 33 wx4.heap.size zeroSt (stC c r1) (Whole.made wx4 _ _) (HL.out _) (HSI.out _) (stC_one R1.out.one) rfl rfl rfl rfl rfl ?_; intro wx5 p9; have bx := put_new p9; have T := Lib.hid (T.out.below bx T.out.inside); have A := Lib.hid (A.out.below bx A.out.inside); have BB := Lib.hid (bthen BB.out bx); have R1 := Lib.hid (rows_below R1.out bx); have V1 := Lib.hid p9.whole; clear p9)
        | ((with_reducible refine at_ld 77 ?_); refine wpList_loadW 33 (.tmp 3) 33 w.heap.size S T.out (by kernel_rfl) (by rw [← hS]; exact HSI.out _) rfl rfl rfl ?_; have TP := T; have AP := A; have RP := R1; have VP := V1; have BP := BB; have QP : Hid (Below wx5.heap.size wx5 wx5) := Lib.hid (Below.refl _ _))
        | (go_at_call 13; (with_reducible refine (KCl.out _ BB.out).mono ?_); rintro e wx6 ⟨r2, rfl, o2, bx⟩; have T := Lib.hid (T.out.below bx T.out.inside); have A := Lib.hid (A.out.below bx A.out.inside); have BB := Lib.hid (bthen BB.out bx); have R1 := Lib.hid (rows_below R1.out bx); have V1 := Lib.hid (V1.out.below bx V1.out.inside); have QP := Lib.hid (bthen QP.out bx); have R2 := Lib.hid o2; rw [HST.out]; clear o2)
        | ((with_reducible refine at_st 15 78 ?_); refine wpList_storeW 33 (.tmp 15) (.tmp 78) 33 wx6.heap.size zeroSt (stC c r2) (Whole.made wx6 _ _) (HL.out _) (HSI.out _) (stC_one R2.out.rows.one) rfl rfl rfl rfl rfl ?_; intro wx7 p9; have bx := put_new p9; have T := Lib.hid (T.out.below bx T.out.inside); have A := Lib.hid (A.out.below bx A.out.inside); have BB := Lib.hid (bthen BB.out bx); have R1 := Lib.hid (rows_below R1.out bx); have V1 := Lib.hid (V1.out.below bx V1.out.inside); have QP := Lib.hid (bthen QP.out bx); have R2 := Lib.hid (R2.out.below bx); have V2 := Lib.hid p9.whole; clear p9)
        | ((with_reducible refine at_ld 79 ?_); refine wpList_loadW 33 (.tmp 15) 33 wx6.heap.size (stC c r2) V2.out (by kernel_rfl) (HSI.out _) rfl rfl rfl ?_)
        | ((with_reducible refine at_ld 80 ?_); refine wpList_loadW 33 (.tmp 14) 33 wx4.heap.size (stC c r1) V1.out (by kernel_rfl) (HSI.out _) rfl rfl rfl ?_)
        | (go_at_call 14; (with_reducible refine (KSa.out _ _ _ R2.out.rows R1.out).mono ?_); rintro e wx8 ⟨rfl, bx⟩; have T := Lib.hid (T.out.below bx T.out.inside); have A := Lib.hid (A.out.below bx A.out.inside); have BB := Lib.hid (bthen BB.out bx); have R1 := Lib.hid (rows_below R1.out bx); have V1 := Lib.hid (V1.out.below bx V1.out.inside); have QP := Lib.hid (bthen QP.out bx); have R2 := Lib.hid (R2.out.below bx); have V2 := Lib.hid (V2.out.below bx V2.out.inside))
        | ((with_reducible refine at_ld 82 ?_); refine wpList_loadW 33 (.tmp 15) 33 wx6.heap.size (stC c r2) V2.out (by kernel_rfl) (HSI.out _) rfl rfl rfl ?_)
        | (go_at_call 15; (with_reducible refine (KSp.out _ _ _ _ R2.out (Below.refl _ _)).mono ?_); rintro e wx9 ⟨rfl, kx⟩; have bx := QP.out.trans (kx.below QP.out.size (fun k h => h.1)); have T := Lib.hid (TP.out.below bx TP.out.inside); have A := Lib.hid (AP.out.below bx AP.out.inside); have BB := Lib.hid (bthen BP.out bx); have R1 := Lib.hid (rows_below RP.out bx); have V1 := Lib.hid (VP.out.below bx VP.out.inside); clear kx)
        | ((with_reducible refine at_ld 84 ?_); refine wpList_loadW 33 (.tmp 3) 33 w.heap.size S T.out (by kernel_rfl) (by rw [← hS]; exact HSI.out _) rfl rfl rfl ?_)
        | (go_at_call 16; (with_reducible refine (KLi.out _ BB.out).mono ?_); rintro e wx10 ⟨vl, rfl, o3, bx⟩; have T := Lib.hid (T.out.below bx T.out.inside); have A := Lib.hid (A.out.below bx A.out.inside); have BB := Lib.hid (bthen BB.out bx); have R1 := Lib.hid (rows_below R1.out bx); have V1 := Lib.hid (V1.out.below bx V1.out.inside); have OL := Lib.hid (OwnI.row o3); clear o3)
        | ((with_reducible refine at_ld 89 ?_); refine wpList_loadWG 33 (.tmp 3) 33 w.heap.size S T.out (by kernel_rfl) (by rw [← hS]; exact HSI.out _) (by rfl) rfl rfl ?_)
        | ((with_reducible refine at_ld 90 ?_); refine wpList_loadWG 33 (.tmp 14) 33 wx4.heap.size (stC c r1) V1.out (by kernel_rfl) (HSI.out _) (by rfl) rfl rfl ?_)
        | (go_at_call 14; (with_reducible refine (KSs.out _ _ (RB.out _ BB.out) R1.out).mono ?_); rintro e wx11 ⟨rfl, bx⟩; have T := Lib.hid (T.out.below bx T.out.inside); have A := Lib.hid (A.out.below bx A.out.inside); have BB := Lib.hid (bthen BB.out bx); have R1 := Lib.hid (rows_below R1.out bx); have V1 := Lib.hid (V1.out.below bx V1.out.inside); have OL := Lib.hid (OL.out.below bx))
        | ((with_reducible refine at_ld 96 ?_); refine wpList_loadWG 33 (.tmp 3) 33 w.heap.size S T.out (by kernel_rfl) (by rw [← hS]; exact HSI.out _) (by rfl) rfl rfl ?_)
        | (go_at_call 18; (with_reducible refine (KAl.out _ BB.out).mono ?_); rintro e wx12 ⟨va, rfl, o4, bx⟩; have T := Lib.hid (T.out.below bx T.out.inside); have A := Lib.hid (A.out.below bx A.out.inside); have BB := Lib.hid (bthen BB.out bx); have R1 := Lib.hid (rows_below R1.out bx); have V1 := Lib.hid (V1.out.below bx V1.out.inside); have OL := Lib.hid (OL.out.below bx); have OA := Lib.hid (OwnI.row o4); clear o4)
        | (go_at_call 17; (with_reducible refine (KSc.out _ _ _ OL.out OA.out).mono ?_); rintro e wx13 ⟨rfl, bx⟩; have T := Lib.hid (T.out.below bx T.out.inside); have A := Lib.hid (A.out.below bx A.out.inside); have BB := Lib.hid (bthen BB.out bx); have R1 := Lib.hid (rows_below R1.out bx); have V1 := Lib.hid (V1.out.below bx V1.out.inside); have OL := Lib.hid (OL.out.below bx); have OA := Lib.hid (OA.out.below bx)))
      have hst : Stab (fun y => Whole y w.heap.size 33 S.toArray ∧ Whole y (w.heap.size + 1) 34 #[.int .i64 ax, .int .i64 ay] ∧ Below w.heap.size w y) := fun y z h e => ⟨h.1.below e h.1.inside, h.2.1.below e h.2.1.inside, bthen h.2.2 e⟩
      have hzz : (roomZ L ax ay == roomZ L ax ay) = true := by simp
      generalize roomZ L ax ay = Z at *
      refine wp_region_ab (fun y => Whole y w.heap.size 33 S.toArray ∧ Whole y (w.heap.size + 1) 34 #[.int .i64 ax, .int .i64 ay] ∧ Below w.heap.size w y) (by kernel_rfl) (hst _ _ ⟨T.out, A.out, BB.out⟩ (below_drew1 (Below.refl _ _))) ?_
      refine AB.take (i := 0) (v := .agg S.toArray) rfl rfl (by kernel_rfl) (by kernel_rfl) (by kernel_rfl) (fun _ _ _ h => h) hst (gives_loadG (ys := S) (b := w.heap.size) (k := 0) (by kernel_rfl) rfl rfl (fun y hy => whole_range0 hy.1) (by kernel_rfl) (by rw [← hS]; exact HSI.out _)) ?_
      simp only [List.set_cons_zero, List.set_cons_succ]
      refine AB.take (i := 1) (v := .pointer (some ⟨w.heap.size + 1, 0, none⟩)) rfl rfl (by kernel_rfl) (by kernel_rfl) (by kernel_rfl) (fun _ _ _ h => h) hst (gives_ok rfl (fun y hy => by clear hy; go_simp)) ?_
      simp only [List.set_cons_zero, List.set_cons_succ]
      refine AB.take (i := 2) (v := .int .i64 ax) rfl rfl (by kernel_rfl) (by kernel_rfl) (by kernel_rfl) (fun _ _ _ h => h) hst (gives_cell (b := w.heap.size + 1) (k := 0) rfl rfl rfl (fun y hy => by rw [hy.2.1.read]; rfl) (by kernel_rfl)) ?_
      simp only [List.set_cons_zero, List.set_cons_succ]
      refine AB.take (i := 3) (v := .pointer (some ⟨w.heap.size + 1, 1, none⟩)) rfl rfl (by kernel_rfl) (by kernel_rfl) (by kernel_rfl) (fun _ _ _ h => h) hst (gives_ok rfl (fun y hy => by clear hy; go_simp)) ?_
      simp only [List.set_cons_zero, List.set_cons_succ]
      refine AB.take (i := 4) (v := .int .i64 ay) rfl rfl (by kernel_rfl) (by kernel_rfl) (by kernel_rfl) (fun _ _ _ h => h) hst (gives_cell (b := w.heap.size + 1) (k := 1) rfl rfl rfl (fun y hy => by rw [hy.2.1.read]; rfl) (by kernel_rfl)) ?_
      simp only [List.set_cons_zero, List.set_cons_succ]
      refine AB.take (i := 5) (v := .int .i64 Z) rfl rfl (by kernel_rfl) (by kernel_rfl) (by kernel_rfl) (fun _ _ _ h => h) hst (Gives.call rfl (fun w => by kernel_rfl) (fun y hy => KRp.out y hy.2.2)) ?_
      simp only [List.set_cons_zero, List.set_cons_succ]
      refine AB.take (i := 6) (v := .agg S.toArray) rfl rfl (by kernel_rfl) (by kernel_rfl) (by kernel_rfl) (fun _ _ _ h => h) hst (gives_loadG (ys := S) (b := w.heap.size) (k := 0) (by kernel_rfl) rfl rfl (fun y hy => whole_range0 hy.1) (by kernel_rfl) (by rw [← hS]; exact HSI.out _)) ?_
      simp only [List.set_cons_zero, List.set_cons_succ]
      refine AB.take (i := 7) (v := .pointer (some ⟨w.heap.size + 1, 0, none⟩)) rfl rfl (by kernel_rfl) (by kernel_rfl) (by kernel_rfl) (fun _ _ _ h => h) hst (gives_ok rfl (fun y hy => by clear hy; go_simp)) ?_
      simp only [List.set_cons_zero, List.set_cons_succ]
      refine AB.take (i := 8) (v := .int .i64 ax) rfl rfl (by kernel_rfl) (by kernel_rfl) (by kernel_rfl) (fun _ _ _ h => h) hst (gives_cell (b := w.heap.size + 1) (k := 0) rfl rfl rfl (fun y hy => by rw [hy.2.1.read]; rfl) (by kernel_rfl)) ?_
      simp only [List.set_cons_zero, List.set_cons_succ]
      refine AB.take (i := 9) (v := .pointer (some ⟨w.heap.size + 1, 1, none⟩)) rfl rfl (by kernel_rfl) (by kernel_rfl) (by kernel_rfl) (fun _ _ _ h => h) hst (gives_ok rfl (fun y hy => by clear hy; go_simp)) ?_
      simp only [List.set_cons_zero, List.set_cons_succ]
      refine AB.take (i := 10) (v := .int .i64 ay) rfl rfl (by kernel_rfl) (by kernel_rfl) (by kernel_rfl) (fun _ _ _ h => h) hst (gives_cell (b := w.heap.size + 1) (k := 1) rfl rfl rfl (fun y hy => by rw [hy.2.1.read]; rfl) (by kernel_rfl)) ?_
      simp only [List.set_cons_zero, List.set_cons_succ]
      refine AB.take (i := 11) (v := .int .i64 Z) rfl rfl (by kernel_rfl) (by kernel_rfl) (by kernel_rfl) (fun _ _ _ h => h) hst (Gives.call rfl (fun w => by kernel_rfl) (fun y hy => KRr.out y hy.2.2)) ?_
      simp only [List.set_cons_zero, List.set_cons_succ]
      refine AB.take (i := 12) (v := .bool true) rfl rfl (by kernel_rfl) (by kernel_rfl) (by kernel_rfl) (fun _ _ _ h => h) hst (gives_ok rfl (fun y hy => by clear hy; go_simp)) ?_
      simp only [List.set_cons_zero, List.set_cons_succ]
      refine AB.take (i := 13) (v := .bool true) rfl rfl (by kernel_rfl) (by kernel_rfl) (by kernel_rfl) (fun _ _ _ h => h) hst (gives_move rfl rfl rfl) ?_
      simp only [List.set_cons_zero, List.set_cons_succ]
      refine AB.take (i := 14) (v := E) rfl rfl (by kernel_rfl) (by kernel_rfl) (by kernel_rfl) (fun _ _ _ h => h) hst (Gives.callG (by rfl) (fun w => by kernel_rfl) (fun y hy => KEp.out y)) ?_
      simp only [List.set_cons_zero, List.set_cons_succ]
      refine AB.take (i := 15) (v := E) rfl rfl (by kernel_rfl) (by kernel_rfl) (by kernel_rfl) (fun _ _ _ h => h) hst (Gives.callG (by rfl) (fun w => by kernel_rfl) (fun y hy => KEr.out y)) ?_
      simp only [List.set_cons_zero, List.set_cons_succ]
      refine AB.take (i := 16) (v := .bool true) rfl rfl (by kernel_rfl) (by kernel_rfl) (by kernel_rfl) (fun _ _ _ h => h) hst (Gives.callG (by rfl) (fun w => by kernel_rfl) (fun y hy => KEs.out y)) ?_
      simp only [List.set_cons_zero, List.set_cons_succ]
      refine AB.take (i := 17) (v := .bool true) rfl rfl (by kernel_rfl) (by kernel_rfl) (by kernel_rfl) (fun _ _ _ h => h) hst (gives_ok rfl (fun y hy => by clear hy; go_simp)) ?_
      simp only [List.set_cons_zero, List.set_cons_succ]
      refine AB.take (i := 18) (v := .bool true) rfl rfl (by kernel_rfl) (by kernel_rfl) (by kernel_rfl) (fun _ _ _ h => h) hst (gives_move rfl rfl rfl) ?_
      simp only [List.set_cons_zero, List.set_cons_succ]
      refine AB.take (i := 19) (v := .bool true) rfl rfl (by kernel_rfl) (by kernel_rfl) (by kernel_rfl) (fun _ _ _ h => h) hst (Gives.callG (by rfl) (fun w => by kernel_rfl) (fun y hy => lives22 y)) ?_
      simp only [List.set_cons_zero, List.set_cons_succ]
      refine AB.take (i := 20) (v := .bool true) rfl rfl (by kernel_rfl) (by kernel_rfl) (by kernel_rfl) (fun _ _ _ h => h) hst (gives_ok rfl (fun y hy => by clear hy; go_simp)) ?_
      simp only [List.set_cons_zero, List.set_cons_succ]
      refine AB.take (i := 21) (v := .bool true) rfl rfl (by kernel_rfl) (by kernel_rfl) (by kernel_rfl) (fun _ _ _ h => h) hst (gives_ok rfl (fun y hy => by clear hy; go_simp)) ?_
      simp only [List.set_cons_zero, List.set_cons_succ]
      refine AB.done (by kernel_rfl) (fun wn hS => ?_)
      go_wp2
      go_ret
      exact ⟨rfl, hS.2.2⟩
end Go.Proofs.Ytkalpclckgbedaa
