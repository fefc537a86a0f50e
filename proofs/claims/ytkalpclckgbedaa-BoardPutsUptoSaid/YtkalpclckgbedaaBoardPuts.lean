/-
  For every input the law BoardPuts returns true. Conditions: what comes in is of bulk at most 1048576.
-/
import Derived.Test.YtkalpclckgbedaaStW
import Derived.Test.YtkalpclckgbedaaStSameT
import Derived.Test.YtkalpclckgbedaaBrdL
import Derived.Test.YtkalpclckgbedaaStPut
import Derived.Test.YtkalpclckgbedaaStSet
import Derived.Test.YtkalpclckgbedaaBrdM
import Derived.BigQuiet
namespace Go.Proofs.Ytkalpclckgbedaa
open Go.ChangeShapes Go.WideShapes Go.ChangeAt Go.RowKit
set_option linter.unusedVariables false
set_option linter.unusedSimpArgs false
set_option maxRecDepth 20000
set_option maxHeartbeats 12800000
theorem walk_BoardPuts {H : Type} {enc : TypeId × Value → H} {b0 base : Nat} {spare : Nat → Bool} {held : Bool} {d0 : DataW H} {p0 : List MemPlace} {d1 : DataW H} {p1 : List MemPlace} (v0 v1 : Value) (a2 : Int) (w : World) (ok0 : Value.okWide Try.prog w .any b0 33 v0) (h0 : DataW.Trod enc Try.prog w base spare held 33 v0 d0 p0)
    (ok1 : Value.okWide Try.prog w .any b0 50 v1) (h1 : DataW.Trod enc Try.prog w base spare held 50 v1 d1 p1) (w2 : (Lit.int .i64 a2).wf = true) (hk : Rows.uptoBulk d0 ≤ 1048576) :
    Calls Try.prog 4 #[v0, v1, .int .i64 a2] w fun e w' => e = .returned (.bool true) ∧ Below w.heap.size w w' := by
  obtain ⟨c, r, L, rfl, hcw, hR, hLw, hbk⟩ := open_stateB ok0 h0
  have hlen : ∀ q, q < 12 → (L q).length ≤ 1048576 := fun q hq => Nat.le_trans (hbk q hq) hk
  have hT : (pilesL L 2).length ≤ 2199023255488 := Nat.le_trans (pil_le hlen) (by decide)
  obtain ⟨x, rfl, hxw⟩ := open_inst ok1 h1
  have hW0 := Whole.made w 33 (stC c r).toArray
  have T : Hid (Whole ((w.alloc (.cells (stC c r).toArray 33)).alloc (.cells x.cells.toArray 50)) w.heap.size 33 (stC c r).toArray) := Lib.hid (hW0.alloc _)
  have A : Hid (Whole ((w.alloc (.cells (stC c r).toArray 33)).alloc (.cells x.cells.toArray 50)) (w.heap.size + 1) 50 x.cells.toArray) := Lib.hid (by
    have h := Whole.made (w.alloc (.cells (stC c r).toArray 33)) 50 x.cells.toArray
    rw [World.size_alloc] at h
    exact h)
  have BB : Hid (Below w.heap.size w ((w.alloc (.cells (stC c r).toArray 33)).alloc (.cells x.cells.toArray 50))) := Lib.hid (((Below.refl _ _).alloc (Nat.le_refl _) _).alloc (by simp) _)
  have RB : Hid (∀ y, Below w.heap.size w y → Rows12 y r L) := Lib.hid fun y hy q hq => (hR q hq).below hy
  have HSI : Hid (∀ r, (Try.prog.info? 33).map (·.size) = some (stC c r).length) := Lib.hid (fun r => by rw [show (stC c r).length = 30 from rfl]; kernel_rfl)
  have HL : Hid (∀ r, (stC c r).length = 30) := Lib.hid fun r => rfl
  have HST : Hid (∀ r, stV c r = .agg (stC c r).toArray) := Lib.hid fun r => rfl
  have KCo : Hid (∀ y, Below w.heap.size w y → Calls Try.prog 8 #[.agg (stC c r).toArray] y fun e w' => e = .returned (.int .i64 ((pilesL L 2).length : Nat)) ∧ Below y.heap.size y w') := Lib.hid fun y hy => rCount c r L y (RB.out y hy) hT
  rw [show stV c r = .agg (stC c r).toArray from rfl]
  by_cases hN : 100 < (pilesL L 2).length
  · have hN1 : (100 : Int) < (((pilesL L 2).length : Nat) : Int) := by omega
    generalize (pilesL L 2).length = N at *
    clear hlen hT hW0 ok0 h0 ok1 h1 hR hLw hbk hcw hk
    generalize hS : stC c r = S at *
    go_enter Try.func4, Try.ntmps4
    go_wp2_with (first
      | ((with_reducible refine at_ld 16 ?_); refine wpList_loadW 33 (.tmp 3) 33 w.heap.size S T.out (by kernel_rfl) (by rw [← hS]; exact HSI.out _) rfl rfl rfl ?_)
      | (go_at_call 8; (with_reducible refine (KCo.out _ BB.out).mono ?_); rintro e wx1 ⟨rfl, bx⟩; have T := Lib.hid (T.out.below bx T.out.inside); have A := Lib.hid (A.out.below bx A.out.inside); have BB := Lib.hid (bthen BB.out bx))
      | (go_at_call 9; (with_reducible refine (lives22 _).mono ?_); rintro e wx2 ⟨rfl, bx⟩; have T := Lib.hid (T.out.below bx T.out.inside); have A := Lib.hid (A.out.below bx A.out.inside); have BB := Lib.hid (bthen BB.out bx)))
    go_ret
    exact ⟨rfl, BB.out⟩
  · have hN1 : ¬ (100 : Int) < (((pilesL L 2).length : Nat) : Int) := by omega
    have hsz : ∀ q, q < 12 → (L q).length ≤ 1000 := fun q hq => by have := pil_ge (L := L) hq; omega
    generalize (pilesL L 2).length = N at *
    have KFr : Hid (∀ y, Below w.heap.size w y → Calls Try.prog 12 #[.agg (stC c r).toArray] y fun e w' => ∃ r', e = .returned (stV c r') ∧ (∀ q, q < 12 → OwnI w' y.heap.size (r' q) (L q)) ∧ Below y.heap.size y w') := Lib.hid fun y hy => rFresh c r L y (RB.out y hy) hsz
    have KSs : Hid (∀ y r2, Rows12 y r L → Rows12 y r2 L → Calls Try.prog 14 #[.agg (stC c r).toArray, .agg (stC c r2).toArray] y fun e w' => e = .returned (.bool true) ∧ Below y.heap.size y w') := Lib.hid fun y r2 h1 h2 => rSame_true c r r2 L y h1 h2
    have KSr : Hid (∀ y r2, Rows12 y r2 L → Rows12 y r L → Calls Try.prog 14 #[.agg (stC c r2).toArray, .agg (stC c r).toArray] y fun e w' => e = .returned (.bool true) ∧ Below y.heap.size y w') := Lib.hid fun y r2 h1 h2 => rSame_true c r2 r L y h1 h2
    have KSa : Hid (∀ y L' r1 r2, Rows12 y r1 L' → Rows12 y r2 L' → Calls Try.prog 14 #[.agg (stC c r1).toArray, .agg (stC c r2).toArray] y fun e w' => e = .returned (.bool true) ∧ Below y.heap.size y w') := Lib.hid fun y L' r1 r2 h1 h2 => rSame_true c r1 r2 L' y h1 h2
    have KSp : Hid (∀ y w1 B r' L', (∀ q, q < 12 → (L' q).length ≤ 1000000) → OwnSt w1 B r' L' → Below w1.heap.size w1 y → Calls Try.prog 15 #[.agg (stC c r').toArray] y fun e w' => e = .returned (.tuple #[]) ∧ Keeps (fun k => B ≤ k ∧ k < w1.heap.size) y w') := Lib.hid fun y w1 B r' L' hl h hb =>
      rSpoil c r' L' B w1.heap.size y hb.size (fun q hq => (h.own q hq).rw_at ((h.own q hq).below hb)) hl
    have hLP : ∀ q, q < 12 → (putSt L x a2 q).length ≤ 1000000 := fun q hq => by
      have h := hsz q hq
      unfold putSt
      split
      · omega
      · unfold setRow
        split
        · have h2 : (L (2 * a2.toNat + x.owner.toNat)).length ≤ 1000 := by
            rename_i hz e
            obtain ⟨i, k, e1, e2, _, _, h3⟩ := room_ok hz
            rw [e1, e2, Int.toNat_natCast, Int.toNat_natCast]
            omega
          rw [List.length_append, List.length_singleton]
          omega
        · omega
    have hLS : ∀ q, q < 12 → (setL L x q).length ≤ 1000000 := fun q hq => by
      have h := hsz q hq
      unfold setL
      cases placeO L x.id with
      | none => exact Nat.le_trans h (by decide)
      | some qn =>
        show (setRow L qn.1 ((L qn.1).set qn.2 x) q).length ≤ 1000000
        unfold setRow
        split
        · rename_i e
          rw [List.length_set, ← e]
          omega
        · omega
    have KPu : Hid (∀ y, Below w.heap.size w y → Calls Try.prog 23 #[.agg (stC c r).toArray, .agg x.cells.toArray, .int .i64 a2] y fun e w' => ∃ r', e = .returned (.tuple #[stV c r', .bool (!decide (roomZ L x.owner a2 < 1))]) ∧ OwnSt w' y.heap.size r' (putSt L x a2) ∧ Below y.heap.size y w') := Lib.hid fun y hy => pPut c r L x a2 y (RB.out y hy) hsz
    have KPr : Hid (∀ y r1, Rows12 y r1 L → Calls Try.prog 24 #[.agg (stC c r1).toArray, .agg x.cells.toArray, .int .i64 a2] y fun e w' => ∃ r', e = .returned (.tuple #[stV c r', .bool (!decide (roomZ L x.owner a2 < 1))]) ∧ Rows12 w' r' (putSt L x a2) ∧ Below y.heap.size y w') := Lib.hid fun y r1 hr => rPut c r1 L x a2 y hr
    have KSe : Hid (∀ y, Below w.heap.size w y → Calls Try.prog 25 #[.agg (stC c r).toArray, .agg x.cells.toArray] y fun e w' => ∃ r', e = .returned (.tuple #[stV c r', .bool (placeO L x.id).isSome]) ∧ OwnSt w' y.heap.size r' (setL L x) ∧ Below y.heap.size y w') := Lib.hid fun y hy => pSet c r L x y (RB.out y hy) hsz
    have KSf : Hid (∀ y r1, Rows12 y r1 L → Calls Try.prog 26 #[.agg (stC c r1).toArray, .agg x.cells.toArray] y fun e w' => ∃ r', e = .returned (.tuple #[stV c r', .bool (placeO L x.id).isSome]) ∧ Rows12 w' r' (setL L x) ∧ Below y.heap.size y w') := Lib.hid fun y r1 hr => rSet c r1 L x y hr hsz
    generalize (!decide (roomZ L x.owner a2 < 1)) = OP at *
    generalize (placeO L x.id).isSome = OS at *
    generalize putSt L x a2 = LP at *
    generalize setL L x = LS at *
    have HLP := Lib.hid hLP
    have HLS := Lib.hid hLS
    clear hlen hT hW0 ok0 h0 ok1 h1 hR hLw hbk hcw hk hsz hLP hLS
    have HXL : Hid ((Try.prog.info? 50).map (·.size) = some x.cells.length) := Lib.hid (by kernel_rfl)
    generalize hS : stC c r = S at *
    generalize x.cells = X at *
    go_enter Try.func4, Try.ntmps4
    go_wp2_with (first
      | ((with_reducible refine at_ld 16 ?_); refine wpList_loadW 33 (.tmp 3) 33 w.heap.size S T.out (by kernel_rfl) (by rw [← hS]; exact HSI.out _) rfl rfl rfl ?_)
      | (go_at_call 8; (with_reducible refine (KCo.out _ BB.out).mono ?_); rintro e wx1 ⟨rfl, bx⟩; have T := Lib.hid (T.out.below bx T.out.inside); have A := Lib.hid (A.out.below bx A.out.inside); have BB := Lib.hid (bthen BB.out bx))
      | ((with_reducible refine at_ld 20 ?_); refine wpList_loadW 33 (.tmp 3) 33 w.heap.size S T.out (by kernel_rfl) (by rw [← hS]; exact HSI.out _) rfl rfl rfl ?_)
      | (go_at_call 12; (with_reducible refine (KFr.out _ BB.out).mono ?_); rintro e wx2 ⟨r1, rfl, o1, bx⟩; have T := Lib.hid (T.out.below bx T.out.inside); have A := Lib.hid (A.out.below bx A.out.inside); have BB := Lib.hid (bthen BB.out bx); have R1 := Lib.hid (rows_own o1); rw [HST.out]; clear o1)
      | ((with_reducible refine at_st 7 21 ?_); refine wpList_storeW 33 (.tmp 7) (.tmp 21) 33 wx2.heap.size zeroSt (stC c r1) (Whole.made wx2 _ _) (HL.out _) (HSI.out _) (stC_one R1.out.one) rfl rfl rfl rfl rfl ?_; intro wx3 p9; have bx := put_new p9; have T := Lib.hid (T.out.below bx T.out.inside); have A := Lib.hid (A.out.below bx A.out.inside); have BB := Lib.hid (bthen BB.out bx); have R1 := Lib.hid (rows_below R1.out bx); have V1 := Lib.hid p9.whole; clear p9)
      | ((with_reducible refine at_ld 23 ?_); refine wpList_loadW 33 (.tmp 3) 33 w.heap.size S T.out (by kernel_rfl) (by rw [← hS]; exact HSI.out _) rfl rfl rfl ?_; have TP := T; have RP := R1; have VP := V1; have BP := BB; have QP : Hid (Below wx3.heap.size wx3 wx3) := Lib.hid (Below.refl _ _))
      | ((with_reducible refine at_ld 24 ?_); refine wpList_loadW 50 (.tmp 4) 50 (w.heap.size + 1) X A.out (by kernel_rfl) HXL.out rfl rfl rfl ?_)
      | (go_at_call 23; (with_reducible refine (KPu.out _ BB.out).mono ?_); rintro e wx4 ⟨ra, rfl, oa, bx⟩; have T := Lib.hid (T.out.below bx T.out.inside); have A := Lib.hid (A.out.below bx A.out.inside); have BB := Lib.hid (bthen BB.out bx); have R1 := Lib.hid (rows_below R1.out bx); have V1 := Lib.hid (V1.out.below bx V1.out.inside); have QP := Lib.hid (bthen QP.out bx); have RA := Lib.hid oa; have RAp := RA; have HA : Hid (Below wx4.heap.size wx4 wx4) := Lib.hid (Below.refl _ _); rw [HST.out]; clear oa)
      | ((with_reducible refine at_st 8 27 ?_); refine wpList_storeW 33 (.tmp 8) (.tmp 27) 33 wx4.heap.size zeroSt (stC c ra) (Whole.made wx4 _ _) (HL.out _) (HSI.out _) (stC_one RA.out.rows.one) rfl rfl rfl rfl rfl ?_; intro wx5 p9; have bx := put_new p9; have T := Lib.hid (T.out.below bx T.out.inside); have A := Lib.hid (A.out.below bx A.out.inside); have BB := Lib.hid (bthen BB.out bx); have R1 := Lib.hid (rows_below R1.out bx); have V1 := Lib.hid (V1.out.below bx V1.out.inside); have QP := Lib.hid (bthen QP.out bx); have RA := Lib.hid (RA.out.below bx); have HA := Lib.hid (bthen HA.out bx); have V3 := Lib.hid p9.whole; clear p9)
      | ((with_reducible refine at_ld 30 ?_); refine wpList_loadW 33 (.tmp 7) 33 wx2.heap.size (stC c r1) V1.out (by kernel_rfl) (HSI.out _) rfl rfl rfl ?_)
      | ((with_reducible refine at_ld 31 ?_); refine wpList_loadW 50 (.tmp 4) 50 (w.heap.size + 1) X A.out (by kernel_rfl) HXL.out rfl rfl rfl ?_)
      | (go_at_call 24; (with_reducible refine (KPr.out _ _ R1.out).mono ?_); rintro e wx6 ⟨rb, rfl, ob, bx⟩; have T := Lib.hid (T.out.below bx T.out.inside); have A := Lib.hid (A.out.below bx A.out.inside); have BB := Lib.hid (bthen BB.out bx); have R1 := Lib.hid (rows_below R1.out bx); have V1 := Lib.hid (V1.out.below bx V1.out.inside); have QP := Lib.hid (bthen QP.out bx); have RA := Lib.hid (RA.out.below bx); have HA := Lib.hid (bthen HA.out bx); have V3 := Lib.hid (V3.out.below bx V3.out.inside); have RBb := Lib.hid ob; rw [HST.out]; clear ob)
      | ((with_reducible refine at_st 10 34 ?_); refine wpList_storeW 33 (.tmp 10) (.tmp 34) 33 wx6.heap.size zeroSt (stC c rb) (Whole.made wx6 _ _) (HL.out _) (HSI.out _) (stC_one RBb.out.one) rfl rfl rfl rfl rfl ?_; intro wx7 p9; have bx := put_new p9; have T := Lib.hid (T.out.below bx T.out.inside); have A := Lib.hid (A.out.below bx A.out.inside); have BB := Lib.hid (bthen BB.out bx); have R1 := Lib.hid (rows_below R1.out bx); have V1 := Lib.hid (V1.out.below bx V1.out.inside); have QP := Lib.hid (bthen QP.out bx); have RA := Lib.hid (RA.out.below bx); have HA := Lib.hid (bthen HA.out bx); have V3 := Lib.hid (V3.out.below bx V3.out.inside); have RBb := Lib.hid (rows_below RBb.out bx); have V4 := Lib.hid p9.whole; clear p9)
      | ((with_reducible refine at_ld 37 ?_); refine wpList_loadW 33 (.tmp 3) 33 w.heap.size S T.out (by kernel_rfl) (by rw [← hS]; exact HSI.out _) rfl rfl rfl ?_)
      | ((with_reducible refine at_ld 38 ?_); refine wpList_loadW 50 (.tmp 4) 50 (w.heap.size + 1) X A.out (by kernel_rfl) HXL.out rfl rfl rfl ?_)
      | (go_at_call 25; (with_reducible refine (KSe.out _ BB.out).mono ?_); have hQc := Lib.hid QP.out.size; have hBc := Lib.hid HA.out.size; rintro e wx8 ⟨rc, rfl, oc, bx⟩; have T := Lib.hid (T.out.below bx T.out.inside); have A := Lib.hid (A.out.below bx A.out.inside); have BB := Lib.hid (bthen BB.out bx); have R1 := Lib.hid (rows_below R1.out bx); have V1 := Lib.hid (V1.out.below bx V1.out.inside); have QP := Lib.hid (bthen QP.out bx); have RA := Lib.hid (RA.out.below bx); have HA := Lib.hid (bthen HA.out bx); have V3 := Lib.hid (V3.out.below bx V3.out.inside); have RBb := Lib.hid (rows_below RBb.out bx); have V4 := Lib.hid (V4.out.below bx V4.out.inside); have RC := Lib.hid oc; rw [HST.out]; clear oc)
      | ((with_reducible refine at_st 12 40 ?_); refine wpList_storeW 33 (.tmp 12) (.tmp 40) 33 wx8.heap.size zeroSt (stC c rc) (Whole.made wx8 _ _) (HL.out _) (HSI.out _) (stC_one RC.out.rows.one) rfl rfl rfl rfl rfl ?_; have hB12 := Lib.hid HA.out.size; intro wx9 p9; have bx := put_new p9; have T := Lib.hid (T.out.below bx T.out.inside); have A := Lib.hid (A.out.below bx A.out.inside); have BB := Lib.hid (bthen BB.out bx); have R1 := Lib.hid (rows_below R1.out bx); have V1 := Lib.hid (V1.out.below bx V1.out.inside); have QP := Lib.hid (bthen QP.out bx); have RA := Lib.hid (RA.out.below bx); have HA := Lib.hid (bthen HA.out bx); have V3 := Lib.hid (V3.out.below bx V3.out.inside); have RBb := Lib.hid (rows_below RBb.out bx); have V4 := Lib.hid (V4.out.below bx V4.out.inside); have RC := Lib.hid (RC.out.below bx); have V5 := Lib.hid p9.whole; clear p9)
      | ((with_reducible refine at_ld 43 ?_); refine wpList_loadW 33 (.tmp 7) 33 wx2.heap.size (stC c r1) V1.out (by kernel_rfl) (HSI.out _) rfl rfl rfl ?_)
      | ((with_reducible refine at_ld 44 ?_); refine wpList_loadW 50 (.tmp 4) 50 (w.heap.size + 1) X A.out (by kernel_rfl) HXL.out rfl rfl rfl ?_)
      | (go_at_call 26; (with_reducible refine (KSf.out _ _ R1.out).mono ?_); rintro e wx10 ⟨rd, rfl, od, bx⟩; have T := Lib.hid (T.out.below bx T.out.inside); have A := Lib.hid (A.out.below bx A.out.inside); have BB := Lib.hid (bthen BB.out bx); have R1 := Lib.hid (rows_below R1.out bx); have V1 := Lib.hid (V1.out.below bx V1.out.inside); have QP := Lib.hid (bthen QP.out bx); have RA := Lib.hid (RA.out.below bx); have HA := Lib.hid (bthen HA.out bx); have V3 := Lib.hid (V3.out.below bx V3.out.inside); have RBb := Lib.hid (rows_below RBb.out bx); have V4 := Lib.hid (V4.out.below bx V4.out.inside); have RC := Lib.hid (RC.out.below bx); have V5 := Lib.hid (V5.out.below bx V5.out.inside); have RD := Lib.hid od; rw [HST.out]; clear od)
      | ((with_reducible refine at_st 14 46 ?_); refine wpList_storeW 33 (.tmp 14) (.tmp 46) 33 wx10.heap.size zeroSt (stC c rd) (Whole.made wx10 _ _) (HL.out _) (HSI.out _) (stC_one RD.out.one) rfl rfl rfl rfl rfl ?_; intro wx11 p9; have bx := put_new p9; have T := Lib.hid (T.out.below bx T.out.inside); have A := Lib.hid (A.out.below bx A.out.inside); have BB := Lib.hid (bthen BB.out bx); have R1 := Lib.hid (rows_below R1.out bx); have V1 := Lib.hid (V1.out.below bx V1.out.inside); have QP := Lib.hid (bthen QP.out bx); have RA := Lib.hid (RA.out.below bx); have HA := Lib.hid (bthen HA.out bx); have V3 := Lib.hid (V3.out.below bx V3.out.inside); have RBb := Lib.hid (rows_below RBb.out bx); have V4 := Lib.hid (V4.out.below bx V4.out.inside); have RC := Lib.hid (RC.out.below bx); have V5 := Lib.hid (V5.out.below bx V5.out.inside); have RD := Lib.hid (rows_below RD.out bx); have V6 := Lib.hid p9.whole; clear p9)
      | ((with_reducible refine at_ld 57 ?_); refine wpList_loadWG 33 (.tmp 8) 33 wx4.heap.size (stC c ra) V3.out (by kernel_rfl) (HSI.out _) (by rfl) rfl rfl ?_)
      | ((with_reducible refine at_ld 58 ?_); refine wpList_loadWG 33 (.tmp 10) 33 wx6.heap.size (stC c rb) V4.out (by kernel_rfl) (HSI.out _) (by rfl) rfl rfl ?_)
      | (go_at_call 14; (with_reducible refine (KSa.out _ _ _ _ RA.out.rows RBb.out).mono ?_); rintro e wx12 ⟨rfl, bx⟩; have T := Lib.hid (T.out.below bx T.out.inside); have A := Lib.hid (A.out.below bx A.out.inside); have BB := Lib.hid (bthen BB.out bx); have R1 := Lib.hid (rows_below R1.out bx); have V1 := Lib.hid (V1.out.below bx V1.out.inside); have QP := Lib.hid (bthen QP.out bx); have RA := Lib.hid (RA.out.below bx); have HA := Lib.hid (bthen HA.out bx); have V3 := Lib.hid (V3.out.below bx V3.out.inside); have RBb := Lib.hid (rows_below RBb.out bx); have V4 := Lib.hid (V4.out.below bx V4.out.inside); have RC := Lib.hid (RC.out.below bx); have V5 := Lib.hid (V5.out.below bx V5.out.inside); have RD := Lib.hid (rows_below RD.out bx); have V6 := Lib.hid (V6.out.below bx V6.out.inside))
      | ((with_reducible refine at_ld 63 ?_); refine wpList_loadWG 33 (.tmp 12) 33 wx8.heap.size (stC c rc) V5.out (by kernel_rfl) (HSI.out _) (by rfl) rfl rfl ?_)
      | ((with_reducible refine at_ld 64 ?_); refine wpList_loadWG 33 (.tmp 14) 33 wx10.heap.size (stC c rd) V6.out (by kernel_rfl) (HSI.out _) (by rfl) rfl rfl ?_)
      | (go_at_call 14; (with_reducible refine (KSa.out _ _ _ _ RC.out.rows RD.out).mono ?_); rintro e wx13 ⟨rfl, bx⟩; have T := Lib.hid (T.out.below bx T.out.inside); have A := Lib.hid (A.out.below bx A.out.inside); have BB := Lib.hid (bthen BB.out bx); have R1 := Lib.hid (rows_below R1.out bx); have V1 := Lib.hid (V1.out.below bx V1.out.inside); have QP := Lib.hid (bthen QP.out bx); have RA := Lib.hid (RA.out.below bx); have HA := Lib.hid (bthen HA.out bx); have V3 := Lib.hid (V3.out.below bx V3.out.inside); have RBb := Lib.hid (rows_below RBb.out bx); have V4 := Lib.hid (V4.out.below bx V4.out.inside); have RC := Lib.hid (RC.out.below bx); have V5 := Lib.hid (V5.out.below bx V5.out.inside); have RD := Lib.hid (rows_below RD.out bx); have V6 := Lib.hid (V6.out.below bx V6.out.inside))
      | ((with_reducible refine at_ld 68 ?_); refine wpList_loadW 33 (.tmp 8) 33 wx4.heap.size (stC c ra) V3.out (by kernel_rfl) (HSI.out _) rfl rfl rfl ?_)
      | (go_at_call 15; (with_reducible refine (KSp.out _ _ _ _ _ HLP.out RAp.out HA.out).mono ?_); rintro e wx14 ⟨rfl, kx⟩; have QP := Lib.hid (QP.out.trans (kx.below QP.out.size (fun k h => h.1))); have RC : Hid (OwnSt _ _ rc LS) := Lib.hid ⟨fun q hq => kx.owns (RC.out.own q hq) (fun k h1 h2 => by have := (World.ownsRow.lt (RC.out.own q hq) k h1).1; have := hBc.out; omega), RC.out.apart⟩; have V5 := Lib.hid (kx.whole V5.out (fun h => by have := hB12.out; omega)); clear kx)
      | ((with_reducible refine at_ld 70 ?_); refine wpList_loadW 33 (.tmp 12) 33 wx8.heap.size (stC c rc) V5.out (by kernel_rfl) (HSI.out _) rfl rfl rfl ?_)
      | (go_at_call 15; (with_reducible refine (KSp.out _ _ _ _ _ HLS.out RC.out (Below.refl _ _)).mono ?_); rintro e wx15 ⟨rfl, kx⟩; have bx := QP.out.trans (kx.below QP.out.size (fun k h => Nat.le_trans hQc.out h.1)); have T := Lib.hid (TP.out.below bx TP.out.inside); have BB := Lib.hid (bthen BP.out bx); have R1 := Lib.hid (rows_below RP.out bx); have V1 := Lib.hid (VP.out.below bx VP.out.inside); clear kx)
      | ((with_reducible refine at_ld 72 ?_); refine wpList_loadW 33 (.tmp 3) 33 w.heap.size S T.out (by kernel_rfl) (by rw [← hS]; exact HSI.out _) rfl rfl rfl ?_)
      | ((with_reducible refine at_ld 73 ?_); refine wpList_loadW 33 (.tmp 7) 33 wx2.heap.size (stC c r1) V1.out (by kernel_rfl) (HSI.out _) rfl rfl rfl ?_)
      | (go_at_call 14; (with_reducible refine (KSs.out _ _ (RB.out _ BB.out) R1.out).mono ?_); rintro e wx16 ⟨rfl, bx⟩; have T := Lib.hid (T.out.below bx T.out.inside); have BB := Lib.hid (bthen BB.out bx); have R1 := Lib.hid (rows_below R1.out bx); have V1 := Lib.hid (V1.out.below bx V1.out.inside))
      | (go_at_call 9; (with_reducible refine (lives22 _).mono ?_); rintro e wx17 ⟨rfl, bx⟩; have T := Lib.hid (T.out.below bx T.out.inside); have BB := Lib.hid (bthen BB.out bx); have R1 := Lib.hid (rows_below R1.out bx); have V1 := Lib.hid (V1.out.below bx V1.out.inside)))
    go_ret
    exact ⟨rfl, BB.out⟩
end Go.Proofs.Ytkalpclckgbedaa
