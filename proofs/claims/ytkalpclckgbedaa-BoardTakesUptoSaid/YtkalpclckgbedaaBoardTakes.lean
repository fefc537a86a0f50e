/-
  For every input the law BoardTakes returns true. Conditions: what comes in is of bulk at most 1048576.
-/
import Derived.Test.YtkalpclckgbedaaStW
import Derived.Test.YtkalpclckgbedaaStSameT
import Derived.Test.YtkalpclckgbedaaBrdL
import Derived.Test.YtkalpclckgbedaaStTake
import Derived.Test.YtkalpclckgbedaaBrdO
import Derived.BigQuiet
namespace Go.Proofs.Ytkalpclckgbedaa
open Go.ChangeShapes Go.WideShapes Go.ChangeAt Go.RowKit
set_option linter.unusedVariables false
set_option linter.unusedSimpArgs false
set_option maxRecDepth 20000
set_option maxHeartbeats 12800000
theorem insB_self (X : Ins) : insB X X = true := insB_iff.2 rfl
theorem walk_BoardTakes {H : Type} {enc : TypeId × Value → H} {b0 base : Nat} {spare : Nat → Bool} {held : Bool} {d0 : DataW H} {p0 : List MemPlace} (v0 : Value) (a1 : Int) (w : World) (ok0 : Value.okWide Try.prog w .any b0 33 v0) (h0 : DataW.Trod enc Try.prog w base spare held 33 v0 d0 p0) (w1 : (Lit.int .i64 a1).wf = true) (hk : Rows.uptoBulk d0 ≤ 1048576) :
    Calls Try.prog 5 #[v0, .int .i64 a1] w fun e w' => e = .returned (.bool true) ∧ Below w.heap.size w w' := by
  obtain ⟨c, r, L, rfl, hcw, hR, hLw, hbk⟩ := open_stateB ok0 h0
  have hlen : ∀ q, q < 12 → (L q).length ≤ 1048576 := fun q hq => Nat.le_trans (hbk q hq) hk
  have hT : (pilesL L 2).length ≤ 2199023255488 := Nat.le_trans (pil_le hlen) (by decide)
  have T : Hid (Whole (w.alloc (.cells (stC c r).toArray 33)) w.heap.size 33 (stC c r).toArray) := Lib.hid (Whole.made w 33 (stC c r).toArray)
  have BB : Hid (Below w.heap.size w (w.alloc (.cells (stC c r).toArray 33))) := Lib.hid ((Below.refl _ _).alloc (Nat.le_refl _) _)
  have RB : Hid (∀ y, Below w.heap.size w y → Rows12 y r L) := Lib.hid fun y hy q hq => (hR q hq).below hy
  have HSI : Hid (∀ r, (Try.prog.info? 33).map (·.size) = some (stC c r).length) := Lib.hid (fun r => by rw [show (stC c r).length = 30 from rfl]; kernel_rfl)
  have HL : Hid (∀ r, (stC c r).length = 30) := Lib.hid fun r => rfl
  have HST : Hid (∀ r, stV c r = .agg (stC c r).toArray) := Lib.hid fun r => rfl
  have KCo : Hid (∀ y, Below w.heap.size w y → Calls Try.prog 8 #[.agg (stC c r).toArray] y fun e w' => e = .returned (.int .i64 ((pilesL L 2).length : Nat)) ∧ Below y.heap.size y w') := Lib.hid fun y hy => rCount c r L y (RB.out y hy) hT
  rw [show stV c r = .agg (stC c r).toArray from rfl]
  by_cases hN : 100 < (pilesL L 2).length
  · have hN1 : (100 : Int) < (((pilesL L 2).length : Nat) : Int) := by omega
    generalize (pilesL L 2).length = N at *
    clear hlen hT ok0 h0 hR hLw hbk hcw hk
    generalize hS : stC c r = S at *
    go_enter Try.func5, Try.ntmps5
    go_wp2_with (first
      | ((with_reducible refine at_ld 13 ?_); refine wpList_loadW 33 (.tmp 2) 33 w.heap.size S T.out (by kernel_rfl) (by rw [← hS]; exact HSI.out _) rfl rfl rfl ?_)
      | (go_at_call 8; (with_reducible refine (KCo.out _ BB.out).mono ?_); rintro e wx1 ⟨rfl, bx⟩; have T := Lib.hid (T.out.below bx T.out.inside); have BB := Lib.hid (bthen BB.out bx))
      | (go_at_call 9; (with_reducible refine (lives22 _).mono ?_); rintro e wx2 ⟨rfl, bx⟩; have T := Lib.hid (T.out.below bx T.out.inside); have BB := Lib.hid (bthen BB.out bx)))
    go_ret
    exact ⟨rfl, BB.out⟩
  · have hN1 : ¬ (100 : Int) < (((pilesL L 2).length : Nat) : Int) := by omega
    have hsz : ∀ q, q < 12 → (L q).length ≤ 1000 := fun q hq => by have := pil_ge (L := L) hq; omega
    generalize (pilesL L 2).length = N at *
    have KFr : Hid (∀ y, Below w.heap.size w y → Calls Try.prog 12 #[.agg (stC c r).toArray] y fun e w' => ∃ r', e = .returned (stV c r') ∧ (∀ q, q < 12 → OwnI w' y.heap.size (r' q) (L q)) ∧ Below y.heap.size y w') := Lib.hid fun y hy => rFresh c r L y (RB.out y hy) hsz
    have KSs : Hid (∀ y r2, Rows12 y r L → Rows12 y r2 L → Calls Try.prog 14 #[.agg (stC c r).toArray, .agg (stC c r2).toArray] y fun e w' => e = .returned (.bool true) ∧ Below y.heap.size y w') := Lib.hid fun y r2 h1 h2 => rSame_true c r r2 L y h1 h2
    have KSr : Hid (∀ y r2, Rows12 y r2 L → Rows12 y r L → Calls Try.prog 14 #[.agg (stC c r2).toArray, .agg (stC c r).toArray] y fun e w' => e = .returned (.bool true) ∧ Below y.heap.size y w') := Lib.hid fun y r2 h1 h2 => rSame_true c r2 r L y h1 h2
    have KSa : Hid (∀ y L' r1 r2, Rows12 y r1 L' → Rows12 y r2 L' → Calls Try.prog 14 #[.agg (stC c r1).toArray, .agg (stC c r2).toArray] y fun e w' => e = .returned (.bool true) ∧ Below y.heap.size y w') := Lib.hid fun y L' r1 r2 h1 h2 => rSame_true c r1 r2 L' y h1 h2
    have KSp : Hid (∀ y w1 B r' L', (∀ q, q < 12 → (L' q).length ≤ 1000000) → OwnSt w1 B r' L' → Below w1.heap.size w1 y → Calls Try.prog 15 #[.agg (stC c r').toArray] y fun e w' => e = .returned (.tuple #[]) ∧ Keeps (fun k => B ≤ k ∧ k < w1.heap.size) y w') := Lib.hid fun y w1 B r' L' hl h hb =>
      rSpoil c r' L' B w1.heap.size y hb.size (fun q hq => (h.own q hq).rw_at ((h.own q hq).below hb)) hl
    have hLP : ∀ q, q < 12 → (takeL L a1 q).length ≤ 1000000 := fun q hq => by
      have h := hsz q hq
      unfold takeL
      cases placeO L a1 with
      | none => exact Nat.le_trans h (by decide)
      | some qn =>
        show (setRow L qn.1 ((L qn.1).take qn.2 ++ (L qn.1).drop (qn.2 + 1)) q).length ≤ 1000000
        unfold setRow
        split
        · rename_i e
          rw [List.length_append, List.length_take, List.length_drop, ← e]
          omega
        · omega
    have KTa : Hid (∀ y, Below w.heap.size w y → Calls Try.prog 27 #[.agg (stC c r).toArray, .int .i64 a1] y fun e w' => ∃ r', e = .returned (.tuple #[stV c r', .agg (getI L a1).cells.toArray, .bool (placeO L a1).isSome]) ∧ OwnSt w' y.heap.size r' (takeL L a1) ∧ Below y.heap.size y w') := Lib.hid fun y hy => pTake c r L a1 y (RB.out y hy) hsz
    have KTr : Hid (∀ y r1, Rows12 y r1 L → Calls Try.prog 28 #[.agg (stC c r1).toArray, .int .i64 a1] y fun e w' => ∃ r', e = .returned (.tuple #[stV c r', .bool (placeO L a1).isSome]) ∧ Rows12 w' r' (takeL L a1) ∧ Below y.heap.size y w') := Lib.hid fun y r1 hr => rTake c r1 L a1 y hr hsz
    have KGe : Hid (∀ y r1, Rows12 y r1 L → Calls Try.prog 29 #[.agg (stC c r1).toArray, .int .i64 a1] y fun e w' => e = .returned (.tuple #[.agg (getI L a1).cells.toArray, .bool (placeO L a1).isSome]) ∧ Below y.heap.size y w') := Lib.hid fun y r1 hr => rGet c r1 L a1 y hr
    obtain ⟨X, hX⟩ : ∃ X, getI L a1 = X := ⟨_, rfl⟩
    rw [hX] at KTa KGe
    have hneq : ∀ w, (binOp .neq 50 (.agg X.cells.toArray) (.agg X.cells.toArray)).run Try.prog w = .ok (.bool false) w := fun w => by
      have h := neq_ins X X w
      rw [insB_self] at h
      exact h
    generalize (placeO L a1).isSome = OT at *
    generalize takeL L a1 = LT at *
    have HLT := Lib.hid hLP
    clear hlen hT ok0 h0 hR hLw hbk hcw hk hsz hLP hX
    have HXL : Hid ((Try.prog.info? 50).map (·.size) = some X.cells.length) := Lib.hid (by kernel_rfl)
    have HX1 := Lib.hid (ins_one X)
    have HX7 : Hid (X.cells.length = zeroIns.cells.length) := Lib.hid rfl
    have ZW : Hid (∀ y : World, Whole ((y.alloc (.cells zeroSt.toArray 33)).alloc (.cells zeroIns.cells.toArray 50)) y.heap.size 33 zeroSt.toArray ∧ Whole ((y.alloc (.cells zeroSt.toArray 33)).alloc (.cells zeroIns.cells.toArray 50)) (y.heap.size + 1) 50 zeroIns.cells.toArray) := Lib.hid fun y => ⟨(Whole.made y _ _).alloc _, by
      have h := Whole.made (y.alloc (.cells zeroSt.toArray 33)) 50 zeroIns.cells.toArray
      rw [World.size_alloc] at h
      exact h⟩
    have ZB : Hid (∀ (y u v : World) (cs xs : List Value), Put ((y.alloc (.cells zeroSt.toArray 33)).alloc (.cells zeroIns.cells.toArray 50)) u y.heap.size 33 cs → Put u v (y.heap.size + 1) 50 xs → Below y.heap.size y v ∧ Whole v y.heap.size 33 cs.toArray ∧ Whole v (y.heap.size + 1) 50 xs.toArray) := Lib.hid fun y u v cs xs p q =>
      ⟨((((Below.refl _ _).alloc (Nat.le_refl _) _).alloc (by simp) _).trans (p.keeps.below (by simp; omega) (fun k h => by have e2 : k = y.heap.size := h; omega))).trans (q.keeps.below (Nat.le_of_lt p.whole.inside) (fun k h => by have e2 : k = y.heap.size + 1 := h; omega)), q.keeps.whole p.whole (fun e => by have e2 : y.heap.size = y.heap.size + 1 := e; omega), q.whole⟩
    generalize hS : stC c r = S at *
    generalize X.cells = XC at *
    go_enter Try.func5, Try.ntmps5
    go_wp2_with (first
      | ((with_reducible refine at_ld 13 ?_); refine wpList_loadW 33 (.tmp 2) 33 w.heap.size S T.out (by kernel_rfl) (by rw [← hS]; exact HSI.out _) rfl rfl rfl ?_)
      | (go_at_call 8; (with_reducible refine (KCo.out _ BB.out).mono ?_); rintro e wx1 ⟨rfl, bx⟩; have T := Lib.hid (T.out.below bx T.out.inside); have BB := Lib.hid (bthen BB.out bx))
      | ((with_reducible refine at_ld 17 ?_); refine wpList_loadW 33 (.tmp 2) 33 w.heap.size S T.out (by kernel_rfl) (by rw [← hS]; exact HSI.out _) rfl rfl rfl ?_)
      | (go_at_call 12; (with_reducible refine (KFr.out _ BB.out).mono ?_); rintro e wx2 ⟨r1, rfl, o1, bx⟩; have T := Lib.hid (T.out.below bx T.out.inside); have BB := Lib.hid (bthen BB.out bx); have R1 := Lib.hid (rows_own o1); rw [HST.out]; clear o1)
      | ((with_reducible refine at_st 5 18 ?_); refine wpList_storeW 33 (.tmp 5) (.tmp 18) 33 wx2.heap.size zeroSt (stC c r1) (Whole.made wx2 _ _) (HL.out _) (HSI.out _) (stC_one R1.out.one) rfl rfl rfl rfl rfl ?_; intro wx3 p9; have bx := put_new p9; have T := Lib.hid (T.out.below bx T.out.inside); have BB := Lib.hid (bthen BB.out bx); have R1 := Lib.hid (rows_below R1.out bx); have V1 := Lib.hid p9.whole; clear p9)
      | ((with_reducible refine at_ld 20 ?_); refine wpList_loadW 33 (.tmp 2) 33 w.heap.size S T.out (by kernel_rfl) (by rw [← hS]; exact HSI.out _) rfl rfl rfl ?_; have TP := T; have RP := R1; have VP := V1; have BP := BB; have QP : Hid (Below wx3.heap.size wx3 wx3) := Lib.hid (Below.refl _ _))
      | (go_at_call 27; (with_reducible refine (KTa.out _ BB.out).mono ?_); rintro e wx4 ⟨ra, rfl, oa, bx⟩; have T := Lib.hid (T.out.below bx T.out.inside); have BB := Lib.hid (bthen BB.out bx); have R1 := Lib.hid (rows_below R1.out bx); have V1 := Lib.hid (V1.out.below bx V1.out.inside); have QP := Lib.hid (bthen QP.out bx); have RA := Lib.hid oa; have RAp := RA; have HA : Hid (Below wx4.heap.size wx4 wx4) := Lib.hid (Below.refl _ _); rw [HST.out]; clear oa)
      | ((with_reducible refine at_st 6 23 ?_); refine wpList_storeW 33 (.tmp 6) (.tmp 23) 33 wx4.heap.size zeroSt (stC c ra) (ZW.out wx4).1 (HL.out _) (HSI.out _) (stC_one RA.out.rows.one) rfl rfl rfl rfl rfl ?_; intro wx5 p9; have P9 := Lib.hid p9; have Z2 := Lib.hid (p9.keeps.whole (ZW.out wx4).2 (fun e => by have e2 : wx4.heap.size + 1 = wx4.heap.size := e; omega)); clear p9)
      | ((with_reducible refine at_st 7 24 ?_); refine wpList_storeW 50 (.tmp 7) (.tmp 24) 50 (wx4.heap.size + 1) zeroIns.cells XC Z2.out HX7.out HXL.out HX1.out rfl rfl rfl rfl rfl ?_; intro wx6 q9; obtain ⟨bx, v6, v7⟩ := ZB.out _ _ _ _ _ P9.out q9; have T := Lib.hid (T.out.below bx T.out.inside); have BB := Lib.hid (bthen BB.out bx); have R1 := Lib.hid (rows_below R1.out bx); have V1 := Lib.hid (V1.out.below bx V1.out.inside); have QP := Lib.hid (bthen QP.out bx); have RA := Lib.hid (RA.out.below bx); have HA := Lib.hid (bthen HA.out bx); have V6 := Lib.hid v6; have V7 := Lib.hid v7; clear q9 v6 v7)
      | ((with_reducible refine at_ld 27 ?_); refine wpList_loadW 33 (.tmp 5) 33 wx2.heap.size (stC c r1) V1.out (by kernel_rfl) (HSI.out _) rfl rfl rfl ?_)
      | (go_at_call 28; (with_reducible refine (KTr.out _ _ R1.out).mono ?_); rintro e wx7 ⟨rb, rfl, ob, bx⟩; have T := Lib.hid (T.out.below bx T.out.inside); have BB := Lib.hid (bthen BB.out bx); have R1 := Lib.hid (rows_below R1.out bx); have V1 := Lib.hid (V1.out.below bx V1.out.inside); have QP := Lib.hid (bthen QP.out bx); have RA := Lib.hid (RA.out.below bx); have HA := Lib.hid (bthen HA.out bx); have V6 := Lib.hid (V6.out.below bx V6.out.inside); have V7 := Lib.hid (V7.out.below bx V7.out.inside); have RBb := Lib.hid ob; rw [HST.out]; clear ob)
      | ((with_reducible refine at_st 9 30 ?_); refine wpList_storeW 33 (.tmp 9) (.tmp 30) 33 wx7.heap.size zeroSt (stC c rb) (Whole.made wx7 _ _) (HL.out _) (HSI.out _) (stC_one RBb.out.one) rfl rfl rfl rfl rfl ?_; intro wx8 p9; have bx := put_new p9; have T := Lib.hid (T.out.below bx T.out.inside); have BB := Lib.hid (bthen BB.out bx); have R1 := Lib.hid (rows_below R1.out bx); have V1 := Lib.hid (V1.out.below bx V1.out.inside); have QP := Lib.hid (bthen QP.out bx); have RA := Lib.hid (RA.out.below bx); have HA := Lib.hid (bthen HA.out bx); have V6 := Lib.hid (V6.out.below bx V6.out.inside); have V7 := Lib.hid (V7.out.below bx V7.out.inside); have RBb := Lib.hid (rows_below RBb.out bx); have V9 := Lib.hid p9.whole; clear p9)
      | ((with_reducible refine at_ld 33 ?_); refine wpList_loadW 33 (.tmp 5) 33 wx2.heap.size (stC c r1) V1.out (by kernel_rfl) (HSI.out _) rfl rfl rfl ?_)
      | (go_at_call 29; (with_reducible refine (KGe.out _ _ R1.out).mono ?_); rintro e wx9 ⟨rfl, bx⟩; have T := Lib.hid (T.out.below bx T.out.inside); have BB := Lib.hid (bthen BB.out bx); have R1 := Lib.hid (rows_below R1.out bx); have V1 := Lib.hid (V1.out.below bx V1.out.inside); have QP := Lib.hid (bthen QP.out bx); have RA := Lib.hid (RA.out.below bx); have HA := Lib.hid (bthen HA.out bx); have V6 := Lib.hid (V6.out.below bx V6.out.inside); have V7 := Lib.hid (V7.out.below bx V7.out.inside); have RBb := Lib.hid (rows_below RBb.out bx); have V9 := Lib.hid (V9.out.below bx V9.out.inside))
      | ((with_reducible refine at_st 11 36 ?_); refine wpList_storeW 50 (.tmp 11) (.tmp 36) 50 wx9.heap.size zeroIns.cells XC (Whole.made wx9 _ _) HX7.out HXL.out HX1.out rfl rfl rfl rfl rfl ?_; intro wx10 p9; have bx := put_new p9; have T := Lib.hid (T.out.below bx T.out.inside); have BB := Lib.hid (bthen BB.out bx); have R1 := Lib.hid (rows_below R1.out bx); have V1 := Lib.hid (V1.out.below bx V1.out.inside); have QP := Lib.hid (bthen QP.out bx); have RA := Lib.hid (RA.out.below bx); have HA := Lib.hid (bthen HA.out bx); have V6 := Lib.hid (V6.out.below bx V6.out.inside); have V7 := Lib.hid (V7.out.below bx V7.out.inside); have RBb := Lib.hid (rows_below RBb.out bx); have V9 := Lib.hid (V9.out.below bx V9.out.inside); have V11 := Lib.hid p9.whole; clear p9)
      | ((with_reducible refine at_ld 42 ?_); refine wpList_loadWG 50 (.tmp 7) 50 (wx4.heap.size + 1) XC V7.out (by kernel_rfl) HXL.out (by rfl) rfl rfl ?_)
      | ((with_reducible refine at_ld 43 ?_); refine wpList_loadWG 50 (.tmp 11) 50 wx9.heap.size XC V11.out (by kernel_rfl) HXL.out (by rfl) rfl rfl ?_)
      | ((with_reducible refine at_ld 47 ?_); refine wpList_loadWG 33 (.tmp 6) 33 wx4.heap.size (stC c ra) V6.out (by kernel_rfl) (HSI.out _) (by rfl) rfl rfl ?_)
      | ((with_reducible refine at_ld 48 ?_); refine wpList_loadWG 33 (.tmp 9) 33 wx7.heap.size (stC c rb) V9.out (by kernel_rfl) (HSI.out _) (by rfl) rfl rfl ?_)
      | (go_at_call 14; (with_reducible refine (KSa.out _ _ _ _ RA.out.rows RBb.out).mono ?_); rintro e wx11 ⟨rfl, bx⟩; have T := Lib.hid (T.out.below bx T.out.inside); have BB := Lib.hid (bthen BB.out bx); have R1 := Lib.hid (rows_below R1.out bx); have V1 := Lib.hid (V1.out.below bx V1.out.inside); have QP := Lib.hid (bthen QP.out bx); have RA := Lib.hid (RA.out.below bx); have HA := Lib.hid (bthen HA.out bx); have V6 := Lib.hid (V6.out.below bx V6.out.inside); have V7 := Lib.hid (V7.out.below bx V7.out.inside); have RBb := Lib.hid (rows_below RBb.out bx); have V9 := Lib.hid (V9.out.below bx V9.out.inside); have V11 := Lib.hid (V11.out.below bx V11.out.inside))
      | ((with_reducible refine at_ld 52 ?_); refine wpList_loadW 33 (.tmp 6) 33 wx4.heap.size (stC c ra) V6.out (by kernel_rfl) (HSI.out _) rfl rfl rfl ?_)
      | (go_at_call 15; (with_reducible refine (KSp.out _ _ _ _ _ HLT.out RA.out (Below.refl _ _)).mono ?_); rintro e wx12 ⟨rfl, kx⟩; have bx := QP.out.trans (kx.below QP.out.size (fun k h => h.1)); have T := Lib.hid (TP.out.below bx TP.out.inside); have BB := Lib.hid (bthen BP.out bx); have R1 := Lib.hid (rows_below RP.out bx); have V1 := Lib.hid (VP.out.below bx VP.out.inside); clear kx)
      | ((with_reducible refine at_ld 54 ?_); refine wpList_loadW 33 (.tmp 2) 33 w.heap.size S T.out (by kernel_rfl) (by rw [← hS]; exact HSI.out _) rfl rfl rfl ?_)
      | ((with_reducible refine at_ld 55 ?_); refine wpList_loadW 33 (.tmp 5) 33 wx2.heap.size (stC c r1) V1.out (by kernel_rfl) (HSI.out _) rfl rfl rfl ?_)
      | (go_at_call 14; (with_reducible refine (KSs.out _ _ (RB.out _ BB.out) R1.out).mono ?_); rintro e wx13 ⟨rfl, bx⟩; have T := Lib.hid (T.out.below bx T.out.inside); have BB := Lib.hid (bthen BB.out bx); have R1 := Lib.hid (rows_below R1.out bx); have V1 := Lib.hid (V1.out.below bx V1.out.inside))
      | (go_at_call 9; (with_reducible refine (lives22 _).mono ?_); rintro e wx14 ⟨rfl, bx⟩; have T := Lib.hid (T.out.below bx T.out.inside); have BB := Lib.hid (bthen BB.out bx); have R1 := Lib.hid (rows_below R1.out bx); have V1 := Lib.hid (V1.out.below bx V1.out.inside)))
    go_ret
    exact ⟨rfl, BB.out⟩
end Go.Proofs.Ytkalpclckgbedaa
