/-
  For every input the law BoardBack returns true. Conditions: what comes in is of bulk at most 1048576.
-/
import Derived.Test.YtkalpclckgbedaaStW
import Derived.Test.YtkalpclckgbedaaStSameT
import Derived.Test.YtkalpclckgbedaaBrdL
import Derived.Test.YtkalpclckgbedaaBackM
import Derived.BigQuiet
namespace Go.Proofs.Ytkalpclckgbedaa
open Go.ChangeShapes Go.WideShapes Go.ChangeAt Go.RowKit
set_option linter.unusedVariables false
set_option linter.unusedSimpArgs false
set_option maxRecDepth 20000
set_option maxHeartbeats 12800000
theorem insB_same (X : Ins) : insB X X = true := insB_iff.2 rfl
theorem walk_BoardBack {H : Type} {enc : TypeId × Value → H} {b0 base : Nat} {spare : Nat → Bool} {held : Bool} {d0 : DataW H} {p0 : List MemPlace} {d1 : DataW H} {p1 : List MemPlace} (v0 v1 : Value) (a2 : Int) (w : World) (ok0 : Value.okWide Try.prog w .any b0 33 v0) (h0 : DataW.Trod enc Try.prog w base spare held 33 v0 d0 p0)
    (ok1 : Value.okWide Try.prog w .any b0 50 v1) (h1 : DataW.Trod enc Try.prog w base spare held 50 v1 d1 p1) (w2 : (Lit.int .i64 a2).wf = true) (hk : Rows.uptoBulk d0 ≤ 1048576) :
    Calls Try.prog 7 #[v0, v1, .int .i64 a2] w fun e w' => e = .returned (.bool true) ∧ Below w.heap.size w w' := by
  obtain ⟨c, r, L, rfl, hcw, hR, hLw, hbk⟩ := open_stateB ok0 h0
  have hlen : ∀ q, q < 12 → (L q).length ≤ 1048576 := fun q hq => Nat.le_trans (hbk q hq) hk
  have hT : (pilesL L 2).length ≤ 2199023255488 := Nat.le_trans (pil_le hlen) (by decide)
  obtain ⟨x, rfl, hxw⟩ := open_inst ok1 h1
  have hW0 := Whole.made w 33 (stC c r).toArray
  have T : Hid (Whole ((w.alloc (.cells (stC c r).toArray 33)).alloc (.cells x.cells.toArray 50)) w.heap.size 33 (stC c r).toArray) := Lib.hid (hW0.alloc _)
  have A : Hid (Whole ((w.alloc (.cells (stC c r).toArray 33)).alloc (.cells x.cells.toArray 50)) (w.heap.size + 1) 50 x.cells.toArray) := Lib.hid (by
    have h := Whole.made (w.alloc (.cells (stC c r).toArray 33)) 50 x.cells.toArray
    rw [World.size_alloc] at h
    exact h)
  have BB : Hid (Below w.heap.size w ((w.alloc (.cells (stC c r).toArray 33)).alloc (.cells x.cells.toArray 50))) := Lib.hid (((Below.refl _ _).alloc (Nat.le_refl _) _).alloc (by simp) _)
  have RB : Hid (∀ y, Below w.heap.size w y → Rows12 y r L) := Lib.hid fun y hy q hq => (hR q hq).below hy
  have HSI : Hid (∀ r, (Try.prog.info? 33).map (·.size) = some (stC c r).length) := Lib.hid (fun r => by rw [show (stC c r).length = 30 from rfl]; kernel_rfl)
  have HL : Hid (∀ r, (stC c r).length = 30) := Lib.hid fun r => rfl
  have HST : Hid (∀ r, stV c r = .agg (stC c r).toArray) := Lib.hid fun r => rfl
  have KCo : Hid (∀ y, Below w.heap.size w y → Calls Try.prog 8 #[.agg (stC c r).toArray] y fun e w' => e = .returned (.int .i64 ((pilesL L 2).length : Nat)) ∧ Below y.heap.size y w') := Lib.hid fun y hy => rCount c r L y (RB.out y hy) hT
  have KFi : Hid (∀ y, Below w.heap.size w y → Calls Try.prog 10 #[.agg (stC c r).toArray, .int .i64 x.id] y fun e w' => e = .returned (.tuple #[.int .i64 (fSeat (placeO L x.id)), .int .i64 (fLane (placeO L x.id)), .int .i64 (fSlot (placeO L x.id)), .bool (placeO L x.id).isSome]) ∧ Below y.heap.size y w') := Lib.hid fun y hy => pFind c r L x.id y (RB.out y hy)
  have HX0 : Hid (∀ y, Whole y (w.heap.size + 1) 50 x.cells.toArray → y.cell? ⟨w.heap.size + 1, 0, none⟩ = some (.int .i64 x.id)) := Lib.hid fun y hy => by rw [hy.read]; rfl
  have HX6 : Hid (∀ y, Whole y (w.heap.size + 1) 50 x.cells.toArray → y.cell? ⟨w.heap.size + 1, 6, none⟩ = some (.int .i64 x.owner)) := Lib.hid fun y hy => by rw [hy.read]; rfl
  have hx0 : x.cells[0]? = some (.int .i64 x.id) := rfl
  have hx6 : x.cells[6]? = some (.int .i64 x.owner) := rfl
  have HXL : Hid ((Try.prog.info? 50).map (·.size) = some x.cells.length) := Lib.hid (by kernel_rfl)
  have HX1 := Lib.hid (ins_one x)
  have HX7 : Hid (x.cells.length = zeroIns.cells.length) := Lib.hid rfl
  have ZW : Hid (∀ y : World, Whole ((y.alloc (.cells zeroSt.toArray 33)).alloc (.cells zeroIns.cells.toArray 50)) y.heap.size 33 zeroSt.toArray ∧ Whole ((y.alloc (.cells zeroSt.toArray 33)).alloc (.cells zeroIns.cells.toArray 50)) (y.heap.size + 1) 50 zeroIns.cells.toArray) := Lib.hid fun y => ⟨(Whole.made y _ _).alloc _, by
      have h := Whole.made (y.alloc (.cells zeroSt.toArray 33)) 50 zeroIns.cells.toArray
      rw [World.size_alloc] at h
      exact h⟩
  have ZB : Hid (∀ (y u v : World) (cs xs : List Value), Put ((y.alloc (.cells zeroSt.toArray 33)).alloc (.cells zeroIns.cells.toArray 50)) u y.heap.size 33 cs → Put u v (y.heap.size + 1) 50 xs → Below y.heap.size y v ∧ Whole v y.heap.size 33 cs.toArray ∧ Whole v (y.heap.size + 1) 50 xs.toArray) := Lib.hid fun y u v cs xs p q =>
      ⟨((((Below.refl _ _).alloc (Nat.le_refl _) _).alloc (by simp) _).trans (p.keeps.below (by simp; omega) (fun k h => by have e2 : k = y.heap.size := h; omega))).trans (q.keeps.below (Nat.le_of_lt p.whole.inside) (fun k h => by have e2 : k = y.heap.size + 1 := h; omega)), q.keeps.whole p.whole (fun e => by have e2 : y.heap.size = y.heap.size + 1 := e; omega), q.whole⟩
  rw [show stV c r = .agg (stC c r).toArray from rfl]
  by_cases hN : 100 < (pilesL L 2).length
  · have hN1 : (100 : Int) < (((pilesL L 2).length : Nat) : Int) := by omega
    generalize (pilesL L 2).length = N at *
    generalize fSeat (placeO L x.id) = FK at *
    generalize fLane (placeO L x.id) = FI at *
    generalize fSlot (placeO L x.id) = FN at *
    generalize (placeO L x.id).isSome = FO at *
    clear hlen hT hW0 ok0 h0 ok1 h1 hR hLw hbk hcw hk hxw
    generalize hS : stC c r = S at *
    generalize x.id = xi at *
    generalize x.owner = xo at *
    generalize x.cells = X at *
    have c0 := HX0.out _ A.out
    have c6 := HX6.out _ A.out
    go_enter Try.func7, Try.ntmps7
    go_wp2_with (first
      | ((with_reducible refine at_ld 22 ?_); refine wpList_loadW 33 (.tmp 3) 33 w.heap.size S T.out (by kernel_rfl) (by rw [← hS]; exact HSI.out _) rfl rfl rfl ?_)
      | (go_at_call 10; (with_reducible refine (KFi.out _ BB.out).mono ?_); rintro e wx1 ⟨rfl, bx⟩; have T := Lib.hid (T.out.below bx T.out.inside); have A := Lib.hid (A.out.below bx A.out.inside); have BB := Lib.hid (bthen BB.out bx); clear c0 c6; have c0 := HX0.out _ A.out; have c6 := HX6.out _ A.out)
      | ((with_reducible refine at_ld 30 ?_); refine wpList_loadW 33 (.tmp 3) 33 w.heap.size S T.out (by kernel_rfl) (by rw [← hS]; exact HSI.out _) rfl rfl rfl ?_)
      | (go_at_call 8; (with_reducible refine (KCo.out _ BB.out).mono ?_); rintro e wx2 ⟨rfl, bx⟩; have T := Lib.hid (T.out.below bx T.out.inside); have A := Lib.hid (A.out.below bx A.out.inside); have BB := Lib.hid (bthen BB.out bx); clear c0 c6; have c0 := HX0.out _ A.out; have c6 := HX6.out _ A.out)
      | (go_at_call 9; (with_reducible refine (lives22 _).mono ?_); rintro e wx3 ⟨rfl, bx⟩; have T := Lib.hid (T.out.below bx T.out.inside); have A := Lib.hid (A.out.below bx A.out.inside); have BB := Lib.hid (bthen BB.out bx); clear c0 c6; have c0 := HX0.out _ A.out; have c6 := HX6.out _ A.out))
    go_ret
    exact ⟨rfl, BB.out⟩
  · have hN1 : ¬ (100 : Int) < (((pilesL L 2).length : Nat) : Int) := by omega
    have hsz : ∀ q, q < 12 → (L q).length ≤ 1000 := fun q hq => by have := pil_ge (L := L) hq; omega
    generalize (pilesL L 2).length = N at *
    cases hpl : placeO L x.id with
    | some qn =>
      rw [hpl] at KFi
      generalize fSeat (some qn) = FK at *
      generalize fLane (some qn) = FI at *
      generalize fSlot (some qn) = FN at *
      have KFi : Hid (∀ y, Below w.heap.size w y → Calls Try.prog 10 #[.agg (stC c r).toArray, .int .i64 x.id] y fun e w' => e = .returned (.tuple #[.int .i64 FK, .int .i64 FI, .int .i64 FN, .bool true]) ∧ Below y.heap.size y w') := KFi
      clear hlen hT hW0 ok0 h0 ok1 h1 hR hLw hbk hcw hk hxw hsz hpl
      generalize hS : stC c r = S at *
      generalize x.id = xi at *
      generalize x.owner = xo at *
      generalize x.cells = X at *
      have c0 := HX0.out _ A.out
      have c6 := HX6.out _ A.out
      go_enter Try.func7, Try.ntmps7
      go_wp2_with (first
      | ((with_reducible refine at_ld 22 ?_); refine wpList_loadW 33 (.tmp 3) 33 w.heap.size S T.out (by kernel_rfl) (by rw [← hS]; exact HSI.out _) rfl rfl rfl ?_)
      | (go_at_call 10; (with_reducible refine (KFi.out _ BB.out).mono ?_); rintro e wx1 ⟨rfl, bx⟩; have T := Lib.hid (T.out.below bx T.out.inside); have A := Lib.hid (A.out.below bx A.out.inside); have BB := Lib.hid (bthen BB.out bx); clear c0 c6; have c0 := HX0.out _ A.out; have c6 := HX6.out _ A.out)
      | ((with_reducible refine at_ld 30 ?_); refine wpList_loadW 33 (.tmp 3) 33 w.heap.size S T.out (by kernel_rfl) (by rw [← hS]; exact HSI.out _) rfl rfl rfl ?_)
      | (go_at_call 8; (with_reducible refine (KCo.out _ BB.out).mono ?_); rintro e wx2 ⟨rfl, bx⟩; have T := Lib.hid (T.out.below bx T.out.inside); have A := Lib.hid (A.out.below bx A.out.inside); have BB := Lib.hid (bthen BB.out bx); clear c0 c6; have c0 := HX0.out _ A.out; have c6 := HX6.out _ A.out)
      | (go_at_call 9; (with_reducible refine (lives22 _).mono ?_); rintro e wx3 ⟨rfl, bx⟩; have T := Lib.hid (T.out.below bx T.out.inside); have A := Lib.hid (A.out.below bx A.out.inside); have BB := Lib.hid (bthen BB.out bx); clear c0 c6; have c0 := HX0.out _ A.out; have c6 := HX6.out _ A.out))
      go_ret
      exact ⟨rfl, BB.out⟩
    | none =>
      rw [hpl] at KFi
      have KFi : Hid (∀ y, Below w.heap.size w y → Calls Try.prog 10 #[.agg (stC c r).toArray, .int .i64 x.id] y fun e w' => e = .returned (.tuple #[.int .i64 0, .int .i64 0, .int .i64 0, .bool false]) ∧ Below y.heap.size y w') := KFi
      have KRo : Hid (∀ y, Below w.heap.size w y → Calls Try.prog 19 #[.agg (stC c r).toArray, .int .i64 x.owner, .int .i64 a2] y fun e w' => e = .returned (.int .i64 (roomZ L x.owner a2)) ∧ Below y.heap.size y w') := Lib.hid fun y hy => pRoom c r L x.owner a2 y (RB.out y hy)
      have KPu : Hid (∀ y, Below w.heap.size w y → Calls Try.prog 23 #[.agg (stC c r).toArray, .agg x.cells.toArray, .int .i64 a2] y fun e w' => ∃ r', e = .returned (.tuple #[stV c r', .bool (!decide (roomZ L x.owner a2 < 1))]) ∧ OwnSt w' y.heap.size r' (putSt L x a2) ∧ Below y.heap.size y w') := Lib.hid fun y hy => pPut c r L x a2 y (RB.out y hy) hsz
      have KSs : Hid (∀ y r2, Rows12 y r L → Rows12 y r2 L → Calls Try.prog 14 #[.agg (stC c r).toArray, .agg (stC c r2).toArray] y fun e w' => e = .returned (.bool true) ∧ Below y.heap.size y w') := Lib.hid fun y r2 h1 h2 => rSame_true c r r2 L y h1 h2
      have KSr : Hid (∀ y r2, Rows12 y r2 L → Rows12 y r L → Calls Try.prog 14 #[.agg (stC c r2).toArray, .agg (stC c r).toArray] y fun e w' => e = .returned (.bool true) ∧ Below y.heap.size y w') := Lib.hid fun y r2 h1 h2 => rSame_true c r2 r L y h1 h2
      have KSa : Hid (∀ y L' r1 r2, Rows12 y r1 L' → Rows12 y r2 L' → Calls Try.prog 14 #[.agg (stC c r1).toArray, .agg (stC c r2).toArray] y fun e w' => e = .returned (.bool true) ∧ Below y.heap.size y w') := Lib.hid fun y L' r1 r2 h1 h2 => rSame_true c r1 r2 L' y h1 h2
      have KSp : Hid (∀ y w1 B r' L', (∀ q, q < 12 → (L' q).length ≤ 1000000) → OwnSt w1 B r' L' → Below w1.heap.size w1 y → Calls Try.prog 15 #[.agg (stC c r').toArray] y fun e w' => e = .returned (.tuple #[]) ∧ Keeps (fun k => B ≤ k ∧ k < w1.heap.size) y w') := Lib.hid fun y w1 B r' L' hl h hb =>
        rSpoil c r' L' B w1.heap.size y hb.size (fun q hq => (h.own q hq).rw_at ((h.own q hq).below hb)) hl
      by_cases hz : roomZ L x.owner a2 < 1
      · have e1 : (!decide (roomZ L x.owner a2 < 1)) = false := by rw [decide_eq_true hz]; rfl
        have e2 : putSt L x a2 = L := by unfold putSt; rw [if_pos hz]
        rw [e1, e2] at KPu
        generalize roomZ L x.owner a2 = Z at *
        have hz0 : Z ≤ 0 := by omega
        clear hlen hT hW0 ok0 h0 ok1 h1 hR hLw hbk hcw hk hxw hsz hpl e1 e2 hz
        generalize hS : stC c r = S at *
        generalize x.id = xi at *
        generalize x.owner = xo at *
        generalize x.cells = X at *
        have c0 := HX0.out _ A.out
        have c6 := HX6.out _ A.out
        go_enter Try.func7, Try.ntmps7
        go_wp2_with (first
      | ((with_reducible refine at_ld 22 ?_); refine wpList_loadW 33 (.tmp 3) 33 w.heap.size S T.out (by kernel_rfl) (by rw [← hS]; exact HSI.out _) rfl rfl rfl ?_)
      | (go_at_call 10; (with_reducible refine (KFi.out _ BB.out).mono ?_); rintro e wx1 ⟨rfl, bx⟩; have T := Lib.hid (T.out.below bx T.out.inside); have A := Lib.hid (A.out.below bx A.out.inside); have BB := Lib.hid (bthen BB.out bx); clear c0 c6; have c0 := HX0.out _ A.out; have c6 := HX6.out _ A.out)
      | ((with_reducible refine at_ld 30 ?_); refine wpList_loadW 33 (.tmp 3) 33 w.heap.size S T.out (by kernel_rfl) (by rw [← hS]; exact HSI.out _) rfl rfl rfl ?_)
      | (go_at_call 8; (with_reducible refine (KCo.out _ BB.out).mono ?_); rintro e wx2 ⟨rfl, bx⟩; have T := Lib.hid (T.out.below bx T.out.inside); have A := Lib.hid (A.out.below bx A.out.inside); have BB := Lib.hid (bthen BB.out bx); clear c0 c6; have c0 := HX0.out _ A.out; have c6 := HX6.out _ A.out)
      | ((with_reducible refine at_ld 37 ?_); refine wpList_loadW 33 (.tmp 3) 33 w.heap.size S T.out (by kernel_rfl) (by rw [← hS]; exact HSI.out _) rfl rfl rfl ?_)
      | (go_at_call 19; (with_reducible refine (KRo.out _ BB.out).mono ?_); rintro e wx3 ⟨rfl, bx⟩; have T := Lib.hid (T.out.below bx T.out.inside); have A := Lib.hid (A.out.below bx A.out.inside); have BB := Lib.hid (bthen BB.out bx); clear c0 c6; have c0 := HX0.out _ A.out; have c6 := HX6.out _ A.out)
      | ((with_reducible refine at_ld 43 ?_); refine wpList_loadW 33 (.tmp 3) 33 w.heap.size S T.out (by kernel_rfl) (by rw [← hS]; exact HSI.out _) rfl rfl rfl ?_)
      | ((with_reducible refine at_ld 44 ?_); refine wpList_loadW 50 (.tmp 4) 50 (w.heap.size + 1) X A.out (by kernel_rfl) HXL.out rfl rfl rfl ?_)
      | (go_at_call 23; (with_reducible refine (KPu.out _ BB.out).mono ?_); rintro e wx4 ⟨ra, rfl, oa, bx⟩; have T := Lib.hid (T.out.below bx T.out.inside); have A := Lib.hid (A.out.below bx A.out.inside); have BB := Lib.hid (bthen BB.out bx); clear c0 c6; have c0 := HX0.out _ A.out; have c6 := HX6.out _ A.out; have RA := Lib.hid oa; rw [HST.out]; clear oa)
      | ((with_reducible refine at_st 12 47 ?_); refine wpList_storeW 33 (.tmp 12) (.tmp 47) 33 wx4.heap.size zeroSt (stC c ra) (Whole.made wx4 _ _) (HL.out _) (HSI.out _) (stC_one RA.out.rows.one) rfl rfl rfl rfl rfl ?_; intro wx5 p9; have bx := put_new p9; have T := Lib.hid (T.out.below bx T.out.inside); have A := Lib.hid (A.out.below bx A.out.inside); have BB := Lib.hid (bthen BB.out bx); clear c0 c6; have c0 := HX0.out _ A.out; have c6 := HX6.out _ A.out; have RA := Lib.hid (RA.out.below bx); have V3 := Lib.hid p9.whole; clear p9)
      | ((with_reducible refine at_ld 55 ?_); refine wpList_loadW 33 (.tmp 12) 33 wx4.heap.size (stC c ra) V3.out (by kernel_rfl) (HSI.out _) rfl rfl rfl ?_)
      | ((with_reducible refine at_ld 56 ?_); refine wpList_loadW 33 (.tmp 3) 33 w.heap.size S T.out (by kernel_rfl) (by rw [← hS]; exact HSI.out _) rfl rfl rfl ?_)
      | (go_at_call 14; (with_reducible refine (KSr.out _ _ RA.out.rows (RB.out _ BB.out)).mono ?_); rintro e wx6 ⟨rfl, bx⟩; have T := Lib.hid (T.out.below bx T.out.inside); have A := Lib.hid (A.out.below bx A.out.inside); have BB := Lib.hid (bthen BB.out bx); clear c0 c6; have c0 := HX0.out _ A.out; have c6 := HX6.out _ A.out; have RA := Lib.hid (RA.out.below bx); have V3 := Lib.hid (V3.out.below bx V3.out.inside))
      | (go_at_call 9; (with_reducible refine (lives22 _).mono ?_); rintro e wx7 ⟨rfl, bx⟩; have T := Lib.hid (T.out.below bx T.out.inside); have A := Lib.hid (A.out.below bx A.out.inside); have BB := Lib.hid (bthen BB.out bx); clear c0 c6; have c0 := HX0.out _ A.out; have c6 := HX6.out _ A.out; have RA := Lib.hid (RA.out.below bx); have V3 := Lib.hid (V3.out.below bx V3.out.inside)))
        go_ret
        exact ⟨rfl, BB.out⟩
      · obtain ⟨i, k, rfl, hko, hi3, hk2, hl4⟩ := room_ok hz
        obtain ⟨hr1, hr2⟩ := room_back (x := x) hi3 hk2 hl4
        have e1 : (!decide (roomZ L x.owner (i : Int) < 1)) = true := by rw [decide_eq_false hz]; rfl
        have hq6 : 2 * i + k < 6 := by omega
        have e2 : putSt L x (i : Int) = setRow L (2 * i + k) (L (2 * i + k) ++ [x]) := by
          unfold putSt
          rw [if_neg hz, hko, Int.toNat_natCast, Int.toNat_natCast]
        rw [e1, e2] at KPu
        have hp := place_put hpl hq6
        have hLP : ∀ q, q < 12 → (setRow L (2 * i + k) (L (2 * i + k) ++ [x]) q).length ≤ 1000 := fun q hq => by
          have := hsz q hq
          unfold setRow
          split
          · rw [List.length_append, List.length_singleton]; omega
          · omega
        have KF2 : Hid (∀ y r1, Rows12 y r1 (setRow L (2 * i + k) (L (2 * i + k) ++ [x])) → Calls Try.prog 10 #[.agg (stC c r1).toArray, .int .i64 x.id] y fun e w' => e = .returned (.tuple #[.int .i64 k, .int .i64 i, .int .i64 ((L (2 * i + k)).length : Nat), .bool true]) ∧ Below y.heap.size y w') := Lib.hid fun y r1 h => by
          have h2 := pFind c r1 _ x.id y h
          rw [hp] at h2
          have f1 : fSeat (some (2 * i + k, (L (2 * i + k)).length)) = (k : Int) := by unfold fSeat; simp only; rw [show (2 * i + k) % 2 = k by omega]
          have f2 : fLane (some (2 * i + k, (L (2 * i + k)).length)) = (i : Int) := by unfold fLane; simp only; rw [show (2 * i + k) / 2 = i by omega]
          rw [f1, f2] at h2
          exact h2
        have KT2 : Hid (∀ y r1, Rows12 y r1 (setRow L (2 * i + k) (L (2 * i + k) ++ [x])) → Calls Try.prog 27 #[.agg (stC c r1).toArray, .int .i64 x.id] y fun e w' => ∃ r', e = .returned (.tuple #[stV c r', .agg x.cells.toArray, .bool true]) ∧ OwnSt w' y.heap.size r' L ∧ Below y.heap.size y w') := Lib.hid fun y r1 h => by
          have h2 := pTake c r1 _ x.id y h hLP
          rw [hp, take_back hpl hq6, get_back hpl hq6] at h2
          exact h2
        have KR2 : Hid (∀ y r1, Rows12 y r1 (setRow L (2 * i + k) (L (2 * i + k) ++ [x])) → Calls Try.prog 19 #[.agg (stC c r1).toArray, .int .i64 x.owner, .int .i64 (i : Int)] y fun e w' => e = .returned (.int .i64 (4 - ((L (2 * i + k)).length : Int) - 1)) ∧ Below y.heap.size y w') := Lib.hid fun y r1 h => by
          have h2 := pRoom c r1 _ x.owner (i : Int) y h
          rw [hko] at h2 ⊢
          rw [hr2] at h2
          exact h2
        rw [hko, hr1] at KRo
        rw [hko] at KR2 HX6 hx6
        have heq : ∀ w, (binOp .eql 50 (.agg x.cells.toArray) (.agg x.cells.toArray)).run Try.prog w = .ok (.bool true) w := fun w => by
          have h := eql_ins x x w
          rw [insB_same] at h
          exact h
        generalize (L (2 * i + k)).length = m at *
        generalize hLPe : setRow L (2 * i + k) (L (2 * i + k) ++ [x]) = LP at *
        obtain ⟨Z, hZ⟩ : ∃ Z : Int, 4 - (m : Int) = Z := ⟨_, rfl⟩
        rw [hZ] at KRo KR2
        have hz0 : (0 : Int) < Z := by omega
        have hw1 : IntKind.i64.wrap (4 - Z) = 4 - Z := IntWalk.i64_in _ (by omega)
        have hw2 : IntKind.i64.wrap (Z - 1) = Z - 1 := IntWalk.i64_in _ (by omega)
        have he4 : ((m : Int) == 4 - Z) = true := by rw [beq_iff_eq]; omega
        have he5 : (m : Int) = 4 - Z := by omega
        clear hlen hT hW0 ok0 h0 ok1 h1 hR hLw hbk hcw hk hxw hsz hpl e1 e2 hz hr1 hr2 hp hLP hLPe hZ hl4 hko
        generalize hS : stC c r = S at *
        generalize x.id = xi at *
        generalize x.owner = xo at *
        generalize x.cells = X at *
        have c0 := HX0.out _ A.out
        have c6 := HX6.out _ A.out
        go_enter Try.func7, Try.ntmps7
        go_wp2_with (first
      | ((with_reducible refine at_ld 22 ?_); refine wpList_loadW 33 (.tmp 3) 33 w.heap.size S T.out (by kernel_rfl) (by rw [← hS]; exact HSI.out _) rfl rfl rfl ?_)
      | (go_at_call 10; (with_reducible refine (KFi.out _ BB.out).mono ?_); rintro e wx1 ⟨rfl, bx⟩; have T := Lib.hid (T.out.below bx T.out.inside); have A := Lib.hid (A.out.below bx A.out.inside); have BB := Lib.hid (bthen BB.out bx); clear c0 c6; have c0 := HX0.out _ A.out; have c6 := HX6.out _ A.out)
      | ((with_reducible refine at_ld 30 ?_); refine wpList_loadW 33 (.tmp 3) 33 w.heap.size S T.out (by kernel_rfl) (by rw [← hS]; exact HSI.out _) rfl rfl rfl ?_)
      | (go_at_call 8; (with_reducible refine (KCo.out _ BB.out).mono ?_); rintro e wx2 ⟨rfl, bx⟩; have T := Lib.hid (T.out.below bx T.out.inside); have A := Lib.hid (A.out.below bx A.out.inside); have BB := Lib.hid (bthen BB.out bx); clear c0 c6; have c0 := HX0.out _ A.out; have c6 := HX6.out _ A.out)
      | ((with_reducible refine at_ld 37 ?_); refine wpList_loadW 33 (.tmp 3) 33 w.heap.size S T.out (by kernel_rfl) (by rw [← hS]; exact HSI.out _) rfl rfl rfl ?_)
      | (go_at_call 19; (with_reducible refine (KRo.out _ BB.out).mono ?_); rintro e wx3 ⟨rfl, bx⟩; have T := Lib.hid (T.out.below bx T.out.inside); have A := Lib.hid (A.out.below bx A.out.inside); have BB := Lib.hid (bthen BB.out bx); clear c0 c6; have c0 := HX0.out _ A.out; have c6 := HX6.out _ A.out)
      | ((with_reducible refine at_ld 43 ?_); refine wpList_loadW 33 (.tmp 3) 33 w.heap.size S T.out (by kernel_rfl) (by rw [← hS]; exact HSI.out _) rfl rfl rfl ?_)
      | ((with_reducible refine at_ld 44 ?_); refine wpList_loadW 50 (.tmp 4) 50 (w.heap.size + 1) X A.out (by kernel_rfl) HXL.out rfl rfl rfl ?_)
      | (go_at_call 23; (with_reducible refine (KPu.out _ BB.out).mono ?_); rintro e wx4 ⟨ra, rfl, oa, bx⟩; have T := Lib.hid (T.out.below bx T.out.inside); have A := Lib.hid (A.out.below bx A.out.inside); have BB := Lib.hid (bthen BB.out bx); clear c0 c6; have c0 := HX0.out _ A.out; have c6 := HX6.out _ A.out; have RA := Lib.hid oa; rw [HST.out]; clear oa)
      | ((with_reducible refine at_st 12 47 ?_); refine wpList_storeW 33 (.tmp 12) (.tmp 47) 33 wx4.heap.size zeroSt (stC c ra) (Whole.made wx4 _ _) (HL.out _) (HSI.out _) (stC_one RA.out.rows.one) rfl rfl rfl rfl rfl ?_; intro wx5 p9; have bx := put_new p9; have T := Lib.hid (T.out.below bx T.out.inside); have A := Lib.hid (A.out.below bx A.out.inside); have BB := Lib.hid (bthen BB.out bx); clear c0 c6; have c0 := HX0.out _ A.out; have c6 := HX6.out _ A.out; have RA := Lib.hid (RA.out.below bx); have V3 := Lib.hid p9.whole; clear p9)
      | ((with_reducible refine at_ld 62 ?_); refine wpList_loadW 33 (.tmp 12) 33 wx4.heap.size (stC c ra) V3.out (by kernel_rfl) (HSI.out _) rfl rfl rfl ?_)
      | (go_at_call 10; (with_reducible refine (KF2.out _ _ RA.out.rows).mono ?_); rintro e wx6 ⟨rfl, bx⟩; have T := Lib.hid (T.out.below bx T.out.inside); have A := Lib.hid (A.out.below bx A.out.inside); have BB := Lib.hid (bthen BB.out bx); clear c0 c6; have c0 := HX0.out _ A.out; have c6 := HX6.out _ A.out; have RA := Lib.hid (RA.out.below bx); have V3 := Lib.hid (V3.out.below bx V3.out.inside))
      | ((with_reducible refine at_ld 71 ?_); refine wpList_loadW 33 (.tmp 12) 33 wx4.heap.size (stC c ra) V3.out (by kernel_rfl) (HSI.out _) rfl rfl rfl ?_)
      | (go_at_call 27; (with_reducible refine (KT2.out _ _ RA.out.rows).mono ?_); rintro e wx7 ⟨rb, rfl, ob, bx⟩; have T := Lib.hid (T.out.below bx T.out.inside); have A := Lib.hid (A.out.below bx A.out.inside); have BB := Lib.hid (bthen BB.out bx); clear c0 c6; have c0 := HX0.out _ A.out; have c6 := HX6.out _ A.out; have RA := Lib.hid (RA.out.below bx); have V3 := Lib.hid (V3.out.below bx V3.out.inside); have RT := Lib.hid ob; rw [HST.out]; clear ob)
      | ((with_reducible refine at_st 18 75 ?_); refine wpList_storeW 33 (.tmp 18) (.tmp 75) 33 wx7.heap.size zeroSt (stC c rb) (ZW.out wx7).1 (HL.out _) (HSI.out _) (stC_one RT.out.rows.one) rfl rfl rfl rfl rfl ?_; intro wx8 p9; have P9 := Lib.hid p9; have Z2 := Lib.hid (p9.keeps.whole (ZW.out wx7).2 (fun e => by have e2 : wx7.heap.size + 1 = wx7.heap.size := e; omega)); clear p9)
      | ((with_reducible refine at_st 19 76 ?_); refine wpList_storeW 50 (.tmp 19) (.tmp 76) 50 (wx7.heap.size + 1) zeroIns.cells X Z2.out HX7.out HXL.out HX1.out rfl rfl rfl rfl rfl ?_; intro wx9 q9; obtain ⟨bx, v6, v7⟩ := ZB.out _ _ _ _ _ P9.out q9; have T := Lib.hid (T.out.below bx T.out.inside); have A := Lib.hid (A.out.below bx A.out.inside); have BB := Lib.hid (bthen BB.out bx); clear c0 c6; have c0 := HX0.out _ A.out; have c6 := HX6.out _ A.out; have RA := Lib.hid (RA.out.below bx); have V3 := Lib.hid (V3.out.below bx V3.out.inside); have RT := Lib.hid (RT.out.below bx); have V6 := Lib.hid v6; have V7 := Lib.hid v7; clear q9 v6 v7)
      | ((with_reducible refine at_ld 97 ?_); refine wpList_loadWG 33 (.tmp 12) 33 wx4.heap.size (stC c ra) V3.out (by kernel_rfl) (HSI.out _) (by rfl) rfl rfl ?_)
      | (go_at_call 19; (with_reducible refine (KR2.out _ _ RA.out.rows).mono ?_); rintro e wx10 ⟨rfl, bx⟩; have T := Lib.hid (T.out.below bx T.out.inside); have A := Lib.hid (A.out.below bx A.out.inside); have BB := Lib.hid (bthen BB.out bx); clear c0 c6; have c0 := HX0.out _ A.out; have c6 := HX6.out _ A.out; have RA := Lib.hid (RA.out.below bx); have V3 := Lib.hid (V3.out.below bx V3.out.inside); have RT := Lib.hid (RT.out.below bx); have V6 := Lib.hid (V6.out.below bx V6.out.inside); have V7 := Lib.hid (V7.out.below bx V7.out.inside))
      | ((with_reducible refine at_ld 110 ?_); refine wpList_loadWG 50 (.tmp 19) 50 (wx7.heap.size + 1) X V7.out (by kernel_rfl) HXL.out (by rfl) rfl rfl ?_)
      | ((with_reducible refine at_ld 111 ?_); refine wpList_loadWG 50 (.tmp 4) 50 (w.heap.size + 1) X A.out (by kernel_rfl) HXL.out (by rfl) rfl rfl ?_)
      | ((with_reducible refine at_ld 115 ?_); refine wpList_loadWG 33 (.tmp 18) 33 wx7.heap.size (stC c rb) V6.out (by kernel_rfl) (HSI.out _) (by rfl) rfl rfl ?_)
      | ((with_reducible refine at_ld 116 ?_); refine wpList_loadWG 33 (.tmp 3) 33 w.heap.size S T.out (by kernel_rfl) (by rw [← hS]; exact HSI.out _) (by rfl) rfl rfl ?_)
      | (go_at_call 14; (with_reducible refine (KSr.out _ _ RT.out.rows (RB.out _ BB.out)).mono ?_); rintro e wx11 ⟨rfl, bx⟩; have T := Lib.hid (T.out.below bx T.out.inside); have A := Lib.hid (A.out.below bx A.out.inside); have BB := Lib.hid (bthen BB.out bx); clear c0 c6; have c0 := HX0.out _ A.out; have c6 := HX6.out _ A.out; have RA := Lib.hid (RA.out.below bx); have V3 := Lib.hid (V3.out.below bx V3.out.inside); have RT := Lib.hid (RT.out.below bx); have V6 := Lib.hid (V6.out.below bx V6.out.inside); have V7 := Lib.hid (V7.out.below bx V7.out.inside))
      | (go_at_call 9; (with_reducible refine (lives22 _).mono ?_); rintro e wx12 ⟨rfl, bx⟩; have T := Lib.hid (T.out.below bx T.out.inside); have A := Lib.hid (A.out.below bx A.out.inside); have BB := Lib.hid (bthen BB.out bx); clear c0 c6; have c0 := HX0.out _ A.out; have c6 := HX6.out _ A.out; have RA := Lib.hid (RA.out.below bx); have V3 := Lib.hid (V3.out.below bx V3.out.inside); have RT := Lib.hid (RT.out.below bx); have V6 := Lib.hid (V6.out.below bx V6.out.inside); have V7 := Lib.hid (V7.out.below bx V7.out.inside)))
        go_ret
        exact ⟨rfl, BB.out⟩
end Go.Proofs.Ytkalpclckgbedaa
