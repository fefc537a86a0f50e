/-
  Package board: Empty. No conditions.
-/
import Derived.Test.YtkalpclckgbedaaStEmpty
import Derived.Test.YtkalpclckgbedaaBrdJ
namespace Go.Proofs.Ytkalpclckgbedaa
open Go.ChangeShapes Go.WideShapes Go.ChangeAt Go.RowKit
set_option linter.unusedVariables false
set_option linter.unusedSimpArgs false
set_option maxRecDepth 20000
set_option maxHeartbeats 3200000
theorem pEmpty (w : World) : Calls Try.prog 21 #[] w fun e w' => e = .returned (stV (emptyC 0 3) nilR) ∧ Below w.heap.size w w' := by
  have Z1 : Hid (Whole ((w.alloc (.cells zeroSt.toArray 33)).alloc (.cells zeroSt.toArray 33)) w.heap.size 33 zeroSt.toArray) := Lib.hid ((Whole.made w _ _).alloc _)
  have Z2 : Hid (Whole ((w.alloc (.cells zeroSt.toArray 33)).alloc (.cells zeroSt.toArray 33)) (w.heap.size + 1) 33 zeroSt.toArray) := Lib.hid (by
    have h2 := Whole.made (w.alloc (.cells zeroSt.toArray 33)) 33 zeroSt.toArray
    rw [World.size_alloc] at h2
    exact h2)
  have ZB : Hid (Below w.heap.size w ((w.alloc (.cells zeroSt.toArray 33)).alloc (.cells zeroSt.toArray 33))) := Lib.hid (((Below.refl _ _).alloc (Nat.le_refl _) _).alloc (by simp) _)
  go_enter Try.func21, Try.ntmps21
  go_wp2_with (first
    | ((with_reducible refine at_ld 3 ?_); refine wpList_const (.agg (stC (emptyC 0 0) nilR).toArray) rfl (fun w => by kernel_rfl) ?_)
    | ((with_reducible refine at_st 1 3 ?_); refine wpList_storeW 33 (.tmp 1) (.tmp 3) 33 (w.heap.size + 1) zeroSt (stC (emptyC 0 0) nilR) Z2.out rfl (by kernel_rfl) nil_one rfl rfl rfl rfl rfl ?_; intro w2 p2; have X2 := Lib.hid p2.whole; have X1 := Lib.hid (p2.keeps.whole Z1.out (fun e => by have e2 : w.heap.size = w.heap.size + 1 := e; omega)); have XB := Lib.hid (ZB.out.trans (p2.keeps.below ZB.out.size (fun k h => by have e2 : k = w.heap.size + 1 := h; omega))); clear p2))
  go_loopw [4] (fun v wr => ∃ i : Nat, v = .int .i64 i ∧ i ≤ 3 ∧ Whole wr w.heap.size 33 zeroSt.toArray ∧ Whole wr (w.heap.size + 1) 33 (stC (emptyC 0 i) nilR).toArray ∧ Below w.heap.size w wr) (fun v _ => 3 - (intOf v).toNat)
  case atStart => exact ⟨0, rfl, by omega, X1.out, X2.out, XB.out⟩
  case round =>
    obtain ⟨i, rfl, hi, h1, h2, hb⟩ := hrel
    have H1 := Lib.hid h1
    have H2 := Lib.hid h2
    have HB := Lib.hid hb
    by_cases hi3 : i < 3
    · have li : (i : Int) < 3 := by omega
      have c0 := (st_lane h2 i hi3).1
      have f0 : wr.frozen? ⟨w.heap.size + 1, 1 + i * 4, none⟩ = false := h2.thawed _
      have N2 : Hid (Whole (wr.setCell ⟨w.heap.size + 1, 1 + i * 4, none⟩ (.int .i64 (-1))) (w.heap.size + 1) 33 (stC (emptyC 0 (i + 1)) nilR).toArray) := Lib.hid (by rw [← emptyC_next 0 i hi3]; exact h2.write _ _)
      have k1 : Keeps (fun k => k = w.heap.size + 1) wr (wr.setCell ⟨w.heap.size + 1, 1 + i * 4, none⟩ (.int .i64 (-1))) := Keeps.setCell (S := fun k => k = w.heap.size + 1) (Keeps.refl _ wr) (p := ⟨w.heap.size + 1, 1 + i * 4, none⟩) rfl _
      have N1 := Lib.hid (k1.whole h1 (fun e => by have e2 : w.heap.size = w.heap.size + 1 := e; omega))
      have NB := Lib.hid (hb.trans (k1.below hb.size (fun k h => by have e2 : k = w.heap.size + 1 := h; omega)))
      clear h1 h2 hb k1
      go_wp2
      go_roundw
      case rel => exact ⟨i + 1, by go_num, by omega, N1.out, N2.out, NB.out⟩
      case measure => simp [intOf]; omega
    · have e3 : i = 3 := by omega
      have li : ¬ (i : Int) < 3 := by omega
      rw [e3] at H2
      clear h1 h2 hb
      go_wp2_with (first
        | ((with_reducible refine at_ld 12 ?_); refine wpList_loadW 33 (.tmp 1) 33 (w.heap.size + 1) (stC (emptyC 0 3) nilR) H2.out (by kernel_rfl) (by kernel_rfl) rfl rfl rfl ?_)
        | ((with_reducible refine at_st 0 12 ?_); refine wpList_storeW 33 (.tmp 0) (.tmp 12) 33 w.heap.size zeroSt (stC (emptyC 0 3) nilR) H1.out rfl (by kernel_rfl) nil_one rfl rfl rfl rfl rfl ?_; intro w9 p9; have P9 := Lib.hid p9; clear p9))
      refine bodyPost_ret (results_cell_row Try.results21 _ _ w.heap.size 33 (stC (emptyC 0 3) nilR).toArray (0, 0) _ rfl P9.out.whole Try.underlying33 rfl (by kernel_rfl)) rfl ⟨rfl, ?_⟩
      exact HB.out.trans (P9.out.keeps.below HB.out.size (fun k h => Nat.le_of_eq (Eq.symm h)))
end Go.Proofs.Ytkalpclckgbedaa
