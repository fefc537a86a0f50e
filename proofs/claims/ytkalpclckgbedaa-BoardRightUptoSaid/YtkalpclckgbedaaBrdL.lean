/-
  The example that the laws ask for. No conditions.
-/
import Derived.Test.YtkalpclckgbedaaBrdK
import Derived.Test.YtkalpclckgbedaaBrdJ
namespace Go.Proofs.Ytkalpclckgbedaa
open Go.ChangeShapes Go.WideShapes Go.ChangeAt Go.RowKit
set_option linter.unusedVariables false
set_option linter.unusedSimpArgs false
set_option maxRecDepth 20000
set_option maxHeartbeats 3200000
def five : Ins := ⟨5, 0, ByteArray.empty, 0, 0, 0, 1⟩
theorem five_room : roomZ (fun _ => []) five.owner 2 = 4 := rfl
theorem five_put : ∀ q, putSt (fun _ => []) five 2 q = if q = 5 then [five] else [] := fun q => by
  unfold putSt
  rw [five_room, if_neg (by decide)]
  rfl
theorem five_len : ∀ q, q < 12 → (putSt (fun _ => []) five 2 q).length ≤ 9223372036854775807 := fun q _ => by
  rw [five_put]
  split <;> simp
theorem five_place : placeO (putSt (fun _ => []) five 2) 5 = some (5, 0) := by
  have h : putSt (fun _ => []) five 2 = fun q => if q = 5 then [five] else [] := funext five_put
  rw [h]
  rfl
theorem lives22 (w : World) : Calls Try.prog 9 #[] w fun e w' => e = .returned (.bool true) ∧ Below w.heap.size w w' := by
  have KE := Lib.hid (pEmpty w)
  have KP : Hid (∀ x, Calls Try.prog 23 #[stV (emptyC 0 3) nilR, .agg #[.int .i64 5, .int .i64 0, .string ⟨#[]⟩, .int .i64 0, .int .i64 0, .int .i64 0, .int .i64 1], .int .i64 2] x fun e w' => ∃ r', e = .returned (.tuple #[stV (emptyC 0 3) r', .bool true]) ∧ OwnSt w' x.heap.size r' (putSt (fun _ => []) five 2) ∧ Below x.heap.size x w') := Lib.hid fun x => by
    have h := pPut (emptyC 0 3) nilR (fun _ => []) five 2 x (nilR_rows x) (fun _ _ => by simp)
    rw [five_room, show (!decide ((4 : Int) < 1)) = true from rfl] at h
    exact h
  have KF : Hid (∀ r x, Rows12 x r (putSt (fun _ => []) five 2) → Calls Try.prog 10 #[stV (emptyC 0 3) r, .int .i64 5] x fun e w' => e = .returned (.tuple #[.int .i64 1, .int .i64 2, .int .i64 0, .bool true]) ∧ Below x.heap.size x w') := Lib.hid fun r x h => by
    have h2 := pFind (emptyC 0 3) r _ 5 x h
    rw [five_place] at h2
    exact h2
  have HST : Hid (∀ r, stV (emptyC 0 3) r = .agg (stC (emptyC 0 3) r).toArray) := Lib.hid fun r => rfl
  have HSI : Hid ((Try.prog.info? 33).map (·.size) = some 30) := Lib.hid (by kernel_rfl)
  have HL : Hid (∀ r, (stC (emptyC 0 3) r).length = 30) := Lib.hid fun r => rfl
  have ZA : Hid (∀ x : World, Whole (x.alloc (.cells zeroSt.toArray 33)) x.heap.size 33 zeroSt.toArray) := Lib.hid fun x => Whole.made x _ _
  obtain ⟨E, hE⟩ : ∃ E, stV (emptyC 0 3) nilR = E := ⟨_, rfl⟩
  rw [hE] at KE KP
  clear hE
  go_enter Try.func9, Try.ntmps9
  go_wp2_with (first
    | (go_at_call 21; refine KE.out.mono ?_; rintro e w1 ⟨rfl, b1⟩; have B1 := Lib.hid b1; clear b1)
    | (go_at_call 23; refine (KP.out _).mono ?_; rintro e w2 ⟨r2, rfl, o2, b2⟩; have B2 := Lib.hid (bthen B1.out b2); have O2 := Lib.hid o2; rw [HST.out]; clear b2 o2)
    | ((with_reducible refine at_st 1 11 ?_); refine wpList_storeW 33 (.tmp 1) (.tmp 11) 33 w2.heap.size zeroSt (stC (emptyC 0 3) r2) (ZA.out w2) (HL.out r2) (by rw [HL.out]; exact HSI.out) (stC_one O2.out.rows.one) rfl rfl rfl rfl rfl ?_; intro w3 p3; have b3 := (((Below.refl w2.heap.size w2).alloc (Nat.le_refl _) (.cells zeroSt.toArray 33)).trans (p3.keeps.below (by simp) (fun k h => by have e2 : k = w2.heap.size := h; omega))); have P3 := Lib.hid p3.whole; have B3 := Lib.hid (bthen B2.out b3); have K3 := Lib.hid (KF.out r2 w3 (O2.out.below b3).rows); rw [HST.out] at K3; clear p3 b3)
    | ((with_reducible refine at_ld 14 ?_); refine wpList_loadW 33 (.tmp 1) 33 w2.heap.size (stC (emptyC 0 3) r2) P3.out (by kernel_rfl) (by rw [HL.out]; exact HSI.out) rfl rfl rfl ?_)
    | (go_at_call 10; refine K3.out.mono ?_; rintro e w4 ⟨rfl, b4⟩; have B4 := Lib.hid (bthen B3.out b4); clear b4))
  go_ret
  exact ⟨rfl, B4.out⟩
end Go.Proofs.Ytkalpclckgbedaa
