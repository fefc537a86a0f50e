/-
  Package board: the lanes, the players. No conditions but a state's rows.
-/
import Derived.Test.YtkalpclckgbedaaRgtA
namespace Go.Proofs.Ytkalpclckgbedaa
open Go.ChangeShapes Go.WideShapes Go.ChangeAt Go.RowKit
set_option linter.unusedVariables false
set_option linter.unusedSimpArgs false
set_option maxRecDepth 20000
set_option maxHeartbeats 3200000
/-- A call that answers whether P, and writes nothing that was there. -/
def Ans (P : Prop) (w : World) (e : Ending) (w' : World) : Prop := ∃ b, e = .returned (.bool b) ∧ (b = true ↔ P) ∧ Below w.heap.size w w'
theorem Ans.no {P : Prop} {w w' : World} (h : ¬ P) (hb : Below w.heap.size w w') : Ans P w (.returned (.bool false)) w' := ⟨false, rfl, by simp [h], hb⟩
theorem Ans.yes {P : Prop} {w w' : World} (h : P) (hb : Below w.heap.size w w') : Ans P w (.returned (.bool true)) w' := ⟨true, rfl, by simp [h], hb⟩
theorem put_over {w w' : World} {T : TypeId} {old : Array Value} {vs : List Value} (h : Put (w.alloc (.cells old T)) w' w.heap.size T vs) : Below w.heap.size w w' :=
  ((Below.refl _ _).alloc (Nat.le_refl _) _).trans (h.keeps.below (by simp) (fun k h => by have h3 : k = w.heap.size := h; omega))
theorem pLanes (c : Sc) (r : Nat → Value) (L : Nat → List Ins) (w : World) (hR : Rows12 w r L) :
    Calls Try.prog 42 #[stV c r] w (Ans (∀ i, i < 3 → LaneOK c L i) w) := by
  have hv : stV c r = .agg (stC c r).toArray := rfl
  have X1 : Hid (Whole (w.alloc (.cells (stC c r).toArray 33)) w.heap.size 33 (stC c r).toArray) := Lib.hid (Whole.made w _ _)
  have B0 : Hid (Below w.heap.size w (w.alloc (.cells (stC c r).toArray 33))) := Lib.hid ((Below.refl _ _).alloc (Nat.le_refl _) _)
  have HX : Hid (∀ i : Nat, i < 3 → ∀ w, (Instr.index 26 (.agg (laneC c r 0 ++ laneC c r 1 ++ laneC c r 2).toArray) (.int .i64 (i : Int))).run Try.prog w = .ok (.agg (laneC c r i).toArray) w) := Lib.hid fun i hi w => by
    match i, hi with
    | 0, _ => show _ = _; kernel_rfl
    | 1, _ => show _ = _; kernel_rfl
    | 2, _ => show _ = _; kernel_rfl
  have HX2 : Hid (∀ i k : Nat, i < 3 → k < 2 → ∀ w, (Instr.index 23 (.agg #[r (2 * i), r (2 * i + 1)]) (.int .i64 (k : Int))).run Try.prog w = .ok (r (2 * i + k)) w) := Lib.hid fun i k hi hk w => by
    match k, hk with
    | 0, _ => show _ = _; kernel_rfl
    | 1, _ => show _ = _; kernel_rfl
  have X1p : Hid (Whole (w.alloc (.cells (stC c r).toArray 33)) w.heap.size 33 ([Value.int .i64 c.round] ++ (laneC c r 0 ++ laneC c r 1 ++ laneC c r 2) ++ (stC c r).drop 13).toArray) := X1
  obtain ⟨LN, hLN⟩ : ∃ LN, laneC c r 0 ++ laneC c r 1 ++ laneC c r 2 = LN := ⟨_, rfl⟩
  have HLN : Hid (LN.length = 12) := Lib.hid (by rw [← hLN]; rfl)
  rw [hLN] at X1p HX
  rw [hv]
  have HR := Lib.hid hR
  have HONE := Lib.hid hR.one
  clear hLN hR
  go_enter Try.func42, Try.ntmps42
  go_wp2_with ((with_reducible refine at_ld 8 ?_); refine wpList_loadP 26 (.tmp 7) 33 w.heap.size 1 [.int .i64 c.round] LN ((stC c r).drop 13) X1p.out rfl (by kernel_rfl) (by rw [HLN.out]; kernel_rfl) rfl rfl rfl ?_)
  clear X1 X1p
  go_loopw [9] (fun v wr => ∃ i : Nat, v = .int .i64 i ∧ i ≤ 3 ∧ (∀ j, j < i → LaneOK c L j) ∧ Below w.heap.size w wr) (fun v _ => 3 - (intOf v).toNat)
  case atStart => exact ⟨0, rfl, by omega, fun j hj => by omega, B0.out⟩
  case round =>
    obtain ⟨i, rfl, hi, hok, hb⟩ := hrel
    have HOK := Lib.hid hok
    have HB := Lib.hid hb
    clear hok hb
    by_cases hi3 : i < 3
    · have li : (i : Int) < 3 := by omega
      have hx := HX.out i hi3
      have HLL : Hid ((laneC c r i).length = 4) := Lib.hid rfl
      have HL1 : Hid (∀ v ∈ laneC c r i, v.oneCell' = true) := Lib.hid (by
        intro v hv
        simp only [laneC, List.mem_cons, List.not_mem_nil, or_false] at hv
        rcases hv with rfl | rfl | rfl | rfl
        · rfl
        · rfl
        · exact HONE.out _ (by omega)
        · exact HONE.out _ (by omega))
      have LW : Hid (∀ x, Whole x wr.heap.size 25 (laneC c r i).toArray → Whole x wr.heap.size 25 ([Value.int .i64 (c.place i), .bool (c.opn i)] ++ [r (2 * i), r (2 * i + 1)] ++ []).toArray ∧ x.cell? ⟨wr.heap.size, 0, none⟩ = some (.int .i64 (c.place i)) ∧ x.cell? ⟨wr.heap.size, 1, none⟩ = some (.bool (c.opn i))) := Lib.hid fun x h => ⟨h, by rw [h.read]; rfl, by rw [h.read]; rfl⟩
      generalize laneC c r i = LA at *
      have ways : (c.place i < -1 ∧ ¬ LaneOK c L i) ∨ (¬ c.place i < -1 ∧ c.opn i = true ∧ c.place i = -1 ∧ ¬ LaneOK c L i) ∨ (¬ c.place i < -1 ∧ c.opn i = true ∧ ¬ c.place i = -1 ∧ (c.place i == -1) = false ∧ (LaneOK c L i ↔ (L (2 * i)).length ≤ 4 ∧ (L (2 * i + 1)).length ≤ 4)) ∨ (¬ c.place i < -1 ∧ c.opn i = false ∧ (LaneOK c L i ↔ (L (2 * i)).length ≤ 4 ∧ (L (2 * i + 1)).length ≤ 4)) := by
        unfold LaneOK
        by_cases h1 : c.place i < -1
        · left; exact ⟨h1, fun h => by omega⟩
        · cases h2 : c.opn i
          · right; right; right
            exact ⟨h1, rfl, ⟨fun h => h.2.2, fun h => ⟨by omega, fun h => (by cases h.1), h⟩⟩⟩
          · by_cases h3 : c.place i = -1
            · right; left
              exact ⟨h1, rfl, h3, fun h => h.2.1 ⟨rfl, by omega⟩⟩
            · right; right; left
              exact ⟨h1, rfl, h3, by simp [h3], ⟨fun h => h.2.2, fun h => ⟨by omega, fun h => (by omega), h⟩⟩⟩
      generalize c.place i = pl at *
      generalize c.opn i = op at *
      rcases ways with ⟨h1, hno⟩ | ⟨h1, h2, h3, hno⟩ | ⟨h1, h2, h3, h4, hyes⟩ | ⟨h1, h2, hyes⟩
      all_goals
        have HW := Lib.hid (by first | exact hno | exact hyes)
        first | clear hno | clear hyes
        (try subst h2)
        (try subst h3)
        go_wp2_with (first
          | ((with_reducible refine at_st 4 11 ?_); refine wpList_storeW 25 (.tmp 4) (.tmp 11) 25 wr.heap.size [.int .i64 0, .bool false, .slice none 0 0, .slice none 0 0] LA (Whole.made wr _ _) HLL.out (by rw [HLL.out]; kernel_rfl) HL1.out rfl rfl rfl rfl rfl ?_; intro w9 p9; have P9 := Lib.hid p9; obtain ⟨_, p0, p1⟩ := LW.out _ p9.whole; clear p9)
          | ((with_reducible refine at_ld 25 ?_); refine wpList_loadP 23 (.tmp 24) 25 wr.heap.size 2 [.int .i64 pl, .bool _] [r (2 * i), r (2 * i + 1)] [] (LW.out _ P9.out.whole).1 rfl (by kernel_rfl) (by kernel_rfl) rfl rfl rfl ?_))
      · go_ret
        exact Ans.no (fun h => HW.out (h i hi3)) (bthen HB.out (put_over P9.out))
      · go_ret
        exact Ans.no (fun h => HW.out (h i hi3)) (bthen HB.out (put_over P9.out))
      · have b9 := bthen HB.out (put_over P9.out)
        have B9 := Lib.hid b9
        clear b9 p0 p1
        go_loopw [26] (fun v wr => ∃ k : Nat, v = .int .i64 k ∧ k ≤ 2 ∧ (∀ j, j < k → (L (2 * i + j)).length ≤ 4) ∧ Below w.heap.size w wr) (fun v _ => 2 - (intOf v).toNat)
        case atStart => exact ⟨0, rfl, by omega, fun j hj => by omega, B9.out⟩
        case round =>
          obtain ⟨k, rfl, hk, hok, hb⟩ := hrel
          have KOK := Lib.hid hok
          have KB := Lib.hid hb
          clear hok hb
          by_cases hk2 : k < 2
          · have lk : (k : Int) < 2 := by omega
            have hy := HX2.out i k hi3 hk2
            obtain ⟨A, cp, e, _, _, _, _⟩ := HR.out (2 * i + k) (by omega)
            rw [e] at hy
            clear e
            obtain ⟨m, hm⟩ : ∃ m, (L (2 * i + k)).length = m := ⟨_, rfl⟩
            have HM := Lib.hid hm
            rw [hm] at hy
            clear hm
            by_cases hm4 : 4 < m
            · have lm : (4 : Int) < (m : Int) := by omega
              have hno : ¬ ∀ i, i < 3 → LaneOK c L i := fun h => by
                have h2 := HW.out.1 (h i hi3)
                have hkk : k = 0 ∨ k = 1 := by omega
                rcases hkk with rfl | rfl
                · have h3 := HM.out; rw [Nat.add_zero] at h3; omega
                · have h3 := HM.out; omega
              have HNO := Lib.hid hno
              clear hno
              go_wp2
              go_ret
              exact Ans.no HNO.out KB.out
            · have lm : ¬ (4 : Int) < (m : Int) := by omega
              go_wp2
              go_roundw
              case rel => exact ⟨k + 1, by go_num, by omega, fun j hj => by
                by_cases e : j = k
                · subst e; rw [HM.out]; omega
                · exact KOK.out j (by omega), KB.out⟩
              case measure => simp [intOf]; omega
          · have lk : ¬ (k : Int) < 2 := by omega
            have hki := KOK.out 0 (by omega)
            have hkj := KOK.out 1 (by omega)
            rw [Nat.add_zero] at hki
            have HI := Lib.hid (HW.out.2 ⟨hki, hkj⟩)
            clear hki hkj
            go_wp2
            go_roundw
            case rel => exact ⟨i + 1, by go_num, by omega, fun j hj => by
              by_cases e : j = i
              · subst e; exact HI.out
              · exact HOK.out j (by omega), KB.out⟩
            case measure => simp [intOf]; omega
      · have b9 := bthen HB.out (put_over P9.out)
        have B9 := Lib.hid b9
        clear b9 p0 p1
        go_loopw [26] (fun v wr => ∃ k : Nat, v = .int .i64 k ∧ k ≤ 2 ∧ (∀ j, j < k → (L (2 * i + j)).length ≤ 4) ∧ Below w.heap.size w wr) (fun v _ => 2 - (intOf v).toNat)
        case atStart => exact ⟨0, rfl, by omega, fun j hj => by omega, B9.out⟩
        case round =>
          obtain ⟨k, rfl, hk, hok, hb⟩ := hrel
          have KOK := Lib.hid hok
          have KB := Lib.hid hb
          clear hok hb
          by_cases hk2 : k < 2
          · have lk : (k : Int) < 2 := by omega
            have hy := HX2.out i k hi3 hk2
            obtain ⟨A, cp, e, _, _, _, _⟩ := HR.out (2 * i + k) (by omega)
            rw [e] at hy
            clear e
            obtain ⟨m, hm⟩ : ∃ m, (L (2 * i + k)).length = m := ⟨_, rfl⟩
            have HM := Lib.hid hm
            rw [hm] at hy
            clear hm
            by_cases hm4 : 4 < m
            · have lm : (4 : Int) < (m : Int) := by omega
              have hno : ¬ ∀ i, i < 3 → LaneOK c L i := fun h => by
                have h2 := HW.out.1 (h i hi3)
                have hkk : k = 0 ∨ k = 1 := by omega
                rcases hkk with rfl | rfl
                · have h3 := HM.out; rw [Nat.add_zero] at h3; omega
                · have h3 := HM.out; omega
              have HNO := Lib.hid hno
              clear hno
              go_wp2
              go_ret
              exact Ans.no HNO.out KB.out
            · have lm : ¬ (4 : Int) < (m : Int) := by omega
              go_wp2
              go_roundw
              case rel => exact ⟨k + 1, by go_num, by omega, fun j hj => by
                by_cases e : j = k
                · subst e; rw [HM.out]; omega
                · exact KOK.out j (by omega), KB.out⟩
              case measure => simp [intOf]; omega
          · have lk : ¬ (k : Int) < 2 := by omega
            have hki := KOK.out 0 (by omega)
            have hkj := KOK.out 1 (by omega)
            rw [Nat.add_zero] at hki
            have HI := Lib.hid (HW.out.2 ⟨hki, hkj⟩)
            clear hki hkj
            go_wp2
            go_roundw
            case rel => exact ⟨i + 1, by go_num, by omega, fun j hj => by
              by_cases e : j = i
              · subst e; exact HI.out
              · exact HOK.out j (by omega), KB.out⟩
            case measure => simp [intOf]; omega
    · have e3 : i = 3 := by omega
      subst e3
      have li : ¬ ((3 : Nat) : Int) < 3 := by omega
      go_wp2
      go_ret
      exact Ans.yes HOK.out HB.out
end Go.Proofs.Ytkalpclckgbedaa
