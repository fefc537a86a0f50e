/-
  Package board: the players. No conditions but a state's rows.
-/
import Derived.Test.YtkalpclckgbedaaRgtB
namespace Go.Proofs.Ytkalpclckgbedaa
open Go.ChangeShapes Go.WideShapes Go.ChangeAt Go.RowKit
set_option linter.unusedVariables false
set_option linter.unusedSimpArgs false
set_option maxRecDepth 20000
set_option maxHeartbeats 3200000
def playC (c : Sc) (r : Nat → Value) (k : Nat) : List Value := [r (6 + 3 * k), r (6 + 3 * k + 1), r (6 + 3 * k + 2), .int .i64 (c.energy k), .int .i64 (c.bonus k), .bool (c.raised k)]
theorem pPlayers (c : Sc) (r : Nat → Value) (L : Nat → List Ins) (w : World) (hR : Rows12 w r L) :
    Calls Try.prog 43 #[stV c r] w (Ans (∀ k, k < 2 → PlayOK c L k) w) := by
  have hv : stV c r = .agg (stC c r).toArray := rfl
  have X1 : Hid (Whole (w.alloc (.cells (stC c r).toArray 33)) w.heap.size 33 (stC c r).toArray) := Lib.hid (Whole.made w _ _)
  have B0 : Hid (Below w.heap.size w (w.alloc (.cells (stC c r).toArray 33))) := Lib.hid ((Below.refl _ _).alloc (Nat.le_refl _) _)
  have HX : Hid (∀ i : Nat, i < 2 → ∀ w, (Instr.index 29 (.agg (playC c r 0 ++ playC c r 1).toArray) (.int .i64 (i : Int))).run Try.prog w = .ok (.agg (playC c r i).toArray) w) := Lib.hid fun i hi w => by
    match i, hi with
    | 0, _ => show _ = _; kernel_rfl
    | 1, _ => show _ = _; kernel_rfl
  have X1p : Hid (Whole (w.alloc (.cells (stC c r).toArray 33)) w.heap.size 33 ((stC c r).take 13 ++ (playC c r 0 ++ playC c r 1) ++ (stC c r).drop 25).toArray) := X1
  obtain ⟨LN, hLN⟩ : ∃ LN, playC c r 0 ++ playC c r 1 = LN := ⟨_, rfl⟩
  have HLN : Hid (LN.length = 12) := Lib.hid (by rw [← hLN]; rfl)
  have H13 : Hid (13 = ((stC c r).take 13).length) := Lib.hid rfl
  rw [hLN] at X1p HX
  rw [hv]
  have HR := Lib.hid hR
  have HONE := Lib.hid hR.one
  have K0 := Lib.hid (fun n a b => pWithin n a b)
  clear hLN hR
  go_enter Try.func43, Try.ntmps43
  go_wp2_with ((with_reducible refine at_ld 6 ?_); refine wpList_loadP 29 (.tmp 5) 33 w.heap.size 13 ((stC c r).take 13) LN ((stC c r).drop 25) X1p.out H13.out (by kernel_rfl) (by rw [HLN.out]; kernel_rfl) rfl rfl rfl ?_)
  clear X1 X1p
  go_loopw [7] (fun v wr => ∃ i : Nat, v = .int .i64 i ∧ i ≤ 2 ∧ (∀ j, j < i → PlayOK c L j) ∧ Below w.heap.size w wr) (fun v _ => 2 - (intOf v).toNat)
  case atStart => exact ⟨0, rfl, by omega, fun j hj => by omega, B0.out⟩
  case round =>
    obtain ⟨i, rfl, hi, hok, hb⟩ := hrel
    have HOK := Lib.hid hok
    have HB := Lib.hid hb
    clear hok hb
    by_cases hi2 : i < 2
    · have li : (i : Int) < 2 := by omega
      have hx := HX.out i hi2
      have HLL : Hid ((playC c r i).length = 6) := Lib.hid rfl
      have HL1 : Hid (∀ v ∈ playC c r i, v.oneCell' = true) := Lib.hid (by
        intro v hv
        simp only [playC, List.mem_cons, List.not_mem_nil, or_false] at hv
        rcases hv with rfl | rfl | rfl | rfl | rfl | rfl
        · exact HONE.out _ (by omega)
        · exact HONE.out _ (by omega)
        · exact HONE.out _ (by omega)
        · rfl
        · rfl
        · rfl)
      obtain ⟨A, cp, e, _, _, _, _⟩ := HR.out (6 + 3 * i + 1) (by omega)
      obtain ⟨m, hm⟩ : ∃ m, (L (6 + 3 * i + 1)).length = m := ⟨_, rfl⟩
      rw [hm] at e
      have LW : Hid (∀ x, Whole x wr.heap.size 28 (playC c r i).toArray → x.cell? ⟨wr.heap.size, 1, none⟩ = some (.slice A m cp) ∧ x.cell? ⟨wr.heap.size, 3, none⟩ = some (.int .i64 (c.energy i)) ∧ x.cell? ⟨wr.heap.size, 4, none⟩ = some (.int .i64 (c.bonus i))) := Lib.hid fun x h => ⟨by rw [h.read, ← e]; rfl, by rw [h.read]; rfl, by rw [h.read]; rfl⟩
      have ways : (betB (c.energy i) 0 9 = false ∧ ¬ PlayOK c L i) ∨ (betB (c.energy i) 0 9 = true ∧ betB (c.bonus i) (-9) 9 = false ∧ ¬ PlayOK c L i) ∨ (betB (c.energy i) 0 9 = true ∧ betB (c.bonus i) (-9) 9 = true ∧ (7 : Int) < (m : Int) ∧ ¬ PlayOK c L i) ∨ (betB (c.energy i) 0 9 = true ∧ betB (c.bonus i) (-9) 9 = true ∧ ¬ (7 : Int) < (m : Int) ∧ PlayOK c L i) := by
        unfold PlayOK
        rw [hm]
        cases h1 : betB (c.energy i) 0 9 <;> cases h2 : betB (c.bonus i) (-9) 9 <;> by_cases h3 : m ≤ 7 <;> simp [h3] <;> omega
      clear e hm
      generalize playC c r i = LA at *
      generalize c.energy i = en at *
      generalize c.bonus i = bo at *
      rcases ways with ⟨h1, hno⟩ | ⟨h1, h2, hno⟩ | ⟨h1, h2, h3, hno⟩ | ⟨h1, h2, h3, hno⟩
      all_goals
        have HW := Lib.hid hno
        clear hno
        go_wp2_with (first
          | ((with_reducible refine at_st 4 9 ?_); refine wpList_storeW 28 (.tmp 4) (.tmp 9) 28 wr.heap.size [.slice none 0 0, .slice none 0 0, .slice none 0 0, .int .i64 0, .int .i64 0, .bool false] LA (Whole.made wr _ _) HLL.out (by rw [HLL.out]; kernel_rfl) HL1.out rfl rfl rfl rfl rfl ?_; intro w9 p9; have P9 := Lib.hid p9; obtain ⟨p1, p3, p4⟩ := LW.out _ p9.whole; clear p9)
          | (go_at_call 38; (with_reducible refine (K0.out _ _ _ _).mono ?_); rintro e w1 ⟨rfl, rfl⟩))
      · go_ret
        exact Ans.no (fun h => HW.out (h i hi2)) (bthen HB.out (put_over P9.out))
      · go_ret
        exact Ans.no (fun h => HW.out (h i hi2)) (bthen HB.out (put_over P9.out))
      · go_ret
        exact Ans.no (fun h => HW.out (h i hi2)) (bthen HB.out (put_over P9.out))
      · have B9 := bthen HB.out (put_over P9.out)
        go_roundw
        case rel => exact ⟨i + 1, by go_num, by omega, fun j hj => by
          by_cases e : j = i
          · subst e; exact HW.out
          · exact HOK.out j (by omega), B9⟩
        case measure => simp [intOf]; omega
    · have e3 : i = 2 := by omega
      subst e3
      have li : ¬ ((2 : Nat) : Int) < 2 := by omega
      go_wp2
      go_ret
      exact Ans.yes HOK.out HB.out
end Go.Proofs.Ytkalpclckgbedaa
