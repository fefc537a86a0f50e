/-
  The laws of layer 7: each returns true for every input and writes nothing that was there. No conditions.
-/
import Derived.Test.YtdjcbhkcciabpaaFrameOpen
import Derived.Deep.OwnRows
namespace Go.Proofs.Ytdjcbhkcciabpaa
open Go.ChangeShapes Go.WideShapes Go.ChangeAt Go.RowKit
set_option linter.unusedVariables false
set_option linter.unusedSimpArgs false
theorem lives07 (w : World) : Calls Try.prog 6 #[] w fun e w' => e = .returned (.bool true) ∧ Below w.heap.size w w' := by
  have p1 := fun w => Make_any 1 { data := #[] } w (by decide +kernel)
  have e1 : makeV 1 { data := #[] } = tS2 { data := #[84, 1, 0, 85, 254] } 0 := by
    have e : frameS 1 { data := #[] } = { data := #[84, 1, 0, 85, 254] } := by decide +kernel
    unfold makeV
    rw [if_neg (by omega), if_neg (by decide +kernel), e]
  rw [e1] at p1
  simp only [tS2] at p1
  go_enter Try.func6, Try.ntmps6
  go_wp2_with (go_at_call 7; refine (p1 _).mono ?_; rintro e w1 ⟨rfl, b1⟩)
  go_ret
  exact ⟨rfl, b1⟩
theorem walk_FrameOpens (s : ByteArray) (w : World) (ws : s.size ≤ maxLen) :
    Calls Try.prog 4 #[.string s] w fun e w' => e = .returned (.bool true) ∧ Below w.heap.size w w' := by
  unfold maxLen at ws
  by_cases hz : 3000 < s.size
  · go_enter Try.func4, Try.ntmps4
    go_wp2_with (go_at_call 6; refine (lives07 _).mono ?_; rintro e w1 ⟨rfl, hb1⟩)
    go_ret
    exact ⟨rfl, hb1⟩
  · have p1 := fun w => Open_any s w (by omega)
    have p2 := fun w => rOpen_any s w (by omega)
    simp only [openV] at p1 p2
    generalize (openOf s).1 = x at *
    generalize (openOf s).2.1 = y at *
    generalize (openOf s).2.2 = z at *
    have c0 := Below.refl w.heap.size w
    go_enter Try.func4, Try.ntmps4
    go_wp2_with (first
      | (go_at_call 10; refine (p1 _).mono ?_; rintro e w1 ⟨rfl, b1⟩; have c1 := bthen (by assumption) b1; clear b1)
      | (go_at_call 11; refine (p2 _).mono ?_; rintro e w1 ⟨rfl, b1⟩; have c1 := bthen (by assumption) b1; clear b1)
      | (go_at_call 6; refine (lives07 _).mono ?_; rintro e w1 ⟨rfl, b1⟩; have c1 := bthen (by assumption) b1; clear b1))
    go_ret
    exact ⟨rfl, c1⟩
def zerosS (n : Nat) : ByteArray := strOfNums (List.replicate n 0)
theorem zerosS_size (n : Nat) : (zerosS n).size = n := by unfold zerosS; rw [strOf_size, List.length_replicate]
theorem made_zeros (n : Nat) (w : World) : ∀ dst, Try.prog.underlying dst = some .string → (convert 23 dst (.slice (some ⟨w.heap.size, 0, none⟩) n n)).run Try.prog (w.alloc (.cells (madeCells #[.int .u8 0] n) 5)) = .ok (.string (zerosS n)) (w.alloc (.cells (madeCells #[.int .u8 0] n) 5)) := by
  refine run_convert_bytes_arg _ 23 5 (by kernel_rfl) (by kernel_rfl) w.heap.size 0 n n (List.replicate n 0) (List.length_replicate ..) ?_
  intro i hi
  have h := (Whole.made w 5 (madeCells #[.int .u8 0] n)).read i
  rw [Nat.zero_add, h, ← Array.getElem?_toList, toList_madeCells_one, List.getElem?_replicate, if_pos hi, List.getD_eq_getElem?_getD, List.getElem?_replicate, if_pos hi]
  rfl
theorem make_zeros (n : Nat) (hn : n ≤ 3000) (w : World) : (Instr.makeSlice 23 (.int .i64 (n : Int)) (.int .i64 (n : Int))).run Try.prog w = .ok (.slice (some ⟨w.heap.size, 0, none⟩) n n) (w.alloc (.cells (madeCells #[.int .u8 0] n) 5)) :=
  run_make_row' 23 5 (.int .u8 0) 1 (by kernel_rfl) (by kernel_rfl) rfl .i64 .i64 n (by omega) (by omega) w
set_option maxRecDepth 100000 in
set_option maxHeartbeats 3200000 in
theorem walk_FrameMakes (k : Int) (p : ByteArray) (m : Int) (w : World) (wk : (Lit.int .i64 k).wf = true) (ws : p.size ≤ maxLen) (wm : (Lit.int .i64 m).wf = true) :
    Calls Try.prog 3 #[.int .i64 k, .string p, .int .i64 m] w fun e w' => e = .returned (.bool true) ∧ Below w.heap.size w w' := by
  unfold maxLen at ws
  obtain ⟨k1, k2⟩ := bounds_i64 wk
  obtain ⟨m1, m2⟩ := bounds_i64 wm
  clear wk wm
  by_cases hz : 3000 < p.size ∨ m < 0 ∨ 3000 < m
  · have hz1 : 3000 < (p.size : Int) ∨ (decide (3000 < (p.size : Int)) = false ∧ m < 0) ∨ (decide (3000 < (p.size : Int)) = false ∧ decide (m < 0) = false ∧ 3000 < m) := by
      simp only [decide_eq_false_iff_not]; omega
    clear hz
    rcases hz1 with h | ⟨h, h'⟩ | ⟨h, h', h''⟩
    all_goals
      go_enter Try.func3, Try.ntmps3
      go_wp2_with (go_at_call 6; refine (lives07 _).mono ?_; rintro e w1 ⟨rfl, hb1⟩)
      go_ret
      exact ⟨rfl, hb1⟩
  · obtain ⟨n, rfl⟩ : ∃ n : Nat, m = n := ⟨m.toNat, by omega⟩
    have hn : n ≤ 3000 := by omega
    have hp : p.size ≤ 3000 := by omega
    have hmk := make_zeros n hn
    have hcv := made_zeros n
    have hzz := zerosS_size n
    generalize zerosS n = y at *
    obtain ⟨q, hq⟩ : ∃ q, p ++ y = q := ⟨_, rfl⟩
    have hqs : q.size = p.size + y.size := by rw [← hq, ByteArray.size_append]
    have hqz : q.size ≤ 6000 := by omega
    have hyz : y.size ≤ 3000 := by omega
    clear hz hzz
    have p1 := fun w => Make_any k q w (by omega)
    have c0 := Below.refl w.heap.size w
    have HQ := Lib.hid hq
    by_cases hk : k < 1 ∨ 9 < k
    · have e1 : makeV k q = .tuple #[.string noS, .int .i64 13] := by unfold makeV; rw [if_pos hk]; rfl
      rw [e1] at p1
      have p2 := fun w => Room_no k hk w
      have hk1 : decide (k < 1) = true ∨ (decide (k < 1) = false ∧ decide (9 < k) = true) := by simp only [decide_eq_false_iff_not, decide_eq_true_eq]; omega
      simp only [noS] at p1
      clear e1 hk hqs
      subst hq
      rcases hk1 with h | ⟨h, h'⟩
      all_goals
        go_enter Try.func3, Try.ntmps3
        go_wp2_with (first
          | (go_at_call 7; (with_reducible refine (p1 _).mono ?_); rintro e w1 ⟨rfl, b1⟩; have c1 := bthen (below_more c0 _) b1; clear b1)
          | (go_at_call 8; (with_reducible refine (p2 _).mono ?_); rintro e w1 ⟨rfl, b1⟩; have c1 := bthen (by assumption) b1; clear b1)
          | (go_at_call 6; refine (lives07 _).mono ?_; rintro e w1 ⟨rfl, b1⟩; have c1 := bthen (by assumption) b1; clear b1))
        go_ret
        exact ⟨rfl, by assumption⟩
    · have hk1 : decide (k < 1) = false := by simp only [decide_eq_false_iff_not]; omega
      have hk2 : decide (9 < k) = false := by simp only [decide_eq_false_iff_not]; omega
      have p2 := fun w => Room_yes k (by omega) (by omega) w
      have p3 := fun w => rMake_any k q w (by omega) (by omega) (by omega)
      by_cases hl : 2042 < q.size
      · have e1 : makeV k q = .tuple #[.string noS, .int .i64 3] := by unfold makeV; rw [if_neg hk, if_pos hl]; rfl
        rw [e1] at p1
        simp only [noS] at p1
        have hz1 := frame_long k q hl (by omega)
        have hl1 : 2042 < (p.size : Int) + (y.size : Int) := by omega
        generalize frameS k q = F at *
        have hF : 2048 < (F.size : Int) := by omega
        clear e1 hk hz1 hl hqs
        subst hq
        go_enter Try.func3, Try.ntmps3
        go_wp2_with (first
          | (go_at_call 7; (with_reducible refine (p1 _).mono ?_); rintro e w1 ⟨rfl, b1⟩; have c1 := bthen (below_more c0 _) b1; clear b1)
          | (go_at_call 8; (with_reducible refine (p2 _).mono ?_); rintro e w1 ⟨rfl, b1⟩; have c1 := bthen (by assumption) b1; clear b1)
          | (go_at_call 9; (with_reducible refine (p3 _).mono ?_); rintro e w1 ⟨rfl, b1⟩; have c1 := bthen (by assumption) b1; clear b1)
          | (go_at_call 6; refine (lives07 _).mono ?_; rintro e w1 ⟨rfl, b1⟩; have c1 := bthen (by assumption) b1; clear b1))
        go_ret
        exact ⟨rfl, by assumption⟩
      · have e1 : makeV k q = .tuple #[.string (frameS k q), .int .i64 0] := by unfold makeV; rw [if_neg hk, if_neg hl]; rfl
        rw [e1] at p1
        have hz1 := frame_fits k q (by omega)
        have hl1 : (p.size : Int) + (y.size : Int) ≤ 2042 := by omega
        generalize frameS k q = F at *
        have hF : (F.size : Int) ≤ 2048 := by omega
        clear e1 hk hz1 hl hqs
        subst hq
        go_enter Try.func3, Try.ntmps3
        go_wp2_with (first
          | (go_at_call 7; (with_reducible refine (p1 _).mono ?_); rintro e w1 ⟨rfl, b1⟩; have c1 := bthen (below_more c0 _) b1; clear b1)
          | (go_at_call 8; (with_reducible refine (p2 _).mono ?_); rintro e w1 ⟨rfl, b1⟩; have c1 := bthen (by assumption) b1; clear b1)
          | (go_at_call 9; (with_reducible refine (p3 _).mono ?_); rintro e w1 ⟨rfl, b1⟩; have c1 := bthen (by assumption) b1; clear b1)
          | (go_at_call 6; refine (lives07 _).mono ?_; rintro e w1 ⟨rfl, b1⟩; have c1 := bthen (by assumption) b1; clear b1))
        go_ret
        exact ⟨rfl, by assumption⟩
end Go.Proofs.Ytdjcbhkcciabpaa
