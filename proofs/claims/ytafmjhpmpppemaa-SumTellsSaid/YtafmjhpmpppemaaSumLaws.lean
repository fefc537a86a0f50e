/-
  The laws of layer 6: each returns true for every input and writes nothing that was there. No conditions.
-/
import Derived.Test.YtafmjhpmpppemaaSum
namespace Go.Proofs.Ytafmjhpmpppemaa
open Go.ChangeShapes Go.WideShapes Go.ChangeAt Go.RowKit
set_option linter.unusedVariables false
set_option linter.unusedSimpArgs false
theorem lives06 (w : World) : Calls Try.prog 6 #[] w fun e w' => e = .returned (.bool true) ∧ Below w.heap.size w w' := by
  have p1 := Of_any { data := #[97, 98] }
  have e1 : sumK { data := #[97, 98] } (ByteArray.size { data := #[97, 98] }) = (195, 37) := by decide +kernel
  rw [e1] at p1
  go_enter Try.func6, Try.ntmps6
  go_wp2_with (go_at_call 7; refine (p1 _ (by decide +kernel)).mono ?_; rintro e w1 ⟨rfl, rfl⟩)
  go_ret
  exact ⟨rfl, Below.refl _ _⟩
theorem walk_SumTells (s : ByteArray) (w : World) (ws : s.size ≤ maxLen) :
    Calls Try.prog 3 #[.string s] w fun e w' => e = .returned (.bool true) ∧ Below w.heap.size w w' := by
  unfold maxLen at ws
  by_cases hz : 5000 < s.size
  · go_enter Try.func3, Try.ntmps3
    go_wp2_with (go_at_call 6; refine (lives06 _).mono ?_; rintro e w1 ⟨rfl, hb1⟩)
    go_ret
    exact ⟨rfl, hb1⟩
  · have hs : s.size ≤ 5010 := by omega
    have p1 := fun w => Of_any s w hs
    have p2 := fun w => rOf_any s w hs
    have p3 := fun w => Append_any s w hs
    have p4 := fun w => rAppend_any s w hs
    generalize sumK s s.size = x at *
    generalize s ++ endS s = y at *
    have c0 := Below.refl w.heap.size w
    go_enter Try.func3, Try.ntmps3
    go_wp2_with (first
      | (go_at_call 7; refine (p1 _).mono ?_; rintro e w1 ⟨rfl, rfl⟩)
      | (go_at_call 8; refine (p2 _).mono ?_; rintro e w1 ⟨rfl, rfl⟩)
      | (go_at_call 9; refine (p3 _).mono ?_; rintro e w1 ⟨rfl, b1⟩; have c1 := bthen (by assumption) b1; clear b1)
      | (go_at_call 10; refine (p4 _).mono ?_; rintro e w1 ⟨rfl, b1⟩; have c1 := bthen (by assumption) b1; clear b1)
      | (go_at_call 6; refine (lives06 _).mono ?_; rintro e w1 ⟨rfl, b1⟩; have c1 := bthen (by assumption) b1; clear b1))
    go_ret
    exact ⟨rfl, c1⟩
theorem walk_SumStrips (s : ByteArray) (w : World) (ws : s.size ≤ maxLen) :
    Calls Try.prog 4 #[.string s] w fun e w' => e = .returned (.bool true) ∧ Below w.heap.size w w' := by
  unfold maxLen at ws
  by_cases hz : 5000 < s.size
  · go_enter Try.func4, Try.ntmps4
    go_wp2_with (go_at_call 6; refine (lives06 _).mono ?_; rintro e w1 ⟨rfl, hb1⟩)
    go_ret
    exact ⟨rfl, hb1⟩
  · have hs : s.size ≤ 5010 := by omega
    have p1 := fun w => Strip_any s w hs
    have c0 := Below.refl w.heap.size w
    by_cases h2 : s.size < 2
    · have E : stripV s = .tuple #[.string { data := #[] }, .bool false] := by unfold stripV okS; rw [if_neg (by simp; omega)]
      rw [E] at p1
      clear E
      go_enter Try.func4, Try.ntmps4
      go_wp2_with (first
        | (go_at_call 11; refine (p1 _).mono ?_; rintro e w1 ⟨rfl, b1⟩; have c1 := bthen (by assumption) b1; clear b1)
        | (go_at_call 6; refine (lives06 _).mono ?_; rintro e w1 ⟨rfl, b1⟩; have c1 := bthen (by assumption) b1; clear b1))
      go_ret
      exact ⟨rfl, c1⟩
    · obtain ⟨n, hn⟩ : ∃ n, s.size = n + 2 := ⟨s.size - 2, by omega⟩
      have hz1 := size_extract s 0 n (by omega)
      have p2 := fun w => rAppend_any (s.extract 0 n) w (by omega)
      have hc : s.extract n s.size = endS (s.extract 0 n) ↔ s.extract 0 n ++ endS (s.extract 0 n) = s := (pieces_iff s _ n (by omega)).symm
      have ht := eqB_iff (s.extract 0 n ++ endS (s.extract 0 n)) s
      have hE : stripV s = if s.extract n s.size = endS (s.extract 0 n) then .tuple #[.string (s.extract 0 n), .bool true] else .tuple #[.string { data := #[] }, .bool false] := by
        unfold stripV okS; rw [show s.size - 2 = n from by omega]; simp only [decide_eq_true_eq, show (2 ≤ s.size) = True from by simp; omega, true_and]
      have hn2 : (s.size : Int) - 2 = (n : Int) := by omega
      have hn3 : (n : Int) ≤ (s.size : Int) := by omega
      have hn6 : ¬ (s.size : Int) < 2 := by omega
      have HN := Lib.hid hn
      by_cases hq : s.extract n s.size = endS (s.extract 0 n)
      · rw [if_pos hq] at hE
        rw [decide_eq_true (hc.1 hq)] at ht
        rw [hE] at p1
        have hb := bne_str _ _ _ ht
        clear hE hq hc hn hz1
        generalize s.extract 0 n ++ endS (s.extract 0 n) = y at *
        go_enter Try.func4, Try.ntmps4
        go_wp2_with (first
          | (go_at_call 11; refine (p1 _).mono ?_; rintro e w1 ⟨rfl, b1⟩; have c1 := bthen (by assumption) b1; clear b1)
          | (go_at_call 10; refine (p2 _).mono ?_; rintro e w1 ⟨rfl, b1⟩; have c1 := bthen (by assumption) b1; clear b1)
          | (go_at_call 6; refine (lives06 _).mono ?_; rintro e w1 ⟨rfl, b1⟩; have c1 := bthen (by assumption) b1; clear b1))
        go_ret
        exact ⟨rfl, c1⟩
      · rw [if_neg hq] at hE
        rw [decide_eq_false (fun k => hq (hc.2 k))] at ht
        rw [hE] at p1
        have hb := bne_str _ _ _ ht
        clear hE hq hc hn hz1
        generalize s.extract 0 n ++ endS (s.extract 0 n) = y at *
        go_enter Try.func4, Try.ntmps4
        go_wp2_with (first
          | (go_at_call 11; refine (p1 _).mono ?_; rintro e w1 ⟨rfl, b1⟩; have c1 := bthen (by assumption) b1; clear b1)
          | (go_at_call 10; refine (p2 _).mono ?_; rintro e w1 ⟨rfl, b1⟩; have c1 := bthen (by assumption) b1; clear b1)
          | (go_at_call 6; refine (lives06 _).mono ?_; rintro e w1 ⟨rfl, b1⟩; have c1 := bthen (by assumption) b1; clear b1))
        go_ret
        exact ⟨rfl, c1⟩
theorem strip_append (s : ByteArray) : stripV (s ++ endS s) = .tuple #[.string s, .bool true] := by
  have hz := endS_size s
  have hy : (s ++ endS s).size = s.size + 2 := by rw [ByteArray.size_append, hz]
  have e1 := cut_append s (endS s) ((s ++ endS s).size - 2) (by omega)
  have e2 := tail_append s (endS s) ((s ++ endS s).size - 2) (s ++ endS s).size (by omega) (by omega)
  unfold stripV okS
  rw [e1, e2, if_pos]
  exact decide_eq_true ⟨by omega, rfl⟩
theorem conv_one (v : Int) : ∀ (W : World) (g : Nat), W.cell? ⟨g, 0, none⟩ = some (.int .u8 v) → ∀ dst, Try.prog.underlying dst = some .string → (convert 29 dst (.slice (some ⟨g, 0, none⟩) 1 1)).run Try.prog W = .ok (.string (strOfNums [v])) W := by
  intro W g h
  refine run_convert_bytes_arg _ 29 5 (by kernel_rfl) (by kernel_rfl) g 0 1 1 [v] rfl ?_
  intro i hi
  obtain rfl : i = 0 := by omega
  exact h
set_option maxHeartbeats 3200000 in
theorem walk_SumOne (s : ByteArray) (a c : Int) (w : World) (ws : s.size ≤ maxLen) (wa : (Lit.int .i64 a).wf = true) (wc : (Lit.int .u8 c).wf = true) :
    Calls Try.prog 5 #[.string s, .int .i64 a, .int .u8 c] w fun e w' => e = .returned (.bool true) ∧ Below w.heap.size w w' := by
  unfold maxLen at ws
  obtain ⟨a1, a2⟩ := bounds_i64 wa
  have hc := bounds_u8 wc
  clear wa wc
  obtain ⟨c1, c2⟩ := hc
  by_cases hz : 5000 < s.size
  · go_enter Try.func5, Try.ntmps5
    go_wp2_with (go_at_call 6; refine (lives06 _).mono ?_; rintro e w1 ⟨rfl, hb1⟩)
    go_ret
    exact ⟨rfl, hb1⟩
  · have p1 := fun w => Append_any s w (by omega)
    have p2 := fun w => Strip_any (s ++ endS s) w (by rw [ByteArray.size_append, endS_size]; omega)
    rw [strip_append] at p2
    generalize s ++ endS s = y at *
    have b0 := Below.refl w.heap.size w
    by_cases ho : a < 0 ∨ (s.size : Int) ≤ a
    · rcases ho with ho | ho
      · go_enter Try.func5, Try.ntmps5
        go_wp2_with (first
          | (go_at_call 9; refine (p1 _).mono ?_; rintro e w1 ⟨rfl, b1⟩; have d1 := bthen (by assumption) b1; clear b1)
          | (go_at_call 11; refine (p2 _).mono ?_; rintro e w1 ⟨rfl, b1⟩; have d1 := bthen (by assumption) b1; clear b1)
          | (go_at_call 6; refine (lives06 _).mono ?_; rintro e w1 ⟨rfl, b1⟩; have d1 := bthen (by assumption) b1; clear b1))
        go_ret
        exact ⟨rfl, d1⟩
      · have ho' : ¬ a < 0 := by omega
        go_enter Try.func5, Try.ntmps5
        go_wp2_with (first
          | (go_at_call 9; refine (p1 _).mono ?_; rintro e w1 ⟨rfl, b1⟩; have d1 := bthen (by assumption) b1; clear b1)
          | (go_at_call 11; refine (p2 _).mono ?_; rintro e w1 ⟨rfl, b1⟩; have d1 := bthen (by assumption) b1; clear b1)
          | (go_at_call 6; refine (lives06 _).mono ?_; rintro e w1 ⟨rfl, b1⟩; have d1 := bthen (by assumption) b1; clear b1))
        go_ret
        exact ⟨rfl, d1⟩
    · obtain ⟨p, rfl⟩ : ∃ p : Nat, a = p := ⟨a.toNat, by omega⟩
      have hp : p < s.size := by omega
      have hp' : (p : Int) < (s.size : Int) := by omega
      have hp0 : (0 : Int) ≤ (p : Int) := by omega
      have hpl : (p : Int) ≤ (s.size : Int) := by omega
      have p3 := fun w => Of_any s w (by omega)
      have p4 := fun w => Of_any (oneS s p c) w (by rw [oneS_size s p c hp]; omega)
      have hm := one_parts s p c hp (by omega) (by omega)
      have z1 := size_extract s 0 p (by omega)
      have z2 := size_extract s (p + 1) s.size (Nat.le_refl _)
      have z3 := strOf_size [c]
      have z4 : (s.extract 0 p ++ strOfNums [c]).size ≤ 5010 := by rw [ByteArray.size_append, z1, z3]; simp; omega
      have z5 : (s.extract 0 p).size ≤ 5010 := by omega
      have z6 : (s.extract (p + 1) s.size).size ≤ 5010 := by omega
      have z7 : (strOfNums [c]).size ≤ 5010 := by rw [z3]; simp
      unfold oneS at hm p4
      rw [gB_eq s p hp] at hm
      have HM := Lib.hid hm
      clear hm z1 z2 z3
      generalize sumK s s.size = S at *
      generalize sumK (s.extract 0 p ++ strOfNums [c] ++ s.extract (p + 1) s.size) (s.extract 0 p ++ strOfNums [c] ++ s.extract (p + 1) s.size).size = T at *
      by_cases hA : ((s[p]'hp).toNat : Int) = c
      · have tA : (((s[p]'hp).toNat : Int) == c) = true := by simpa using hA
        clear hA p4 z4 z5 z6 z7
        go_enter Try.func5, Try.ntmps5
        go_wp2_with (first
          | (go_at_call 9; refine (p1 _).mono ?_; rintro e w1 ⟨rfl, b1⟩; have d1 := bthen (by assumption) b1; clear b1)
          | (go_at_call 11; refine (p2 _).mono ?_; rintro e w1 ⟨rfl, b1⟩; have d1 := bthen (by assumption) b1; clear b1)
          | (go_at_call 7; (with_reducible refine (p3 _).mono ?_); rintro e w1 ⟨rfl, rfl⟩)
          | (go_at_call 6; refine (lives06 _).mono ?_; rintro e w1 ⟨rfl, b1⟩; have d1 := bthen (by assumption) b1; clear b1))
        go_ret
        exact ⟨rfl, d1⟩
      · have tA : (((s[p]'hp).toNat : Int) == c) = false := by simpa using hA
        by_cases hB : ((s[p]'hp).toNat : Int) = 0 ∧ c = 255
        · obtain ⟨hB1, rfl⟩ := hB
          have tB : (((s[p]'hp).toNat : Int) == 0) = true := by simpa using hB1
          clear hB1 hA p4 z4 z5 z6 z7
          go_enter Try.func5, Try.ntmps5
          go_wp2_with (first
            | (go_at_call 9; refine (p1 _).mono ?_; rintro e w1 ⟨rfl, b1⟩; have d1 := bthen (by assumption) b1; clear b1)
            | (go_at_call 11; refine (p2 _).mono ?_; rintro e w1 ⟨rfl, b1⟩; have d1 := bthen (by assumption) b1; clear b1)
            | (go_at_call 7; (with_reducible refine (p3 _).mono ?_); rintro e w1 ⟨rfl, rfl⟩)
            | (go_at_call 6; refine (lives06 _).mono ?_; rintro e w1 ⟨rfl, b1⟩; have d1 := bthen (by assumption) b1; clear b1))
          go_ret
          exact ⟨rfl, d1⟩
        · by_cases hC : ((s[p]'hp).toNat : Int) = 255 ∧ c = 0
          · obtain ⟨hC1, rfl⟩ := hC
            have tC : (((s[p]'hp).toNat : Int) == 255) = true := by simpa using hC1
            have tB : (((s[p]'hp).toNat : Int) == 0) = false := by simp; omega
            clear hC1 hA hB p4 z4 z5 z6 z7
            go_enter Try.func5, Try.ntmps5
            go_wp2_with (first
              | (go_at_call 9; refine (p1 _).mono ?_; rintro e w1 ⟨rfl, b1⟩; have d1 := bthen (by assumption) b1; clear b1)
              | (go_at_call 11; refine (p2 _).mono ?_; rintro e w1 ⟨rfl, b1⟩; have d1 := bthen (by assumption) b1; clear b1)
              | (go_at_call 7; (with_reducible refine (p3 _).mono ?_); rintro e w1 ⟨rfl, rfl⟩)
              | (go_at_call 6; refine (lives06 _).mono ?_; rintro e w1 ⟨rfl, b1⟩; have d1 := bthen (by assumption) b1; clear b1))
            go_ret
            exact ⟨rfl, d1⟩
          · have hne := HM.out hA hB hC
            have tD : (S.1 != T.1) = true := by simpa using hne
            have hv : ((((s[p]'hp).toNat : Int) == 0) = true ∧ (c == 255) = false ∧ (((s[p]'hp).toNat : Int) == 255) = false) ∨ ((((s[p]'hp).toNat : Int) == 0) = false ∧ (((s[p]'hp).toNat : Int) == 255) = true ∧ (c == 0) = false) ∨ ((((s[p]'hp).toNat : Int) == 0) = false ∧ (((s[p]'hp).toNat : Int) == 255) = false) := by
              simp only [beq_iff_eq, beq_eq_false_iff_ne, ne_eq]; omega
            have s1 : IntKind.i64.wrap ((p : Int) + 1) = (p : Int) + 1 := IntWalk.i64_in _ (by omega)
            have s2 : (0 : Int) ≤ (p : Int) + 1 := by omega
            have s3 : ((p : Int) + 1).toNat = p + 1 := by omega
            have s4 : (p : Int) + 1 ≤ (s.size : Int) := by omega
            have hcv := conv_one c
            clear hne hA hB hC
            rcases hv with ⟨t1, t2, t3⟩ | ⟨t1, t2, t3⟩ | ⟨t1, t2⟩
            all_goals
              go_enter Try.func5, Try.ntmps5
              go_wp2_with (first
                | (go_at_call 9; refine (p1 _).mono ?_; rintro e w1 ⟨rfl, b1⟩; have d1 := bthen (by assumption) b1; clear b1)
                | (go_at_call 11; refine (p2 _).mono ?_; rintro e w1 ⟨rfl, b1⟩; have d1 := bthen (by assumption) b1; clear b1)
                | (go_at_call 7; (with_reducible refine (p3 _).mono ?_); rintro e w1 ⟨rfl, rfl⟩))
              go_region_with (first
                | (go_at_call 7; (with_reducible refine (p4 _).mono ?_); rintro e w1 ⟨rfl, rfl⟩))
              go_wp2_with (go_at_call 6; refine (lives06 _).mono ?_; rintro e w2 ⟨rfl, b2⟩)
              go_ret
              refine ⟨rfl, ?_⟩
              first
                | exact bthen (below_drew1 (below_more d1 _)) b2
                | exact bthen (below_more (below_drew1 d1) _) b2
end Go.Proofs.Ytafmjhpmpppemaa
