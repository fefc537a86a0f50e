/-
  The contracts of the document's answer for layer 4: Put, Bytes, Signed, Take, TakeSigned. Conditions: the numbers are int64's, a string is no longer than a string can be.
-/
import Derived.Test.YtdjcbhkcciabpaaVariTake
import Derived.Test.YtdjcbhkcciabpaaOwn
import Derived.Deep.RegionWith
namespace Go.Proofs.Ytdjcbhkcciabpaa
open Go.ChangeShapes Go.WideShapes Go.ChangeAt Go.RowKit
set_option linter.unusedVariables false
set_option linter.unusedSimpArgs false
theorem conv_one (v : Int) : ∀ (W : World) (g : Nat), W.cell? ⟨g, 0, none⟩ = some (.int .u8 v) → ∀ dst, Try.prog.underlying dst = some .string → (convert 23 dst (.slice (some ⟨g, 0, none⟩) 1 1)).run Try.prog W = .ok (.string (strOfNums [v])) W := by
  intro W g h
  refine run_convert_bytes_arg _ 23 5 (by kernel_rfl) (by kernel_rfl) g 0 1 1 [v] rfl ?_
  intro i hi
  obtain rfl : i = 0 := by omega
  exact h
theorem one_group (a : Int) (w : World) : ∀ dst, Try.prog.underlying dst = some .string → (convert 23 dst (.slice (some ⟨w.heap.size, 0, none⟩) 1 1)).run Try.prog (w.alloc (.cells #[.int .u8 a] 5)) = .ok (.string (strOfNums [a])) (w.alloc (.cells #[.int .u8 a] 5)) := by
  refine run_convert_bytes_arg _ 23 5 (by kernel_rfl) (by kernel_rfl) w.heap.size 0 1 1 [a] rfl ?_
  intro i hi
  obtain rfl : i = 0 := by omega
  go_simp
theorem rGroup_any (k : Nat) : ∀ (n : Int) (w : World), n.toNat ≤ k → 0 ≤ n → n ≤ 2147483647 → Calls Try.prog 23 #[.int .i64 n] w fun e w' => e = .returned (.string (strOfNums (encL n.toNat))) ∧ Below w.heap.size w w' := by
  induction k using Nat.strongRecOn with
  | ind k ih =>
    intro n w hk h1 h2
    have IH := Lib.hid ih
    clear ih
    by_cases hn : n < 128
    · have E := Lib.hid (show encL n.toNat = [n] by rw [encL_lt (by omega), Int.toNat_of_nonneg h1])
      have hcv := one_group n
      go_enter Try.func23, Try.ntmps23
      go_wp2
      go_ret
      exact ⟨by rw [E.out]; rfl, (Below.refl _ _).alloc (Nat.le_refl _) _⟩
    · have e1 : (n.tdiv 128).natAbs = n.natAbs / 128 := Int.natAbs_tdiv n 128
      have p1 : 0 ≤ n.tdiv 128 := Int.tdiv_nonneg (by omega) (by omega)
      have e3 : n.tdiv 128 = n / 128 := Int.tdiv_eq_ediv_of_nonneg h1
      have hc : ∀ w, Calls Try.prog 23 #[.int .i64 (n / 128)] w fun e w' => e = .returned (.string (strOfNums (encL (n / 128).toNat))) ∧ Below w.heap.size w w' := fun w => IH.out (n / 128).toNat (by omega) (n / 128) w (Nat.le_refl _) (by omega) (by omega)
      have E := Lib.hid (show strOfNums (encL n.toNat) = strOfNums [n % 128 + 128] ++ strOfNums (encL (n / 128).toNat) by
        rw [str_append, encL_ge (n := n.toNat) (by omega), List.singleton_append]
        congr 2
        · omega
        · congr 1; omega)
      have hz : (strOfNums (encL (n / 128).toNat)).size ≤ 5 := by rw [strOfNums_size]; exact encL_len5 _ (by omega)
      have w1 : IntKind.i64.wrap (n.tdiv 128) = n / 128 := by rw [e3, IntKind.wrap_i64]; omega
      have w2 : IntKind.u8.wrap (IntKind.i64.wrap (n.tmod 128 + 128)) = n % 128 + 128 := by rw [Int.tmod_eq_emod_of_nonneg h1, IntKind.wrap_i64, IntKind.wrap_u8]; omega
      rw [← w1] at hc hz E
      rw [← w2] at E
      obtain ⟨v, hv⟩ : ∃ v, IntKind.u8.wrap (IntKind.i64.wrap (n.tmod 128 + 128)) = v := ⟨_, rfl⟩
      obtain ⟨q, hq⟩ : ∃ q, IntKind.i64.wrap (n.tdiv 128) = q := ⟨_, rfl⟩
      rw [hq] at hc hz E
      rw [hv] at E
      have hcv := conv_one v
      have hz1 : (strOfNums [v]).size = 1 := by rw [strOfNums_size]; rfl
      clear hk e1 p1 e3 w1 w2
      go_enter Try.func23, Try.ntmps23
      go_wp2_with fail
      go_region_with (first
        | (go_at_call 23; (with_reducible refine (hc _).mono ?_); rintro e w1 ⟨rfl, b1⟩; have hcell := fun h => b1.cell (p := ⟨w.heap.size, 0, none⟩) h))
      all_goals
        go_wp2
        go_ret
        refine ⟨by rw [E.out]; rfl, ?_⟩
        first
          | exact bthen (below_drew1 (below_more (Below.refl _ _) _)) b1
          | exact below_more (bthen (below_drew1 (Below.refl _ _)) b1) _
theorem rGroup (n : Int) (h0 : 0 ≤ n) (h1 : n ≤ 2147483647) (w : World) : Calls Try.prog 23 #[.int .i64 n] w fun e w' => e = .returned (.string (bytesS n)) ∧ Below w.heap.size w w' := by
  have h := rGroup_any _ n w (Nat.le_refl _) h0 h1
  unfold bytesS
  rw [bytesL_in h0 h1]
  exact h
theorem rBytes_any (n : Int) (h1 : -9223372036854775808 ≤ n) (h2 : n ≤ 9223372036854775807) (w : World) : Calls Try.prog 17 #[.int .i64 n] w fun e w' => e = .returned (.string (bytesS n)) ∧ Below w.heap.size w w' := by
  by_cases hlo : n < 0
  · have E := Lib.hid (show bytesS n = strOfNums [] by unfold bytesS; rw [bytesL_out (.inl hlo)])
    go_enter Try.func17, Try.ntmps17
    go_wp2
    go_ret
    exact ⟨by rw [E.out]; rfl, Below.refl _ _⟩
  · by_cases hhi : 2147483647 < n
    · have E := Lib.hid (show bytesS n = strOfNums [] by unfold bytesS; rw [bytesL_out (.inr hhi)])
      go_enter Try.func17, Try.ntmps17
      go_wp2
      go_ret
      exact ⟨by rw [E.out]; rfl, Below.refl _ _⟩
    · have hp := rGroup n (by omega) (by omega)
      go_enter Try.func17, Try.ntmps17
      go_wp2_with (go_at_call 23; refine (hp _).mono ?_; rintro e w1 ⟨rfl, b1⟩)
      go_ret
      exact ⟨rfl, b1⟩
end Go.Proofs.Ytdjcbhkcciabpaa
