/-
  The contracts of package sum and of the document's answer for layer 6. Conditions: strings of at most 100000 bytes.
-/
import Derived.Test.YtdjcbhkcciabpaaBase
import Derived.Test.YtdjcbhkcciabpaaSumMath
import Derived.Test.YtdjcbhkcciabpaaRet
import Derived.IntWalk
import Derived.Test.YtdjcbhkcciabpaaOwn
import Derived.Deep.RegionHeld3
import Derived.Deep.RegionWith
import Derived.Deep.QuietTactic
import Derived.BigQuiet
namespace Go.Proofs.Ytdjcbhkcciabpaa
open Go.ChangeShapes Go.WideShapes Go.ChangeAt Go.RowKit
set_option linter.unusedVariables false
set_option linter.unusedSimpArgs false
theorem Of_any (s : ByteArray) (w : World) (hs : s.size ≤ 100000) : Calls Try.prog 27 #[.string s] w fun e w' => e = .returned (.tuple #[.int .i64 (sumK s s.size).1, .int .i64 (sumK s s.size).2]) ∧ w = w' := by
  go_enter Try.func27, Try.ntmps27
  go_wp2
  go_loop [2, 3, 7] (fun a b i => ∃ k : Nat, a = .int .i64 (sumK s k).1 ∧ b = .int .i64 (sumK s k).2 ∧ i = .int .i64 k ∧ k ≤ s.size) (fun _ _ i => s.size - (intOf i).toNat)
  case atStart => exact ⟨0, rfl, rfl, rfl, by omega⟩
  case round =>
    obtain ⟨k, rfl, rfl, rfl, h1⟩ := hrel
    obtain ⟨b1, b2, b3, b4⟩ := sumK_bd s k
    by_cases hk : k < s.size
    · have e0 := gB_eq s k hk
      have l0 := gB_lt s k
      have hn : sumK s (k + 1) = (((sumK s k).1 + gB s k) % 255, ((sumK s k).2 + ((sumK s k).1 + gB s k) % 255) % 255) := rfl
      rw [e0] at l0 hn
      have HN := Lib.hid hn
      have L0 : ((s[k]'hk).toNat : Int) < 256 := by omega
      have L1 : (0 : Int) ≤ ((s[k]'hk).toNat : Int) := by omega
      clear hn e0 l0
      go_wp2
      go_round
      case rel => exact ⟨k + 1, by rw [HN.out], by rw [HN.out], by go_num, by omega⟩
      case measure => simp [intOf]; omega
    · obtain rfl : k = s.size := by omega
      go_wp2
      go_ret2
      exact ⟨rfl, rfl⟩
theorem rOf_any (s : ByteArray) (w : World) (hs : s.size ≤ 100000) : Calls Try.prog 22 #[.string s] w fun e w' => e = .returned (.tuple #[.int .i64 (sumK s s.size).1, .int .i64 (sumK s s.size).2]) ∧ w = w' := by
  rw [← refK_end s s.size]
  go_enter Try.func22, Try.ntmps22
  go_wp2
  go_loop [4, 5, 6] (fun a b i => ∃ k : Nat, a = .int .i64 (sumK s k).1 ∧ b = .int .i64 (refK s s.size k) ∧ i = .int .i64 k ∧ k ≤ s.size) (fun _ _ i => s.size - (intOf i).toNat)
  case atStart => exact ⟨0, rfl, rfl, rfl, by omega⟩
  case round =>
    obtain ⟨k, rfl, rfl, rfl, h1⟩ := hrel
    obtain ⟨b1, b2, b3, b4⟩ := sumK_bd s k
    obtain ⟨c1, c2⟩ := refK_bd s s.size k
    by_cases hk : k < s.size
    · have e0 := gB_eq s k hk
      have l0 := gB_lt s k
      have hn : (sumK s (k + 1)).1 = ((sumK s k).1 + gB s k) % 255 := rfl
      have hr : refK s s.size (k + 1) = (refK s s.size k + ((s.size : Int) - k) % 255 * gB s k) % 255 := rfl
      rw [e0] at l0 hn hr
      have L0 : ((s[k]'hk).toNat : Int) < 256 := by omega
      have L1 : (0 : Int) ≤ ((s[k]'hk).toNat : Int) := by omega
      have M1 : 0 ≤ ((s.size : Int) - k) % 255 * ((s[k]'hk).toNat : Int) := Int.mul_nonneg (by omega) (by omega)
      have M2 : ((s.size : Int) - k) % 255 * ((s[k]'hk).toNat : Int) ≤ 254 * 255 := Int.mul_le_mul (by omega) (by omega) (by omega) (by omega)
      have HN := Lib.hid hn
      have HR := Lib.hid hr
      clear hn hr e0 l0
      go_wp2
      go_round
      case rel => exact ⟨k + 1, by rw [HN.out], by rw [HR.out], by go_num, by omega⟩
      case measure => simp [intOf]; omega
    · obtain rfl : k = s.size := by omega
      go_wp2
      go_ret2
      exact ⟨rfl, rfl⟩
theorem bytes2 (a b : Int) (w : World) : ∀ dst, Try.prog.underlying dst = some .string → (convert 23 dst (.slice (some ⟨w.heap.size, 0, none⟩) 2 2)).run Try.prog (w.alloc (.cells #[.int .u8 a, .int .u8 b] 5)) = .ok (.string (strOfNums [a, b])) (w.alloc (.cells #[.int .u8 a, .int .u8 b] 5)) := by
  refine run_convert_bytes_arg _ 23 5 (by kernel_rfl) (by kernel_rfl) w.heap.size 0 2 2 [a, b] rfl ?_
  intro i hi
  have h : i = 0 ∨ i = 1 := by omega
  rcases h with rfl | rfl <;> go_simp
theorem ending_any (s : ByteArray) (w : World) (hs : s.size ≤ 100000) : Calls Try.prog 21 #[.string s] w fun e w' => e = .returned (.string (endS s)) ∧ Below w.heap.size w w' := by
  have p1 := Of_any s
  have hb := sumK_bd s s.size
  have E : Hid (endS s = strOfNums [(sumK s s.size).1, (sumK s s.size).2]) := Lib.hid rfl
  generalize (sumK s s.size).1 = a at *
  generalize (sumK s s.size).2 = b at *
  obtain ⟨b1, b2, b3, b4⟩ := hb
  have hw := bytes2 a b
  go_enter Try.func21, Try.ntmps21
  go_wp2_with (go_at_call 27; refine (p1 _ hs).mono ?_; rintro e w1 ⟨rfl, rfl⟩)
  go_ret
  exact ⟨by rw [E.out]; rfl, (Below.refl _ _).alloc (Nat.le_refl _) _⟩
theorem Append_any (s : ByteArray) (w : World) (hs : s.size ≤ 100000) : Calls Try.prog 13 #[.string s] w fun e w' => e = .returned (.string (s ++ endS s)) ∧ Below w.heap.size w w' := by
  have p1 := ending_any s
  have hz := endS_size s
  generalize endS s = x at *
  go_enter Try.func13, Try.ntmps13
  go_wp2_with (go_at_call 21; refine (p1 _ hs).mono ?_; rintro e w1 ⟨rfl, b1⟩)
  go_ret
  exact ⟨rfl, b1⟩
theorem rAppend_any (s : ByteArray) (w : World) (hs : s.size ≤ 100000) : Calls Try.prog 16 #[.string s] w fun e w' => e = .returned (.string (s ++ endS s)) ∧ Below w.heap.size w w' := by
  have p1 := rOf_any s
  have hb := sumK_bd s s.size
  have hz := endS_size s
  have hE : endS s = strOfNums [(sumK s s.size).1, (sumK s s.size).2] := rfl
  generalize (sumK s s.size).1 = a at *
  generalize (sumK s s.size).2 = b at *
  rw [hE] at hz ⊢
  obtain ⟨b1, b2, b3, b4⟩ := hb
  clear hE
  have hw := bytes2 a b
  go_enter Try.func16, Try.ntmps16
  go_wp2_with (go_at_call 22; refine (p1 _ hs).mono ?_; rintro e w1 ⟨rfl, rfl⟩)
  go_ret
  exact ⟨rfl, (Below.refl _ _).alloc (Nat.le_refl _) _⟩
/-- What Strip answers. -/
def okS (s : ByteArray) : Bool := decide (2 ≤ s.size ∧ s.extract (s.size - 2) s.size = endS (s.extract 0 (s.size - 2)))
def stripV (s : ByteArray) : Value := if okS s = true then .tuple #[.string (s.extract 0 (s.size - 2)), .bool true] else .tuple #[.string { data := #[] }, .bool false]
theorem bne_str (x y : ByteArray) (b : Bool) (h : (x.toList == y.toList) = b) : (x.toList != y.toList) = !b := by unfold bne; rw [h]
theorem Strip_any (s : ByteArray) (w : World) (hs : s.size ≤ 100000) : Calls Try.prog 19 #[.string s] w fun e w' => e = .returned (stripV s) ∧ Below w.heap.size w w' := by
  by_cases h2 : s.size < 2
  · have E := Lib.hid (show stripV s = .tuple #[.string { data := #[] }, .bool false] by unfold stripV okS; rw [if_neg (by simp; omega)])
    have hd : decide ((s.size : Int) - 2 < 0) = true := by simp; omega
    go_enter Try.func19, Try.ntmps19
    go_wp2_with fail
    go_quiet (fail)
    go_wp2
    go_ret2
    exact ⟨by rw [E.out]; rfl, below_drewN (Below.refl _ _) _⟩
  · obtain ⟨n, hn⟩ : ∃ n, s.size = n + 2 := ⟨s.size - 2, by omega⟩
    have p1 := ending_any (s.extract 0 n)
    have hz1 := size_extract s 0 n (by omega)
    have hz2 := endS_size (s.extract 0 n)
    have hz3 := size_extract s n s.size (Nat.le_refl _)
    have ht := eqB_iff (s.extract n s.size) (endS (s.extract 0 n))
    have hE : stripV s = if s.extract n s.size = endS (s.extract 0 n) then .tuple #[.string (s.extract 0 n), .bool true] else .tuple #[.string { data := #[] }, .bool false] := by
      unfold stripV okS; rw [show s.size - 2 = n from by omega]; simp only [decide_eq_true_eq, show (2 ≤ s.size) = True from by simp; omega, true_and]
    generalize endS (s.extract 0 n) = x at *
    have hn2 : (s.size : Int) - 2 = (n : Int) := by omega
    have hn3 : (n : Int) ≤ (s.size : Int) := by omega
    have hn4 : (0 : Int) ≤ (n : Int) := by omega
    have hd : decide ((n : Int) < 0) = false := by simp
    have hn5 : (s.extract 0 n).size ≤ 100000 := by omega
    have HN := Lib.hid hn
    clear hn h2 hz1 hz3
    by_cases hc : s.extract n s.size = x
    · rw [if_pos hc] at hE
      rw [decide_eq_true hc] at ht
      have hb := bne_str _ _ _ ht
      have E := Lib.hid hE
      clear hE hc
      go_enter Try.func19, Try.ntmps19
      go_wp2_with fail
      go_region_held3 (fun x => Below w.heap.size w x) (first
        | assumption
        | exact below_drew1 (Below.refl _ _)
        | exact bthen (by assumption) b1) (first
        | (go_at_call 21; (with_reducible refine (p1 _ hn5).mono ?_); rintro e w1 ⟨rfl, b1⟩))
      go_wp2
      go_ret2
      exact ⟨by rw [E.out]; rfl, by assumption⟩
    · rw [if_neg hc] at hE
      rw [decide_eq_false hc] at ht
      have hb := bne_str _ _ _ ht
      have E := Lib.hid hE
      clear hE hc
      go_enter Try.func19, Try.ntmps19
      go_wp2_with fail
      go_region_held3 (fun x => Below w.heap.size w x) (first
        | assumption
        | exact below_drew1 (Below.refl _ _)
        | exact bthen (by assumption) b1) (first
        | (go_at_call 21; (with_reducible refine (p1 _ hn5).mono ?_); rintro e w1 ⟨rfl, b1⟩))
      go_wp2
      go_ret2
      exact ⟨by rw [E.out]; rfl, by assumption⟩
end Go.Proofs.Ytdjcbhkcciabpaa
