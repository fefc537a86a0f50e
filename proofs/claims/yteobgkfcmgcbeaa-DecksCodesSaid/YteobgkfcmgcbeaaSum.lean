/-
  The contracts of package sum and of the document's answer for layer 6. Conditions: strings of at most 100000 bytes.
-/
import Derived.Test.YteobgkfcmgcbeaaBase
import Derived.Test.YteobgkfcmgcbeaaSumMath
import Derived.Test.YteobgkfcmgcbeaaRet
import Derived.IntWalk
import Derived.Test.YteobgkfcmgcbeaaOwn
import Derived.Deep.RegionHeld3
import Derived.Deep.RegionWith
import Derived.Deep.QuietTactic
import Derived.BigQuiet
namespace Go.Proofs.Yteobgkfcmgcbeaa
open Go.ChangeShapes Go.WideShapes Go.ChangeAt Go.RowKit
set_option linter.unusedVariables false
set_option linter.unusedSimpArgs false
theorem Of_any (s : ByteArray) (w : World) (hs : s.size ≤ 100000) : Calls Try.prog 16 #[.string s] w fun e w' => e = .returned (.tuple #[.int .i64 (sumK s s.size).1, .int .i64 (sumK s s.size).2]) ∧ w = w' := by
  go_enter Try.func16, Try.ntmps16
  go_wp2
  go_loop [2, 3, 7] (fun a b i => ∃ k : Nat, a = .int .i64 (sumK s k).1 ∧ b = .int .i64 (sumK s k).2 ∧ i = .int .i64 k ∧ k ≤ s.size) (fun _ _ i => s.size - (intOf i).toNat)
  case atStart => exact ⟨0, rfl, rfl, rfl, by omega⟩
  case round =>
    obtain ⟨k, rfl, rfl, rfl, h1⟩ := hrel
    obtain ⟨b1, b2, b3, b4⟩ := sumK_bd s k
    by_cases hk : k < s.size
    · have e0 := gB_eq s k hk
      have l0 := gB_lt s k
      have hn : sumK s (k + 1) = (((sumK s k).1 + gB s k) % 255, ((sumK s k).2 + ((sumK s k).1 + gB s k) % 255) % 255) := rfl
      rw [e0] at l0 hn
      have HN := Lib.hid hn
      have L0 : ((s[k]'hk).toNat : Int) < 256 := by omega
      have L1 : (0 : Int) ≤ ((s[k]'hk).toNat : Int) := by omega
      clear hn e0 l0
      go_wp2
      go_round
      case rel => exact ⟨k + 1, by rw [HN.out], by rw [HN.out], by go_num, by omega⟩
      case measure => simp [intOf]; omega
    · obtain rfl : k = s.size := by omega
      go_wp2
      go_ret2
      exact ⟨rfl, rfl⟩
theorem rOf_any (s : ByteArray) (w : World) (hs : s.size ≤ 100000) : Calls Try.prog 15 #[.string s] w fun e w' => e = .returned (.tuple #[.int .i64 (sumK s s.size).1, .int .i64 (sumK s s.size).2]) ∧ w = w' := by
  rw [← refK_end s s.size]
  go_enter Try.func15, Try.ntmps15
  go_wp2
  go_loop [4, 5, 6] (fun a b i => ∃ k : Nat, a = .int .i64 (sumK s k).1 ∧ b = .int .i64 (refK s s.size k) ∧ i = .int .i64 k ∧ k ≤ s.size) (fun _ _ i => s.size - (intOf i).toNat)
  case atStart => exact ⟨0, rfl, rfl, rfl, by omega⟩
  case round =>
    obtain ⟨k, rfl, rfl, rfl, h1⟩ := hrel
    obtain ⟨b1, b2, b3, b4⟩ := sumK_bd s k
    obtain ⟨c1, c2⟩ := refK_bd s s.size k
    by_cases hk : k < s.size
    · have e0 := gB_eq s k hk
      have l0 := gB_lt s k
      have hn : (sumK s (k + 1)).1 = ((sumK s k).1 + gB s k) % 255 := rfl
      have hr : refK s s.size (k + 1) = (refK s s.size k + ((s.size : Int) - k) % 255 * gB s k) % 255 := rfl
      rw [e0] at l0 hn hr
      have L0 : ((s[k]'hk).toNat : Int) < 256 := by omega
      have L1 : (0 : Int) ≤ ((s[k]'hk).toNat : Int) := by omega
      have M1 : 0 ≤ ((s.size : Int) - k) % 255 * ((s[k]'hk).toNat : Int) := Int.mul_nonneg (by omega) (by omega)
      have M2 : ((s.size : Int) - k) % 255 * ((s[k]'hk).toNat : Int) ≤ 254 * 255 := Int.mul_le_mul (by omega) (by omega) (by omega) (by omega)
      have HN := Lib.hid hn
      have HR := Lib.hid hr
      clear hn hr e0 l0
      go_wp2
      go_round
      case rel => exact ⟨k + 1, by rw [HN.out], by rw [HR.out], by go_num, by omega⟩
      case measure => simp [intOf]; omega
    · obtain rfl : k = s.size := by omega
      go_wp2
      go_ret2
      exact ⟨rfl, rfl⟩
theorem bytes2 (a b : Int) (w : World) : ∀ dst, Try.prog.underlying dst = some .string → (convert 35 dst (.slice (some ⟨w.heap.size, 0, none⟩) 2 2)).run Try.prog (w.alloc (.cells #[.int .u8 a, .int .u8 b] 5)) = .ok (.string (strOfNums [a, b])) (w.alloc (.cells #[.int .u8 a, .int .u8 b] 5)) := by
  refine run_convert_bytes_arg _ 35 5 (by kernel_rfl) (by kernel_rfl) w.heap.size 0 2 2 [a, b] rfl ?_
  intro i hi
  have h : i = 0 ∨ i = 1 := by omega
  rcases h with rfl | rfl <;> go_simp
/-- What Strip answers. -/
def okS (s : ByteArray) : Bool := decide (2 ≤ s.size ∧ s.extract (s.size - 2) s.size = endS (s.extract 0 (s.size - 2)))
def stripV (s : ByteArray) : Value := if okS s = true then .tuple #[.string (s.extract 0 (s.size - 2)), .bool true] else .tuple #[.string { data := #[] }, .bool false]
theorem bne_str (x y : ByteArray) (b : Bool) (h : (x.toList == y.toList) = b) : (x.toList != y.toList) = !b := by unfold bne; rw [h]
end Go.Proofs.Yteobgkfcmgcbeaa
