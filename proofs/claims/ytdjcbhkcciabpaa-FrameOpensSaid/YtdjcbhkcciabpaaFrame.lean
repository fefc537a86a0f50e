/-
  The contracts of package frame and of the document's answer for layer 7. Conditions: payloads of at most 9000 bytes.
-/
import Derived.Test.YtdjcbhkcciabpaaBase
import Derived.Test.YtdjcbhkcciabpaaFrameMath
import Derived.Test.YtdjcbhkcciabpaaRet
import Derived.Test.YtdjcbhkcciabpaaOwn
import Derived.Test.YtdjcbhkcciabpaaVariSize
import Derived.Test.YtdjcbhkcciabpaaVariRef2
import Derived.Test.YtdjcbhkcciabpaaSum
namespace Go.Proofs.Ytdjcbhkcciabpaa
open Go.ChangeShapes Go.WideShapes Go.ChangeAt Go.RowKit
set_option linter.unusedVariables false
set_option linter.unusedSimpArgs false
def noS : ByteArray := { data := #[] }
def tS2 (s : ByteArray) (e : Int) : Value := .tuple #[.string s, .int .i64 e]
def kindB (k : Int) : Bool := decide (1 ≤ k ∧ k ≤ 9)
theorem isKind_yes (k : Int) (h1 : 1 ≤ k) (h9 : k ≤ 9) (w : World) : Calls Try.prog 12 #[.int .i64 k] w fun e w' => e = .returned (.bool true) ∧ w = w' := by
  go_enter Try.func12, Try.ntmps12
  go_wp2
  go_ret
  exact ⟨rfl, rfl⟩
theorem isKind_no (k : Int) (h : k < 1 ∨ 9 < k) (w : World) : Calls Try.prog 12 #[.int .i64 k] w fun e w' => e = .returned (.bool false) ∧ w = w' := by
  rcases h with h | h
  · go_enter Try.func12, Try.ntmps12
    go_wp2
    go_ret
    exact ⟨rfl, rfl⟩
  · have h1 : 1 ≤ k := by omega
    have h2 : decide (k ≤ 9) = false := by simp; omega
    go_enter Try.func12, Try.ntmps12
    go_wp2
    go_ret
    exact ⟨rfl, rfl⟩
theorem Room_no (k : Int) (h : k < 1 ∨ 9 < k) (w : World) : Calls Try.prog 8 #[.int .i64 k] w fun e w' => e = .returned (.int .i64 0) ∧ Below w.heap.size w w' := by
  have p1 := isKind_no k h
  go_enter Try.func8, Try.ntmps8
  go_wp2_with (go_at_call 12; refine (p1 _).mono ?_; rintro e w1 ⟨rfl, rfl⟩)
  go_ret
  exact ⟨rfl, Below.refl _ _⟩
theorem size2048 : ((bytesL 2048).length : Int) = 2 := by
  rw [bytesL_in (by omega) (by omega), show (2048 : Int).toNat = 2048 from rfl, encL_ge (by omega), encL_lt (by omega)]; rfl
theorem Room_yes (k : Int) (h1 : 1 ≤ k) (h9 : k ≤ 9) (w : World) : Calls Try.prog 8 #[.int .i64 k] w fun e w' => e = .returned (.int .i64 2042) ∧ Below w.heap.size w w' := by
  have p1 := isKind_yes k h1 h9
  have p2 := Size_any 2048 (by omega) (by omega)
  rw [size2048] at p2
  go_enter Try.func8, Try.ntmps8
  go_wp2_with (first
    | (go_at_call 12; refine (p1 _).mono ?_; rintro e w1 ⟨rfl, rfl⟩)
    | (go_at_call 15; refine (p2 _).mono ?_; rintro e w1 ⟨rfl, b1⟩))
  go_ret
  exact ⟨rfl, b1⟩
theorem fbytes2 (a b : Int) (w : World) : ∀ dst, Try.prog.underlying dst = some .string → (convert 23 dst (.slice (some ⟨w.heap.size, 0, none⟩) 2 2)).run Try.prog (w.alloc (.cells #[.int .u8 a, .int .u8 b] 5)) = .ok (.string (strOfNums [a, b])) (w.alloc (.cells #[.int .u8 a, .int .u8 b] 5)) := bytes2 a b w
theorem fconv2 (a b : Int) : ∀ (W : World) (g : Nat), W.cell? ⟨g, 0, none⟩ = some (.int .u8 a) → W.cell? ⟨g, 1, none⟩ = some (.int .u8 b) → ∀ dst, Try.prog.underlying dst = some .string → (convert 23 dst (.slice (some ⟨g, 0, none⟩) 2 2)).run Try.prog W = .ok (.string (strOfNums [a, b])) W := by
  intro W g h0 h1
  refine run_convert_bytes_arg _ 23 5 (by kernel_rfl) (by kernel_rfl) g 0 2 2 [a, b] rfl ?_
  intro i hi
  have h : i = 0 ∨ i = 1 := by omega
  rcases h with rfl | rfl <;> assumption
def makeV (k : Int) (p : ByteArray) : Value := if k < 1 ∨ 9 < k then tS2 noS 13 else if 2042 < p.size then tS2 noS 3 else tS2 (frameS k p) 0
theorem Make_any (k : Int) (p : ByteArray) (w : World) (hp : p.size ≤ 9000) : Calls Try.prog 7 #[.int .i64 k, .string p] w fun e w' => e = .returned (makeV k p) ∧ Below w.heap.size w w' := by
  by_cases h : k < 1 ∨ 9 < k
  · have E := Lib.hid (show makeV k p = tS2 noS 13 by unfold makeV; rw [if_pos h])
    have p1 := isKind_no k h
    clear h
    go_enter Try.func7, Try.ntmps7
    go_wp2_with (go_at_call 12; refine (p1 _).mono ?_; rintro e w1 ⟨rfl, rfl⟩)
    go_ret2
    exact ⟨by rw [E.out]; rfl, Below.refl _ _⟩
  · have p1 := isKind_yes k (by omega) (by omega)
    have p2 := Room_yes k (by omega) (by omega)
    by_cases h2 : 2042 < p.size
    · have E := Lib.hid (show makeV k p = tS2 noS 3 by unfold makeV; rw [if_neg h, if_pos h2])
      have h3 : 2042 < (p.size : Int) := by omega
      clear h
      go_enter Try.func7, Try.ntmps7
      go_wp2_with (first
        | (go_at_call 12; refine (p1 _).mono ?_; rintro e w1 ⟨rfl, rfl⟩)
        | (go_at_call 8; refine (p2 _).mono ?_; rintro e w1 ⟨rfl, b1⟩))
      go_ret2
      exact ⟨by rw [E.out]; rfl, b1⟩
    · have E := Lib.hid (show makeV k p = tS2 (strOfNums [84, k] ++ bytesS p.size ++ p ++ endS (strOfNums [84, k] ++ bytesS p.size ++ p)) 0 by unfold makeV; rw [if_neg h, if_neg h2]; rfl)
      have h3 : ¬ 2042 < (p.size : Int) := by omega
      have hz := bytesS_le p.size
      have z1 : (strOfNums [84, k]).size = 2 := by rw [strOf_size]; rfl
      have k1 : 1 ≤ k := by omega
      have k2 : k ≤ 9 := by omega
      have hw := bytes2 84 k
      have p3 := Put_any p.size (by omega) (by omega)
      generalize bytesS (p.size : Int) = x at *
      have z2 : (strOfNums [84, k] ++ x ++ p).size ≤ 100000 := by rw [ByteArray.size_append, ByteArray.size_append]; omega
      have p4 := fun w => Append_any (strOfNums [84, k] ++ x ++ p) w z2
      generalize endS (strOfNums [84, k] ++ x ++ p) = y at *
      clear h h2
      go_enter Try.func7, Try.ntmps7
      go_wp2_with (first
        | (go_at_call 12; refine (p1 _).mono ?_; rintro e w1 ⟨rfl, rfl⟩)
        | (go_at_call 8; refine (p2 _).mono ?_; rintro e w1 ⟨rfl, b1⟩)
        | (go_at_call 14; refine (p3 _).mono ?_; rintro e w2 ⟨rfl, b2⟩)
        | (go_at_call 13; refine (p4 _).mono ?_; rintro e w3 ⟨rfl, b3⟩))
      go_ret2
      exact ⟨by rw [E.out]; rfl, bthen (bthen (below_more b1 _) b2) b3⟩
set_option maxHeartbeats 1600000 in
theorem rMake_any (k : Int) (p : ByteArray) (w : World) (hp : p.size ≤ 9000) (k1 : 1 ≤ k) (k2 : k ≤ 9) : Calls Try.prog 9 #[.int .i64 k, .string p] w fun e w' => e = .returned (.string (frameS k p)) ∧ Below w.heap.size w w' := by
  have E := Lib.hid (show frameS k p = strOfNums [84, k] ++ bytesS p.size ++ p ++ endS (strOfNums [84, k] ++ bytesS p.size ++ p) from rfl)
  generalize frameS k p = F at *
  have hz := bytesS_le p.size
  have z1 : (strOfNums [84, k]).size = 2 := by rw [strOf_size]; rfl
  have p3 := rBytes_any p.size (by omega) (by omega)
  generalize bytesS (p.size : Int) = x at *
  have z2 : (strOfNums [84, k] ++ x ++ p).size ≤ 100000 := by rw [ByteArray.size_append, ByteArray.size_append]; omega
  have p4 := fun w => rAppend_any (strOfNums [84, k] ++ x ++ p) w z2
  generalize endS (strOfNums [84, k] ++ x ++ p) = y at *
  have kv : IntKind.u8.wrap k = k := by rw [IntKind.wrap_u8]; omega
  rw [← kv] at p4 E z1 z2
  obtain ⟨v, hv⟩ : ∃ v, IntKind.u8.wrap k = v := ⟨_, rfl⟩
  rw [hv] at p4 E z1 z2
  have hcv := fconv2 84 v
  clear kv
  go_enter Try.func9, Try.ntmps9
  go_wp2_with fail
  go_region_with (first
    | (go_at_call 17; (with_reducible refine (p3 _).mono ?_); rintro e w1 ⟨rfl, b1⟩; have hcell := fun h => b1.cell (p := ⟨w.heap.size, 0, none⟩) h; have hcell1 := fun h => b1.cell (p := ⟨w.heap.size, 1, none⟩) h)
    | (go_at_call 16; (with_reducible refine (p4 _).mono ?_); rintro e w2 ⟨rfl, b2⟩))
  all_goals
    go_wp2
    go_ret
    refine ⟨by rw [E.out]; rfl, ?_⟩
    first
      | exact bthen (bthen (below_drew1 (below_more (Below.refl _ _) _)) b1) b2
      | exact bthen (below_more (bthen (below_drew1 (Below.refl _ _)) b1) _) b2
end Go.Proofs.Ytdjcbhkcciabpaa
