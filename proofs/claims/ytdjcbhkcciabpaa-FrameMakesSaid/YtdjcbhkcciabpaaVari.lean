/-
  The contracts of package vari: Put, PutSigned. Conditions: the number is an int64's.
-/
import Derived.Test.YtdjcbhkcciabpaaBase
import Derived.Test.YtdjcbhkcciabpaaVariMath
import Derived.Test.YtdjcbhkcciabpaaBlk
import Derived.Test.YtdjcbhkcciabpaaRet
import Derived.IntWalk
namespace Go.Proofs.Ytdjcbhkcciabpaa
open Go.ChangeShapes Go.WideShapes Go.ChangeAt Go.RowKit
set_option linter.unusedVariables false
set_option linter.unusedSimpArgs false
/-- The front of a row of bytes of a block, as numbers. -/
def HeadIs (cs : Array Value) (l : List Int) : Prop := l.length ≤ cs.size ∧ ∀ j, j < l.length → cs[j]? = some (.int .u8 (l.getD j 0))
theorem HeadIs.next {cs : Array Value} {l : List Int} (h : HeadIs cs l) (x : Int) (hx : l.length < cs.size) : HeadIs (cs.setIfInBounds l.length (.int .u8 x)) (l ++ [x]) := by
  obtain ⟨h1, h2⟩ := h
  refine ⟨by rw [Array.size_setIfInBounds, List.length_append, List.length_singleton]; omega, fun j hj => ?_⟩
  rw [List.length_append, List.length_singleton] at hj
  rw [Array.getElem?_setIfInBounds]
  by_cases hjl : l.length = j
  · subst hjl
    rw [if_pos rfl, if_pos (by omega)]
    simp
  · rw [if_neg hjl, h2 j (by omega)]
    simp [List.getD, List.getElem?_append_left (show j < l.length by omega)]
theorem slice5 (g : Nat) (z : Int) (f : Nat) (hz : z.toNat = f) (h0 : 0 ≤ z) (h1 : f ≤ 5) (W : World) :
    (Instr.sliceAt 46 (.pointer (some ⟨g, 0, none⟩)) none (some (.int .i64 z)) none).run Try.prog W = .ok (.slice (some ⟨g, 0, none⟩) f 5) W := by
  have hu : Try.prog.underlying 46 = some (.array (Try.prog.arrayLen 46) (Try.prog.elem 46)) := by kernel_rfl
  have hl : Try.prog.arrayLen 46 = 5 := by kernel_rfl
  have he : Try.prog.elem 46 = 5 := by kernel_rfl
  have hs : (sizeOf 5).run Try.prog W = .ok 1 W := by kernel_rfl
  rw [run_sliceAt_array_h W _ _ hu .i64 z h0 (by rw [hl]; omega), he, hs, hl, hz]
  simp [slicedAt, Addr.add_lit]
theorem conv_head {W : World} {g : Nat} {t : TypeId} {cs : Array Value} {l : List Int} (hw : Whole W g t cs) (ht : HeadIs cs l) (n : Nat) (hl : n = l.length) :
    ∀ dst, Try.prog.underlying dst = some .string → (convert 23 dst (.slice (some ⟨g, 0, none⟩) n 5)).run Try.prog W = .ok (.string (strOfNums l)) W :=
  run_convert_bytes_arg _ 23 5 (by kernel_rfl) (by kernel_rfl) g 0 n 5 l hl.symm (fun i hi => by rw [hw.read, Nat.zero_add]; exact ht.2 i (by omega))
/-- One byte more that others follow. -/
theorem enc_round {n m : Int} {ds : List Int} (hm : 128 ≤ m) (hd : encL n.toNat = ds ++ encL m.toNat) : encL n.toNat = (ds ++ [128 + m % 128]) ++ encL (m.tdiv 128).toNat ∧ 0 ≤ m % 128 ∧ m % 128 < 128 ∧ 1 ≤ m.tdiv 128 ∧ m.tdiv 128 < m := by
  have e1 : (m.tdiv 128).natAbs = m.natAbs / 128 := Int.natAbs_tdiv m 128
  have p1 : 0 ≤ m.tdiv 128 := Int.tdiv_nonneg (by omega) (by omega)
  refine ⟨?_, by omega, by omega, by omega, by omega⟩
  rw [hd, encL_ge (n := m.toNat) (by omega), List.append_assoc, List.singleton_append]
  congr 2
  · omega
  · congr 1; omega
theorem Put_any (n : Int) (h1 : -9223372036854775808 ≤ n) (h2 : n ≤ 9223372036854775807) (w : World) : Calls Try.prog 14 #[.int .i64 n] w fun e w' => e = .returned (.string (bytesS n)) ∧ Below w.heap.size w w' := by
  by_cases hlo : n < 0
  · have E := Lib.hid (show bytesS n = strOfNums [] by unfold bytesS; rw [bytesL_out (.inl hlo)])
    go_enter Try.func14, Try.ntmps14
    go_wp2
    go_ret
    exact ⟨by rw [E.out]; rfl, Below.refl _ _⟩
  · by_cases hhi : 2147483647 < n
    · have E := Lib.hid (show bytesS n = strOfNums [] by unfold bytesS; rw [bytesL_out (.inr hhi)])
      go_enter Try.func14, Try.ntmps14
      go_wp2
      go_ret
      exact ⟨by rw [E.out]; rfl, Below.refl _ _⟩
    · have E := Lib.hid (show bytesS n = strOfNums (encL n.toNat) by unfold bytesS; rw [bytesL_in (by omega) (by omega)])
      have H5 := Lib.hid (encL_len5 n.toNat (by omega))
      go_enter Try.func14, Try.ntmps14
      go_wp2
      go_loopw [0, 4] (fun r i wr => ∃ (k : Nat) (m : Int) (ds : List Int) (cs : Array Value), i = .int .i64 k ∧ r = .int .i64 m ∧ 0 ≤ m ∧ m ≤ 2147483647 ∧ ds.length = k ∧ k ≤ 4 ∧ encL n.toNat = ds ++ encL m.toNat ∧ cs.size = 5 ∧ HeadIs cs ds ∧ Whole wr w.heap.size 46 cs ∧ Below w.heap.size w wr) (fun r _ _ => (intOf r).toNat)
      case atStart => exact ⟨0, n, [], _, rfl, rfl, by omega, by omega, rfl, by omega, rfl, rfl, ⟨by simp, fun j hj => by simp at hj⟩, Whole.made _ _ _, (Below.refl _ _).alloc (Nat.le_refl _) _⟩
      case round =>
        obtain ⟨k, m, ds, cs, rfl, rfl, hm1, hm2, hk, hk4, hd, hc, ht, hw, hb⟩ := hrel
        subst hk
        have hcell : wr.cell? ⟨w.heap.size, ds.length, none⟩ = some (cs[ds.length]'(by omega)) := by rw [hw.read, Array.getElem?_eq_getElem]
        have hfz := hw.thawed ds.length
        have i0 : (0 : Int) ≤ (ds.length : Int) := by omega
        have HB := Lib.hid hb
        have HW := Lib.hid hw
        have HT := Lib.hid ht
        have HD := Lib.hid hd
        clear hb hw ht hd
        by_cases hm : 128 ≤ m
        · have hr := enc_round hm HD.out
          have HR := Lib.hid hr.1
          obtain ⟨_, q1, q2, q3, q4⟩ := hr
          have T1 := Lib.hid (HT.out.next (128 + m % 128) (by omega))
          have hlen : ds.length + 1 ≤ 4 := by
            have h5 := H5.out
            have h6 := encL_len_pos (m.tdiv 128).toNat
            rw [HR.out, List.length_append, List.length_append, List.length_singleton] at h5
            omega
          go_wp2
          go_roundw
          case rel => exact ⟨ds.length + 1, m.tdiv 128, ds ++ [128 + m % 128], _, by go_num, rfl, by omega, by omega, by simp, by omega, HR.out, by simp [hc], T1.out, HW.out.write _ _, HB.out.setCell (Nat.le_refl _) _⟩
          case measure => simp [intOf]; omega
        · have hm3 : encL m.toNat = [m] := by rw [encL_lt (by omega), Int.toNat_of_nonneg hm1]
          have hd := HD.out
          rw [hm3] at hd
          have HD2 := Lib.hid hd
          have hsl := slice5 w.heap.size ((ds.length : Int) + 1) (ds.length + 1) (by omega) (by omega) (by omega)
          have hcv := conv_head (HW.out.write ds.length (.int .u8 m)) (HT.out.next m (by omega)) (ds.length + 1) (by simp)
          clear hd hm3
          go_wp2
          go_ret
          exact ⟨by rw [E.out, HD2.out]; rfl, HB.out.setCell (Nat.le_refl _) _⟩
theorem signedS_out {n : Int} (h : n < -1073741824 ∨ 1073741823 < n) : signedS n = strOfNums [] := by unfold signedS; rw [signedL, if_neg (by omega)]
theorem signedS_neg {n : Int} (h0 : -1073741824 ≤ n) (h1 : n < 0) : signedS n = bytesS (-1 - 2 * n) := by
  unfold signedS signedL bytesS zig
  rw [if_pos (by omega), if_pos h1]
theorem signedS_pos {n : Int} (h0 : 0 ≤ n) (h1 : n ≤ 1073741823) : signedS n = bytesS (2 * n) := by
  unfold signedS signedL bytesS zig
  rw [if_pos (by omega), if_neg (by omega)]
end Go.Proofs.Ytdjcbhkcciabpaa
