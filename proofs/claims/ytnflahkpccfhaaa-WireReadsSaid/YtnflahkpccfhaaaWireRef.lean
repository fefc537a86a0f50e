/-
  The contracts of the document's answer for layer 5: what is written. Conditions: it stays below 2^40 bytes.
-/
import Derived.Test.YtnflahkpccfhaaaWire
import Derived.Deep.RegionHeld3
import Derived.Deep.RegionWith
namespace Go.Proofs.Ytnflahkpccfhaaa
open Go.ChangeShapes Go.WideShapes Go.ChangeAt Go.RowKit
set_option linter.unusedVariables false
set_option linter.unusedSimpArgs false
def wV (q : Int × List Int) : Value := .agg #[.string (strOfNums q.2), .int .i64 q.1]
theorem str_nil_test {m : List Int} (hm : ∀ x ∈ m, 0 ≤ x ∧ x < 256) (h : m ≠ []) : ((strOfNums m).toList == []) = false := by
  have e1 := str_eq_iff m [] hm (by simp)
  rw [decide_eq_false h, show (strOfNums []).toList = [] by decide +kernel] at e1
  exact e1
theorem below_two (w : World) (o p : Obj) : Below w.heap.size w ((w.alloc o).alloc p) := below_more (below_more (Below.refl _ _) _) _
theorem rPut_any (q : Int × List Int) (m : List Int) (hm : ∀ x ∈ m, 0 ≤ x ∧ x < 256) (hl : q.2.length ≤ 1000000) (hl2 : m.length ≤ 1000000) (w : World) :
    Calls Try.prog 10 #[wV q, .string (strOfNums m)] w fun e w' => e = .returned (wV (wput q m)) ∧ Below w.heap.size w w' := by
  obtain ⟨E, l⟩ := q
  simp only at hl
  by_cases hE : E = 0
  · subst hE
    by_cases hz : m = []
    · subst hz
      have e0 : ((strOfNums []).toList == []) = true := by decide +kernel
      have R := Lib.hid (show wput ((0 : Int), l) [] = (12, l) from wput_no rfl)
      unfold wV
      go_enter Try.func10, Try.ntmps10
      go_wp2
      refine bodyPost_ret (v := .agg #[.string (strOfNums l), .int .i64 12]) (by simp [results, Try.results10, go_sem]) rfl ⟨?_, below_two _ _ _⟩
      rw [R.out]
    · have e0 := str_nil_test hm hz
      have R := Lib.hid (show wput ((0 : Int), l) m = (0, l ++ m) from wput_ok rfl hz)
      have z1 : (strOfNums l).size ≤ 1000000 := by rw [strOfNums_size]; exact hl
      have z2 : (strOfNums m).size ≤ 1000000 := by rw [strOfNums_size]; exact hl2
      have A := Lib.hid (str_append l m)
      unfold wV
      go_enter Try.func10, Try.ntmps10
      go_wp2
      refine bodyPost_ret (v := .agg #[.string (strOfNums l ++ strOfNums m), .int .i64 0]) (by simp [results, Try.results10, go_sem]) rfl ⟨?_, below_two _ _ _⟩
      rw [R.out, A.out]
  · have hE2 : (E != 0) = true := by rw [bne_iff_ne]; exact hE
    have R := Lib.hid (show wput (E, l) m = (E, l) from wput_bad m hE)
    unfold wV
    go_enter Try.func10, Try.ntmps10
    go_wp2
    refine bodyPost_ret (v := .agg #[.string (strOfNums l), .int .i64 E]) (by simp [results, Try.results10, go_sem]) rfl ⟨?_, below_two _ _ _⟩
    rw [R.out]
theorem rText5_any (q : Int × List Int) (m : List Int) (hm : ∀ x ∈ m, 0 ≤ x ∧ x < 256) (hl : q.2.length ≤ 1000000) (hl2 : m.length ≤ 1000000) (w : World) :
    Calls Try.prog 16 #[wV q, .string (strOfNums m)] w fun e w' => e = .returned (wV (wtext q m)) ∧ Below w.heap.size w w' := by
  have hsz : (strOfNums m).size = m.length := strOfNums_size m
  have z2 : (strOfNums m).size ≤ 1000000 := by omega
  have hb := rBytes_any ((strOfNums m).size : Int) (by omega) (by omega)
  unfold bytesS at hb
  have hp := rPut_any q (bytesL ((strOfNums m).size : Int)) (bytesL_by _) hl (by have := bytesL_len ((strOfNums m).size : Int); omega)
  have hk := wput_len q (bytesL ((strOfNums m).size : Int))
  have hk5 := bytesL_len ((strOfNums m).size : Int)
  have R0 := Lib.hid (show wadd (wput q (bytesL ((strOfNums m).size : Int))) m = wtext q m by rw [hsz]; rfl)
  obtain ⟨x, hx⟩ : ∃ x, wput q (bytesL ((strOfNums m).size : Int)) = x := ⟨_, rfl⟩
  rw [hx] at hp hk R0
  obtain ⟨E, l⟩ := x
  simp only at hk
  have z1 : (strOfNums l).size ≤ 1000005 := by rw [strOfNums_size]; omega
  have A := Lib.hid (str_append l m)
  obtain ⟨b, hbb⟩ : ∃ b, bytesL ((strOfNums m).size : Int) = b := ⟨_, rfl⟩
  rw [hbb] at hb hp
  have c0 := below_two w (.cells #[.string (strOfNums q.2), .int .i64 q.1] 26) (.cells #[.string ByteArray.empty, .int .i64 0] 26)
  clear hsz hk hk5 hx hbb c0
  unfold wV at hp
  unfold wV
  go_enter Try.func16, Try.ntmps16
  go_wp2
  obtain ⟨wr, hwr⟩ : ∃ x, x = (w.alloc (.cells #[.string (strOfNums q.2), .int .i64 q.1] 26)).alloc (.cells #[.string { data := #[] }, .int .i64 0] 26) := ⟨_, rfl⟩
  rw [← hwr]
  have k0 : Whole wr w.heap.size 26 #[.string (strOfNums q.2), .int .i64 q.1] := hwr ▸ (Whole.made _ _ _).alloc _
  have k1 : Whole wr (w.heap.size + 1) 26 #[.string { data := #[] }, .int .i64 0] := by
    have := Whole.made (w.alloc (.cells #[.string (strOfNums q.2), .int .i64 q.1] 26)) 26 #[.string { data := #[] }, .int .i64 0]
    rw [hwr]; simpa using this
  have b0 : Below w.heap.size w wr := hwr ▸ below_two _ _ _
  have c0 : wr.cell? ⟨w.heap.size, 0, none⟩ = some (.string (strOfNums q.2)) := by rw [k0.read]; rfl
  have c1 : wr.cell? ⟨w.heap.size, 1, none⟩ = some (.int .i64 q.1) := by rw [k0.read]; rfl
  have K0 := Lib.hid k0
  have K1 := Lib.hid k1
  have B0 := Lib.hid b0
  clear k0 k1 b0 hwr
  go_region_with (first
    | (go_at_call 11; (with_reducible refine (hb _).mono ?_); rintro e w1 ⟨rfl, b1⟩
       have k2 := Whole.below (w := wr.drew) K0.out b1 K0.out.inside
       have K2 := Lib.hid k2
       have K3 := Lib.hid (Whole.below (w := wr.drew) K1.out b1 K1.out.inside)
       have B1 := Lib.hid ((below_drew1 B0.out).trans (Below.mono (w := wr.drew) b1 B0.out.size))
       have e0 : w1.cell? ⟨w.heap.size, 0, none⟩ = some (.string (strOfNums q.2)) := by rw [k2.read]; rfl
       have e1 : w1.cell? ⟨w.heap.size, 1, none⟩ = some (.int .i64 q.1) := by rw [k2.read]; rfl
       clear k2 b1)
    | (go_at_call 10; (with_reducible refine (hp _).mono ?_); rintro e w2 ⟨rfl, b2⟩
       have k2 := Whole.below (w := w1) K2.out b2 K2.out.inside
       have K4 := Lib.hid k2
       have K5 := Lib.hid (Whole.below (w := w1) K3.out b2 K3.out.inside)
       have B2 := Lib.hid (B1.out.trans (Below.mono (w := w1) b2 B1.out.size))
       have g0 : w2.cell? ⟨w.heap.size, 0, none⟩ = some (.string (strOfNums q.2)) := by rw [k2.read]; rfl
       have g1 : w2.cell? ⟨w.heap.size, 1, none⟩ = some (.int .i64 q.1) := by rw [k2.read]; rfl
       have y0 := k2.thawed 0
       have y1 := k2.thawed 1
       clear k2 b2))
  all_goals
    obtain ⟨wx, hwx⟩ : ∃ x, x = (w2.setCell ⟨w.heap.size, 0, none⟩ (.string (strOfNums l))).setCell ⟨w.heap.size, 1, none⟩ (.int .i64 E) := ⟨_, rfl⟩
    rw [← hwx]
    have k4 : Whole wx w.heap.size 26 #[.string (strOfNums l), .int .i64 E] := hwx ▸ (K4.out.write 0 _).write 1 _
    have k5 : Whole wx (w.heap.size + 1) 26 #[.string { data := #[] }, .int .i64 0] := hwx ▸ (K5.out.aside (Nat.succ_ne_self _) _).aside (Nat.succ_ne_self _) _
    have B3 := Lib.hid (show Below w.heap.size w wx from hwx ▸ (B2.out.setCell (Nat.le_refl _) _).setCell (Nat.le_refl _) _)
    clear hwx g0 g1 y0 y1 e0 e1
    have x0 : wx.cell? ⟨w.heap.size, 0, none⟩ = some (.string (strOfNums l)) := by rw [k4.read]; rfl
    have x1 : wx.cell? ⟨w.heap.size, 1, none⟩ = some (.int .i64 E) := by rw [k4.read]; rfl
    have x2 : wx.cell? ⟨w.heap.size + 1, 0, none⟩ = some (.string { data := #[] }) := by rw [k5.read]; rfl
    have x3 : wx.cell? ⟨w.heap.size + 1, 1, none⟩ = some (.int .i64 0) := by rw [k5.read]; rfl
    have v0 := k4.thawed 0
    have v2 := k5.thawed 0
    have v3 := k5.thawed 1
    clear k4 k5
    by_cases hE : E = 0
    · subst hE
      have R := Lib.hid (show wadd ((0 : Int), l) m = (0, l ++ m) from wadd_ok m rfl)
      go_wp2
      refine bodyPost_ret (v := .agg #[.string (strOfNums l ++ strOfNums m), .int .i64 0]) (by simp [results, Try.results16, go_sem, x0, x1, x2, x3]) rfl ⟨?_, ((B3.out.setCell (Nat.le_refl _) _).setCell (Nat.le_succ _) _).setCell (Nat.le_succ _) _⟩
      rw [← R0.out, R.out, A.out]
    · have hE2 : (E == 0) = false := by rw [beq_eq_false_iff_ne]; exact hE
      have R := Lib.hid (show wadd (E, l) m = (E, l) from wadd_bad m hE)
      go_wp2
      refine bodyPost_ret (v := .agg #[.string (strOfNums l), .int .i64 E]) (by simp [results, Try.results16, go_sem, x0, x1, x2, x3]) rfl ⟨?_, (B3.out.setCell (Nat.le_succ _) _).setCell (Nat.le_succ _) _⟩
      rw [← R0.out, R.out]
end Go.Proofs.Ytnflahkpccfhaaa
