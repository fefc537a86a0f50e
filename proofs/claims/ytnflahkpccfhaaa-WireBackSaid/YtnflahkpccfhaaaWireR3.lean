/-
  The contracts of package wire's reader: Bool and Text. Conditions: the bytes fit in memory.
-/
import Derived.Test.YtnflahkpccfhaaaWireR2
namespace Go.Proofs.Ytnflahkpccfhaaa
open Go.ChangeShapes Go.WideShapes Go.ChangeAt Go.RowKit
set_option linter.unusedVariables false
set_option linter.unusedSimpArgs false
theorem rBool_nil (w : World) : Calls Try.prog 24 #[.pointer none] w fun e w' => e = .returned (.bool false) ∧ w = w' := by
  go_enter Try.func24, Try.ntmps24
  go_wp2
  go_ret
  exact ⟨rfl, rfl⟩
theorem rText_nil (most : Int) (w : World) : Calls Try.prog 26 #[.pointer none, .int .i64 most] w fun e w' => e = .returned (.string ByteArray.empty) ∧ w = w' := by
  go_enter Try.func26, Try.ntmps26
  go_wp2
  go_ret
  exact ⟨rfl, rfl⟩
theorem rBool_any (w : World) (g : Nat) (S : ByteArray) (a E : Int) (h : RAt w g S a E) (hS : S.size ≤ 140737488355328) :
    Calls Try.prog 24 #[.pointer (some ⟨g, 0, none⟩)] w (RPost w g S (rbool S a E).1 (.bool (rbool S a E).2)) := by
  have c0 : w.cell? ⟨g, 0, none⟩ = some (.bool true) := by rw [h.whole.read]; rfl
  have c1 : w.cell? ⟨g, 1, none⟩ = some (.int .i64 E) := by rw [h.whole.read]; rfl
  have c2 : w.cell? ⟨g, 2, none⟩ = some (.string (S.extract a.toNat S.size)) := by rw [h.whole.read]; rfl
  have z1 := h.whole.thawed 1
  have z2 := h.whole.thawed 2
  have H := Lib.hid h
  by_cases hE : E = 0
  · subst hE
    by_cases hl : a = S.size
    · have R := Lib.hid (rbool_end (S := S) hl)
      have F := Lib.hid (h.failed 2)
      have he : S.extract a.toNat S.size = ByteArray.empty := by
        rw [hl]; simp
      rw [he] at c2
      clear h hl he
      go_enter Try.func24, Try.ntmps24
      go_wp2_with (first
        | (go_at_call 44; refine (goesOn_any _ _ _ c0 c1).mono ?_; rintro e w1 ⟨rfl, rfl⟩)
        | (go_at_call 45; refine (fail_do _ _ _ c0 c1 z1).mono ?_; rintro e w1 ⟨rfl, rfl⟩))
      go_ret
      refine ⟨?_, ?_⟩
      · rw [R.out]; rfl
      · rw [R.out]; exact F.out
    · have hz := tail_size S a h.lo h.hi
      have hg := gB_tail S a h.lo (by have := h.hi; omega)
      have hp : 0 < (S.extract a.toNat S.size).size := by have := h.hi; omega
      have hs : (S.extract a.toNat S.size).size ≤ 140737488355328 := by have := h.lo; omega
      have hne : ((S.extract a.toNat S.size).toList == []) = false := by
        have e1 := str_eq_iff (bL (S.extract a.toNat S.size)) [] (bL_bd _) (by simp)
        rw [decide_eq_false (fun c => by have := bL_length (S.extract a.toNat S.size); rw [c] at this; simp only [List.length_nil] at this; omega), str_bL, show (strOfNums []).toList = [] by decide +kernel] at e1
        exact e1
      have M := Lib.hid (h.moved (a + 1) _ (extract_from S a 1 h.lo h.hi (by omega) (by have := h.hi; omega)) (by have := h.lo; omega) (by have := h.hi; omega))
      have F := Lib.hid (h.failed 4)
      have b0 : gB (S.extract a.toNat S.size) 0 = ((S.extract a.toNat S.size)[0]'hp).toNat := gB_eq _ 0 hp
      rw [hg] at b0
      have hlt := gB_lt S a.toNat
      by_cases hc : 1 < gB S a.toNat
      · have R := Lib.hid (rbool_far hl hc)
        clear h hl hz hg
        generalize S.extract a.toNat S.size = r at *
        generalize gB S a.toNat = b at *
        go_enter Try.func24, Try.ntmps24
        go_wp2_with (first
          | (go_at_call 44; refine (goesOn_any _ _ _ c0 c1).mono ?_; rintro e w1 ⟨rfl, rfl⟩)
          | (go_at_call 45; refine (fail_do _ _ _ c0 c1 z1).mono ?_; rintro e w1 ⟨rfl, rfl⟩))
        go_ret
        refine ⟨?_, ?_⟩
        · rw [R.out]; rfl
        · rw [R.out]; exact F.out
      · have R := Lib.hid (rbool_ok hl (Nat.le_of_not_lt hc))
        have hq : ¬ (1 : Int) < ((S.extract a.toNat S.size)[0]'hp).toNat := by rw [← b0]; omega
        have B0 := Lib.hid b0
        clear h hl hz hg b0
        generalize S.extract a.toNat S.size = r at *
        generalize gB S a.toNat = b at *
        go_enter Try.func24, Try.ntmps24
        go_wp2_with (first
          | (go_at_call 44; refine (goesOn_any _ _ _ c0 c1).mono ?_; rintro e w1 ⟨rfl, rfl⟩))
        go_ret
        refine ⟨?_, ?_⟩
        · rw [R.out, B0.out]; exact rB (by rw [Bool.eq_iff_iff]; simp; omega)
        · rw [R.out]; exact M.out
  · have hE2 : (E == 0) = false := by rw [beq_eq_false_iff_ne]; exact hE
    have R := Lib.hid (rbool_bad (S := S) (a := a) hE)
    clear h
    go_enter Try.func24, Try.ntmps24
    go_wp2_with (go_at_call 44; refine (goesOn_any _ _ _ c0 c1).mono ?_; rintro e w1 ⟨rfl, rfl⟩)
    go_ret
    refine ⟨?_, ?_⟩
    · rw [R.out]; rfl
    · rw [R.out]; exact ⟨H.out, Keeps.refl _ _⟩
theorem rText_any (w : World) (g : Nat) (S : ByteArray) (a E : Int) (h : RAt w g S a E) (hS : S.size ≤ 140737488355328) (most : Int) :
    Calls Try.prog 26 #[.pointer (some ⟨g, 0, none⟩), .int .i64 most] w (RPost w g S (rtext S a E most).1 (.string (rtext S a E most).2)) := by
  have c0 : w.cell? ⟨g, 0, none⟩ = some (.bool true) := by rw [h.whole.read]; rfl
  have c1 : w.cell? ⟨g, 1, none⟩ = some (.int .i64 E) := by rw [h.whole.read]; rfl
  have c2 : w.cell? ⟨g, 2, none⟩ = some (.string (S.extract a.toNat S.size)) := by rw [h.whole.read]; rfl
  have H := Lib.hid h
  by_cases hE : E = 0
  · subst hE
    have hn := rNum_any w g S a 0 h hS most
    have hcs := rnum_cases S a most h.lo h.hi
    obtain ⟨x, hx⟩ : ∃ x, rnum S a 0 most = x := ⟨_, rfl⟩
    have hT1 := rtext_err hx
    have hT2 := rtext_far hx
    have hT3 := rtext_ok hx
    rw [hx] at hn hcs
    obtain ⟨⟨a', E'⟩, n⟩ := x
    simp only at hn hcs hT1 hT2 hT3
    have l0 := h.lo
    have l1 := h.hi
    have hz := tail_size S a l0 l1
    have hs : (S.extract a.toNat S.size).size ≤ 140737488355328 := by omega
    rcases hcs with ⟨hE', rfl, rfl⟩ | ⟨rfl, p1, p2, p3, p4⟩
    · have R := Lib.hid (hT1 hE')
      have X1 := Lib.hid (extract_to S a' 0 l0 l1 (by omega) (by omega))
      have X2 := Lib.hid (extract_from S a' 0 l0 l1 (by omega) (by omega))
      clear hT1 hT2 hT3 hx h hz
      obtain ⟨r, hr⟩ : ∃ r, S.extract a'.toNat S.size = r := ⟨_, rfl⟩
      have HR := Lib.hid hr
      rw [hr] at c2 hs
      go_enter Try.func26, Try.ntmps26
      go_wp2_with (first
        | (go_at_call 44; refine (goesOn_any _ _ _ c0 c1).mono ?_; rintro e w1 ⟨rfl, rfl⟩)
        | (go_at_call 20; refine hn.mono ?_; rintro e w1 ⟨rfl, h1, k1⟩
           have d2 : w1.cell? ⟨g, 2, none⟩ = some (.string r) := by rw [h1.whole.read, ← HR.out]; rfl
           have y2 := h1.whole.thawed 2
           have H1 := Lib.hid h1
           have K1 := Lib.hid k1
           clear h1 k1))
      have M := Lib.hid (H1.out.moved a' r HR.out.symm l0 l1)
      go_ret
      refine ⟨?_, ?_⟩
      · rw [R.out]; rfl
      · rw [R.out]; exact ⟨M.out.1, K1.out.trans M.out.2⟩
    · have hs2 : (S.extract a'.toNat S.size).size ≤ 140737488355328 := by have := tail_size S a' (by omega) p2; omega
      have hz2 := tail_size S a' (by omega) p2
      by_cases hfar : n > S.size - a'
      · have R := Lib.hid (hT2 rfl hfar)
        rw [← hz2] at hfar
        clear hT1 hT2 hT3 hx h hz hz2
        obtain ⟨r, hr⟩ : ∃ r, S.extract a.toNat S.size = r := ⟨_, rfl⟩
        obtain ⟨r2, hr2⟩ : ∃ r2, S.extract a'.toNat S.size = r2 := ⟨_, rfl⟩
        rw [hr] at c2 hs
        rw [hr2] at hs2 hfar
        have HR := Lib.hid hr
        have HR2 := Lib.hid hr2
        clear hr hr2
        go_enter Try.func26, Try.ntmps26
        go_wp2_with (first
          | (go_at_call 44; refine (goesOn_any _ _ _ c0 c1).mono ?_; rintro e w1 ⟨rfl, rfl⟩)
          | (go_at_call 20; refine hn.mono ?_; rintro e w1 ⟨rfl, h1, k1⟩
             have d2 : w1.cell? ⟨g, 2, none⟩ = some (.string r2) := by rw [h1.whole.read, ← HR2.out]; rfl
             have y2 := h1.whole.thawed 2
             have m1 := h1.moved a r HR.out.symm l0 l1
             have M1 := Lib.hid m1
             have f0 : (w1.setCell ⟨g, 2, none⟩ (.string r)).cell? ⟨g, 0, none⟩ = some (.bool true) := by rw [m1.1.whole.read]; rfl
             have f1 : (w1.setCell ⟨g, 2, none⟩ (.string r)).cell? ⟨g, 1, none⟩ = some (.int .i64 0) := by rw [m1.1.whole.read]; rfl
             have x1 := m1.1.whole.thawed 1
             have K1 := Lib.hid k1
             clear h1 k1 m1)
          | (go_at_call 45; refine (fail_do _ _ _ f0 f1 x1).mono ?_; rintro e w2 ⟨rfl, rfl⟩))
        have M2 := Lib.hid (M1.out.1.failed 2)
        go_ret
        refine ⟨?_, ?_⟩
        · rw [R.out]; rfl
        · rw [R.out]; exact ⟨M2.out.1, (K1.out.trans M1.out.2).trans M2.out.2⟩
      · have R := Lib.hid (hT3 rfl hfar)
        have X1 := Lib.hid (extract_to S a' n (by omega) p2 p3 (by omega))
        have X2 := Lib.hid (extract_from S a' n (by omega) p2 p3 (by omega))
        have t0 : 0 ≤ a' + n := by omega
        have t1 : a' + n ≤ S.size := by omega
        rw [← hz2] at hfar
        clear hT1 hT2 hT3 hx h hz hz2
        obtain ⟨r2, hr2⟩ : ∃ r2, S.extract a'.toNat S.size = r2 := ⟨_, rfl⟩
        rw [hr2] at hs2 hfar X1 X2
        have hn2 : n ≤ (r2.size : Int) := by omega
        have HR2 := Lib.hid hr2
        clear hr2 hfar
        go_enter Try.func26, Try.ntmps26
        go_wp2_with (first
          | (go_at_call 44; refine (goesOn_any _ _ _ c0 c1).mono ?_; rintro e w1 ⟨rfl, rfl⟩)
          | (go_at_call 20; refine hn.mono ?_; rintro e w1 ⟨rfl, h1, k1⟩
             have d2 : w1.cell? ⟨g, 2, none⟩ = some (.string r2) := by rw [h1.whole.read, ← HR2.out]; rfl
             have y2 := h1.whole.thawed 2
             have H1 := Lib.hid h1
             have K1 := Lib.hid k1
             clear h1 k1))
        have M := Lib.hid (H1.out.moved (a' + n) _ X2.out t0 t1)
        go_ret
        refine ⟨?_, ?_⟩
        · rw [R.out]; exact rS X1.out
        · rw [R.out]; exact ⟨M.out.1, K1.out.trans M.out.2⟩
  · have hE2 : (E == 0) = false := by rw [beq_eq_false_iff_ne]; exact hE
    have R := Lib.hid (rtext_err (rnum_bad (S := S) (a := a) (most := most) hE) hE)
    clear h
    go_enter Try.func26, Try.ntmps26
    go_wp2_with (go_at_call 44; refine (goesOn_any _ _ _ c0 c1).mono ?_; rintro e w1 ⟨rfl, rfl⟩)
    go_ret
    refine ⟨?_, ?_⟩
    · rw [R.out]; rfl
    · rw [R.out]; exact ⟨H.out, Keeps.refl _ _⟩
end Go.Proofs.Ytnflahkpccfhaaa
