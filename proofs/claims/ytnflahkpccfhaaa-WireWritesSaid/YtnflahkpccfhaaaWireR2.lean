/-
  The contracts of package wire's reader: its methods. Conditions: the bytes fit in memory.
-/
import Derived.Test.YtnflahkpccfhaaaWireR
namespace Go.Proofs.Ytnflahkpccfhaaa
open Go.ChangeShapes Go.WideShapes Go.ChangeAt Go.RowKit
set_option linter.unusedVariables false
set_option linter.unusedSimpArgs false
theorem rNum_nil (most : Int) (w : World) : Calls Try.prog 20 #[.pointer none, .int .i64 most] w fun e w' => e = .returned (.int .i64 0) ∧ w = w' := by
  by_cases hm : 0 ≤ most
  · go_enter Try.func20, Try.ntmps20
    go_wp2_with (go_at_call 40; refine (rnumber_nil _ _ _ _).mono ?_; rintro e w1 ⟨rfl, rfl⟩)
    go_ret
    exact ⟨rfl, rfl⟩
  · go_enter Try.func20, Try.ntmps20
    go_wp2_with (go_at_call 40; refine (rnumber_nil _ _ _ _).mono ?_; rintro e w1 ⟨rfl, rfl⟩)
    go_ret
    exact ⟨rfl, rfl⟩
theorem rNum_any (w : World) (g : Nat) (S : ByteArray) (a E : Int) (h : RAt w g S a E) (hS : S.size ≤ 140737488355328) (most : Int) :
    Calls Try.prog 20 #[.pointer (some ⟨g, 0, none⟩), .int .i64 most] w (RPost w g S (rnum S a E most).1 (.int .i64 (rnum S a E most).2)) := by
  have hz := tail_size S a h.lo h.hi
  have hv := fun c => vplace S a h.lo h.hi c
  have hn := rnumberT_any w g S a E h hS (vtakeOf (S.extract a.toNat S.size) 0) (fun w => Take_any _ 0 w (by have := h.lo; omega) (by omega) (by omega))
    (fun c => by rw [vshift S a h.lo h.hi] at c ⊢; simp only at c ⊢; rw [if_pos c]; have := hv c; omega) 0 (max most 0)
  rw [rnumber_num S a E most h.lo h.hi] at hn
  clear hz hv h
  by_cases hm : 0 ≤ most
  · rw [show max most 0 = most from by omega] at hn
    go_enter Try.func20, Try.ntmps20
    go_wp2_with (go_at_call 40; refine hn.mono ?_; rintro e w1 ⟨rfl, h1, k1⟩)
    go_ret
    exact ⟨rfl, h1, k1⟩
  · rw [show max most 0 = 0 from by omega] at hn
    go_enter Try.func20, Try.ntmps20
    go_wp2_with (go_at_call 40; refine hn.mono ?_; rintro e w1 ⟨rfl, h1, k1⟩)
    go_ret
    exact ⟨rfl, h1, k1⟩
theorem rSigned_nil (least most : Int) (w : World) : Calls Try.prog 22 #[.pointer none, .int .i64 least, .int .i64 most] w fun e w' => e = .returned (.int .i64 0) ∧ w = w' := by
  go_enter Try.func22, Try.ntmps22
  go_wp2_with (go_at_call 40; refine (rnumber_nil _ _ _ _).mono ?_; rintro e w1 ⟨rfl, rfl⟩)
  go_ret
  exact ⟨rfl, rfl⟩
theorem rSig_any (w : World) (g : Nat) (S : ByteArray) (a E : Int) (h : RAt w g S a E) (hS : S.size ≤ 140737488355328) (least most : Int) :
    Calls Try.prog 22 #[.pointer (some ⟨g, 0, none⟩), .int .i64 least, .int .i64 most] w (RPost w g S (rsig S a E least most).1 (.int .i64 (rsig S a E least most).2)) := by
  have hz := tail_size S a h.lo h.hi
  have hv := fun c => splace S a h.lo h.hi c
  have hn := rnumberS_any w g S a E h hS (stakeOf (S.extract a.toNat S.size) 0) (fun w => TakeSigned_any _ 0 w (by have := h.lo; omega) (by omega) (by omega))
    (fun c => by rw [sshift S a h.lo h.hi] at c ⊢; simp only at c ⊢; rw [if_pos c]; have := hv c; omega) least most
  rw [rnumber_sig S a E least most h.lo h.hi] at hn
  clear hz hv h
  go_enter Try.func22, Try.ntmps22
  go_wp2_with (go_at_call 40; refine hn.mono ?_; rintro e w1 ⟨rfl, h1, k1⟩)
  go_ret
  exact ⟨rfl, h1, k1⟩
theorem rFail_nil (x : Int) (w : World) : Calls Try.prog 28 #[.pointer none, .int .i64 x] w fun e w' => e = .returned (.tuple #[]) ∧ w = w' := by
  go_enter Try.func28, Try.ntmps28
  go_wp2
  go_end0
  exact ⟨rfl, rfl⟩
theorem rFail_any (w : World) (g : Nat) (S : ByteArray) (a E : Int) (h : RAt w g S a E) (x : Int) :
    Calls Try.prog 28 #[.pointer (some ⟨g, 0, none⟩), .int .i64 x] w (RPost w g S (a, rfail E x) (.tuple #[])) := by
  have c0 : w.cell? ⟨g, 0, none⟩ = some (.bool true) := by rw [h.whole.read]; rfl
  have c1 : w.cell? ⟨g, 1, none⟩ = some (.int .i64 E) := by rw [h.whole.read]; rfl
  have z1 := h.whole.thawed 1
  have H := Lib.hid h
  by_cases hE : E = 0
  · subst hE
    have R := Lib.hid (show rfail 0 x = x from if_pos rfl)
    have F := Lib.hid (h.failed x)
    clear h
    go_enter Try.func28, Try.ntmps28
    go_wp2_with (go_at_call 45; refine (fail_do _ _ _ c0 c1 z1).mono ?_; rintro e w1 ⟨rfl, rfl⟩)
    go_end0
    refine ⟨rfl, ?_⟩
    rw [R.out]; exact F.out
  · have hE2 : (E == 0) = false := by rw [beq_eq_false_iff_ne]; exact hE
    have R := Lib.hid (show rfail E x = E from if_neg hE)
    clear h
    go_enter Try.func28, Try.ntmps28
    go_wp2_with (go_at_call 45; refine (fail_no _ _ _ _ hE2 c0 c1).mono ?_; rintro e w1 ⟨rfl, rfl⟩)
    go_end0
    refine ⟨rfl, ?_⟩
    rw [R.out]; exact ⟨H.out, Keeps.refl _ _⟩
theorem rLeft_nil (w : World) : Calls Try.prog 29 #[.pointer none] w fun e w' => e = .returned (.int .i64 0) ∧ w = w' := by
  go_enter Try.func29, Try.ntmps29
  go_wp2
  go_ret
  exact ⟨rfl, rfl⟩
theorem rLeft_any (w : World) (g : Nat) (S : ByteArray) (a E : Int) (h : RAt w g S a E) (hS : S.size ≤ 140737488355328) :
    Calls Try.prog 29 #[.pointer (some ⟨g, 0, none⟩)] w fun e w' => e = .returned (.int .i64 (S.size - a)) ∧ w = w' := by
  have c2 : w.cell? ⟨g, 2, none⟩ = some (.string (S.extract a.toNat S.size)) := by rw [h.whole.read]; rfl
  have hz := tail_size S a h.lo h.hi
  have hs : (S.extract a.toNat S.size).size ≤ 140737488355328 := by have := h.lo; omega
  have Z := Lib.hid hz
  clear h hz
  generalize S.extract a.toNat S.size = r at *
  go_enter Try.func29, Try.ntmps29
  go_wp2
  go_ret
  exact ⟨rI Z.out, rfl⟩
theorem rErr_nil (w : World) : Calls Try.prog 30 #[.pointer none] w fun e w' => e = .returned (.int .i64 1) ∧ w = w' := by
  go_enter Try.func30, Try.ntmps30
  go_wp2
  go_ret
  exact ⟨rfl, rfl⟩
theorem rErr_any (w : World) (g : Nat) (S : ByteArray) (a E : Int) (h : RAt w g S a E) :
    Calls Try.prog 30 #[.pointer (some ⟨g, 0, none⟩)] w fun e w' => e = .returned (.int .i64 E) ∧ w = w' := by
  have c1 : w.cell? ⟨g, 1, none⟩ = some (.int .i64 E) := by rw [h.whole.read]; rfl
  clear h
  go_enter Try.func30, Try.ntmps30
  go_wp2
  go_ret
  exact ⟨rfl, rfl⟩
theorem rEnd_nil (w : World) : Calls Try.prog 32 #[.pointer none] w fun e w' => e = .returned (.int .i64 1) ∧ w = w' := by
  go_enter Try.func32, Try.ntmps32
  go_wp2_with (first
    | (go_at_call 29; refine (rLeft_nil _).mono ?_; rintro e w1 ⟨rfl, rfl⟩)
    | (go_at_call 30; refine (rErr_nil _).mono ?_; rintro e w1 ⟨rfl, rfl⟩))
  go_ret
  exact ⟨rfl, rfl⟩
theorem rEnd_any (w : World) (g : Nat) (S : ByteArray) (a E : Int) (h : RAt w g S a E) (hS : S.size ≤ 140737488355328) :
    Calls Try.prog 32 #[.pointer (some ⟨g, 0, none⟩)] w (RPost w g S (a, rend S a E) (.int .i64 (rend S a E))) := by
  have c0 : w.cell? ⟨g, 0, none⟩ = some (.bool true) := by rw [h.whole.read]; rfl
  have c1 : w.cell? ⟨g, 1, none⟩ = some (.int .i64 E) := by rw [h.whole.read]; rfl
  have z1 := h.whole.thawed 1
  have H := Lib.hid h
  have F := Lib.hid (h.failed 4)
  by_cases hl : a < S.size
  · have l1 : decide ((0 : Int) < S.size - a) = true := by simp; omega
    have l2 : (0 : Int) < S.size - a := by omega
    by_cases hE : E = 0
    · subst hE
      have R := Lib.hid (show rend S a 0 = 4 from if_pos ⟨rfl, hl⟩)
      clear h hl
      go_enter Try.func32, Try.ntmps32
      go_wp2_with (first
        | (go_at_call 29; refine (rLeft_any _ _ _ _ _ H.out hS).mono ?_; rintro e w1 ⟨rfl, rfl⟩)
        | (go_at_call 45; refine (fail_do _ _ _ c0 c1 z1).mono ?_; rintro e w1 ⟨rfl, rfl⟩)
        | (go_at_call 30; refine (rErr_any _ _ _ _ _ F.out.1).mono ?_; rintro e w1 ⟨rfl, rfl⟩))
      go_ret
      refine ⟨?_, ?_⟩
      · rw [R.out]; rfl
      · rw [R.out]; exact F.out
    · have hE2 : (E == 0) = false := by rw [beq_eq_false_iff_ne]; exact hE
      have R := Lib.hid (show rend S a E = E from if_neg (fun c => hE c.1))
      clear h hl
      go_enter Try.func32, Try.ntmps32
      go_wp2_with (first
        | (go_at_call 29; refine (rLeft_any _ _ _ _ _ H.out hS).mono ?_; rintro e w1 ⟨rfl, rfl⟩)
        | (go_at_call 45; refine (fail_no _ _ _ _ hE2 c0 c1).mono ?_; rintro e w1 ⟨rfl, rfl⟩)
        | (go_at_call 30; refine (rErr_any _ _ _ _ _ H.out).mono ?_; rintro e w1 ⟨rfl, rfl⟩))
      go_ret
      refine ⟨?_, ?_⟩
      · rw [R.out]; rfl
      · rw [R.out]; exact ⟨H.out, Keeps.refl _ _⟩
  · have l1 : decide ((0 : Int) < S.size - a) = false := by simp; omega
    have l2 : (S.size : Int) - a ≤ 0 := by omega
    have R := Lib.hid (show rend S a E = E from if_neg (fun c => hl c.2))
    clear h hl
    go_enter Try.func32, Try.ntmps32
    go_wp2_with (first
      | (go_at_call 29; refine (rLeft_any _ _ _ _ _ H.out hS).mono ?_; rintro e w1 ⟨rfl, rfl⟩)
      | (go_at_call 30; refine (rErr_any _ _ _ _ _ H.out).mono ?_; rintro e w1 ⟨rfl, rfl⟩))
    go_ret
    refine ⟨?_, ?_⟩
    · rw [R.out]; rfl
    · rw [R.out]; exact ⟨H.out, Keeps.refl _ _⟩
end Go.Proofs.Ytnflahkpccfhaaa
