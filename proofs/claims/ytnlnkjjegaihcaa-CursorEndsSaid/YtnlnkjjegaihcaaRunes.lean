/-
  The contracts of package runes and of the document's answer for layer 2: each call returns what is named here and writes nothing that was there. Conditions: strings are no longer than a string can be.
-/
import Derived.Test.YtnlnkjjegaihcaaBase
import Derived.Test.YtnlnkjjegaihcaaRunesList
import Derived.IntWalk
namespace Go.Proofs.Ytnlnkjjegaihcaa
open Go.ChangeShapes Go.WideShapes Go.ChangeAt Go.RowKit
set_option linter.unusedVariables false
set_option linter.unusedSimpArgs false
theorem ret_bool {a b : Bool} (h : a = b) : Ending.returned (.bool a) = .returned (.bool b) := by rw [h]
theorem ret_int {k : IntKind} {a b : Int} (h : a = b) : Ending.returned (.int k a) = .returned (.int k b) := by rw [h]
theorem Small_any (n : Int) (w : World) : Calls Try.prog 47 #[.int .i32 n] w fun e w' => e = .returned (.bool (decide (97 ≤ n ∧ n ≤ 122))) ∧ w = w' := by
  go_enter Try.func47, Try.ntmps47
  go_wp2
  all_goals
    go_ret
    refine ⟨ret_bool ?_, rfl⟩
    rw [Bool.eq_iff_iff]; simp; try omega
theorem Letter_any (n : Int) (w : World) : Calls Try.prog 76 #[.int .i32 n] w fun e w' => e = .returned (.bool (letterB n)) ∧ w = w' := by
  go_enter Try.func76, Try.ntmps76
  go_wp2_with (go_at_call 47; refine (Small_any _ _).mono ?_; rintro e w' ⟨rfl, rfl⟩)
  all_goals
    go_ret
    refine ⟨ret_bool ?_, rfl⟩
    rw [Bool.eq_iff_iff]; simp [letterB]; try omega
theorem rLetter_any (n : Int) (w : World) : Calls Try.prog 66 #[.int .i64 n] w fun e w' => e = .returned (.bool (letterB n)) ∧ w = w' := by
  go_enter Try.func66, Try.ntmps66
  go_wp2
  all_goals
    go_ret
    refine ⟨ret_bool ?_, rfl⟩
    rw [Bool.eq_iff_iff]; simp [letterB]; try omega
theorem Digit_any (n : Int) (w : World) : Calls Try.prog 49 #[.int .i32 n] w fun e w' => e = .returned (.bool (decide (48 ≤ n ∧ n ≤ 57))) ∧ w = w' := by
  go_enter Try.func49, Try.ntmps49
  go_wp2
  all_goals
    go_ret
    refine ⟨ret_bool ?_, rfl⟩
    rw [Bool.eq_iff_iff]; simp; try omega
theorem Blank_any (n : Int) (w : World) : Calls Try.prog 45 #[.int .i32 n] w fun e w' => e = .returned (.bool (decide (n = 32 ∨ n = 9 ∨ n = 10))) ∧ w = w' := by
  go_enter Try.func45, Try.ntmps45
  go_wp2
  all_goals
    go_ret
    refine ⟨ret_bool ?_, rfl⟩
    rw [Bool.eq_iff_iff]; simp; try omega
theorem inName_any (n : Int) (w : World) : Calls Try.prog 71 #[.int .i32 n] w fun e w' => e = .returned (.bool (inNameB n)) ∧ w = w' := by
  go_enter Try.func71, Try.ntmps71
  go_wp2_with (first
    | (go_at_call 76; refine (Letter_any _ _).mono ?_; rintro e w' ⟨rfl, rfl⟩)
    | (go_at_call 49; refine (Digit_any _ _).mono ?_; rintro e w' ⟨rfl, rfl⟩))
  all_goals
    go_ret
    refine ⟨ret_bool ?_, rfl⟩
    rw [Bool.eq_iff_iff]; simp_all [inNameB]; try omega
theorem Place_any (s : ByteArray) (a : Int) (w : World) (hs : s.size ≤ 140737488355328) : Calls Try.prog 44 #[.string s, .int .i64 a] w fun e w' => e = .returned (.tuple #[.int .i64 ((placeOf s a).1 : Nat), .int .i64 ((placeOf s a).2 : Nat)]) ∧ Below w.heap.size w w' := by
  go_enter Try.func44, Try.ntmps44
  go_wp2
  go_loopw [4, 5] (fun l c w' => ∃ (pos : Nat) (p : Nat × Nat), w' = w.iter s pos ∧ l = .int .i64 (p.1 : Nat) ∧ c = .int .i64 (p.2 : Nat) ∧ placeL a (runesAt s pos) p = placeOf s a ∧ p.1 ≤ pos + 1 ∧ p.2 ≤ pos + 1 ∧ pos ≤ s.size) (fun _ _ w' => s.size - w'.iterPos w.heap.size)
  case atStart => exact ⟨0, (1, 1), rfl, rfl, rfl, rfl, by omega, by omega, by omega⟩
  case round =>
    obtain ⟨pos, p, rfl, rfl, rfl, hl, h1, h2, h3⟩ := hrel
    by_cases hp : pos < s.size
    · have hnx : ∀ ty, (Instr.next (.pointer (some ⟨w.heap.size, 0, none⟩)) true ty).run Try.prog (w.iter s pos) = _ := fun ty => run_next_any w s pos ty hp
      have hwd := dec_bd s pos hp
      rw [runesAt_step s pos hp] at hl
      simp only [placeL] at hl
      have HL := Lib.hid hl; clear hl
      obtain ⟨d1, d2, d3, d4⟩ := hwd
      by_cases ha : a ≤ (pos : Int)
      · go_wp2
        go_ret2
        have := HL.out
        rw [if_pos ha] at this
        rw [← this]
        exact ⟨rfl, (Below.refl _ _).alloc (Nat.le_refl _) _⟩
      · have HL2 := HL.out
        rw [if_neg ha] at HL2
        have ha' : ¬ a ≤ (pos : Int) := ha
        have HM := Lib.hid HL2; clear HL2 HL
        by_cases hr : (Utf8.decode s pos).1 = 10
        · have hb : (((Utf8.decode s pos).1 : Int) == 10) = true := by rw [hr]; rfl
          have HR := Lib.hid hr; clear hr
          go_wp2
          go_roundw
          case rel =>
            refine ⟨pos + (Utf8.decode s pos).2, placeStep p (Utf8.decode s pos).1, rfl, ?_, ?_, HM.out, ?_⟩
            · simp [placeStep, HR.out]
            · simp [placeStep, HR.out]
            · simp only [placeStep, HR.out, if_pos]; omega
          case measure => simp; omega
        · have hb : (((Utf8.decode s pos).1 : Int) == 10) = false := by simp; omega
          have HR := Lib.hid hr; clear hr
          go_wp2
          go_roundw
          case rel =>
            refine ⟨pos + (Utf8.decode s pos).2, placeStep p (Utf8.decode s pos).1, rfl, ?_, ?_, HM.out, ?_⟩
            · simp [placeStep, HR.out]
            · simp [placeStep, HR.out]
            · simp only [placeStep, HR.out, if_false]; omega
          case measure => simp; omega
    · have hnx : ∀ ty, (Instr.next (.pointer (some ⟨w.heap.size, 0, none⟩)) true ty).run Try.prog (w.iter s pos) = _ := fun ty => run_next_end w s pos ty hp
      rw [runesAt_end s pos (by omega)] at hl
      have HL := Lib.hid hl; clear hl
      go_wp2
      go_ret2
      rw [← HL.out]
      exact ⟨rfl, (Below.refl _ _).alloc (Nat.le_refl _) _⟩
theorem At_out (s : ByteArray) (a : Int) (w : World) (hs : s.size ≤ 140737488355328) (h : a < 0 ∨ (s.size : Int) ≤ a) : Calls Try.prog 46 #[.string s, .int .i64 a] w fun e w' => e = .returned (.tuple #[.int .i32 0, .int .i64 0]) ∧ w = w' := by
  by_cases h0 : a < 0
  · go_enter Try.func46, Try.ntmps46
    go_wp2
    go_ret2
    exact ⟨rfl, rfl⟩
  · have h1 : (s.size : Int) ≤ a := by omega
    clear h
    go_enter Try.func46, Try.ntmps46
    go_wp2
    go_ret2
    exact ⟨rfl, rfl⟩
theorem At_in (s : ByteArray) (i : Nat) (w : World) (hs : s.size ≤ 140737488355328) (h : i < s.size) : Calls Try.prog 46 #[.string s, .int .i64 i] w fun e w' => e = .returned (.tuple #[.int .i32 (Utf8.decode s i).1, .int .i64 (Utf8.decode s i).2]) ∧ Below w.heap.size w w' := by
  have hz := size_extract s i s.size (Nat.le_refl _)
  have hd := dec_extract s i (by omega) 0 (by omega)
  have hb := dec_bd s i h
  rw [Nat.add_zero] at hd
  rw [← hd] at hb ⊢
  generalize hr : s.extract i s.size = rest at *
  have HR := Lib.hid hr
  have HZ := Lib.hid hz
  have h0 : 0 < rest.size := by omega
  have hnx : ∀ ty, (Instr.next (.pointer (some ⟨w.heap.size, 0, none⟩)) true ty).run Try.prog (w.iter rest 0) = _ := fun ty => run_next_any w rest 0 ty h0
  rw [Nat.zero_add] at hnx
  clear hz hd
  have hi : (0 : Int) ≤ (i : Int) := by omega
  have hi' : (i : Int) ≤ (s.size : Int) := by omega
  by_cases hp : (Utf8.decode rest 0).2 < rest.size
  · have hnx2 : ∀ ty, (Instr.next (.pointer (some ⟨w.heap.size, 0, none⟩)) true ty).run Try.prog (w.iter rest (Utf8.decode rest 0).2) = _ := fun ty => run_next_any w rest _ ty hp
    go_enter Try.func46, Try.ntmps46
    go_wp2
    refine wp_loop_rounds 2 ?_
    rw [rounds_succ]
    go_wp2
    rw [rounds_succ]
    go_wp2
    go_ret2
    exact ⟨rfl, (Below.refl _ _).alloc (Nat.le_refl _) _⟩
  · have hnx2 : ∀ ty, (Instr.next (.pointer (some ⟨w.heap.size, 0, none⟩)) true ty).run Try.prog (w.iter rest (Utf8.decode rest 0).2) = _ := fun ty => run_next_end w rest _ ty hp
    have he : (Utf8.decode rest 0).2 = rest.size := by have := HZ.out; omega
    have HE := Lib.hid he
    clear he
    go_enter Try.func46, Try.ntmps46
    go_wp2
    refine wp_loop_rounds 2 ?_
    rw [rounds_succ]
    go_wp2
    rw [rounds_succ]
    go_wp2
    go_ret2
    exact ⟨by rw [HE.out]; rfl, (Below.refl _ _).alloc (Nat.le_refl _) _⟩
theorem Name_any (s : ByteArray) (w : World) (hs : s.size ≤ 140737488355328) : Calls Try.prog 62 #[.string s] w fun e w' => e = .returned (.bool (nameB s)) ∧ Below w.heap.size w w' := by
  go_enter Try.func62, Try.ntmps62
  go_wp2
  go_loopw [3] (fun n w' => ∃ (pos : Nat) (done : List (Nat × Nat)), w' = w.iter s pos ∧ n = .int .i64 done.length ∧ Upto s pos done ∧ done.length ≤ 24 ∧ done.all (fun x => inNameB x.1) = true) (fun _ w' => s.size - w'.iterPos w.heap.size)
  case atStart => exact ⟨0, [], rfl, rfl, Upto.zero s, by simp, by simp⟩
  case round =>
    obtain ⟨pos, done, rfl, rfl, hu, h24, hall⟩ := hrel
    have HU := Lib.hid hu
    have HA := Lib.hid hall
    clear hu hall
    by_cases hp : pos < s.size
    · have hnx : ∀ ty, (Instr.next (.pointer (some ⟨w.heap.size, 0, none⟩)) true ty).run Try.prog (w.iter s pos) = _ := fun ty => run_next_any w s pos ty hp
      have hwd := dec_bd s pos hp
      have hl : done.length + 1 ≤ (runesOf s).length := by have := HU.out; rw [(this.next hp).all]; simp
      have hlz := runesOf_length s
      obtain ⟨d1, d2, d3, d4⟩ := hwd
      by_cases h25 : 24 < done.length + 1
      · go_wp2_with (go_at_call 71; refine (inName_any _ _).mono ?_; rintro e w' ⟨rfl, rfl⟩)
        go_ret
        refine ⟨ret_bool ?_, (Below.refl _ _).alloc (Nat.le_refl _) _⟩
        unfold nameB; simp; omega
      · cases hin : inNameB ((Utf8.decode s pos).1 : Int) with
        | false =>
          go_wp2_with (go_at_call 71; refine (inName_any _ _).mono ?_; rintro e w' ⟨rfl, rfl⟩)
          go_ret
          refine ⟨ret_bool ?_, (Below.refl _ _).alloc (Nat.le_refl _) _⟩
          have : (runesOf s).all (fun x => inNameB x.1) = false := by
            rw [(HU.out.next hp).all]; simp [hin]
          unfold nameB; rw [this]; simp
        | true =>
          go_wp2_with (go_at_call 71; refine (inName_any _ _).mono ?_; rintro e w' ⟨rfl, rfl⟩)
          go_roundw
          case rel => exact ⟨pos + (Utf8.decode s pos).2, done ++ [((Utf8.decode s pos).1, pos)], rfl, by simp, HU.out.next hp, by simp; omega, by rw [List.all_append, HA.out]; simp [hin]⟩
          case measure => simp; omega
    · have hnx : ∀ ty, (Instr.next (.pointer (some ⟨w.heap.size, 0, none⟩)) true ty).run Try.prog (w.iter s pos) = _ := fun ty => run_next_end w s pos ty hp
      have he := HU.out.length_end (by omega)
      have hv : nameB s = (decide (1 ≤ done.length) && decide (((runesOf s).map (·.1)).head? ≠ some 32) && decide (((runesOf s).map (·.1)).getLast? ≠ some 32)) := by
        unfold nameB; rw [he, HA.out]; simp [h24]
      have HV := Lib.hid hv
      have HE := Lib.hid he
      clear hv he
      by_cases hz : 0 < done.length
      · have hz2 : 0 < s.size := by have := runesOf_length s; rw [HE.out] at this; omega
        have hh := head_space s hz2
        have ht := last_space s hz2
        rw [gB_eq s 0 hz2] at hh
        rw [gB_eq s (s.size - 1) (by omega)] at ht
        have HH := Lib.hid hh
        have HT := Lib.hid ht
        clear hh ht
        go_wp2
        all_goals
          go_ret
          refine ⟨ret_bool ?_, (Below.refl _ _).alloc (Nat.le_refl _) _⟩
          have hh := HH.out
          have ht := HT.out
          rw [HV.out, Bool.eq_iff_iff]
          simp only [ne_eq, hh, ht]
          simp
          omega
      · go_wp2
        go_ret
        refine ⟨ret_bool ?_, (Below.refl _ _).alloc (Nat.le_refl _) _⟩
        rw [HV.out]
        simp; omega

end Go.Proofs.Ytnlnkjjegaihcaa
