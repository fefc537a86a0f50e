/-
  The laws of layer 2: each returns true for every input and writes nothing that was there. No conditions.
-/
import Derived.Test.YtagnjfidcifcdaaRunesRef
namespace Go.Proofs.Ytagnjfidcifcdaa
open Go.ChangeShapes Go.WideShapes Go.ChangeAt Go.RowKit
set_option linter.unusedVariables false
set_option linter.unusedSimpArgs false
theorem lives02 (w : World) : Calls Try.prog 7 #[] w fun e w' => e = .returned (.bool true) ∧ Below w.heap.size w w' := by
  have e1 : placeOf ⟨#[97, 98, 10, 195, 169, 99]⟩ 5 = (2, 2) := by decide +kernel
  have e2 : (runesOf ⟨#[195, 169, 99]⟩).length = 2 := by decide +kernel
  have E1 := Lib.hid e1
  have E2 := Lib.hid e2
  clear e1 e2
  go_enter Try.func7, Try.ntmps7
  go_wp2_with (first
    | (go_at_call 12; refine (Place_any _ _ _ (by decide)).mono ?_; rintro e w1 ⟨rfl, hb1⟩; rw [E1.out])
    | (go_at_call 11; refine (Count_any _ _ (by decide)).mono ?_; rintro e w2 ⟨rfl, hb2⟩; rw [E2.out]))
  go_ret
  exact ⟨rfl, bthen hb1 hb2⟩
theorem walk_RunesAt (s : ByteArray) (a : Int) (w : World) (ws : s.size ≤ maxLen) (wa : (Lit.int .i64 a).wf = true) :
    Calls Try.prog 3 #[.string s, .int .i64 a] w fun e w' => e = .returned (.bool true) ∧ Below w.heap.size w w' := by
  unfold maxLen at ws
  clear wa
  by_cases hz : 2000 < s.size
  · go_enter Try.func3, Try.ntmps3
    go_wp2_with (go_at_call 7; refine (lives02 _).mono ?_; rintro e w1 ⟨rfl, hb1⟩)
    go_ret
    exact ⟨rfl, hb1⟩
  · have hs : s.size ≤ 2000 := by omega
    have hl := runesOf_length s
    by_cases hin : 0 ≤ a ∧ a < s.size
    · obtain ⟨i, rfl⟩ := Int.eq_ofNat_of_zero_le hin.1
      have hi : i < s.size := by omega
      have hd := dec_bd s i hi
      obtain ⟨d1, d2, d3, d4⟩ := hd
      go_enter Try.func3, Try.ntmps3
      go_wp2_with (first
        | (go_at_call 8; refine (At_in s i _ (by omega) hi).mono ?_; rintro e w1 ⟨rfl, hb1⟩)
        | (go_at_call 9; refine (rAt_in s i _ (by omega) hi).mono ?_; rintro e w2 ⟨rfl, hb2⟩; have b2 := bthen hb1 hb2)
        | (go_at_call 10; refine (rAll_any s _ (by omega)).mono ?_; rintro e w3 ⟨v1, v2, rfl, o1, o2, ap, hb3⟩; have b3 := bthen b2 hb3; obtain ⟨A1, c1, rfl, hn1, hm1, r1⟩ := own_form o1; clear o1 o2 ap)
        | (go_at_call 11; refine (Count_any s _ (by omega)).mono ?_; rintro e w4 ⟨rfl, hb4⟩; have b4 := bthen b3 hb4)
        | (go_at_call 7; refine (lives02 _).mono ?_; rintro e w5 ⟨rfl, hb5⟩; have b5 := bthen b4 hb5))
      go_ret
      exact ⟨rfl, b5⟩
    · have ho : a < 0 ∨ (s.size : Int) ≤ a := by omega
      clear hin
      go_enter Try.func3, Try.ntmps3
      go_wp2_with (first
        | (go_at_call 8; refine (At_out s a _ (by omega) ho).mono ?_; rintro e w1 ⟨rfl, rfl⟩)
        | (go_at_call 9; refine (rAt_out s a _ (by omega) ho).mono ?_; rintro e w2 ⟨rfl, rfl⟩)
        | (go_at_call 10; refine (rAll_any s _ (by omega)).mono ?_; rintro e w3 ⟨v1, v2, rfl, o1, o2, ap, hb3⟩; obtain ⟨A1, c1, rfl, hn1, hm1, r1⟩ := own_form o1; clear o1 o2 ap)
        | (go_at_call 11; refine (Count_any s _ (by omega)).mono ?_; rintro e w4 ⟨rfl, hb4⟩; have b4 := bthen hb3 hb4)
        | (go_at_call 7; refine (lives02 _).mono ?_; rintro e w5 ⟨rfl, hb5⟩; have b5 := bthen b4 hb5))
      go_ret
      exact ⟨rfl, b5⟩
theorem walk_RunesPlaces (s : ByteArray) (a : Int) (w : World) (ws : s.size ≤ maxLen) (wa : (Lit.int .i64 a).wf = true) :
    Calls Try.prog 4 #[.string s, .int .i64 a] w fun e w' => e = .returned (.bool true) ∧ Below w.heap.size w w' := by
  unfold maxLen at ws
  clear wa
  by_cases hz : 2000 < s.size
  · go_enter Try.func4, Try.ntmps4
    go_wp2_with (go_at_call 7; refine (lives02 _).mono ?_; rintro e w1 ⟨rfl, hb1⟩)
    go_ret
    exact ⟨rfl, hb1⟩
  · have hs : s.size ≤ 2000 := by omega
    go_enter Try.func4, Try.ntmps4
    go_wp2_with (first
      | (go_at_call 12; refine (Place_any s a _ (by omega)).mono ?_; rintro e w1 ⟨rfl, hb1⟩)
      | (go_at_call 13; refine (rPlace_any s a _ (by omega)).mono ?_; rintro e w2 ⟨rfl, hb2⟩; have b2 := bthen hb1 hb2)
      | (go_at_call 7; refine (lives02 _).mono ?_; rintro e w5 ⟨rfl, hb5⟩; have b5 := bthen b2 hb5))
    go_ret
    exact ⟨rfl, b5⟩
theorem walk_RunesTells (r : Int) (s : ByteArray) (w : World) (wr : (Lit.int .i32 r).wf = true) (ws : s.size ≤ maxLen) :
    Calls Try.prog 5 #[.int .i32 r, .string s] w fun e w' => e = .returned (.bool true) ∧ Below w.heap.size w w' := by
  unfold maxLen at ws
  have br := bounds_i32 wr
  obtain ⟨r1, r2⟩ := br
  clear wr
  by_cases hz : 2000 < s.size
  · go_enter Try.func5, Try.ntmps5
    go_wp2_with (go_at_call 7; refine (lives02 _).mono ?_; rintro e w1 ⟨rfl, hb1⟩)
    go_ret
    exact ⟨rfl, hb1⟩
  · have hs : s.size ≤ 2000 := by omega
    go_enter Try.func5, Try.ntmps5
    go_wp2_with (first
      | (go_at_call 14; refine (Small_any _ _).mono ?_; rintro e w1 ⟨rfl, rfl⟩)
      | (go_at_call 15; refine (Letter_any _ _).mono ?_; rintro e w1 ⟨rfl, rfl⟩)
      | (go_at_call 16; refine (rLetter_any _ _).mono ?_; rintro e w1 ⟨rfl, rfl⟩)
      | (go_at_call 17; refine (Digit_any _ _).mono ?_; rintro e w1 ⟨rfl, rfl⟩)
      | (go_at_call 18; refine (Blank_any _ _).mono ?_; rintro e w1 ⟨rfl, rfl⟩)
      | (go_at_call 19; refine (Name_any s _ (by omega)).mono ?_; rintro e w1 ⟨rfl, hb1⟩)
      | (go_at_call 20; refine (rName_any s _ (by omega)).mono ?_; rintro e w2 ⟨rfl, hb2⟩; have b2 := bthen hb1 hb2)
      | (go_at_call 7; refine (lives02 _).mono ?_; rintro e w5 ⟨rfl, hb5⟩; have b5 := bthen b2 hb5))
    all_goals first
      | (go_ret; exact ⟨rfl, b5⟩)
      | (exfalso; simp_all; done)
      | (have hq : decide (r = 10) = (r == 32 || r == 9 || r == 10) := by rw [Bool.eq_iff_iff]; simp; omega
         exfalso; contradiction)
set_option maxRecDepth 100000 in
theorem walk_RunesWalk (s : ByteArray) (w : World) (ws : s.size ≤ maxLen) :
    Calls Try.prog 6 #[.string s] w fun e w' => e = .returned (.bool true) ∧ Below w.heap.size w w' := by
  unfold maxLen at ws
  by_cases hz : 300 < s.size
  · go_enter Try.func6, Try.ntmps6
    go_wp2_with (go_at_call 7; refine (lives02 _).mono ?_; rintro e w1 ⟨rfl, hb1⟩)
    go_ret
    exact ⟨rfl, hb1⟩
  · have hs : s.size ≤ 300 := by omega
    have hd0 : decide (300 < (s.size : Int)) = false := by simp; omega
    go_enter Try.func6, Try.ntmps6
    go_wp2
    go_loopw [3, 4] (fun c a wr => ∃ (pos : Nat) (done : List (Nat × Nat)), c = .int .i64 done.length ∧ a = .int .i64 pos ∧ Upto s pos done ∧ pos ≤ s.size ∧ Below w.heap.size w wr) (fun _ a _ => s.size - (intOf a).toNat)
    case atStart => exact ⟨0, [], rfl, rfl, Upto.zero s, by omega, Below.refl _ _⟩
    case round =>
      obtain ⟨pos, done, rfl, rfl, hu, hps, hb⟩ := hrel
      have hl : done.length ≤ s.size := by have := runesOf_length s; rw [hu.all] at this; simp at this; omega
      have HU := Lib.hid hu
      have HB := Lib.hid hb
      clear hu hb
      by_cases hp : pos < s.size
      · have hd := dec_bd s pos hp
        obtain ⟨d1, d2, d3, d4⟩ := hd
        have pb := placeOf_bd s (pos : Int)
        obtain ⟨p1, p2⟩ := pb
        have hpn := HU.out.place_next hp
        generalize hpp : placeOf s (pos : Int) = p at *
        have HP := Lib.hid hpp
        clear hpp
        by_cases h10 : (Utf8.decode s pos).1 = 10
        · have he : placeOf s ((pos : Int) + ((Utf8.decode s pos).2 : Int)) = (p.1 + 1, 1) := by rw [hpn]; unfold placeStep; rw [if_pos h10]
          have HE := Lib.hid he
          have hb10 : (((Utf8.decode s pos).1 : Int) == 10) = true := by rw [h10]; rfl
          have hb11 : (((Utf8.decode s pos).1 : Int) != 10) = false := by rw [h10]; rfl
          clear hpn he h10
          go_wp2_with (first
            | (go_at_call 8; refine (At_in s pos _ (by omega) hp).mono ?_; rintro e w1 ⟨rfl, hb1⟩; have b1 := bthen HB.out hb1)
            | (go_at_call 12; refine (Place_any s _ _ (by omega)).mono ?_; rintro e w2 ⟨rfl, hb2⟩; have b2 := bthen (by assumption) hb2; first | rw [HE.out] | rw [HP.out]))
          go_roundw
          case rel => exact ⟨pos + (Utf8.decode s pos).2, done ++ [((Utf8.decode s pos).1, pos)], by simp, by go_num, HU.out.next hp, by omega, by assumption⟩
          case measure => simp [intOf]; omega
        · have he : placeOf s ((pos : Int) + ((Utf8.decode s pos).2 : Int)) = (p.1, p.2 + 1) := by rw [hpn]; unfold placeStep; rw [if_neg h10]
          have HE := Lib.hid he
          have hb10 : (((Utf8.decode s pos).1 : Int) == 10) = false := by simp; omega
          have hb11 : (((Utf8.decode s pos).1 : Int) != 10) = true := by simp; omega
          clear hpn he h10
          go_wp2_with (first
            | (go_at_call 8; refine (At_in s pos _ (by omega) hp).mono ?_; rintro e w1 ⟨rfl, hb1⟩; have b1 := bthen HB.out hb1)
            | (go_at_call 12; refine (Place_any s _ _ (by omega)).mono ?_; rintro e w2 ⟨rfl, hb2⟩; have b2 := bthen (by assumption) hb2; first | rw [HE.out] | rw [HP.out]))
          go_roundw
          case rel => exact ⟨pos + (Utf8.decode s pos).2, done ++ [((Utf8.decode s pos).1, pos)], by simp, by go_num, HU.out.next hp, by omega, by assumption⟩
          case measure => simp [intOf]; omega
      · have he := HU.out.length_end (by omega)
        have HE := Lib.hid he
        clear he
        go_wp2_with (first
          | (go_at_call 11; refine (Count_any s _ (by omega)).mono ?_; rintro e w4 ⟨rfl, hb4⟩; have b4 := bthen HB.out hb4; rw [HE.out])
          | (go_at_call 7; refine (lives02 _).mono ?_; rintro e w5 ⟨rfl, hb5⟩; have b5 := bthen b4 hb5))
        go_ret
        exact ⟨rfl, b5⟩
end Go.Proofs.Ytagnjfidcifcdaa
