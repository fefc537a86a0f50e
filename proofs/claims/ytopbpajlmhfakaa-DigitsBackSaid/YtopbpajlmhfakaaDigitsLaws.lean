/-
  The laws of layer 3: each returns true for every input and writes nothing that was there. No conditions.
-/
import Derived.Test.YtopbpajlmhfakaaSame
namespace Go.Proofs.Ytopbpajlmhfakaa
open Go.ChangeShapes Go.WideShapes Go.ChangeAt Go.RowKit
set_option linter.unusedVariables false
set_option linter.unusedSimpArgs false
theorem listL_lives : listL [3, -1, 0] = [51, 44, 45, 49, 44, 48] := by
  simp [listL, joinC, putL, digL_lt]
theorem lives03 (w : World) : Calls Try.prog 7 #[] w fun e w' => e = .returned (.bool true) ∧ Below w.heap.size w w' := by
  have e1 : takeOf ⟨#[120, 48, 55]⟩ 1 9 = (0, 0, false) := by decide +kernel
  have E1 := Lib.hid e1
  have e2 : ((strOfNums (listL [3, -1, 0])).toList == [51, 44, 45, 49, 44, 48]) = true := by rw [listL_lives]; decide +kernel
  have hr := Reads.made w #[.int .i64 3, .int .i64 (-1), .int .i64 0] 3
  clear e1
  go_enter Try.func7, Try.ntmps7
  go_wp2_with (first
    | (go_at_call 12; refine (Take_any _ _ _ _ (by decide) (by decide) (by decide) (by decide) (by decide)).mono ?_; rintro e w1 ⟨rfl, rfl⟩; rw [E1.out]; unfold takeV)
    | (go_at_call 16; refine (List_any [3, -1, 0] _ _ _ hr (by decide) (by decide)).mono ?_; rintro e w2 ⟨rfl, hb2⟩))
  go_ret
  exact ⟨rfl, ((Below.refl _ _).alloc (Nat.le_refl _) _).trans (hb2.mono (by simp))⟩
theorem walk_DigitsPuts (a : Int) (s : ByteArray) (w : World) (wa : (Lit.int .i64 a).wf = true) (ws : s.size ≤ maxLen) :
    Calls Try.prog 3 #[.int .i64 a, .string s] w fun e w' => e = .returned (.bool true) ∧ Below w.heap.size w w' := by
  unfold maxLen at ws
  obtain ⟨a1, a2⟩ := bounds_i64 wa
  clear wa
  by_cases hz : 100 < s.size
  · go_enter Try.func3, Try.ntmps3
    go_wp2_with (go_at_call 7; refine (lives03 _).mono ?_; rintro e w1 ⟨rfl, hb1⟩)
    go_ret
    exact ⟨rfl, hb1⟩
  · have hs : s.size ≤ 100 := by omega
    have hp1 := fun w => Parse_any s w (by omega)
    have hp2 := fun w => rParse_any s w (by omega)
    generalize parseL (bL s) = o at hp1 hp2
    go_enter Try.func3, Try.ntmps3
    go_wp2_with (first
      | (go_at_call 8; refine (hp1 _).mono ?_; rintro e w1 ⟨rfl, rfl⟩; unfold optV)
      | (go_at_call 9; refine (hp2 _).mono ?_; rintro e w2 ⟨rfl, hb2⟩; unfold optV)
      | (go_at_call 10; refine (Put_any a a1 a2 _).mono ?_; rintro e w3 ⟨rfl, hb3⟩; have b3 := bthen hb2 hb3)
      | (go_at_call 11; refine (rPut a a1 a2 _).mono ?_; rintro e w4 ⟨rfl, hb4⟩; have b4 := bthen b3 hb4)
      | (go_at_call 7; refine (lives03 _).mono ?_; rintro e w5 ⟨rfl, hb5⟩; have b5 := bthen b4 hb5))
    go_ret
    exact ⟨rfl, b5⟩
theorem walk_DigitsTakes (s : ByteArray) (a b : Int) (w : World) (ws : s.size ≤ maxLen) (wa : (Lit.int .i64 a).wf = true) (wb : (Lit.int .i64 b).wf = true) :
    Calls Try.prog 4 #[.string s, .int .i64 a, .int .i64 b] w fun e w' => e = .returned (.bool true) ∧ Below w.heap.size w w' := by
  unfold maxLen at ws
  obtain ⟨a1, a2⟩ := bounds_i64 wa
  obtain ⟨b1, b2⟩ := bounds_i64 wb
  clear wa wb
  by_cases hz : 100 < s.size
  · go_enter Try.func4, Try.ntmps4
    go_wp2_with (go_at_call 7; refine (lives03 _).mono ?_; rintro e w1 ⟨rfl, hb1⟩)
    go_ret
    exact ⟨rfl, hb1⟩
  · have hs : s.size ≤ 100 := by omega
    have hp1 := fun w => Take_any s a b w (by omega) b1 b2 a1 a2
    have hp2 := fun w => rTake_any s a b w (by omega) b1 b2 a1 a2
    generalize takeOf s a b = o at hp1 hp2
    go_enter Try.func4, Try.ntmps4
    go_wp2_with (first
      | (go_at_call 12; refine (hp1 _).mono ?_; rintro e w1 ⟨rfl, rfl⟩; unfold takeV)
      | (go_at_call 13; refine (hp2 _).mono ?_; rintro e w2 ⟨rfl, hb2⟩; unfold takeV)
      | (go_at_call 7; refine (lives03 _).mono ?_; rintro e w5 ⟨rfl, hb5⟩; have b5 := bthen hb2 hb5))
    go_ret
    exact ⟨rfl, b5⟩
theorem isRow_reads {w : World} {a : Option Addr} {len cap : Nat} {z : List Int} (h : IsRow .i64 w a len cap z) : Reads w a (ints (z.take len)) ∧ (z.take len).length = len ∧ ∀ n ∈ z.take len, -9223372036854775808 ≤ n ∧ n ≤ 9223372036854775807 := by
  rcases h with ⟨rfl, rfl, rfl, rfl⟩ | ⟨x, rfl, h1, h2, h3, h4, h5⟩
  · exact ⟨.inl rfl, rfl, fun n hn => by simp at hn⟩
  · have hl : (z.take len).length = len := by rw [List.length_take]; omega
    refine ⟨?_, hl, fun n hn => bounds_i64 (h5 n (List.mem_of_mem_take hn))⟩
    by_cases h0 : len = 0
    · exact .inl (by rw [h0]; rfl)
    · have hg : ∀ j, j < len → w.cell? (x.add j) = (ints (z.take len))[j]? := by
        intro j hj
        have hz : j < z.length := by omega
        rw [h4 j hz]
        unfold ints
        rw [List.getElem?_map, List.getElem?_take_of_lt hj, List.getElem?_eq_getElem hz, List.getD, List.getElem?_eq_getElem hz]
        rfl
      refine .inr ⟨x, rfl, ?_, fun j hj => hg j (by rw [ints, List.length_map, hl] at hj; exact hj)⟩
      have h := h4 0 (by omega)
      have hb : (x.add 0).block = x.block := rfl
      apply Nat.lt_of_not_le
      intro c
      rw [Addr.add_zero'] at h
      have hn : w.heap[x.block]? = none := Array.getElem?_eq_none c
      unfold World.cell? at h
      rw [hn] at h
      simp at h
theorem walk_DigitsLists (a : Option Addr) (len cap : Nat) (z : List Int) (s : ByteArray) (w : World) (w0 : IsRow .i64 w a len cap z) (ws : s.size ≤ maxLen) :
    Calls Try.prog 5 #[.slice a len cap, .string s] w fun e w' => e = .returned (.bool true) ∧ Below w.heap.size w w' := by
  unfold maxLen at ws
  obtain ⟨hr, hlen, hbd⟩ := isRow_reads w0
  generalize z.take len = y at hr hlen hbd
  clear w0
  subst hlen
  by_cases hl : 60 < y.length
  · have ll : 60 < (y.length : Int) := by omega
    go_enter Try.func5, Try.ntmps5
    go_wp2_with (go_at_call 7; refine (lives03 _).mono ?_; rintro e w1 ⟨rfl, hb1⟩)
    go_ret
    exact ⟨rfl, hb1⟩
  · have ll : ¬ 60 < (y.length : Int) := by omega
    by_cases hz : 300 < s.size
    · have lz : 300 < (s.size : Int) := by omega
      go_enter Try.func5, Try.ntmps5
      go_wp2_with (go_at_call 7; refine (lives03 _).mono ?_; rintro e w1 ⟨rfl, hb1⟩)
      go_ret
      exact ⟨rfl, hb1⟩
    · have lz : ¬ 300 < (s.size : Int) := by omega
      have hu1 := fun w => Unlist_any s w (by omega)
      have hu2 := fun w => rUnlist_any s w (by omega)
      unfold UnlistPost at hu1 hu2
      generalize unlistL (bL s) = o at hu1 hu2
      have HBD := Lib.hid hbd
      clear hbd
      go_enter Try.func5, Try.ntmps5
      go_wp2_with (first
        | (go_at_call 14; refine (hu1 _).mono ?_; rintro e w1 ⟨v1, y1, rfl, h1, o1, hb1⟩; have R1 := hr.below hb1)
        | (go_at_call 15; refine (hu2 _).mono ?_; rintro e w2 ⟨v2, y2, rfl, h2, o2, hb2⟩; have o1' := own_below o1 hb2; have R2 := R1.below hb2; have b2 := bthen hb1 hb2)
        | (go_at_call 16; refine (List_any y _ _ _ R2 HBD.out (by omega)).mono ?_; rintro e w3 ⟨rfl, hb3⟩; have R3 := R2.below hb3; have p1 := own_below o1' hb3; have p2 := own_below o2 hb3; have b3 := bthen b2 hb3)
        | (go_at_call 17; refine (rList_any y _ _ _ R3 HBD.out (by omega)).mono ?_; rintro e w4 ⟨rfl, hb4⟩; have q1 := own_below p1 hb4; have q2 := own_below p2 hb4; have b4 := bthen b3 hb4)
        | (go_at_call 18; refine (Same_own y1 y2 _ _ _ _ _ q1 q2).mono ?_; rintro e w5 ⟨rfl, hb5⟩; rw [show decide (y1 = y2) = true by rw [h1, h2]; simp]; have b5 := bthen b4 hb5)
        | (go_at_call 7; refine (lives03 _).mono ?_; rintro e w6 ⟨rfl, hb6⟩))
      go_ret
      exact ⟨rfl, bthen b5 hb6⟩
end Go.Proofs.Ytopbpajlmhfakaa
