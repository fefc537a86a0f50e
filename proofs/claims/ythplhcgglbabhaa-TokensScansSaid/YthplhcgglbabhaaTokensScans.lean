/-
  TokensScans: true for every input, and it writes nothing that was there. No conditions.
-/
import Derived.Test.YthplhcgglbabhaaTokLaws
namespace Go.Proofs.Ythplhcgglbabhaa
open Go.ChangeShapes Go.WideShapes Go.ChangeAt Go.RowKit
set_option linter.unusedVariables false
set_option linter.unusedSimpArgs false
theorem walk_TokensScans (s : ByteArray) (w : World) (ws : s.size ≤ maxLen) :
    Calls Try.prog 3 #[.string s] w fun e w' => e = .returned (.bool true) ∧ Below w.heap.size w w' := by
  unfold maxLen at ws
  by_cases hz : 3000 < s.size
  · have l0 : 3000 < (s.size : Int) := by omega
    go_enter Try.func3, Try.ntmps3
    go_wp2_with (go_at_call 6; refine (lives09 _).mono ?_; rintro e w1 ⟨rfl, hb1⟩)
    go_ret
    exact ⟨rfl, hb1⟩
  · have l0 : (s.size : Int) ≤ 3000 := by omega
    obtain ⟨L, E, l, c, hv⟩ : ∃ L E l c, scanV s = (L, E, l, c) := ⟨_, _, _, _, rfl⟩
    have HV := Lib.hid hv
    clear hv
    go_enter Try.func3, Try.ntmps3
    go_wp2_with (first
      | (go_at_call 7; refine (tkScan s _ (by omega)).mono ?_; rintro e w1 ⟨v, rfl, o1, b1⟩; rw [HV.out] at o1 ⊢; obtain ⟨A1, c1, rfl, hl1, _⟩ := own5_reads o1; have O1 := Lib.hid o1; have B1 := Lib.hid b1; clear o1 b1; simp only [faultV])
      | (go_at_call 8; refine (rtScan s _ (by omega)).mono ?_; rintro e w2 ⟨v, rfl, o2, b2⟩; rw [HV.out] at o2 ⊢; obtain ⟨A2, c2, rfl, _, _⟩ := own5_reads o2; have O2 := Lib.hid o2; have B2 := Lib.hid b2
         have F1 := Lib.hid ((Whole.made w1 26 #[.int .i64 E, .int .i64 (l : Int), .int .i64 (c : Int)]).below b2 (by simp))
         have P1 := Lib.hid (own_below (O1.out.alloc _) b2)
         have C2 := Lib.hid ((B1.out.alloc B1.out.size (.cells #[.int .i64 E, .int .i64 (l : Int), .int .i64 (c : Int)] 26)).trans (b2.mono (by have := B1.out.size; simp; omega)))
         clear o2 b2; simp only [faultV])
      | (go_at_call 9
         obtain ⟨_, _, e1, _, r1⟩ := own5_reads (P1.out.alloc (.cells #[.int .i64 E, .int .i64 (l : Int), .int .i64 (c : Int)] 26))
         obtain ⟨_, _, e2, _, r2⟩ := own5_reads (O2.out.alloc (.cells #[.int .i64 E, .int .i64 (l : Int), .int .i64 (c : Int)] 26))
         injection e1 with e1 _ _
         injection e2 with e2 _ _
         subst e1
         subst e2
         refine (rtSame L L.length _ _ _ _ _ r1 r2 rfl hl1).mono ?_
         rintro e w3 ⟨rfl, b3⟩
         have F3 := (F1.out.alloc (.cells #[.int .i64 E, .int .i64 (l : Int), .int .i64 (c : Int)] 26)).below b3 (by have := F1.out.inside; simp; omega)
         have G3 := (Whole.made w2 26 #[.int .i64 E, .int .i64 (l : Int), .int .i64 (c : Int)]).below b3 (by simp)
         obtain ⟨k0, k1, k2, _, _, _⟩ := whole3 F3
         obtain ⟨j0, j1, j2, _, _, _⟩ := whole3 G3
         have C3 := Lib.hid ((C2.out.alloc C2.out.size (.cells #[.int .i64 E, .int .i64 (l : Int), .int .i64 (c : Int)] 26)).trans (b3.mono (by have := C2.out.size; simp; omega)))
         clear F3 G3 r1 r2 b3)
      | (go_at_call 6; refine (lives09 _).mono ?_; rintro e w5 ⟨rfl, b5⟩))
    go_ret
    exact ⟨rfl, bthen C3.out b5⟩
end Go.Proofs.Ythplhcgglbabhaa
