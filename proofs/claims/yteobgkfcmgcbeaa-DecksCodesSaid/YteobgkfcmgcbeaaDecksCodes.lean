/-
  The law DecksCodes. No conditions.
-/
import Derived.Test.YteobgkfcmgcbeaaDecksW
import Derived.Test.YteobgkfcmgcbeaaOpenI
namespace Go.Proofs.Yteobgkfcmgcbeaa
open Go.ChangeShapes Go.WideShapes Go.ChangeAt Go.RowKit
set_option linter.unusedVariables false
set_option linter.unusedSimpArgs false
set_option maxRecDepth 20000
set_option maxHeartbeats 3200000
theorem lives20 (w : World) : Calls Try.prog 4 #[] w fun e w' => e = .returned (.bool true) ∧ Below w.heap.size w w' := by
  have hv : deckS [0, 17] = { data := #[97, 97, 98, 98, 104, 97] } := by decide +kernel
  have p1 : Calls Try.prog 7 #[.slice (some ⟨w.heap.size, 0, none⟩) 2 2] (w.alloc (.cells #[.int .i64 0, .int .i64 17] 3)) fun e w' => e = .returned (.string { data := #[97, 97, 98, 98, 104, 97] }) ∧ Below (w.alloc (.cells #[.int .i64 0, .int .i64 17] 3)).heap.size (w.alloc (.cells #[.int .i64 0, .int .i64 17] 3)) w' := by
    have := pCode [0, 17] (some ⟨w.heap.size, 0, none⟩) 2 2 _ (Reads.made w #[.int .i64 0, .int .i64 17] 3) rfl (by decide)
    rw [hv] at this
    exact this
  have HP := Lib.hid p1
  clear p1 hv
  go_enter Try.func4, Try.ntmps4
  go_wp2_with (go_at_call 7; refine HP.out.mono ?_; rintro e w1 ⟨rfl, b1⟩)
  go_ret
  exact ⟨rfl, bthen ((Below.refl _ _).alloc (Nat.le_refl _) _) b1⟩
theorem walk_DecksCodes (a : Option Addr) (len cap : Nat) (z : List Int) (s : ByteArray) (w : World) (w0 : IsRow .i64 w a len cap z) (ws : s.size ≤ maxLen) :
    Calls Try.prog 3 #[.slice a len cap, .string s] w fun e w' => e = .returned (.bool true) ∧ Below w.heap.size w w' := by
  unfold maxLen at ws
  obtain ⟨hr, hlen, hbd⟩ := isRow_reads w0
  generalize z.take len = y at hr hlen hbd
  clear w0
  have HL := Lib.hid hlen
  have HR := Lib.hid hr
  have B0 := Below.refl w.heap.size w
  clear hlen hbd hr
  by_cases h1 : 60 < len
  · go_enter Try.func3, Try.ntmps3
    go_wp2_with (go_at_call 4; refine (lives20 _).mono ?_; rintro e w1 ⟨rfl, hb1⟩)
    go_ret
    exact ⟨rfl, hb1⟩
  · by_cases h2 : 200 < s.size
    · go_enter Try.func3, Try.ntmps3
      go_wp2_with (go_at_call 4; refine (lives20 _).mono ?_; rintro e w1 ⟨rfl, hb1⟩)
      go_ret
      exact ⟨rfl, hb1⟩
    · have p1 := fun w => pUncode s w (by omega)
      have p2 := fun w => rUncode s w (by omega)
      unfold UncPost at p1 p2
      generalize (uncS s).1 = m at *
      generalize (uncS s).2 = x at *
      have p3 := fun w (h : Reads w a (ints y)) => pCode y a len cap w h HL.out (by omega)
      have p4 := fun w (h : Reads w a (ints y)) => rCode y a len cap w h HL.out (by omega)
      generalize deckS y = D at *
      go_enter Try.func3, Try.ntmps3
      go_wp2_with (first
        | (go_at_call 5; refine (p1 _).mono ?_; rintro e w1 ⟨v1, rfl, o1, b1⟩; have O1 := Lib.hid o1; clear o1)
        | (go_at_call 6; refine (p2 _).mono ?_; rintro e w2 ⟨v2, rfl, o2, b2⟩; have O2 := Lib.hid o2; have O1 := Lib.hid (own_below O1.out b2); have b3 := bthen b1 b2; clear o2)
        | (go_at_call 7; refine (p3 _ (HR.out.below b3)).mono ?_; rintro e w4 ⟨rfl, b4⟩; have O1 := Lib.hid (own_below O1.out b4); have O2 := Lib.hid (own_below O2.out b4); have b5 := bthen b3 b4)
        | (go_at_call 8; refine (p4 _ (HR.out.below b5)).mono ?_; rintro e w5 ⟨rfl, b6⟩; have O1 := Lib.hid (own_below O1.out b6); have O2 := Lib.hid (own_below O2.out b6); have b7 := bthen b5 b6)
        | (go_at_call 9; refine (Same_own m m _ _ _ _ _ O1.out O2.out).mono ?_; rintro e w6 ⟨rfl, b8⟩; rw [show decide (m = m) = true by simp]; have b9 := bthen b7 b8)
        | (go_at_call 4; refine (lives20 _).mono ?_; rintro e w7 ⟨rfl, c1⟩))
      go_ret
      exact ⟨rfl, bthen b9 c1⟩
end Go.Proofs.Yteobgkfcmgcbeaa
