/-
  The smallest law of layer 5: it returns true for every input and writes nothing that was there. No conditions.
-/
import Derived.Test.YtnflahkpccfhaaaWireR3
namespace Go.Proofs.Ytnflahkpccfhaaa
open Go.ChangeShapes Go.WideShapes Go.ChangeAt Go.RowKit
set_option linter.unusedVariables false
set_option linter.unusedSimpArgs false
set_option maxRecDepth 20000 in
theorem walk_WireNone (n : Int) (s : ByteArray) (w : World) (hn : (Lit.int .i64 n).wf = true) (hs : s.size ≤ maxLen) :
    Calls Try.prog 5 #[.int .i64 n, .string s] w fun e w' => e = .returned (.bool true) ∧ Below w.heap.size w w' := by
  unfold maxLen at hs
  obtain ⟨n1, n2⟩ := bounds_i64 hn
  clear hn
  have p1 := Num_nil n n1 n2
  have p2 := Signed_nil n n1 n2
  have p3 := Text_nil s (by omega)
  have c0 := Below.refl w.heap.size w
  go_enter Try.func5, Try.ntmps5
  go_wp2_with (first
    | (go_at_call 9; refine (p1 _).mono ?_; rintro e w1 ⟨rfl, b1⟩; have c1 := bthen (by assumption) b1; clear b1)
    | (go_at_call 12; refine (p2 _).mono ?_; rintro e w1 ⟨rfl, b1⟩; have c1 := bthen (by assumption) b1; clear b1)
    | (go_at_call 15; refine (p3 _).mono ?_; rintro e w1 ⟨rfl, b1⟩; have c1 := bthen (by assumption) b1; clear b1)
    | (go_at_call 8; refine (lives_any _).mono ?_; rintro e w1 ⟨rfl, b1⟩; have c1 := bthen (by assumption) b1; clear b1)
    | (go_at_call 14; refine (Bool_nil _ _).mono ?_; rintro e w1 ⟨rfl, rfl⟩)
    | (go_at_call 17; refine (End_nil _).mono ?_; rintro e w1 ⟨rfl, rfl⟩)
    | (go_at_call 20; refine (rNum_nil _ _).mono ?_; rintro e w1 ⟨rfl, rfl⟩)
    | (go_at_call 22; refine (rSigned_nil _ _ _).mono ?_; rintro e w1 ⟨rfl, rfl⟩)
    | (go_at_call 24; refine (rBool_nil _).mono ?_; rintro e w1 ⟨rfl, rfl⟩)
    | (go_at_call 26; refine (rText_nil _ _).mono ?_; rintro e w1 ⟨rfl, rfl⟩)
    | (go_at_call 28; refine (rFail_nil _ _).mono ?_; rintro e w1 ⟨rfl, rfl⟩)
    | (go_at_call 29; refine (rLeft_nil _).mono ?_; rintro e w1 ⟨rfl, rfl⟩)
    | (go_at_call 30; refine (rErr_nil _).mono ?_; rintro e w1 ⟨rfl, rfl⟩)
    | (go_at_call 32; refine (rEnd_nil _).mono ?_; rintro e w1 ⟨rfl, rfl⟩))
  go_ret
  exact ⟨rfl, by assumption⟩
end Go.Proofs.Ytnflahkpccfhaaa
