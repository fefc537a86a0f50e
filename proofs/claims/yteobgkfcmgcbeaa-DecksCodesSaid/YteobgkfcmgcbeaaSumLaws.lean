/-
  The laws of layer 6: each returns true for every input and writes nothing that was there. No conditions.
-/
import Derived.Test.YteobgkfcmgcbeaaSum
namespace Go.Proofs.Yteobgkfcmgcbeaa
open Go.ChangeShapes Go.WideShapes Go.ChangeAt Go.RowKit
set_option linter.unusedVariables false
set_option linter.unusedSimpArgs false
theorem strip_append (s : ByteArray) : stripV (s ++ endS s) = .tuple #[.string s, .bool true] := by
  have hz := endS_size s
  have hy : (s ++ endS s).size = s.size + 2 := by rw [ByteArray.size_append, hz]
  have e1 := cut_append s (endS s) ((s ++ endS s).size - 2) (by omega)
  have e2 := tail_append s (endS s) ((s ++ endS s).size - 2) (s ++ endS s).size (by omega) (by omega)
  unfold stripV okS
  rw [e1, e2, if_pos]
  exact decide_eq_true ⟨by omega, rfl⟩
theorem conv_one (v : Int) : ∀ (W : World) (g : Nat), W.cell? ⟨g, 0, none⟩ = some (.int .u8 v) → ∀ dst, Try.prog.underlying dst = some .string → (convert 35 dst (.slice (some ⟨g, 0, none⟩) 1 1)).run Try.prog W = .ok (.string (strOfNums [v])) W := by
  intro W g h
  refine run_convert_bytes_arg _ 35 5 (by kernel_rfl) (by kernel_rfl) g 0 1 1 [v] rfl ?_
  intro i hi
  obtain rfl : i = 0 := by omega
  exact h
end Go.Proofs.Yteobgkfcmgcbeaa
