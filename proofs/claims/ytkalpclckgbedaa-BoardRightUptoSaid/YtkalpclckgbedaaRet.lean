/-
  Small words on what a call returns. No program, no conditions.
-/
import Derived.Calls
import Derived.Laws.Strings
import Derived.Laws.Strings2
namespace Go.Proofs.Ytkalpclckgbedaa
open Go
theorem rI {k : IntKind} {a b : Int} (h : a = b) : Ending.returned (.int k a) = .returned (.int k b) := by rw [h]
theorem rB {a b : Bool} (h : a = b) : Ending.returned (.bool a) = .returned (.bool b) := by rw [h]
theorem rS {a b : ByteArray} (h : a = b) : Ending.returned (.string a) = .returned (.string b) := by rw [h]
theorem rV {a b : Value} (h : a = b) : Ending.returned a = .returned b := by rw [h]
theorem vI {k : IntKind} {a b : Int} (h : a = b) : Value.int k a = Value.int k b := by rw [h]
theorem vB {a b : Bool} (h : a = b) : Value.bool a = Value.bool b := by rw [h]
theorem vS {a b : ByteArray} (h : a = b) : Value.string a = Value.string b := by rw [h]
theorem slice_nn {P : Program} (t : TypeId) (h : P.underlying t = some .string) (s : ByteArray) (i n : Nat) (hz : i + n ≤ s.size) (w : World) :
    (Instr.slice t (.string s) (some (.int .i64 (i : Int))) (some (.int .i64 ((i : Int) + (n : Int)))) none).run P w = .ok (.string (s.extract i (i + n))) w := by
  rw [run_slice_string w t s .i64 .i64 _ _ h (by omega) (by omega) (by omega)]
  rw [show ((i : Int) + (n : Int)).toNat = i + n from by omega, Int.toNat_natCast]
end Go.Proofs.Ytkalpclckgbedaa
