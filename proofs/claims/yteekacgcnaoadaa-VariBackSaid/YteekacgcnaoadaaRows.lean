/-
  No cell of these rows narrows 'for every input' (looked for: loops, veiled, ifaces, maps, wideKeys, modest, calm, conditions, laid).
  DERIVED. THE GIVEN ROWS OF THIS SEAT. 3 by the template 'for every input the law returns true; each argument reads behind the call as it read before'; 0 by the template 'total and deterministic' (their statements: YteekacgcnaoadaaTotals.lean).
  GIVEN WITH THE SEED: the statements are not yours to turn. If you find one false, say at which input.
  Laid BY PROGRAM, IN A SANDBOX (cutbox-rows.mjs): the forced cells as the released guide's own fill.sh prints them over the translation a5230a4075f43bb0… (all of the seat's roots in one cut). By AI agents, Wed Nov 11 2026. No macro, syntax, notation, axiom, sorry.
-/
import Derived.Test.YteekacgcnaoadaaChecked
import GoSem.Claim
import GoSem.ClaimJoined
import GoSem.ClaimMapViews
import Derived.JoinedTies
import Derived.KernelRfl
namespace Go.Proofs.Yteekacgcnaoadaa
/- THE CELL 'sum', in the pinned program and in every row, IS THE sha256 OF THE DUMP (.gsa) THAT YteekacgcnaoadaaProg.lean LOADS. Nothing in Lean hashes anything: it is a label: what it is worth is what the hold of that sum in a sandbox is worth. -/
noncomputable def Try.pinned : Pinned := { name := "yteekacgcnaoadaa", sum := "a5230a4075f43bb08c8800cf0b722a302b970dc2fc38bc3c417c6349726414ea", checked := Try.checked }
namespace Rows
def none {H : Type} : Left H := { results := [], args := [] }

/-- 'tridentlaw04.VariPuts': WHATEVER THE INPUT: true; the input reads as it did. -/
def variPutsSpec : ChangeSpec := { name := "variPuts", fn := fun _ => fun
  | [d] => { results := [.lit (.bool true)], args := [d] }
  | _ => none }
def variPutsRow : OpenClaim := { program := "yteekacgcnaoadaa", sum := "a5230a4075f43bb08c8800cf0b722a302b970dc2fc38bc3c417c6349726414ea", func := "trident/tridentlaw04.VariPuts", spec := "variPuts", recurses := true, apart := false }
def VariPutsSaid : Prop := variPutsRow.holds Try.pinned (OpenSpec.ofChange variPutsSpec)

/-- ITS FALSE NEIGHBOUR: 'it returns false'. Refute it at one input. -/
def variPutsWrong : ChangeSpec := { name := "variPuts", fn := fun _ => fun
  | [d] => { results := [.lit (.bool false)], args := [d] }
  | _ => none }
def VariPutsWrongFalsely : Prop := variPutsRow.holds Try.pinned (OpenSpec.ofChange variPutsWrong)

/-- 'tridentlaw04.VariTakes': WHATEVER THE INPUT: true; the input reads as it did. -/
def variTakesSpec : ChangeSpec := { name := "variTakes", fn := fun _ => fun
  | [d1, d2] => { results := [.lit (.bool true)], args := [d1, d2] }
  | _ => none }
def variTakesRow : OpenClaim := { program := "yteekacgcnaoadaa", sum := "a5230a4075f43bb08c8800cf0b722a302b970dc2fc38bc3c417c6349726414ea", func := "trident/tridentlaw04.VariTakes", spec := "variTakes", recurses := true, apart := false }
def VariTakesSaid : Prop := variTakesRow.holds Try.pinned (OpenSpec.ofChange variTakesSpec)

/-- ITS FALSE NEIGHBOUR: 'it returns false'. Refute it at one input. -/
def variTakesWrong : ChangeSpec := { name := "variTakes", fn := fun _ => fun
  | [d1, d2] => { results := [.lit (.bool false)], args := [d1, d2] }
  | _ => none }
def VariTakesWrongFalsely : Prop := variTakesRow.holds Try.pinned (OpenSpec.ofChange variTakesWrong)

/-- 'tridentlaw04.VariBack': WHATEVER THE INPUT: true; the input reads as it did. -/
def variBackSpec : ChangeSpec := { name := "variBack", fn := fun _ => fun
  | [d1, d2, d3] => { results := [.lit (.bool true)], args := [d1, d2, d3] }
  | _ => none }
def variBackRow : OpenClaim := { program := "yteekacgcnaoadaa", sum := "a5230a4075f43bb08c8800cf0b722a302b970dc2fc38bc3c417c6349726414ea", func := "trident/tridentlaw04.VariBack", spec := "variBack", apart := false }
def VariBackSaid : Prop := variBackRow.holds Try.pinned (OpenSpec.ofChange variBackSpec)

/-- ITS FALSE NEIGHBOUR: 'it returns false'. Refute it at one input. -/
def variBackWrong : ChangeSpec := { name := "variBack", fn := fun _ => fun
  | [d1, d2, d3] => { results := [.lit (.bool false)], args := [d1, d2, d3] }
  | _ => none }
def VariBackWrongFalsely : Prop := variBackRow.holds Try.pinned (OpenSpec.ofChange variBackWrong)

/- THE SECOND FORM. 'bulk': how many values and letters a reading holds, each counted each time it is reached (what is shared counts as often as it is met; a slice's spare places count too). A statement '..UptoSaid' is the law's where the arguments, and the package variables that the reading takes, are together of bulk at most 1048576: NARROWER than '..Said'. Prove '..Said' where nothing that the law and all that it calls make is longer than what came in: it says more and counts as full. Else prove '..UptoSaid'. A law counts once. -/
mutual
def uptoBulk {H : Type} : DataW H → Nat
  | .lit (.string bytes) => bytes.length + 1
  | .lit _ => 1
  | .nil => 1
  | .ptr d => uptoBulk d + 1
  | .slice elems spare => uptoBulkAll elems + uptoBulkAll spare + 1
  | .agg parts => uptoBulkAll parts + 1
  | .iface _ d => uptoBulk d + 1
  | .map entries => uptoBulkEntries entries + 1
  | .held _ => 1
def uptoBulkAll {H : Type} : List (DataW H) → Nat
  | [] => 0
  | d :: r => uptoBulk d + uptoBulkAll r
def uptoBulkEntries {H : Type} : List (Lit × DataW H) → Nat
  | [] => 0
  | x :: r => uptoBulkEntry x + uptoBulkEntries r
def uptoBulkEntry {H : Type} : Lit × DataW H → Nat
  | (.string bytes, d) => bytes.length + uptoBulk d + 1
  | (_, d) => uptoBulk d + 1
 end
def uptoSmall : (H : Type) → List (DataW H) → Bool := fun _ ds => decide (uptoBulkAll ds ≤ 1048576)
def OpenSpec.upto (s : _root_.Go.ChangeSpec) : _root_.Go.OpenSpec := { _root_.Go.OpenSpec.ofChange s with cond := some uptoSmall }

/-- 'tridentlaw04.VariPuts', WHERE WHAT IT READS IS OF BULK AT MOST 1048576: true; the input reads as it did. -/
def variPutsUptoRow : OpenClaim := { program := "yteekacgcnaoadaa", sum := "a5230a4075f43bb08c8800cf0b722a302b970dc2fc38bc3c417c6349726414ea", func := "trident/tridentlaw04.VariPuts", spec := "variPuts", recurses := true, apart := false, narrowed := true }
def VariPutsUptoSaid : Prop := variPutsUptoRow.holds Try.pinned (OpenSpec.upto variPutsSpec)

/-- 'tridentlaw04.VariTakes', WHERE WHAT IT READS IS OF BULK AT MOST 1048576: true; the input reads as it did. -/
def variTakesUptoRow : OpenClaim := { program := "yteekacgcnaoadaa", sum := "a5230a4075f43bb08c8800cf0b722a302b970dc2fc38bc3c417c6349726414ea", func := "trident/tridentlaw04.VariTakes", spec := "variTakes", recurses := true, apart := false, narrowed := true }
def VariTakesUptoSaid : Prop := variTakesUptoRow.holds Try.pinned (OpenSpec.upto variTakesSpec)

/-- 'tridentlaw04.VariBack', WHERE WHAT IT READS IS OF BULK AT MOST 1048576: true; the input reads as it did. -/
def variBackUptoRow : OpenClaim := { program := "yteekacgcnaoadaa", sum := "a5230a4075f43bb08c8800cf0b722a302b970dc2fc38bc3c417c6349726414ea", func := "trident/tridentlaw04.VariBack", spec := "variBack", apart := false, narrowed := true }
def VariBackUptoSaid : Prop := variBackUptoRow.holds Try.pinned (OpenSpec.upto variBackSpec)

end Rows
end Go.Proofs.Yteekacgcnaoadaa
