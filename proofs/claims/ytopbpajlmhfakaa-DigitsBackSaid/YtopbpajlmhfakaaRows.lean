/-
  No cell of these rows narrows 'for every input' (looked for: loops, veiled, ifaces, maps, wideKeys, modest, calm, conditions, laid).
  DERIVED. THE GIVEN ROWS OF THIS SEAT. 4 by the template 'for every input the law returns true; each argument reads behind the call as it read before'; 0 by the template 'total and deterministic' (their statements: YtopbpajlmhfakaaTotals.lean).
  GIVEN WITH THE SEED: the statements are not yours to turn. If you find one false, say at which input.
  Laid BY PROGRAM, IN A SANDBOX (cutbox-rows.mjs): the forced cells as the released guide's own fill.sh prints them over the translation 90c609e906dad111… (all of the seat's roots in one cut). By AI agents, Wed Nov 11 2026. No macro, syntax, notation, axiom, sorry.
-/
import Derived.Test.YtopbpajlmhfakaaChecked
import GoSem.Claim
import GoSem.ClaimJoined
import GoSem.ClaimMapViews
import Derived.JoinedTies
import Derived.KernelRfl
namespace Go.Proofs.Ytopbpajlmhfakaa
/- THE CELL 'sum', in the pinned program and in every row, IS THE sha256 OF THE DUMP (.gsa) THAT YtopbpajlmhfakaaProg.lean LOADS. Nothing in Lean hashes anything: it is a label: what it is worth is what the hold of that sum in a sandbox is worth. -/
noncomputable def Try.pinned : Pinned := { name := "ytopbpajlmhfakaa", sum := "90c609e906dad111d147a8185104ef38a303edfd0c5b9ccdabbebc479ce87402", checked := Try.checked }
namespace Rows
def none {H : Type} : Left H := { results := [], args := [] }

/-- 'tridentlaw03.DigitsPuts': WHATEVER THE INPUT: true; the input reads as it did. -/
def digitsPutsSpec : ChangeSpec := { name := "digitsPuts", fn := fun _ => fun
  | [d1, d2] => { results := [.lit (.bool true)], args := [d1, d2] }
  | _ => none }
def digitsPutsRow : OpenClaim := { program := "ytopbpajlmhfakaa", sum := "90c609e906dad111d147a8185104ef38a303edfd0c5b9ccdabbebc479ce87402", func := "trident/tridentlaw03.DigitsPuts", spec := "digitsPuts", recurses := true, apart := false }
def DigitsPutsSaid : Prop := digitsPutsRow.holds Try.pinned (OpenSpec.ofChange digitsPutsSpec)

/-- ITS FALSE NEIGHBOUR: 'it returns false'. Refute it at one input. -/
def digitsPutsWrong : ChangeSpec := { name := "digitsPuts", fn := fun _ => fun
  | [d1, d2] => { results := [.lit (.bool false)], args := [d1, d2] }
  | _ => none }
def DigitsPutsWrongFalsely : Prop := digitsPutsRow.holds Try.pinned (OpenSpec.ofChange digitsPutsWrong)

/-- 'tridentlaw03.DigitsTakes': WHATEVER THE INPUT: true; the input reads as it did. -/
def digitsTakesSpec : ChangeSpec := { name := "digitsTakes", fn := fun _ => fun
  | [d1, d2, d3] => { results := [.lit (.bool true)], args := [d1, d2, d3] }
  | _ => none }
def digitsTakesRow : OpenClaim := { program := "ytopbpajlmhfakaa", sum := "90c609e906dad111d147a8185104ef38a303edfd0c5b9ccdabbebc479ce87402", func := "trident/tridentlaw03.DigitsTakes", spec := "digitsTakes", recurses := true, apart := false }
def DigitsTakesSaid : Prop := digitsTakesRow.holds Try.pinned (OpenSpec.ofChange digitsTakesSpec)

/-- ITS FALSE NEIGHBOUR: 'it returns false'. Refute it at one input. -/
def digitsTakesWrong : ChangeSpec := { name := "digitsTakes", fn := fun _ => fun
  | [d1, d2, d3] => { results := [.lit (.bool false)], args := [d1, d2, d3] }
  | _ => none }
def DigitsTakesWrongFalsely : Prop := digitsTakesRow.holds Try.pinned (OpenSpec.ofChange digitsTakesWrong)

/-- 'tridentlaw03.DigitsLists': WHATEVER THE INPUT: true; the input reads as it did. -/
def digitsListsSpec : ChangeSpec := { name := "digitsLists", fn := fun _ => fun
  | [d1, d2] => { results := [.lit (.bool true)], args := [d1, d2] }
  | _ => none }
def digitsListsRow : OpenClaim := { program := "ytopbpajlmhfakaa", sum := "90c609e906dad111d147a8185104ef38a303edfd0c5b9ccdabbebc479ce87402", func := "trident/tridentlaw03.DigitsLists", spec := "digitsLists", recurses := true, apart := false }
def DigitsListsSaid : Prop := digitsListsRow.holds Try.pinned (OpenSpec.ofChange digitsListsSpec)

/-- ITS FALSE NEIGHBOUR: 'it returns false'. Refute it at one input. -/
def digitsListsWrong : ChangeSpec := { name := "digitsLists", fn := fun _ => fun
  | [d1, d2] => { results := [.lit (.bool false)], args := [d1, d2] }
  | _ => none }
def DigitsListsWrongFalsely : Prop := digitsListsRow.holds Try.pinned (OpenSpec.ofChange digitsListsWrong)

/-- 'tridentlaw03.DigitsBack': WHATEVER THE INPUT: true; the input reads as it did. -/
def digitsBackSpec : ChangeSpec := { name := "digitsBack", fn := fun _ => fun
  | [d1, d2] => { results := [.lit (.bool true)], args := [d1, d2] }
  | _ => none }
def digitsBackRow : OpenClaim := { program := "ytopbpajlmhfakaa", sum := "90c609e906dad111d147a8185104ef38a303edfd0c5b9ccdabbebc479ce87402", func := "trident/tridentlaw03.DigitsBack", spec := "digitsBack", apart := false }
def DigitsBackSaid : Prop := digitsBackRow.holds Try.pinned (OpenSpec.ofChange digitsBackSpec)

/-- ITS FALSE NEIGHBOUR: 'it returns false'. Refute it at one input. -/
def digitsBackWrong : ChangeSpec := { name := "digitsBack", fn := fun _ => fun
  | [d1, d2] => { results := [.lit (.bool false)], args := [d1, d2] }
  | _ => none }
def DigitsBackWrongFalsely : Prop := digitsBackRow.holds Try.pinned (OpenSpec.ofChange digitsBackWrong)

/- THE SECOND FORM. 'bulk': how many values and letters a reading holds, each counted each time it is reached (what is shared counts as often as it is met; a slice's spare places count too). A statement '..UptoSaid' is the law's where the arguments, and the package variables that the reading takes, are together of bulk at most 1048576: NARROWER than '..Said'. Prove '..Said' where nothing that the law and all that it calls make is longer than what came in: it says more and counts as full. Else prove '..UptoSaid'. A law counts once. -/
mutual
def uptoBulk {H : Type} : DataW H → Nat
  | .lit (.string bytes) => bytes.length + 1
  | .lit _ => 1
  | .nil => 1
  | .ptr d => uptoBulk d + 1
  | .slice elems spare => uptoBulkAll elems + uptoBulkAll spare + 1
  | .agg parts => uptoBulkAll parts + 1
  | .iface _ d => uptoBulk d + 1
  | .map entries => uptoBulkEntries entries + 1
  | .held _ => 1
def uptoBulkAll {H : Type} : List (DataW H) → Nat
  | [] => 0
  | d :: r => uptoBulk d + uptoBulkAll r
def uptoBulkEntries {H : Type} : List (Lit × DataW H) → Nat
  | [] => 0
  | x :: r => uptoBulkEntry x + uptoBulkEntries r
def uptoBulkEntry {H : Type} : Lit × DataW H → Nat
  | (.string bytes, d) => bytes.length + uptoBulk d + 1
  | (_, d) => uptoBulk d + 1
 end
def uptoSmall : (H : Type) → List (DataW H) → Bool := fun _ ds => decide (uptoBulkAll ds ≤ 1048576)
def OpenSpec.upto (s : _root_.Go.ChangeSpec) : _root_.Go.OpenSpec := { _root_.Go.OpenSpec.ofChange s with cond := some uptoSmall }

/-- 'tridentlaw03.DigitsPuts', WHERE WHAT IT READS IS OF BULK AT MOST 1048576: true; the input reads as it did. -/
def digitsPutsUptoRow : OpenClaim := { program := "ytopbpajlmhfakaa", sum := "90c609e906dad111d147a8185104ef38a303edfd0c5b9ccdabbebc479ce87402", func := "trident/tridentlaw03.DigitsPuts", spec := "digitsPuts", recurses := true, apart := false, narrowed := true }
def DigitsPutsUptoSaid : Prop := digitsPutsUptoRow.holds Try.pinned (OpenSpec.upto digitsPutsSpec)

/-- 'tridentlaw03.DigitsTakes', WHERE WHAT IT READS IS OF BULK AT MOST 1048576: true; the input reads as it did. -/
def digitsTakesUptoRow : OpenClaim := { program := "ytopbpajlmhfakaa", sum := "90c609e906dad111d147a8185104ef38a303edfd0c5b9ccdabbebc479ce87402", func := "trident/tridentlaw03.DigitsTakes", spec := "digitsTakes", recurses := true, apart := false, narrowed := true }
def DigitsTakesUptoSaid : Prop := digitsTakesUptoRow.holds Try.pinned (OpenSpec.upto digitsTakesSpec)

/-- 'tridentlaw03.DigitsLists', WHERE WHAT IT READS IS OF BULK AT MOST 1048576: true; the input reads as it did. -/
def digitsListsUptoRow : OpenClaim := { program := "ytopbpajlmhfakaa", sum := "90c609e906dad111d147a8185104ef38a303edfd0c5b9ccdabbebc479ce87402", func := "trident/tridentlaw03.DigitsLists", spec := "digitsLists", recurses := true, apart := false, narrowed := true }
def DigitsListsUptoSaid : Prop := digitsListsUptoRow.holds Try.pinned (OpenSpec.upto digitsListsSpec)

/-- 'tridentlaw03.DigitsBack', WHERE WHAT IT READS IS OF BULK AT MOST 1048576: true; the input reads as it did. -/
def digitsBackUptoRow : OpenClaim := { program := "ytopbpajlmhfakaa", sum := "90c609e906dad111d147a8185104ef38a303edfd0c5b9ccdabbebc479ce87402", func := "trident/tridentlaw03.DigitsBack", spec := "digitsBack", apart := false, narrowed := true }
def DigitsBackUptoSaid : Prop := digitsBackUptoRow.holds Try.pinned (OpenSpec.upto digitsBackSpec)

end Rows
end Go.Proofs.Ytopbpajlmhfakaa
