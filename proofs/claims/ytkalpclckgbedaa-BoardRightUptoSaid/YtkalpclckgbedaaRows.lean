/-
  No cell of these rows narrows 'for every input' (looked for: loops, veiled, ifaces, maps, wideKeys, modest, calm, conditions, laid).
  DERIVED. THE GIVEN ROWS OF THIS SEAT. 5 by the template 'for every input the law returns true; each argument reads behind the call as it read before'; 0 by the template 'total and deterministic' (their statements: YtkalpclckgbedaaTotals.lean).
  GIVEN WITH THE SEED: the statements are not yours to turn. If you find one false, say at which input.
  Laid BY PROGRAM, IN A SANDBOX (cutbox-rows.mjs): the forced cells as the released guide's own fill.sh prints them over the translation 1458240a4d940620… (all of the seat's roots in one cut). By AI agents, Wed Nov 11 2026. No macro, syntax, notation, axiom, sorry.
-/
import Derived.Test.YtkalpclckgbedaaChecked
import GoSem.Claim
import GoSem.ClaimJoined
import GoSem.ClaimMapViews
import Derived.JoinedTies
import Derived.KernelRfl
namespace Go.Proofs.Ytkalpclckgbedaa
/- THE CELL 'sum', in the pinned program and in every row, IS THE sha256 OF THE DUMP (.gsa) THAT YtkalpclckgbedaaProg.lean LOADS. Nothing in Lean hashes anything: it is a label: what it is worth is what the hold of that sum in a sandbox is worth. -/
noncomputable def Try.pinned : Pinned := { name := "ytkalpclckgbedaa", sum := "1458240a4d940620de173be88b8b06e2b00e4d796d7581649db304cef197042e", checked := Try.checked }
namespace Rows
def none {H : Type} : Left H := { results := [], args := [] }

/-- 'tridentlaw22.BoardFinds': WHATEVER THE INPUT: true; the input reads as it did. -/
def boardFindsSpec : ChangeSpec := { name := "boardFinds", fn := fun _ => fun
  | [d1, d2, d3] => { results := [.lit (.bool true)], args := [d1, d2, d3] }
  | _ => none }
def boardFindsRow : OpenClaim := { program := "ytkalpclckgbedaa", sum := "1458240a4d940620de173be88b8b06e2b00e4d796d7581649db304cef197042e", func := "trident/tridentlaw22.BoardFinds", spec := "boardFinds", unfollowed := true, recurses := true, apart := false }
def BoardFindsSaid : Prop := boardFindsRow.holds Try.pinned (OpenSpec.ofChange boardFindsSpec)

/-- ITS FALSE NEIGHBOUR: 'it returns false'. Refute it at one input. -/
def boardFindsWrong : ChangeSpec := { name := "boardFinds", fn := fun _ => fun
  | [d1, d2, d3] => { results := [.lit (.bool false)], args := [d1, d2, d3] }
  | _ => none }
def BoardFindsWrongFalsely : Prop := boardFindsRow.holds Try.pinned (OpenSpec.ofChange boardFindsWrong)

/-- 'tridentlaw22.BoardPuts': WHATEVER THE INPUT: true; the input reads as it did. -/
def boardPutsSpec : ChangeSpec := { name := "boardPuts", fn := fun _ => fun
  | [d1, d2, d3] => { results := [.lit (.bool true)], args := [d1, d2, d3] }
  | _ => none }
def boardPutsRow : OpenClaim := { program := "ytkalpclckgbedaa", sum := "1458240a4d940620de173be88b8b06e2b00e4d796d7581649db304cef197042e", func := "trident/tridentlaw22.BoardPuts", spec := "boardPuts", unfollowed := true, recurses := true, apart := false }
def BoardPutsSaid : Prop := boardPutsRow.holds Try.pinned (OpenSpec.ofChange boardPutsSpec)

/-- ITS FALSE NEIGHBOUR: 'it returns false'. Refute it at one input. -/
def boardPutsWrong : ChangeSpec := { name := "boardPuts", fn := fun _ => fun
  | [d1, d2, d3] => { results := [.lit (.bool false)], args := [d1, d2, d3] }
  | _ => none }
def BoardPutsWrongFalsely : Prop := boardPutsRow.holds Try.pinned (OpenSpec.ofChange boardPutsWrong)

/-- 'tridentlaw22.BoardTakes': WHATEVER THE INPUT: true; the input reads as it did. -/
def boardTakesSpec : ChangeSpec := { name := "boardTakes", fn := fun _ => fun
  | [d1, d2] => { results := [.lit (.bool true)], args := [d1, d2] }
  | _ => none }
def boardTakesRow : OpenClaim := { program := "ytkalpclckgbedaa", sum := "1458240a4d940620de173be88b8b06e2b00e4d796d7581649db304cef197042e", func := "trident/tridentlaw22.BoardTakes", spec := "boardTakes", unfollowed := true, recurses := true, apart := false }
def BoardTakesSaid : Prop := boardTakesRow.holds Try.pinned (OpenSpec.ofChange boardTakesSpec)

/-- ITS FALSE NEIGHBOUR: 'it returns false'. Refute it at one input. -/
def boardTakesWrong : ChangeSpec := { name := "boardTakes", fn := fun _ => fun
  | [d1, d2] => { results := [.lit (.bool false)], args := [d1, d2] }
  | _ => none }
def BoardTakesWrongFalsely : Prop := boardTakesRow.holds Try.pinned (OpenSpec.ofChange boardTakesWrong)

/-- 'tridentlaw22.BoardRight': WHATEVER THE INPUT: true; the input reads as it did. -/
def boardRightSpec : ChangeSpec := { name := "boardRight", fn := fun _ => fun
  | [d] => { results := [.lit (.bool true)], args := [d] }
  | _ => none }
def boardRightRow : OpenClaim := { program := "ytkalpclckgbedaa", sum := "1458240a4d940620de173be88b8b06e2b00e4d796d7581649db304cef197042e", func := "trident/tridentlaw22.BoardRight", spec := "boardRight", unfollowed := true, recurses := true, apart := false }
def BoardRightSaid : Prop := boardRightRow.holds Try.pinned (OpenSpec.ofChange boardRightSpec)

/-- ITS FALSE NEIGHBOUR: 'it returns false'. Refute it at one input. -/
def boardRightWrong : ChangeSpec := { name := "boardRight", fn := fun _ => fun
  | [d] => { results := [.lit (.bool false)], args := [d] }
  | _ => none }
def BoardRightWrongFalsely : Prop := boardRightRow.holds Try.pinned (OpenSpec.ofChange boardRightWrong)

/-- 'tridentlaw22.BoardBack': WHATEVER THE INPUT: true; the input reads as it did. -/
def boardBackSpec : ChangeSpec := { name := "boardBack", fn := fun _ => fun
  | [d1, d2, d3] => { results := [.lit (.bool true)], args := [d1, d2, d3] }
  | _ => none }
def boardBackRow : OpenClaim := { program := "ytkalpclckgbedaa", sum := "1458240a4d940620de173be88b8b06e2b00e4d796d7581649db304cef197042e", func := "trident/tridentlaw22.BoardBack", spec := "boardBack", unfollowed := true, recurses := true, apart := false }
def BoardBackSaid : Prop := boardBackRow.holds Try.pinned (OpenSpec.ofChange boardBackSpec)

/-- ITS FALSE NEIGHBOUR: 'it returns false'. Refute it at one input. -/
def boardBackWrong : ChangeSpec := { name := "boardBack", fn := fun _ => fun
  | [d1, d2, d3] => { results := [.lit (.bool false)], args := [d1, d2, d3] }
  | _ => none }
def BoardBackWrongFalsely : Prop := boardBackRow.holds Try.pinned (OpenSpec.ofChange boardBackWrong)

/- THE SECOND FORM. 'bulk': how many values and letters a reading holds, each counted each time it is reached (what is shared counts as often as it is met; a slice's spare places count too). A statement '..UptoSaid' is the law's where the arguments, and the package variables that the reading takes, are together of bulk at most 1048576: NARROWER than '..Said'. Prove '..Said' where nothing that the law and all that it calls make is longer than what came in: it says more and counts as full. Else prove '..UptoSaid'. A law counts once. -/
mutual
def uptoBulk {H : Type} : DataW H → Nat
  | .lit (.string bytes) => bytes.length + 1
  | .lit _ => 1
  | .nil => 1
  | .ptr d => uptoBulk d + 1
  | .slice elems spare => uptoBulkAll elems + uptoBulkAll spare + 1
  | .agg parts => uptoBulkAll parts + 1
  | .iface _ d => uptoBulk d + 1
  | .map entries => uptoBulkEntries entries + 1
  | .held _ => 1
def uptoBulkAll {H : Type} : List (DataW H) → Nat
  | [] => 0
  | d :: r => uptoBulk d + uptoBulkAll r
def uptoBulkEntries {H : Type} : List (Lit × DataW H) → Nat
  | [] => 0
  | x :: r => uptoBulkEntry x + uptoBulkEntries r
def uptoBulkEntry {H : Type} : Lit × DataW H → Nat
  | (.string bytes, d) => bytes.length + uptoBulk d + 1
  | (_, d) => uptoBulk d + 1
 end
def uptoSmall : (H : Type) → List (DataW H) → Bool := fun _ ds => decide (uptoBulkAll ds ≤ 1048576)
def OpenSpec.upto (s : _root_.Go.ChangeSpec) : _root_.Go.OpenSpec := { _root_.Go.OpenSpec.ofChange s with cond := some uptoSmall }

/-- 'tridentlaw22.BoardFinds', WHERE WHAT IT READS IS OF BULK AT MOST 1048576: true; the input reads as it did. -/
def boardFindsUptoRow : OpenClaim := { program := "ytkalpclckgbedaa", sum := "1458240a4d940620de173be88b8b06e2b00e4d796d7581649db304cef197042e", func := "trident/tridentlaw22.BoardFinds", spec := "boardFinds", unfollowed := true, recurses := true, apart := false, narrowed := true }
def BoardFindsUptoSaid : Prop := boardFindsUptoRow.holds Try.pinned (OpenSpec.upto boardFindsSpec)

/-- 'tridentlaw22.BoardPuts', WHERE WHAT IT READS IS OF BULK AT MOST 1048576: true; the input reads as it did. -/
def boardPutsUptoRow : OpenClaim := { program := "ytkalpclckgbedaa", sum := "1458240a4d940620de173be88b8b06e2b00e4d796d7581649db304cef197042e", func := "trident/tridentlaw22.BoardPuts", spec := "boardPuts", unfollowed := true, recurses := true, apart := false, narrowed := true }
def BoardPutsUptoSaid : Prop := boardPutsUptoRow.holds Try.pinned (OpenSpec.upto boardPutsSpec)

/-- 'tridentlaw22.BoardTakes', WHERE WHAT IT READS IS OF BULK AT MOST 1048576: true; the input reads as it did. -/
def boardTakesUptoRow : OpenClaim := { program := "ytkalpclckgbedaa", sum := "1458240a4d940620de173be88b8b06e2b00e4d796d7581649db304cef197042e", func := "trident/tridentlaw22.BoardTakes", spec := "boardTakes", unfollowed := true, recurses := true, apart := false, narrowed := true }
def BoardTakesUptoSaid : Prop := boardTakesUptoRow.holds Try.pinned (OpenSpec.upto boardTakesSpec)

/-- 'tridentlaw22.BoardRight', WHERE WHAT IT READS IS OF BULK AT MOST 1048576: true; the input reads as it did. -/
def boardRightUptoRow : OpenClaim := { program := "ytkalpclckgbedaa", sum := "1458240a4d940620de173be88b8b06e2b00e4d796d7581649db304cef197042e", func := "trident/tridentlaw22.BoardRight", spec := "boardRight", unfollowed := true, recurses := true, apart := false, narrowed := true }
def BoardRightUptoSaid : Prop := boardRightUptoRow.holds Try.pinned (OpenSpec.upto boardRightSpec)

/-- 'tridentlaw22.BoardBack', WHERE WHAT IT READS IS OF BULK AT MOST 1048576: true; the input reads as it did. -/
def boardBackUptoRow : OpenClaim := { program := "ytkalpclckgbedaa", sum := "1458240a4d940620de173be88b8b06e2b00e4d796d7581649db304cef197042e", func := "trident/tridentlaw22.BoardBack", spec := "boardBack", unfollowed := true, recurses := true, apart := false, narrowed := true }
def BoardBackUptoSaid : Prop := boardBackUptoRow.holds Try.pinned (OpenSpec.upto boardBackSpec)

end Rows
end Go.Proofs.Ytkalpclckgbedaa
