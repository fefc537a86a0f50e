/-
  No cell of these rows narrows 'for every input' (looked for: loops, veiled, ifaces, maps, wideKeys, modest, calm, conditions, laid).
  DERIVED. THE GIVEN ROWS OF THIS SEAT. 4 by the template 'for every input the law returns true; each argument reads behind the call as it read before'; 0 by the template 'total and deterministic' (their statements: YtagnjfidcifcdaaTotals.lean).
  GIVEN WITH THE SEED: the statements are not yours to turn. If you find one false, say at which input.
  Laid BY PROGRAM, IN A SANDBOX (cutbox-rows.mjs): the forced cells as the released guide's own fill.sh prints them over the translation 30ccd4e70f2b60a3… (all of the seat's roots in one cut). By AI agents, Wed Nov 11 2026. No macro, syntax, notation, axiom, sorry.
-/
import Derived.Test.YtagnjfidcifcdaaChecked
import GoSem.Claim
import GoSem.ClaimJoined
import GoSem.ClaimMapViews
import Derived.JoinedTies
import Derived.KernelRfl
namespace Go.Proofs.Ytagnjfidcifcdaa
/- THE CELL 'sum', in the pinned program and in every row, IS THE sha256 OF THE DUMP (.gsa) THAT YtagnjfidcifcdaaProg.lean LOADS. Nothing in Lean hashes anything: it is a label: what it is worth is what the hold of that sum in a sandbox is worth. -/
noncomputable def Try.pinned : Pinned := { name := "ytagnjfidcifcdaa", sum := "30ccd4e70f2b60a3f978b29005ab008cb8440ffba29d96cca12c4ccf188d867c", checked := Try.checked }
namespace Rows
def none {H : Type} : Left H := { results := [], args := [] }

/-- 'tridentlaw02.RunesAt': WHATEVER THE INPUT: true; the input reads as it did. -/
def runesAtSpec : ChangeSpec := { name := "runesAt", fn := fun _ => fun
  | [d1, d2] => { results := [.lit (.bool true)], args := [d1, d2] }
  | _ => none }
def runesAtRow : OpenClaim := { program := "ytagnjfidcifcdaa", sum := "30ccd4e70f2b60a3f978b29005ab008cb8440ffba29d96cca12c4ccf188d867c", func := "trident/tridentlaw02.RunesAt", spec := "runesAt", apart := false }
def RunesAtSaid : Prop := runesAtRow.holds Try.pinned (OpenSpec.ofChange runesAtSpec)

/-- ITS FALSE NEIGHBOUR: 'it returns false'. Refute it at one input. -/
def runesAtWrong : ChangeSpec := { name := "runesAt", fn := fun _ => fun
  | [d1, d2] => { results := [.lit (.bool false)], args := [d1, d2] }
  | _ => none }
def RunesAtWrongFalsely : Prop := runesAtRow.holds Try.pinned (OpenSpec.ofChange runesAtWrong)

/-- 'tridentlaw02.RunesPlaces': WHATEVER THE INPUT: true; the input reads as it did. -/
def runesPlacesSpec : ChangeSpec := { name := "runesPlaces", fn := fun _ => fun
  | [d1, d2] => { results := [.lit (.bool true)], args := [d1, d2] }
  | _ => none }
def runesPlacesRow : OpenClaim := { program := "ytagnjfidcifcdaa", sum := "30ccd4e70f2b60a3f978b29005ab008cb8440ffba29d96cca12c4ccf188d867c", func := "trident/tridentlaw02.RunesPlaces", spec := "runesPlaces", apart := false }
def RunesPlacesSaid : Prop := runesPlacesRow.holds Try.pinned (OpenSpec.ofChange runesPlacesSpec)

/-- ITS FALSE NEIGHBOUR: 'it returns false'. Refute it at one input. -/
def runesPlacesWrong : ChangeSpec := { name := "runesPlaces", fn := fun _ => fun
  | [d1, d2] => { results := [.lit (.bool false)], args := [d1, d2] }
  | _ => none }
def RunesPlacesWrongFalsely : Prop := runesPlacesRow.holds Try.pinned (OpenSpec.ofChange runesPlacesWrong)

/-- 'tridentlaw02.RunesTells': WHATEVER THE INPUT: true; the input reads as it did. -/
def runesTellsSpec : ChangeSpec := { name := "runesTells", fn := fun _ => fun
  | [d1, d2] => { results := [.lit (.bool true)], args := [d1, d2] }
  | _ => none }
def runesTellsRow : OpenClaim := { program := "ytagnjfidcifcdaa", sum := "30ccd4e70f2b60a3f978b29005ab008cb8440ffba29d96cca12c4ccf188d867c", func := "trident/tridentlaw02.RunesTells", spec := "runesTells", apart := false }
def RunesTellsSaid : Prop := runesTellsRow.holds Try.pinned (OpenSpec.ofChange runesTellsSpec)

/-- ITS FALSE NEIGHBOUR: 'it returns false'. Refute it at one input. -/
def runesTellsWrong : ChangeSpec := { name := "runesTells", fn := fun _ => fun
  | [d1, d2] => { results := [.lit (.bool false)], args := [d1, d2] }
  | _ => none }
def RunesTellsWrongFalsely : Prop := runesTellsRow.holds Try.pinned (OpenSpec.ofChange runesTellsWrong)

/-- 'tridentlaw02.RunesWalk': WHATEVER THE INPUT: true; the input reads as it did. -/
def runesWalkSpec : ChangeSpec := { name := "runesWalk", fn := fun _ => fun
  | [d] => { results := [.lit (.bool true)], args := [d] }
  | _ => none }
def runesWalkRow : OpenClaim := { program := "ytagnjfidcifcdaa", sum := "30ccd4e70f2b60a3f978b29005ab008cb8440ffba29d96cca12c4ccf188d867c", func := "trident/tridentlaw02.RunesWalk", spec := "runesWalk", apart := false }
def RunesWalkSaid : Prop := runesWalkRow.holds Try.pinned (OpenSpec.ofChange runesWalkSpec)

/-- ITS FALSE NEIGHBOUR: 'it returns false'. Refute it at one input. -/
def runesWalkWrong : ChangeSpec := { name := "runesWalk", fn := fun _ => fun
  | [d] => { results := [.lit (.bool false)], args := [d] }
  | _ => none }
def RunesWalkWrongFalsely : Prop := runesWalkRow.holds Try.pinned (OpenSpec.ofChange runesWalkWrong)

/- THE SECOND FORM. 'bulk': how many values and letters a reading holds, each counted each time it is reached (what is shared counts as often as it is met; a slice's spare places count too). A statement '..UptoSaid' is the law's where the arguments, and the package variables that the reading takes, are together of bulk at most 1048576: NARROWER than '..Said'. Prove '..Said' where nothing that the law and all that it calls make is longer than what came in: it says more and counts as full. Else prove '..UptoSaid'. A law counts once. -/
mutual
def uptoBulk {H : Type} : DataW H → Nat
  | .lit (.string bytes) => bytes.length + 1
  | .lit _ => 1
  | .nil => 1
  | .ptr d => uptoBulk d + 1
  | .slice elems spare => uptoBulkAll elems + uptoBulkAll spare + 1
  | .agg parts => uptoBulkAll parts + 1
  | .iface _ d => uptoBulk d + 1
  | .map entries => uptoBulkEntries entries + 1
  | .held _ => 1
def uptoBulkAll {H : Type} : List (DataW H) → Nat
  | [] => 0
  | d :: r => uptoBulk d + uptoBulkAll r
def uptoBulkEntries {H : Type} : List (Lit × DataW H) → Nat
  | [] => 0
  | x :: r => uptoBulkEntry x + uptoBulkEntries r
def uptoBulkEntry {H : Type} : Lit × DataW H → Nat
  | (.string bytes, d) => bytes.length + uptoBulk d + 1
  | (_, d) => uptoBulk d + 1
 end
def uptoSmall : (H : Type) → List (DataW H) → Bool := fun _ ds => decide (uptoBulkAll ds ≤ 1048576)
def OpenSpec.upto (s : _root_.Go.ChangeSpec) : _root_.Go.OpenSpec := { _root_.Go.OpenSpec.ofChange s with cond := some uptoSmall }

/-- 'tridentlaw02.RunesAt', WHERE WHAT IT READS IS OF BULK AT MOST 1048576: true; the input reads as it did. -/
def runesAtUptoRow : OpenClaim := { program := "ytagnjfidcifcdaa", sum := "30ccd4e70f2b60a3f978b29005ab008cb8440ffba29d96cca12c4ccf188d867c", func := "trident/tridentlaw02.RunesAt", spec := "runesAt", apart := false, narrowed := true }
def RunesAtUptoSaid : Prop := runesAtUptoRow.holds Try.pinned (OpenSpec.upto runesAtSpec)

/-- 'tridentlaw02.RunesPlaces', WHERE WHAT IT READS IS OF BULK AT MOST 1048576: true; the input reads as it did. -/
def runesPlacesUptoRow : OpenClaim := { program := "ytagnjfidcifcdaa", sum := "30ccd4e70f2b60a3f978b29005ab008cb8440ffba29d96cca12c4ccf188d867c", func := "trident/tridentlaw02.RunesPlaces", spec := "runesPlaces", apart := false, narrowed := true }
def RunesPlacesUptoSaid : Prop := runesPlacesUptoRow.holds Try.pinned (OpenSpec.upto runesPlacesSpec)

/-- 'tridentlaw02.RunesTells', WHERE WHAT IT READS IS OF BULK AT MOST 1048576: true; the input reads as it did. -/
def runesTellsUptoRow : OpenClaim := { program := "ytagnjfidcifcdaa", sum := "30ccd4e70f2b60a3f978b29005ab008cb8440ffba29d96cca12c4ccf188d867c", func := "trident/tridentlaw02.RunesTells", spec := "runesTells", apart := false, narrowed := true }
def RunesTellsUptoSaid : Prop := runesTellsUptoRow.holds Try.pinned (OpenSpec.upto runesTellsSpec)

/-- 'tridentlaw02.RunesWalk', WHERE WHAT IT READS IS OF BULK AT MOST 1048576: true; the input reads as it did. -/
def runesWalkUptoRow : OpenClaim := { program := "ytagnjfidcifcdaa", sum := "30ccd4e70f2b60a3f978b29005ab008cb8440ffba29d96cca12c4ccf188d867c", func := "trident/tridentlaw02.RunesWalk", spec := "runesWalk", apart := false, narrowed := true }
def RunesWalkUptoSaid : Prop := runesWalkUptoRow.holds Try.pinned (OpenSpec.upto runesWalkSpec)

end Rows
end Go.Proofs.Ytagnjfidcifcdaa
