/-
  No cell of these rows narrows 'for every input' (looked for: loops, veiled, ifaces, maps, wideKeys, modest, calm, conditions, laid).
  DERIVED. THE GIVEN ROWS OF THIS SEAT. 8 by the template 'for every input the law returns true; each argument reads behind the call as it read before'; 0 by the template 'total and deterministic' (their statements: YtljdgdphldckhaaGreatTotals.lean).
  GIVEN WITH THE SEED: the statements are not yours to turn. If you find one false, say at which input.
  Laid BY PROGRAM, IN A SANDBOX (cutbox-rows.mjs): the forced cells as the released guide's own fill.sh prints them over the translation be191bbb8cc5a62a… (all of the seat's roots in one cut). By AI agents, Wed Nov 11 2026. No macro, syntax, notation, axiom, sorry.
-/
import Derived.Test.YtljdgdphldckhaaGreatChecked
import GoSem.Claim
import GoSem.ClaimJoined
import GoSem.ClaimMapViews
import Derived.JoinedTies
import Derived.KernelRfl
namespace Go.Proofs.YtljdgdphldckhaaGreat
/- THE CELL 'sum', in the pinned program and in every row, IS THE sha256 OF THE DUMP (.gsa) THAT YtljdgdphldckhaaGreatProg.lean LOADS. Nothing in Lean hashes anything: it is a label: what it is worth is what the hold of that sum in a sandbox is worth. -/
noncomputable def Tryz.pinned : Pinned := { name := "ytljdgdphldckhaagreat", sum := "be191bbb8cc5a62ac4b504d94a78d859468209c2653c15d8e7f32cde974fe24e", checked := Tryz.checked }
namespace Rows
def none {H : Type} : Left H := { results := [], args := [] }

/-- 'tridentlaw12.UnparseFiles': WHATEVER THE INPUT: true; the input reads as it did. -/
def unparseFilesSpec : ChangeSpec := { name := "unparseFiles", fn := fun _ => fun
  | [d] => { results := [.lit (.bool true)], args := [d] }
  | _ => none }
def unparseFilesRow : OpenClaim := { program := "ytljdgdphldckhaagreat", sum := "be191bbb8cc5a62ac4b504d94a78d859468209c2653c15d8e7f32cde974fe24e", func := "trident/tridentlaw12.UnparseFiles", spec := "unparseFiles", inPlace := ["internal/bytealg.IndexByteString", "internal/abi.NoEscape"], unfollowed := true, recurses := true, apart := false }
def UnparseFilesSaid : Prop := unparseFilesRow.holds Tryz.pinned (OpenSpec.ofChange unparseFilesSpec)

/-- ITS FALSE NEIGHBOUR: 'it returns false'. Refute it at one input. -/
def unparseFilesWrong : ChangeSpec := { name := "unparseFiles", fn := fun _ => fun
  | [d] => { results := [.lit (.bool false)], args := [d] }
  | _ => none }
def UnparseFilesWrongFalsely : Prop := unparseFilesRow.holds Tryz.pinned (OpenSpec.ofChange unparseFilesWrong)

/-- 'tridentlaw12.UnparseParts': WHATEVER THE INPUT: true; the input reads as it did. -/
def unparsePartsSpec : ChangeSpec := { name := "unparseParts", fn := fun _ => fun
  | [d1, d2] => { results := [.lit (.bool true)], args := [d1, d2] }
  | _ => none }
def unparsePartsRow : OpenClaim := { program := "ytljdgdphldckhaagreat", sum := "be191bbb8cc5a62ac4b504d94a78d859468209c2653c15d8e7f32cde974fe24e", func := "trident/tridentlaw12.UnparseParts", spec := "unparseParts", inPlace := ["internal/bytealg.IndexByteString", "internal/abi.NoEscape"], unfollowed := true, recurses := true, apart := false }
def UnparsePartsSaid : Prop := unparsePartsRow.holds Tryz.pinned (OpenSpec.ofChange unparsePartsSpec)

/-- ITS FALSE NEIGHBOUR: 'it returns false'. Refute it at one input. -/
def unparsePartsWrong : ChangeSpec := { name := "unparseParts", fn := fun _ => fun
  | [d1, d2] => { results := [.lit (.bool false)], args := [d1, d2] }
  | _ => none }
def UnparsePartsWrongFalsely : Prop := unparsePartsRow.holds Tryz.pinned (OpenSpec.ofChange unparsePartsWrong)

/-- 'tridentlaw12.UnparseStrips': WHATEVER THE INPUT: true; the input reads as it did. -/
def unparseStripsSpec : ChangeSpec := { name := "unparseStrips", fn := fun _ => fun
  | [d] => { results := [.lit (.bool true)], args := [d] }
  | _ => none }
def unparseStripsRow : OpenClaim := { program := "ytljdgdphldckhaagreat", sum := "be191bbb8cc5a62ac4b504d94a78d859468209c2653c15d8e7f32cde974fe24e", func := "trident/tridentlaw12.UnparseStrips", spec := "unparseStrips", inPlace := ["internal/bytealg.IndexByteString", "internal/abi.NoEscape"], unfollowed := true, recurses := true, apart := false }
def UnparseStripsSaid : Prop := unparseStripsRow.holds Tryz.pinned (OpenSpec.ofChange unparseStripsSpec)

/-- ITS FALSE NEIGHBOUR: 'it returns false'. Refute it at one input. -/
def unparseStripsWrong : ChangeSpec := { name := "unparseStrips", fn := fun _ => fun
  | [d] => { results := [.lit (.bool false)], args := [d] }
  | _ => none }
def UnparseStripsWrongFalsely : Prop := unparseStripsRow.holds Tryz.pinned (OpenSpec.ofChange unparseStripsWrong)

/-- 'tridentlaw12.UnparseBack': WHATEVER THE INPUT: true; the input reads as it did. -/
def unparseBackSpec : ChangeSpec := { name := "unparseBack", fn := fun _ => fun
  | [d] => { results := [.lit (.bool true)], args := [d] }
  | _ => none }
def unparseBackRow : OpenClaim := { program := "ytljdgdphldckhaagreat", sum := "be191bbb8cc5a62ac4b504d94a78d859468209c2653c15d8e7f32cde974fe24e", func := "trident/tridentlaw12.UnparseBack", spec := "unparseBack", inPlace := ["internal/bytealg.IndexByteString", "internal/abi.NoEscape"], unfollowed := true, recurses := true, apart := false }
def UnparseBackSaid : Prop := unparseBackRow.holds Tryz.pinned (OpenSpec.ofChange unparseBackSpec)

/-- ITS FALSE NEIGHBOUR: 'it returns false'. Refute it at one input. -/
def unparseBackWrong : ChangeSpec := { name := "unparseBack", fn := fun _ => fun
  | [d] => { results := [.lit (.bool false)], args := [d] }
  | _ => none }
def UnparseBackWrongFalsely : Prop := unparseBackRow.holds Tryz.pinned (OpenSpec.ofChange unparseBackWrong)

/-- 'tridentlaw13.LintChecks': WHATEVER THE INPUT: true; the input reads as it did. -/
def lintChecksSpec : ChangeSpec := { name := "lintChecks", fn := fun _ => fun
  | [d] => { results := [.lit (.bool true)], args := [d] }
  | _ => none }
def lintChecksRow : OpenClaim := { program := "ytljdgdphldckhaagreat", sum := "be191bbb8cc5a62ac4b504d94a78d859468209c2653c15d8e7f32cde974fe24e", func := "trident/tridentlaw13.LintChecks", spec := "lintChecks", inPlace := ["internal/bytealg.IndexByteString", "internal/bytealg.abigen_runtime_cmpstring"], unfollowed := true, recurses := true, apart := false }
def LintChecksSaid : Prop := lintChecksRow.holds Tryz.pinned (OpenSpec.ofChange lintChecksSpec)

/-- ITS FALSE NEIGHBOUR: 'it returns false'. Refute it at one input. -/
def lintChecksWrong : ChangeSpec := { name := "lintChecks", fn := fun _ => fun
  | [d] => { results := [.lit (.bool false)], args := [d] }
  | _ => none }
def LintChecksWrongFalsely : Prop := lintChecksRow.holds Tryz.pinned (OpenSpec.ofChange lintChecksWrong)

/-- 'tridentlaw13.LintParts': WHATEVER THE INPUT: true; the input reads as it did. -/
def lintPartsSpec : ChangeSpec := { name := "lintParts", fn := fun _ => fun
  | [d] => { results := [.lit (.bool true)], args := [d] }
  | _ => none }
def lintPartsRow : OpenClaim := { program := "ytljdgdphldckhaagreat", sum := "be191bbb8cc5a62ac4b504d94a78d859468209c2653c15d8e7f32cde974fe24e", func := "trident/tridentlaw13.LintParts", spec := "lintParts", inPlace := ["internal/bytealg.IndexByteString", "internal/bytealg.abigen_runtime_cmpstring"], unfollowed := true, recurses := true, apart := false }
def LintPartsSaid : Prop := lintPartsRow.holds Tryz.pinned (OpenSpec.ofChange lintPartsSpec)

/-- ITS FALSE NEIGHBOUR: 'it returns false'. Refute it at one input. -/
def lintPartsWrong : ChangeSpec := { name := "lintParts", fn := fun _ => fun
  | [d] => { results := [.lit (.bool false)], args := [d] }
  | _ => none }
def LintPartsWrongFalsely : Prop := lintPartsRow.holds Tryz.pinned (OpenSpec.ofChange lintPartsWrong)

/-- 'tridentlaw13.LintLess': WHATEVER THE INPUT: true; the input reads as it did. -/
def lintLessSpec : ChangeSpec := { name := "lintLess", fn := fun _ => fun
  | [d] => { results := [.lit (.bool true)], args := [d] }
  | _ => none }
def lintLessRow : OpenClaim := { program := "ytljdgdphldckhaagreat", sum := "be191bbb8cc5a62ac4b504d94a78d859468209c2653c15d8e7f32cde974fe24e", func := "trident/tridentlaw13.LintLess", spec := "lintLess", inPlace := ["internal/bytealg.IndexByteString", "internal/bytealg.abigen_runtime_cmpstring"], unfollowed := true, recurses := true, apart := false }
def LintLessSaid : Prop := lintLessRow.holds Tryz.pinned (OpenSpec.ofChange lintLessSpec)

/-- ITS FALSE NEIGHBOUR: 'it returns false'. Refute it at one input. -/
def lintLessWrong : ChangeSpec := { name := "lintLess", fn := fun _ => fun
  | [d] => { results := [.lit (.bool false)], args := [d] }
  | _ => none }
def LintLessWrongFalsely : Prop := lintLessRow.holds Tryz.pinned (OpenSpec.ofChange lintLessWrong)

/-- 'tridentlaw18.AtlasPlays': WHATEVER THE INPUT: true; the input reads as it did. -/
def atlasPlaysSpec : ChangeSpec := { name := "atlasPlays", fn := fun _ => fun
  | [d] => { results := [.lit (.bool true)], args := [d] }
  | _ => none }
def atlasPlaysRow : OpenClaim := { program := "ytljdgdphldckhaagreat", sum := "be191bbb8cc5a62ac4b504d94a78d859468209c2653c15d8e7f32cde974fe24e", func := "trident/tridentlaw18.AtlasPlays", spec := "atlasPlays", inPlace := ["internal/bytealg.IndexByteString", "internal/bytealg.abigen_runtime_cmpstring", "internal/abi.NoEscape"], unfollowed := true, recurses := true, apart := false }
def AtlasPlaysSaid : Prop := atlasPlaysRow.holds Tryz.pinned (OpenSpec.ofChange atlasPlaysSpec)

/-- ITS FALSE NEIGHBOUR: 'it returns false'. Refute it at one input. -/
def atlasPlaysWrong : ChangeSpec := { name := "atlasPlays", fn := fun _ => fun
  | [d] => { results := [.lit (.bool false)], args := [d] }
  | _ => none }
def AtlasPlaysWrongFalsely : Prop := atlasPlaysRow.holds Tryz.pinned (OpenSpec.ofChange atlasPlaysWrong)

/- THE SECOND FORM. 'bulk': how many values and letters a reading holds, each counted each time it is reached (what is shared counts as often as it is met; a slice's spare places count too). A statement '..UptoSaid' is the law's where the arguments, and the package variables that the reading takes, are together of bulk at most 1048576: NARROWER than '..Said'. Prove '..Said' where nothing that the law and all that it calls make is longer than what came in: it says more and counts as full. Else prove '..UptoSaid'. A law counts once. -/
mutual
def uptoBulk {H : Type} : DataW H → Nat
  | .lit (.string bytes) => bytes.length + 1
  | .lit _ => 1
  | .nil => 1
  | .ptr d => uptoBulk d + 1
  | .slice elems spare => uptoBulkAll elems + uptoBulkAll spare + 1
  | .agg parts => uptoBulkAll parts + 1
  | .iface _ d => uptoBulk d + 1
  | .map entries => uptoBulkEntries entries + 1
  | .held _ => 1
def uptoBulkAll {H : Type} : List (DataW H) → Nat
  | [] => 0
  | d :: r => uptoBulk d + uptoBulkAll r
def uptoBulkEntries {H : Type} : List (Lit × DataW H) → Nat
  | [] => 0
  | x :: r => uptoBulkEntry x + uptoBulkEntries r
def uptoBulkEntry {H : Type} : Lit × DataW H → Nat
  | (.string bytes, d) => bytes.length + uptoBulk d + 1
  | (_, d) => uptoBulk d + 1
 end
def uptoSmall : (H : Type) → List (DataW H) → Bool := fun _ ds => decide (uptoBulkAll ds ≤ 1048576)
def OpenSpec.upto (s : _root_.Go.ChangeSpec) : _root_.Go.OpenSpec := { _root_.Go.OpenSpec.ofChange s with cond := some uptoSmall }

/-- 'tridentlaw12.UnparseFiles', WHERE WHAT IT READS IS OF BULK AT MOST 1048576: true; the input reads as it did. -/
def unparseFilesUptoRow : OpenClaim := { program := "ytljdgdphldckhaagreat", sum := "be191bbb8cc5a62ac4b504d94a78d859468209c2653c15d8e7f32cde974fe24e", func := "trident/tridentlaw12.UnparseFiles", spec := "unparseFiles", inPlace := ["internal/bytealg.IndexByteString", "internal/abi.NoEscape"], unfollowed := true, recurses := true, apart := false, narrowed := true }
def UnparseFilesUptoSaid : Prop := unparseFilesUptoRow.holds Tryz.pinned (OpenSpec.upto unparseFilesSpec)

/-- 'tridentlaw12.UnparseParts', WHERE WHAT IT READS IS OF BULK AT MOST 1048576: true; the input reads as it did. -/
def unparsePartsUptoRow : OpenClaim := { program := "ytljdgdphldckhaagreat", sum := "be191bbb8cc5a62ac4b504d94a78d859468209c2653c15d8e7f32cde974fe24e", func := "trident/tridentlaw12.UnparseParts", spec := "unparseParts", inPlace := ["internal/bytealg.IndexByteString", "internal/abi.NoEscape"], unfollowed := true, recurses := true, apart := false, narrowed := true }
def UnparsePartsUptoSaid : Prop := unparsePartsUptoRow.holds Tryz.pinned (OpenSpec.upto unparsePartsSpec)

/-- 'tridentlaw12.UnparseStrips', WHERE WHAT IT READS IS OF BULK AT MOST 1048576: true; the input reads as it did. -/
def unparseStripsUptoRow : OpenClaim := { program := "ytljdgdphldckhaagreat", sum := "be191bbb8cc5a62ac4b504d94a78d859468209c2653c15d8e7f32cde974fe24e", func := "trident/tridentlaw12.UnparseStrips", spec := "unparseStrips", inPlace := ["internal/bytealg.IndexByteString", "internal/abi.NoEscape"], unfollowed := true, recurses := true, apart := false, narrowed := true }
def UnparseStripsUptoSaid : Prop := unparseStripsUptoRow.holds Tryz.pinned (OpenSpec.upto unparseStripsSpec)

/-- 'tridentlaw12.UnparseBack', WHERE WHAT IT READS IS OF BULK AT MOST 1048576: true; the input reads as it did. -/
def unparseBackUptoRow : OpenClaim := { program := "ytljdgdphldckhaagreat", sum := "be191bbb8cc5a62ac4b504d94a78d859468209c2653c15d8e7f32cde974fe24e", func := "trident/tridentlaw12.UnparseBack", spec := "unparseBack", inPlace := ["internal/bytealg.IndexByteString", "internal/abi.NoEscape"], unfollowed := true, recurses := true, apart := false, narrowed := true }
def UnparseBackUptoSaid : Prop := unparseBackUptoRow.holds Tryz.pinned (OpenSpec.upto unparseBackSpec)

/-- 'tridentlaw13.LintChecks', WHERE WHAT IT READS IS OF BULK AT MOST 1048576: true; the input reads as it did. -/
def lintChecksUptoRow : OpenClaim := { program := "ytljdgdphldckhaagreat", sum := "be191bbb8cc5a62ac4b504d94a78d859468209c2653c15d8e7f32cde974fe24e", func := "trident/tridentlaw13.LintChecks", spec := "lintChecks", inPlace := ["internal/bytealg.IndexByteString", "internal/bytealg.abigen_runtime_cmpstring"], unfollowed := true, recurses := true, apart := false, narrowed := true }
def LintChecksUptoSaid : Prop := lintChecksUptoRow.holds Tryz.pinned (OpenSpec.upto lintChecksSpec)

/-- 'tridentlaw13.LintParts', WHERE WHAT IT READS IS OF BULK AT MOST 1048576: true; the input reads as it did. -/
def lintPartsUptoRow : OpenClaim := { program := "ytljdgdphldckhaagreat", sum := "be191bbb8cc5a62ac4b504d94a78d859468209c2653c15d8e7f32cde974fe24e", func := "trident/tridentlaw13.LintParts", spec := "lintParts", inPlace := ["internal/bytealg.IndexByteString", "internal/bytealg.abigen_runtime_cmpstring"], unfollowed := true, recurses := true, apart := false, narrowed := true }
def LintPartsUptoSaid : Prop := lintPartsUptoRow.holds Tryz.pinned (OpenSpec.upto lintPartsSpec)

/-- 'tridentlaw13.LintLess', WHERE WHAT IT READS IS OF BULK AT MOST 1048576: true; the input reads as it did. -/
def lintLessUptoRow : OpenClaim := { program := "ytljdgdphldckhaagreat", sum := "be191bbb8cc5a62ac4b504d94a78d859468209c2653c15d8e7f32cde974fe24e", func := "trident/tridentlaw13.LintLess", spec := "lintLess", inPlace := ["internal/bytealg.IndexByteString", "internal/bytealg.abigen_runtime_cmpstring"], unfollowed := true, recurses := true, apart := false, narrowed := true }
def LintLessUptoSaid : Prop := lintLessUptoRow.holds Tryz.pinned (OpenSpec.upto lintLessSpec)

/-- 'tridentlaw18.AtlasPlays', WHERE WHAT IT READS IS OF BULK AT MOST 1048576: true; the input reads as it did. -/
def atlasPlaysUptoRow : OpenClaim := { program := "ytljdgdphldckhaagreat", sum := "be191bbb8cc5a62ac4b504d94a78d859468209c2653c15d8e7f32cde974fe24e", func := "trident/tridentlaw18.AtlasPlays", spec := "atlasPlays", inPlace := ["internal/bytealg.IndexByteString", "internal/bytealg.abigen_runtime_cmpstring", "internal/abi.NoEscape"], unfollowed := true, recurses := true, apart := false, narrowed := true }
def AtlasPlaysUptoSaid : Prop := atlasPlaysUptoRow.holds Tryz.pinned (OpenSpec.upto atlasPlaysSpec)

end Rows
end Go.Proofs.YtljdgdphldckhaaGreat
