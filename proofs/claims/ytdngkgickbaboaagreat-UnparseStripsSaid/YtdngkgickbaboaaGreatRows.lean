/-
  No cell of these rows narrows 'for every input' (looked for: loops, veiled, ifaces, maps, wideKeys, modest, calm, conditions, laid).
  DERIVED. THE GIVEN ROWS OF THIS SEAT. 2 by the template 'for every input the law returns true; each argument reads behind the call as it read before'; 0 by the template 'total and deterministic' (their statements: YtdngkgickbaboaaGreatTotals.lean).
  GIVEN WITH THE SEED: the statements are not yours to turn. If you find one false, say at which input.
  Laid BY PROGRAM, IN A SANDBOX (cutbox-rows.mjs): the forced cells as the released guide's own fill.sh prints them over the translation cff24f0efecbdc7c… (all of the seat's roots in one cut). By AI agents, Wed Nov 11 2026. No macro, syntax, notation, axiom, sorry.
-/
import Derived.Test.YtdngkgickbaboaaGreatChecked
import GoSem.Claim
import GoSem.ClaimJoined
import GoSem.ClaimMapViews
import Derived.JoinedTies
import Derived.KernelRfl
namespace Go.Proofs.YtdngkgickbaboaaGreat
/- THE CELL 'sum', in the pinned program and in every row, IS THE sha256 OF THE DUMP (.gsa) THAT YtdngkgickbaboaaGreatProg.lean LOADS. Nothing in Lean hashes anything: it is a label: what it is worth is what the hold of that sum in a sandbox is worth. -/
noncomputable def Tryz.pinned : Pinned := { name := "ytdngkgickbaboaagreat", sum := "cff24f0efecbdc7ca17ba169481335ec2fbd73e46169343ca30ef3176aab9289", checked := Tryz.checked }
namespace Rows
def none {H : Type} : Left H := { results := [], args := [] }

/-- 'tridentlaw12.UnparseFiles': WHATEVER THE INPUT: true; the input reads as it did. -/
def unparseFilesSpec : ChangeSpec := { name := "unparseFiles", fn := fun _ => fun
  | [d] => { results := [.lit (.bool true)], args := [d] }
  | _ => none }
def unparseFilesRow : OpenClaim := { program := "ytdngkgickbaboaagreat", sum := "cff24f0efecbdc7ca17ba169481335ec2fbd73e46169343ca30ef3176aab9289", func := "trident/tridentlaw12.UnparseFiles", spec := "unparseFiles", inPlace := ["internal/bytealg.IndexByteString", "internal/abi.NoEscape"], unfollowed := true, recurses := true, apart := false }
def UnparseFilesSaid : Prop := unparseFilesRow.holds Tryz.pinned (OpenSpec.ofChange unparseFilesSpec)

/-- ITS FALSE NEIGHBOUR: 'it returns false'. Refute it at one input. -/
def unparseFilesWrong : ChangeSpec := { name := "unparseFiles", fn := fun _ => fun
  | [d] => { results := [.lit (.bool false)], args := [d] }
  | _ => none }
def UnparseFilesWrongFalsely : Prop := unparseFilesRow.holds Tryz.pinned (OpenSpec.ofChange unparseFilesWrong)

/-- 'tridentlaw12.UnparseStrips': WHATEVER THE INPUT: true; the input reads as it did. -/
def unparseStripsSpec : ChangeSpec := { name := "unparseStrips", fn := fun _ => fun
  | [d] => { results := [.lit (.bool true)], args := [d] }
  | _ => none }
def unparseStripsRow : OpenClaim := { program := "ytdngkgickbaboaagreat", sum := "cff24f0efecbdc7ca17ba169481335ec2fbd73e46169343ca30ef3176aab9289", func := "trident/tridentlaw12.UnparseStrips", spec := "unparseStrips", inPlace := ["internal/bytealg.IndexByteString", "internal/abi.NoEscape"], unfollowed := true, recurses := true, apart := false }
def UnparseStripsSaid : Prop := unparseStripsRow.holds Tryz.pinned (OpenSpec.ofChange unparseStripsSpec)

/-- ITS FALSE NEIGHBOUR: 'it returns false'. Refute it at one input. -/
def unparseStripsWrong : ChangeSpec := { name := "unparseStrips", fn := fun _ => fun
  | [d] => { results := [.lit (.bool false)], args := [d] }
  | _ => none }
def UnparseStripsWrongFalsely : Prop := unparseStripsRow.holds Tryz.pinned (OpenSpec.ofChange unparseStripsWrong)

/- THE SECOND FORM. 'bulk': how many values and letters a reading holds, each counted each time it is reached (what is shared counts as often as it is met; a slice's spare places count too). A statement '..UptoSaid' is the law's where the arguments, and the package variables that the reading takes, are together of bulk at most 1048576: NARROWER than '..Said'. Prove '..Said' where nothing that the law and all that it calls make is longer than what came in: it says more and counts as full. Else prove '..UptoSaid'. A law counts once. -/
mutual
def uptoBulk {H : Type} : DataW H → Nat
  | .lit (.string bytes) => bytes.length + 1
  | .lit _ => 1
  | .nil => 1
  | .ptr d => uptoBulk d + 1
  | .slice elems spare => uptoBulkAll elems + uptoBulkAll spare + 1
  | .agg parts => uptoBulkAll parts + 1
  | .iface _ d => uptoBulk d + 1
  | .map entries => uptoBulkEntries entries + 1
  | .held _ => 1
def uptoBulkAll {H : Type} : List (DataW H) → Nat
  | [] => 0
  | d :: r => uptoBulk d + uptoBulkAll r
def uptoBulkEntries {H : Type} : List (Lit × DataW H) → Nat
  | [] => 0
  | x :: r => uptoBulkEntry x + uptoBulkEntries r
def uptoBulkEntry {H : Type} : Lit × DataW H → Nat
  | (.string bytes, d) => bytes.length + uptoBulk d + 1
  | (_, d) => uptoBulk d + 1
 end
def uptoSmall : (H : Type) → List (DataW H) → Bool := fun _ ds => decide (uptoBulkAll ds ≤ 1048576)
def OpenSpec.upto (s : _root_.Go.ChangeSpec) : _root_.Go.OpenSpec := { _root_.Go.OpenSpec.ofChange s with cond := some uptoSmall }

/-- 'tridentlaw12.UnparseFiles', WHERE WHAT IT READS IS OF BULK AT MOST 1048576: true; the input reads as it did. -/
def unparseFilesUptoRow : OpenClaim := { program := "ytdngkgickbaboaagreat", sum := "cff24f0efecbdc7ca17ba169481335ec2fbd73e46169343ca30ef3176aab9289", func := "trident/tridentlaw12.UnparseFiles", spec := "unparseFiles", inPlace := ["internal/bytealg.IndexByteString", "internal/abi.NoEscape"], unfollowed := true, recurses := true, apart := false, narrowed := true }
def UnparseFilesUptoSaid : Prop := unparseFilesUptoRow.holds Tryz.pinned (OpenSpec.upto unparseFilesSpec)

/-- 'tridentlaw12.UnparseStrips', WHERE WHAT IT READS IS OF BULK AT MOST 1048576: true; the input reads as it did. -/
def unparseStripsUptoRow : OpenClaim := { program := "ytdngkgickbaboaagreat", sum := "cff24f0efecbdc7ca17ba169481335ec2fbd73e46169343ca30ef3176aab9289", func := "trident/tridentlaw12.UnparseStrips", spec := "unparseStrips", inPlace := ["internal/bytealg.IndexByteString", "internal/abi.NoEscape"], unfollowed := true, recurses := true, apart := false, narrowed := true }
def UnparseStripsUptoSaid : Prop := unparseStripsUptoRow.holds Tryz.pinned (OpenSpec.upto unparseStripsSpec)

end Rows
end Go.Proofs.YtdngkgickbaboaaGreat
