/-
  Texts SynB2, SynB3. No conditions but those that each theorem names.
-/
import Derived.RegionTactic
import Derived.Test.YtgfkimknnbpmnaaGreatQB23
namespace Go.Proofs.YtgfkimknnbpmnaaGreat
open Go.ChangeShapes Go.WideShapes Go.ChangeAt Go.RowKit
set_option linter.unusedVariables false
set_option linter.unusedSimpArgs false
def Ca.ds (x : Ca) : Ds := .str x.name (.int x.cost (.int x.power (.int x.line (.int x.col (.row x.rules.length (rusDs x.rules) .nil)))))
def Pl.ds (x : Pl) : Ds := .str x.name (.int x.line (.int x.col (.row x.rules.length (rusDs x.rules) .nil)))
def casDs : List Ca → Ds
 | [] => .nil
 | x :: r => x.ds.app (casDs r)
def plsDs : List Pl → Ds
 | [] => .nil
 | x :: r => x.ds.app (plsDs r)
def Fi.ds (x : Fi) : Ds := .row x.cards.length (casDs x.cards) (.row x.places.length (plsDs x.places) .nil)
structure FileW (w : World) (q c r K : Nat) (L : List TokV) (s : St) (cs : List Ca) (ps : List Pl) (xc xp : List Value) (vc vp : Value) (wr : World) : Prop where
 mv : Xf w wr q c r K L s
 res : Zh wr w.heap.size 26 [.slice none 0 0, .slice none 0 0].toArray
 var : Zh wr (w.heap.size + 1) 26 [vc, vp].toArray
 rc : wr.ownsRow (w.heap.size + 2) 72 6 vc cs.length xc
 rp : wr.ownsRow (w.heap.size + 2) 80 4 vp ps.length xp
 dc : Zq (fun k => w.heap.size + 2 ≤ k ∧ vc.ownBlock ≠ some k ∧ vp.ownBlock ≠ some k) wr (casDs cs) xc
 dp : Zq (fun k => w.heap.size + 2 ≤ k ∧ vc.ownBlock ≠ some k ∧ vp.ownBlock ≠ some k) wr (plsDs ps) xp
 ap : Apart vc vp
 qin : q < w.heap.size
 cin : c < w.heap.size
 rin : r < w.heap.size
theorem FileW.round {w x y : World} {q c r K : Nat} {L : List TokV} {s s' : St} {cs : List Ca} {ps : List Pl} {xc xp : List Value} {vc vp : Value} (h : FileW w q c r K L s cs ps xc xp vc vp x) (f : Fresh q c x y) (m : Xf w y q c r K L s') : FileW w q c r K L s' cs ps xc xp vc vp y := by
 have hq := h.qin
 have hc := h.cin
 have i1 := h.res.inside
 have i2 := h.var.inside
 exact ⟨m, f.whole h.res (by omega), f.whole h.var (by omega), f.owns h.rc (fun k hk c => by have := h.rc.lt k hk; omega), f.owns h.rp (fun k hk c => by have := h.rp.lt k hk; omega),
   h.dc.keeps f (fun k hk hn => ⟨by omega, hn⟩), h.dp.keeps f (fun k hk hn => ⟨by omega, hn⟩), h.ap, hq, hc, h.rin⟩
end Go.Proofs.YtgfkimknnbpmnaaGreat
