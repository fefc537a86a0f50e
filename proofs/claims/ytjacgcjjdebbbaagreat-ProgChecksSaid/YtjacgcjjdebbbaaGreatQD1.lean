/-
  Texts Own, Blk, Keeps, Ret, Two, Base, Laid. No conditions but those that each theorem names.
-/
import Derived.Below
import Derived.Laws.OwnMore
import Derived.Maps.AppendAt
import Derived.OwnWalk
import Derived.Deep.QuietTactic
import Derived.Laws.Rows
import Derived.Calls
import Derived.Laws.Strings
import Derived.Laws.Strings2
import Derived.Test.YtjacgcjjdebbbaaGreatRows
import Derived.WalkKit
import Derived.ProofKit
import Derived.WalkLawsBesides
import Derived.Outline
import Derived.OpenShut
import Derived.Lib.Hide
import Derived.Deep.Draws
import Derived.Deep.OwnRows
namespace Go.Proofs.YtjacgcjjdebbbaaGreat
open Go Go.RowKit
theorem Hh {p : Prop} (h : p) : Hid p := Lib.hid h
def Cells (w : World) (B : Nat) (A : Option Addr) (cs : List Value) : Prop :=
 cs = [] ∨ ∃ g off, A = some ⟨g, off, none⟩ ∧ g < B ∧ ∀ j, j < cs.length → w.cell? ⟨g, off + j, none⟩ = cs[j]?
theorem Cells.same {w w' : World} {B : Nat} {A : Option Addr} {cs : List Value} (h : Cells w B A cs) (hs : ∀ k, k < B → w'.heap[k]? = w.heap[k]?) : Cells w' B A cs := by
 rcases h with h | ⟨g, off, rfl, hg, hc⟩
 · exact .inl h
 · exact .inr ⟨g, off, rfl, hg, fun j hj => (World.cell?_of_block (w := w) (a := ⟨g, off + j, none⟩) (hs g hg)).trans (hc j hj)⟩
theorem Cells.below {w w' : World} {B : Nat} {A : Option Addr} {cs : List Value} (h : Cells w B A cs) (hb : Below B w w') : Cells w' B A cs := h.same hb.block
theorem Cells.mono {w : World} {B B' : Nat} {A : Option Addr} {cs : List Value} (h : Cells w B A cs) (hB : B ≤ B') : Cells w B' A cs := by
 rcases h with h | ⟨g, off, rfl, hg, hc⟩
 · exact .inl h
 · exact .inr ⟨g, off, rfl, by omega, hc⟩
theorem Cells.alloc {w : World} {B : Nat} {A : Option Addr} {cs : List Value} (h : Cells w B A cs) (hB : B ≤ w.heap.size) (o : Obj) : Cells (w.alloc o) B A cs :=
 h.same fun k hk => Below.heap_alloc w o k (by omega)
theorem Cells.at_ {w : World} {B : Nat} {A : Option Addr} {cs : List Value} (h : Cells w B A cs) (hn : 0 < cs.length) : ∃ g off, A = some ⟨g, off, none⟩ ∧ g < B ∧ ∀ j, j < cs.length → w.cell? ⟨g, off + j, none⟩ = cs[j]? := by
 rcases h with h | h
 · rw [h] at hn; simp at hn
 · exact h
theorem Xn {w : World} {base : Nat} {e : TypeId} {size : Nat} {v : Value} {n : Nat} {xs : List Value} (h : w.ownsRow base e size v n xs) :
   ∃ A c, v = .slice A n c ∧ n ≤ c ∧ c ≤ maxLen ∧ Cells w w.heap.size A xs := by
 obtain ⟨h1, h2⟩ := id h
 rcases h2 with ⟨rfl, rfl⟩ | ⟨g, cap, cur, rfl, hb, hh, hn, hm, hs, ht⟩
 · exact ⟨none, 0, rfl, by omega, by unfold maxLen; omega, .inl (List.eq_nil_of_length_eq_zero (by simpa using h1))⟩
 · refine ⟨_, cap, rfl, hn, hm, .inr ⟨g, 0, rfl, (h.lt g rfl).2, fun j hj => ?_⟩⟩
   rw [Nat.zero_add]
   exact World.ownsRow.cellAt h j (by omega)
def Vy (a b : Value) : Prop := ∀ k, a.ownBlock = some k → b.ownBlock ≠ some k
theorem Vy.symm {a b : Value} (h : Vy a b) : Vy b a := fun k hb ha => h k ha hb
theorem Vy.nil (b : Value) : Vy (.slice none 0 0) b := fun k h => by simp [Value.ownBlock] at h
theorem Vy.grown {a v v' : Value} {w : World} {base : Nat} {e : TypeId} {size n : Nat} {xs : List Value} {H : Nat} (h : Vy a v) (ha : w.ownsRow base e size a n xs) (hH : w.heap.size ≤ H)
   (hat : v'.ownBlock = v.ownBlock ∨ v'.ownBlock = some H) : Vy a v' := by
 intro k hk
 rcases hat with e | e
 · rw [e]; exact h k hk
 · rw [e]
   have := (ha.lt k hk).2
   intro c; injection c with c; omega
theorem own_mono {w : World} {base base' : Nat} {e : TypeId} {size : Nat} {v : Value} {n : Nat} {xs : List Value} (h : w.ownsRow base e size v n xs) (hb : base' ≤ base) : w.ownsRow base' e size v n xs := by
 obtain ⟨h1, h2⟩ := h
 refine ⟨h1, ?_⟩
 rcases h2 with h2 | ⟨g, cap, cur, hv, hg, r⟩
 · exact .inl h2
 · exact .inr ⟨g, cap, cur, hv, by omega, r⟩
theorem Xr {w w' : World} {base : Nat} {e : TypeId} {size : Nat} {v : Value} {n : Nat} {xs : List Value} (h : w.ownsRow base e size v n xs) (hb : Below w.heap.size w w') : w'.ownsRow base e size v n xs := by
 obtain ⟨h1, h2⟩ := id h
 refine ⟨h1, ?_⟩
 rcases h2 with h2 | ⟨g, cap, cur, hv, hg, hh, r⟩
 · exact .inl h2
 · refine .inr ⟨g, cap, cur, hv, hg, ?_, r⟩
   rw [hb.block g ((h.lt g (by rw [hv]; rfl)).2)]
   exact hh
theorem below_push {B : Nat} {w0 w w' : World} {v : Value} {base : Nat} {e : TypeId} {size n : Nat} {xs : List Value} (h : Below B w0 w) (hown : w.ownsRow base e size v n xs) (hg : w.grownBy w' v.ownBlock) (hB : B ≤ base) (hs : B ≤ w.heap.size) : Below B w0 w' :=
 h.grown hg hs (fun k hk => by have := hown.lt k hk; omega)
theorem Xq {w b c : World} (h : Below w.heap.size w b) (k : Below b.heap.size b c) : Below w.heap.size w c := h.trans (k.mono h.size)
theorem below_drew1 {B : Nat} {a w : World} (h : Below B a w) : Below B a w.drew := ⟨h.os, h.tape, h.output, h.size, h.block⟩
theorem Wt {B : Nat} {a w : World} (h : Below B a w) (n : Nat) : Below B a (w.drewN n) := ⟨h.os, h.tape, h.output, h.size, h.block⟩
theorem Yk {w x : World} (h : Below w.heap.size w x) (o : Obj) : Below w.heap.size w (x.alloc o) := h.alloc h.size o
def Zb (w : World) (g : Nat) (t : TypeId) (cs : Array Value) : Prop := w.heap[g]? = some (.cells cs t (0, 0))
theorem Zb.inside {w : World} {g : Nat} {t : TypeId} {cs : Array Value} (h : Zb w g t cs) : g < w.heap.size := by
 apply Nat.lt_of_not_le
 intro c
 have e : w.heap[g]? = none := Array.getElem?_eq_none c
 unfold Zb at h
 rw [e] at h
 cases h
theorem Zb.read {w : World} {g : Nat} {t : TypeId} {cs : Array Value} (h : Zb w g t cs) (i : Nat) : w.cell? ⟨g, i, none⟩ = cs[i]? := cell_of_row w g i cs t (0, 0) h
theorem Zb.thawed {w : World} {g : Nat} {t : TypeId} {cs : Array Value} (h : Zb w g t cs) (i : Nat) : w.frozen? ⟨g, i, none⟩ = false := by
 have e : w.heap[g]? = some (.cells cs t (0, 0)) := h
 simp [World.frozen?, e]
theorem Zb.made (w : World) (t : TypeId) (cs : Array Value) : Zb (w.alloc (.cells cs t)) w.heap.size t cs := heap_alloc_new w _
theorem Zb.alloc {w : World} {g : Nat} {t : TypeId} {cs : Array Value} (h : Zb w g t cs) (o : Obj) : Zb (w.alloc o) g t cs := by
 unfold Zb
 rw [Below.heap_alloc w o g h.inside]
 exact h
theorem Zb.write {w : World} {g : Nat} {t : TypeId} {cs : Array Value} (h : Zb w g t cs) (i : Nat) (u : Value) : Zb (w.setCell ⟨g, i, none⟩ u) g t (cs.setIfInBounds i u) :=
 heap_setCell_same w g i cs t u h
theorem Zb.aside {w : World} {g : Nat} {t : TypeId} {cs : Array Value} (h : Zb w g t cs) {p : Addr} (hp : g ≠ p.block) (u : Value) : Zb (w.setCell p u) g t cs := by
 unfold Zb
 rw [Below.heap_setCell w p u g hp]
 exact h
theorem Zb.below {w w' : World} {B g : Nat} {t : TypeId} {cs : Array Value} (h : Zb w g t cs) (hb : Below B w w') (hg : g < B) : Zb w' g t cs := by
 unfold Zb
 rw [hb.block g hg]
 exact h
def TailIs (cs : Array Value) (f : Nat) (l : List Int) : Prop := f + l.length = cs.size ∧ ∀ j, j < l.length → cs[f + j]? = some (.int .u8 (l.getD j 0))
theorem TailIs.next {cs : Array Value} {f : Nat} {l : List Int} (h : TailIs cs (f + 1) l) (x : Int) : TailIs (cs.setIfInBounds f (.int .u8 x)) f (x :: l) := by
 obtain ⟨h1, h2⟩ := h
 refine ⟨by rw [Array.size_setIfInBounds, List.length_cons]; omega, fun j hj => ?_⟩
 rw [List.length_cons] at hj
 rw [Array.getElem?_setIfInBounds]
 cases j with
 | zero => rw [if_pos (by omega), if_pos (by omega)]; rfl
 | succ j =>
   rw [if_neg (by omega), show f + (j + 1) = f + 1 + j from by omega, h2 j (by omega)]
   rfl
theorem TailIs.cells {w : World} {g : Nat} {t : TypeId} {cs : Array Value} {f : Nat} {l : List Int} (h : TailIs cs f l) (hw : Zb w g t cs) : ∀ j, j < l.length → w.cell? ⟨g, f + j, none⟩ = some (.int .u8 (l.getD j 0)) := fun j hj => by
 rw [hw.read]; exact h.2 j hj
structure Zg (S : Nat → Prop) (w w' : World) : Prop where
 os : w'.os = w.os
 tape : w'.tape = w.tape
 output : w'.output = w.output
 size : w.heap.size ≤ w'.heap.size
 block : ∀ k, k < w.heap.size → ¬ S k → w'.heap[k]? = w.heap[k]?
theorem Zg.refl (S : Nat → Prop) (w : World) : Zg S w w := ⟨rfl, rfl, rfl, Nat.le_refl _, fun _ _ _ => rfl⟩
theorem Zg.trans {S : Nat → Prop} {a b c : World} (h : Zg S a b) (k : Zg S b c) : Zg S a c :=
 ⟨k.os.trans h.os, k.tape.trans h.tape, k.output.trans h.output, Nat.le_trans h.size k.size, fun i hi hn => (k.block i (Nat.lt_of_lt_of_le hi h.size) hn).trans (h.block i hi hn)⟩
theorem Zg.mono {S T : Nat → Prop} {a b : World} (h : Zg S a b) (hs : ∀ k, S k → T k) : Zg T a b := ⟨h.os, h.tape, h.output, h.size, fun k hk hn => h.block k hk fun c => hn (hs k c)⟩
theorem Zg.of_below {S : Nat → Prop} {a b : World} (h : Below a.heap.size a b) : Zg S a b := ⟨h.os, h.tape, h.output, h.size, fun k hk _ => h.block k hk⟩
theorem Zg.below {S : Nat → Prop} {a b : World} (h : Zg S a b) {B : Nat} (hB : B ≤ a.heap.size) (hs : ∀ k, S k → B ≤ k) : Below B a b :=
 ⟨h.os, h.tape, h.output, h.size, fun k hk => h.block k (by omega) fun c => by have := hs k c; omega⟩
theorem Zg.setCell {S : Nat → Prop} {a b : World} (h : Zg S a b) {p : Addr} (hp : S p.block) (u : Value) : Zg S a (b.setCell p u) :=
 h.trans ⟨rfl, rfl, rfl, by simp [World.setCell], fun k _ hn => Below.heap_setCell _ _ _ _ (fun c => hn (c ▸ hp))⟩
theorem Zg.alloc {S : Nat → Prop} {a b : World} (h : Zg S a b) (o : Obj) : Zg S a (b.alloc o) :=
 h.trans ⟨rfl, rfl, rfl, by simp, fun k hk _ => Below.heap_alloc _ _ _ hk⟩
theorem Zg.drew {S : Nat → Prop} {a b : World} (h : Zg S a b) : Zg S a b.drew := ⟨h.os, h.tape, h.output, h.size, h.block⟩
theorem Zg.grown {S : Nat → Prop} {a b c : World} (h : Zg S a b) {row : Option Nat} (hg : b.grownBy c row) (hr : ∀ k, row = some k → S k) : Zg S a c :=
 h.trans ⟨hg.os, hg.tape, hg.output, hg.size, fun k hk hn => hg.block k hk fun c => hn (hr k c.symm)⟩
theorem Zg.whole {S : Nat → Prop} {a b : World} (h : Zg S a b) {g : Nat} {t : TypeId} {cs : Array Value} (hw : Zb a g t cs) (hg : ¬ S g) : Zb b g t cs := by
 unfold Zb
 rw [h.block g hw.inside hg]
 exact hw
theorem Zg.owns {S : Nat → Prop} {a b : World} (h : Zg S a b) {base : Nat} {e : TypeId} {size : Nat} {v : Value} {n : Nat} {xs : List Value} (ho : a.ownsRow base e size v n xs) (hv : ∀ k, v.ownBlock = some k → ¬ S k) : b.ownsRow base e size v n xs := by
 obtain ⟨h1, h2⟩ := id ho
 refine ⟨h1, ?_⟩
 rcases h2 with h2 | ⟨g, cap, cur, rfl, hg, hh, r⟩
 · exact .inl h2
 · refine .inr ⟨g, cap, cur, rfl, hg, ?_, r⟩
   rw [h.block g (ho.lt g rfl).2 (hv g rfl)]
   exact hh
theorem grown_whole {w w' : World} {row : Option Nat} (hg : w.grownBy w' row) {g : Nat} {t : TypeId} {cs : Array Value} (hw : Zb w g t cs) (hn : row ≠ some g) : Zb w' g t cs := by
 unfold Zb
 rw [hg.block g hw.inside (fun c => hn c.symm)]
 exact hw
theorem Yx {w : World} {base : Nat} {e : TypeId} {size : Nat} {v : Value} {n : Nat} {xs : List Value} (h : w.ownsRow base e size v n xs) {p : Addr} (hp : v.ownBlock ≠ some p.block) (u : Value) : (w.setCell p u).ownsRow base e size v n xs :=
 (Zg.setCell (S := fun k => k = p.block) (Zg.refl _ w) rfl u).owns h fun k hk c => hp (by rw [hk, c])
end Go.Proofs.YtjacgcjjdebbbaaGreat
namespace Go.Proofs.YtjacgcjjdebbbaaGreat
open Go
theorem rI {k : IntKind} {a b : Int} (h : a = b) : Ending.returned (.int k a) = .returned (.int k b) := by rw [h]
theorem rB {a b : Bool} (h : a = b) : Ending.returned (.bool a) = .returned (.bool b) := by rw [h]
theorem rS {a b : ByteArray} (h : a = b) : Ending.returned (.string a) = .returned (.string b) := by rw [h]
theorem rV {a b : Value} (h : a = b) : Ending.returned a = .returned b := by rw [h]
end Go.Proofs.YtjacgcjjdebbbaaGreat
namespace Go.Proofs.YtjacgcjjdebbbaaGreat
open Go Go.RowKit
theorem whole2 {w : World} {g : Nat} {t : TypeId} {a b : Value} (h : Zb w g t #[a, b]) : w.cell? ⟨g, 0, none⟩ = some a ∧ w.cell? ⟨g, 1, none⟩ = some b ∧ w.frozen? ⟨g, 0, none⟩ = false ∧ w.frozen? ⟨g, 1, none⟩ = false :=
 ⟨by rw [h.read]; rfl, by rw [h.read]; rfl, h.thawed 0, h.thawed 1⟩
theorem Zq {w : World} {g : Nat} {t : TypeId} {a b c : Value} (h : Zb w g t #[a, b, c]) : w.cell? ⟨g, 0, none⟩ = some a ∧ w.cell? ⟨g, 1, none⟩ = some b ∧ w.cell? ⟨g, 2, none⟩ = some c ∧
   w.frozen? ⟨g, 0, none⟩ = false ∧ w.frozen? ⟨g, 1, none⟩ = false ∧ w.frozen? ⟨g, 2, none⟩ = false :=
 ⟨by rw [h.read]; rfl, by rw [h.read]; rfl, by rw [h.read]; rfl, h.thawed 0, h.thawed 1, h.thawed 2⟩
structure Two (w : World) (t : TypeId) (cs : Array Value) (u : TypeId) (ds : Array Value) (x : World) : Prop where
 k0 : Zb x w.heap.size t cs
 k1 : Zb x (w.heap.size + 1) u ds
 below : Below w.heap.size w x
theorem Two.start (w : World) (t : TypeId) (cs : Array Value) (u : TypeId) (ds : Array Value) : Two w t cs u ds ((w.alloc (.cells cs t)).alloc (.cells ds u)) := by
 refine ⟨(Zb.made _ _ _).alloc _, ?_, ((Below.refl _ _).alloc (Nat.le_refl _) _).alloc (by simp) _⟩
 have := Zb.made (w.alloc (.cells cs t)) u ds
 simpa using this
theorem Two.next {w x y : World} {t u : TypeId} {cs ds : Array Value} (h : Two w t cs u ds x) (hb : Below x.heap.size x y) : Two w t cs u ds y :=
 ⟨h.k0.below hb h.k0.inside, h.k1.below hb h.k1.inside, h.below.trans (hb.mono h.below.size)⟩
theorem Two.drew {w x : World} {t u : TypeId} {cs ds : Array Value} (h : Two w t cs u ds x) : Two w t cs u ds x.drew :=
 ⟨h.k0, h.k1, h.below.drew⟩
theorem Two.set1 {w x : World} {t u : TypeId} {cs ds : Array Value} (h : Two w t cs u ds x) (i : Nat) (v : Value) : Two w t cs u (ds.setIfInBounds i v) (x.setCell ⟨w.heap.size + 1, i, none⟩ v) :=
 ⟨h.k0.aside (Nat.ne_of_lt (Nat.lt_succ_self _)) v, h.k1.write i v, h.below.setCell (Nat.le_succ _) v⟩
end Go.Proofs.YtjacgcjjdebbbaaGreat
namespace Go.Proofs.YtjacgcjjdebbbaaGreat
open Go.ChangeShapes Go.WideShapes Go.ChangeAt Go.RowKit
end Go.Proofs.YtjacgcjjdebbbaaGreat
namespace Go.Proofs.YtjacgcjjdebbbaaGreat
open Go Go.RowKit
theorem own_heap {w w' : World} {base : Nat} {e : TypeId} {size : Nat} {v : Value} {n : Nat} {xs : List Value} (h : w.ownsRow base e size v n xs) (he : w'.heap = w.heap) : w'.ownsRow base e size v n xs := by
 unfold World.ownsRow at *
 rw [he]
 exact h
structure Laid (Y wr : World) (o : Obj) : Prop where
 heap : Y.heap = (wr.alloc o).heap
 os : Y.os = wr.os
 tape : Y.tape = wr.tape
 output : Y.output = wr.output
theorem Laid.keeps {S : Nat → Prop} {a Y wr : World} {o : Obj} (l : Laid Y wr o) (h : Zg S a wr) : Zg S a Y := by
 have k := h.alloc o
 exact ⟨l.os.trans h.os, l.tape.trans h.tape, l.output.trans h.output, by rw [l.heap]; exact k.size, fun b h1 h2 => by rw [l.heap]; exact k.block b h1 h2⟩
theorem Laid.whole {Y wr : World} {o : Obj} (l : Laid Y wr o) {g : Nat} {t : TypeId} {cs : Array Value} (h : Zb wr g t cs) : Zb Y g t cs := by
 unfold Zb; rw [l.heap]; exact h.alloc o
theorem Laid.own {Y wr : World} {o : Obj} (l : Laid Y wr o) {base : Nat} {e : TypeId} {size : Nat} {v : Value} {n : Nat} {xs : List Value} (h : wr.ownsRow base e size v n xs) : Y.ownsRow base e size v n xs := own_heap (h.alloc o) l.heap
theorem Laid.size {Y wr : World} {o : Obj} (l : Laid Y wr o) : Y.heap.size = wr.heap.size + 1 := by rw [l.heap]; simp
theorem Laid.far {Y wr w3 : World} {o : Obj} (l : Laid Y wr o) {row : Option Nat} (hg : Y.grownBy w3 row) {p : Addr} (hp : p.block < wr.heap.size) (hn : some p.block ≠ row) : w3.cell? p = wr.cell? p ∧ w3.frozen? p = wr.frozen? p := by
 have h1 := hg.block p.block (by rw [l.size]; omega) hn
 have h2 : Y.heap[p.block]? = wr.heap[p.block]? := by rw [l.heap]; exact Below.heap_alloc wr o p.block hp
 exact ⟨World.cell?_of_block (h1.trans h2), World.frozen?_of_block (h1.trans h2)⟩
theorem Zg.drewN {S : Nat → Prop} {a b : World} (h : Zg S a b) (q : Nat) : Zg S a (b.drewN q) := ⟨h.os, h.tape, h.output, h.size, h.block⟩
theorem Laid.below {Y wr w : World} {o : Obj} (l : Laid Y wr o) {B : Nat} (h : Below B w wr) (hB : B ≤ wr.heap.size) : Below B w Y :=
 ⟨l.os.trans h.os, l.tape.trans h.tape, l.output.trans h.output, by rw [l.size]; have := h.size; omega, fun k hk => by rw [l.heap, Below.heap_alloc wr o k (by omega)]; exact h.block k hk⟩
theorem Laid.grown {Y wr w' : World} {o : Obj} (l : Laid Y wr o) {row : Option Nat} (hg : Y.grownBy w' row) : wr.grownBy w' row :=
 ⟨hg.os.trans l.os, hg.tape.trans l.tape, hg.output.trans l.output, Nat.le_trans (by rw [l.size]; omega) hg.size, fun k hk hn => (hg.block k (by rw [l.size]; omega) hn).trans (by rw [l.heap]; exact Below.heap_alloc wr o k hk)⟩
theorem Zb.drew {w : World} {g : Nat} {t : TypeId} {cs : Array Value} (h : Zb w g t cs) : Zb w.drew g t cs := h
theorem Zb.drewN {w : World} {g : Nat} {t : TypeId} {cs : Array Value} (h : Zb w g t cs) (n : Nat) : Zb (w.drewN n) g t cs := h
end Go.Proofs.YtjacgcjjdebbbaaGreat
