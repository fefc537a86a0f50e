/-
  Texts Text. No conditions but those that each theorem names.
-/
import Derived.Test.YtjacgcjjdebbbaaGreatQD29
namespace Go.Proofs.YtjacgcjjdebbbaaGreat
open Go.ChangeShapes Go.WideShapes Go.ChangeAt Go.RowKit
set_option linter.unusedVariables false
set_option linter.unusedSimpArgs false
def exL4 : List IV := [⟨1, 1, 0, 0⟩, ⟨1, 2, 0, 0⟩, ⟨7, 0, 0, 0⟩, ⟨10, 0, 0, 0⟩]
def exF (k : Nat) : IV := exL4.getD k ⟨0, 0, 0, 0⟩
theorem ex_check : Ws exF 4 1 0 = (0, 0) := by decide +kernel
theorem mnem1 (y : World) : Calls Tryz.prog 52 #[.int .i64 1] y fun e y' => e = .returned (.string ⟨#[112, 117, 115, 104]⟩) ∧ y = y' := by
 go_enter Tryz.func52, Tryz.ntmps52
 go_wp2
 go_ret
 exact ⟨rfl, rfl⟩
theorem mnem7 (y : World) : Calls Tryz.prog 52 #[.int .i64 7] y fun e y' => e = .returned (.string ⟨#[97, 100, 100]⟩) ∧ y = y' := by
 go_enter Tryz.func52, Tryz.ntmps52
 go_wp2
 go_ret
 exact ⟨rfl, rfl⟩
theorem mnem10 (y : World) : Calls Tryz.prog 52 #[.int .i64 10] y fun e y' => e = .returned (.string ⟨#[112, 111, 119, 101, 114]⟩) ∧ y = y' := by
 go_enter Tryz.func52, Tryz.ntmps52
 go_wp2
 go_ret
 exact ⟨rfl, rfl⟩
theorem line0_is : joinS ([Vq ((0 : Nat) : Int), ⟨#[112, 117, 115, 104]⟩] ++ [Vq 1]) = strOfNums [48, 32, 112, 117, 115, 104, 32, 49] := by decide +kernel
theorem line1_is : joinS ([Vq ((1 : Nat) : Int), ⟨#[112, 117, 115, 104]⟩] ++ [Vq 2]) = strOfNums [49, 32, 112, 117, 115, 104, 32, 50] := by decide +kernel
theorem line2_is : joinS ([Vq ((2 : Nat) : Int), ⟨#[97, 100, 100]⟩] ++ []) = strOfNums [50, 32, 97, 100, 100] := by decide +kernel
theorem line3_is : joinS ([Vq ((3 : Nat) : Int), ⟨#[112, 111, 119, 101, 114]⟩] ++ [strOfNums [109, 101]]) = strOfNums [51, 32, 112, 111, 119, 101, 114, 32, 109, 101] := by decide +kernel
def exT : Nat → List Int
 | 0 => []
 | 1 => [48, 32, 112, 117, 115, 104, 32, 49, 10]
 | 2 => [48, 32, 112, 117, 115, 104, 32, 49, 10, 49, 32, 112, 117, 115, 104, 32, 50, 10]
 | 3 => [48, 32, 112, 117, 115, 104, 32, 49, 10, 49, 32, 112, 117, 115, 104, 32, 50, 10, 50, 32, 97, 100, 100, 10]
 | _ => [48, 32, 112, 117, 115, 104, 32, 49, 10, 49, 32, 112, 117, 115, 104, 32, 50, 10, 50, 32, 97, 100, 100, 10, 51, 32, 112, 111, 119, 101, 114, 32, 109, 101, 10]
def exU : List UInt8 := [48, 32, 112, 117, 115, 104, 32, 49, 10, 49, 32, 112, 117, 115, 104, 32, 50, 10, 50, 32, 97, 100, 100, 10, 51, 32, 112, 111, 119, 101, 114, 32, 109, 101, 10]
theorem exU_is : exT 4 = exU.map fun x => (x.toNat : Int) := by decide +kernel
theorem bd_lies : liesAt Tryz.prog Tryz.prog.depth 77 ((([] : List Value).length + 2) / Tryz.prog.cellsOf 77) 0 77 1 = true := by kernel_rfl
structure TxR (w : World) (PV : Array Value) (gb : Nat) (k : Nat) (a v : Value) (x : World) : Prop where
 bd : Bldr 77 [] w.heap.size x gb a v (exT k)
 lt : w.heap.size < gb
 box : Zb x w.heap.size 27 PV
 below : Below w.heap.size w x
 far : v.ownBlock ≠ some w.heap.size
theorem TxR.next {w x y : World} {PV : Array Value} {gb k : Nat} {a v : Value} (h : TxR w PV gb k a v x) (hb : Below x.heap.size x y) : TxR w PV gb k a v y :=
 ⟨h.bd.below hb, h.lt, h.box.below hb h.box.inside, h.below.trans (hb.mono h.below.size), h.far⟩
theorem TxR.write {w x y : World} {PV : Array Value} {gb k k2 : Nat} {a v a2 v2 : Value} (h : TxR w PV gb k a v x) (hb : Bldr 77 [] w.heap.size y gb a2 v2 (exT k2)) (hs : Yv gb v x v2 y) : TxR w PV gb k2 a2 v2 y := by
 have hlt := h.lt
 refine ⟨hb, hlt, hs.keeps.whole h.box (fun c => c.elim (by omega) h.far), h.below.trans (hs.keeps.below h.below.size (fun q hq => ?_)), fun c => ?_⟩
 · rcases hq with rfl | c
   · omega
   · exact (h.bd.row.lt q c).1
 · rcases hs.fresh _ c with e | e
   · exact h.far e
   · have := h.box.inside; omega
theorem TxR.lineAt {w : World} {cg sg cc sd : Nat} {k : Nat} {a v : Value} {x : World} {sdd wh ln pk : Int} {fv : Value} (hfv : fv.oneCell' = true) (hI : Vx w (some ⟨cg, 0, none⟩) 4 exF) (hsg : sg < w.heap.size) (hr : w.rangeAt sg 0 [.int .i64 1, .int .i64 sdd, .int .i64 wh, .int .i64 ln, fv, .int .i64 pk]) (hk : k < 4) (hb : Below w.heap.size w x) :
   Calls Tryz.prog 29 #[Vf (some ⟨cg, 0, none⟩) (some ⟨sg, 0, none⟩) none 4 1 0 cc sd 0, .int .i64 (k : Int)] x fun e w' => e = .returned (.string (strOfNums (match k with | 0 => [48, 32, 112, 117, 115, 104, 32, 49] | 1 => [49, 32, 112, 117, 115, 104, 32, 50] | 2 => [50, 32, 97, 100, 100] | _ => [51, 32, 112, 111, 119, 101, 114, 32, 109, 101]))) ∧ Below x.heap.size x w' := by
 have hI' := hI.below hb
 have hsg' : sg < x.heap.size := Nat.lt_of_lt_of_le hsg hb.size
 have hr' := Vn (Zg.of_below (S := fun _ => False) hb) hsg (fun h => h) hr
 match k, hk with
 | 0, _ =>
   have h := lLine x (some ⟨cg, 0, none⟩) (some ⟨sg, 0, none⟩) none 4 1 0 cc sd 0 0 exF hI' (by omega) (by omega) ⟨#[112, 117, 115, 104]⟩ [Vq 1] (by simp) (by rw [line0_is]; decide +kernel) (mnem1) (fun y p v hl hby => oPush x.heap.size _ _ _ _ _ _ _ _ _ 1 0 0 y p v _ hl (by simp) hby.size (by decide) (by decide))
   rw [line0_is] at h; exact h
 | 1, _ =>
   have h := lLine x (some ⟨cg, 0, none⟩) (some ⟨sg, 0, none⟩) none 4 1 0 cc sd 0 1 exF hI' (by omega) (by omega) ⟨#[112, 117, 115, 104]⟩ [Vq 2] (by simp) (by rw [line1_is]; decide +kernel) (mnem1) (fun y p v hl hby => oPush x.heap.size _ _ _ _ _ _ _ _ _ 2 0 0 y p v _ hl (by simp) hby.size (by decide) (by decide))
   rw [line1_is] at h; exact h
 | 2, _ =>
   have h := lLine x (some ⟨cg, 0, none⟩) (some ⟨sg, 0, none⟩) none 4 1 0 cc sd 0 2 exF hI' (by omega) (by omega) ⟨#[97, 100, 100]⟩ [] (by simp) (by rw [line2_is]; decide +kernel) (mnem7) (fun y p v hl hby => oAdd x.heap.size _ _ _ _ _ _ _ _ _ 0 0 0 y p v _ hl)
   rw [line2_is] at h; exact h
 | 3, _ =>
   have h := lLine x (some ⟨cg, 0, none⟩) (some ⟨sg, 0, none⟩) none 4 1 0 cc sd 0 3 exF hI' (by omega) (by omega) ⟨#[112, 111, 119, 101, 114]⟩ [strOfNums [109, 101]] (by simp) (by rw [line3_is]; decide +kernel) (mnem10) (fun y p v hl hby => oPower x.heap.size _ _ _ _ _ _ _ sg 0 0 sdd wh ln pk fv hfv y p v _ hl (by simp) hby.size (Nat.lt_of_lt_of_le hsg' hby.size) (Vn (Zg.of_below (S := fun _ => False) hby) hsg' (fun h => h) hr'))
   rw [line3_is] at h; exact h
end Go.Proofs.YtjacgcjjdebbbaaGreat
