/-
  The laws of layer 10: what a text's scan tells, the example, acts that came in, what stands in a round. No conditions.
-/
import Derived.Test.YtnlnkjjegaihcaaCurNil
import Derived.Test.YtnlnkjjegaihcaaCurDo0
import Derived.Test.YtnlnkjjegaihcaaCurDo1
import Derived.Test.YtnlnkjjegaihcaaCurDo2
import Derived.Test.YtnlnkjjegaihcaaCurDo3
import Derived.Test.YtnlnkjjegaihcaaCurDo4
import Derived.Test.YtnlnkjjegaihcaaCurDo5
import Derived.Test.YtnlnkjjegaihcaaCurDo6
import Derived.Test.YtnlnkjjegaihcaaCurDo7
import Derived.Test.YtnlnkjjegaihcaaRows
import Derived.WalkKit
import Derived.OpenShut
import Derived.ShutString
import Derived.Deep.Slices
import Derived.ProofKit
import Derived.ChangeOld
import Derived.WideShapes
namespace Go.Proofs.Ytnlnkjjegaihcaa
open Go.ChangeShapes Go.WideShapes Go.ChangeAt Go.RowKit Go.Deep
set_option linter.unusedVariables false
set_option linter.unusedSimpArgs false
/-- What the scan of a text tells. -/
theorem scan_cases (s : ByteArray) (h64 : s.size ≤ 65536) : (∃ E l c, scanV s = ([], E, l, c) ∧ E ≠ 0) ∨ (∃ L, scanV s = (L, 0, 0, 0) ∧ Ends L ∧ L.length ≤ s.size + 1) := by
  obtain ⟨L, E, p, hs⟩ : ∃ L E p, scanA s 0 [] = (L, E, p) := ⟨_, _, _, rfl⟩
  have hf := scan_tr s s.size 0 [] L E p (by omega) (by omega) (Bd.zero s) hs
  rw [scanV_of s h64 hs]
  by_cases hE : E = 0
  · obtain ⟨L2, h2, h3⟩ := hf.1 hE
    have e : L = L2 := h2
    subst e
    exact .inr ⟨L, by rw [if_pos hE], h3.sh.ends, by have := h3.len; omega⟩
  · exact .inl ⟨E, _, _, by rw [if_neg hE], hE⟩
/-- The chapter's example. -/
def egC : ByteArray := ⟨#[45, 32, 51]⟩
def egL : List TokV := [⟨4, ⟨#[45]⟩, 0, 1, 1, 0⟩, ⟨2, ⟨#[51]⟩, 3, 1, 3, 2⟩, ⟨0, ⟨#[]⟩, 0, 1, 4, 3⟩]
theorem egC_scan : scanV egC = (egL, 0, 0, 0) := by kernel_rfl
theorem egC_ends : Ends egL := by
  rcases scan_cases egC (by decide) with ⟨E, l, c, h, hE⟩ | ⟨L, h, hL, _⟩
  · rw [egC_scan] at h
    injection h with h1 _
    exact absurd h1 (by unfold egL; simp)
  · rw [egC_scan] at h
    injection h with h1 _
    rw [h1]; exact hL
theorem egC_sign : signA egL 0 = 2 ∧ signV egL 0 = -3 ∧ signF egL 0 = okF ∧ wrF (curT egL 2) = (2, 1, 4) := by
  refine ⟨?_, ?_, ?_, ?_⟩ <;> kernel_rfl
theorem lives10 (w : World) : Calls Try.prog 6 #[] w fun e w' => e = .returned (.bool true) ∧ Below w.heap.size w w' := by
  have hs : ∀ w p r K, CurAt w p r K egL 0 0 → Calls Try.prog 18 #[.pointer (some ⟨p, 0, none⟩)] w (CPost w p r K egL 2 0 (.tuple #[.int .i64 (-3), .agg #[.int .i64 0, .int .i64 0, .int .i64 0]])) := fun w p r K h => by
    have := cSigned w p r K egL 0 0 h
    rw [egC_sign.1, egC_sign.2.1, egC_sign.2.2.1] at this
    exact this
  have hw : ∀ w p r K, CurAt w p r K egL 2 0 → Calls Try.prog 15 #[.pointer (some ⟨p, 0, none⟩)] w fun e w' => e = .returned (.agg #[.int .i64 2, .int .i64 1, .int .i64 4]) ∧ Below w.heap.size w w' := fun w p r K h => by
    have := cWrong w _ _ _ _ _ _ _ h.look
    rw [egC_sign.2.2.2] at this
    exact this
  have HS := Lib.hid hs
  have HW := Lib.hid hw
  have hn := cNew_ok egC w (by decide) egL egC_scan egC_ends
  unfold egC at hn
  have hfd := fun w => fault_field 2 1 4 w
  clear hs hw
  go_enter Try.func6, Try.ntmps6
  go_wp2_with (first
    | (go_at_call 7; refine hn.mono ?_; rintro e w1 ⟨p, r, K, rfl, cu, hp, hr, b1⟩; have C1 := Lib.hid cu; have B1 := Lib.hid b1; have HP := Lib.hid hp; clear cu b1 hp hr; simp only [faultV, okF])
    | (go_at_call 18; refine (HS.out _ _ _ _ (C1.out.below (new_block w1 (.cells #[.int .i64 0, .int .i64 0, .int .i64 0] 27)))).mono ?_; rintro e w2 ⟨rfl, m2⟩; have hn0 : ¬ (w1.heap.size = p) := (by have := C1.out.whole.inside; omega); have F2 := Lib.hid (m2.keeps.whole (Whole.made w1 27 #[.int .i64 0, .int .i64 0, .int .i64 0]) hn0); obtain ⟨k0, k1, k2, f0, f1, f2⟩ := whole3 F2.out; have hz := F2.out.inside; have M2 := Lib.hid m2; clear m2)
    | (go_at_call 15; refine (HW.out _ _ _ _ (M2.out.at_.below (new_block w2 _))).mono ?_; rintro e w3 ⟨rfl, b3⟩; have B3 := Lib.hid b3; clear b3))
  go_ret
  have h1 : Below w.heap.size w w2 := by
    have hb := B1.out.alloc B1.out.size (.cells #[.int .i64 0, .int .i64 0, .int .i64 0] 27)
    exact hb.trans (M2.out.keeps.below hb.size (fun k hk => by rw [hk]; exact HP.out))
  exact ⟨rfl, bthen (bthen h1 (new_block _ _)) B3.out⟩
/-! ## Acts that came in -/
theorem two_of : ∀ cs : List Value, cs.length = 2 → ∃ a b, cs = [a, b]
  | [], h => by simp at h
  | [_], h => by simp at h
  | [a, b], _ => ⟨a, b, rfl⟩
  | _ :: _ :: _ :: _, h => by simp at h
structure CV where
  k : Int
  t : ByteArray
instance : Inhabited CV := ⟨⟨0, ByteArray.empty⟩⟩
def CV.cells (x : CV) : Array Value := #[.int .i64 x.k, .string x.t]
/-- The slice at A holds len acts. -/
def CActs (w : World) (A : Option Addr) (len : Nat) (f : Nat → CV) : Prop :=
  ∀ i, i < len → ∃ x, A = some x ∧ x.block < w.heap.size ∧ (∀ j, j < 2 → w.cell? ((x.add (i * 2)).add j) = (f i).cells[j]?)
theorem open_cacts {H : Type} {enc : TypeId × Value → H} {base : Nat} {w : World} {v : Value} {d : DataW H} {p : List MemPlace} (ok : Value.okWide Try.prog w .any base 22 v)
    (h : DataW.Trod enc Try.prog w 0 (fun _ => true) true 22 v d p) : ∃ A len cap f, v = .slice A len cap ∧ CActs w A len f := by
  obtain ⟨A, len, cap, rfl⟩ := okWide_slice Try.underlying22 ok
  obtain ⟨fuel, hf⟩ := h
  have c5 : Try.prog.cellsOf 38 = 2 := by kernel_rfl
  rcases open_slice Try.underlying22 hf with ⟨hcs, _⟩ | ⟨a, l, c, m, n, D, Pl, hcs, _, hl, hm, hmm, _, hx⟩
  · simp [Value.cells] at hcs
    obtain ⟨rfl, rfl, rfl⟩ := hcs
    exact ⟨none, 0, 0, fun _ => ⟨0, ByteArray.empty⟩, rfl, fun i hi => by omega⟩
  · simp [Value.cells] at hcs
    obtain ⟨rfl, rfl, rfl⟩ := hcs
    have key : ∀ i, i < len → ∃ y : CV, (a.block < w.heap.size ∧ (∀ j, j < 2 → w.cell? ((a.add (i * 2)).add j) = y.cells[j]?)) := by
      intro i hi
      obtain ⟨cs, h1, h2⟩ := hx i (by rw [hmm]; simp; omega)
      rw [c5] at h1
      obtain ⟨_, hlen, hcell⟩ := World.cells?_some h1
      obtain ⟨xs, n', _, _, _, hxl, hfld⟩ := DataW.trod_struct Try.underlying38 h2
      obtain ⟨v0, v4, rfl⟩ : ∃ v0 v4, cs = [v0, v4] := two_of cs hlen
      have e5 : xs.length = 2 := hxl
      have g0 : xs[0]? = some (xs[0]'(by omega)) := List.getElem?_eq_getElem _
      have g4 : xs[1]? = some (xs[1]'(by omega)) := List.getElem?_eq_getElem _
      have f0 := (hfld 0 _ rfl).trans g0
      have f4 := (hfld 1 _ rfl).trans g4
      obtain ⟨n0, q0, _, w0⟩ := DataW.trod_int Try.underlying3 f0
      obtain ⟨s4, q4, _, w4⟩ := DataW.trod_string Try.underlying9 f4
      have ci : Try.prog.cellsOf 3 = 1 := by kernel_rfl
      have cst : Try.prog.cellsOf 9 = 1 := by kernel_rfl
      change List.take (Try.prog.cellsOf 3) (List.drop 0 _) = _ at q0
      rw [ci] at q0
      change List.take (Try.prog.cellsOf 9) (List.drop 1 _) = _ at q4
      rw [cst] at q4
      obtain rfl : v0 = .int .i64 n0 := by injection q0
      obtain rfl : v4 = .string s4 := by injection q4
      refine ⟨⟨n0, s4⟩, ?_, fun j hj => ?_⟩
      · have := World.block_lt_of_cell? w ((a.add (i * 2)).add 0) (hcell 0 (by omega))
        unfold Addr.add at this
        split at this <;> (try split at this) <;> exact this
      · rw [hcell j hj]; simp [CV.cells]
    obtain ⟨f, hf2⟩ := choose_lt key
    exact ⟨some a, len, cap, f, rfl, fun i hi => ⟨a, rfl, hf2 i hi⟩⟩
theorem CActs.get {w : World} {A : Option Addr} {len : Nat} {f : Nat → CV} (h : CActs w A len f) {i : Nat} (hi : i < len) {w' : World} (hb : Below w.heap.size w w') :
    ∃ x, A = some x ∧ x.block < w.heap.size ∧ w'.cell? (x.add (i * 2)) = some (.int .i64 (f i).k) ∧ w'.cell? ⟨(x.add (i * 2)).block, (x.add (i * 2)).off + 1, none⟩ = some (.string (f i).t) := by
  obtain ⟨x, hA, hx, hc⟩ := h i hi
  have key : ∀ j, j < 2 → w'.cell? ((x.add (i * 2)).add j) = (f i).cells[j]? := fun j hj => by
    rw [hb.cell (p := (x.add (i * 2)).add j) (by rw [add_block', add_block']; exact hx)]
    exact hc j hj
  exact ⟨x, hA, hx, key 0 (by omega), key 1 (by omega)⟩
/-! ## A round -/
theorem does_any (w : World) (p r K s M : Nat) (L : List TokV) (n a d : Nat) (k : Int) (t : ByteArray) (h : CurAt w p r K L a d) (hq : RowAt w s M L) (hsp : s ≠ p) (hn : n = L.length) :
    Calls Try.prog 9 #[.pointer (some ⟨p, 0, none⟩), qA s M n a d, .agg #[.int .i64 k, .string t]] w (DoPost w p r K s M L n) := by
  by_cases hk : k < 0 ∨ 6 < k
  · exact does_7 w p r K s M L n a d t k hk h hq hsp hn
  · have h7 : k = 0 ∨ k = 1 ∨ k = 2 ∨ k = 3 ∨ k = 4 ∨ k = 5 ∨ k = 6 := by omega
    rcases h7 with rfl | rfl | rfl | rfl | rfl | rfl | rfl
    · exact does_0 w p r K s M L n a d t h hq hsp hn
    · exact does_1 w p r K s M L n a d t h hq hsp hn
    · exact does_2 w p r K s M L n a d t h hq hsp hn
    · exact does_3 w p r K s M L n a d t h hq hsp hn
    · exact does_4 w p r K s M L n a d t h hq hsp hn
    · exact does_5 w p r K s M L n a d t h hq hsp hn
    · exact does_6 w p r K s M L n a d t h hq hsp hn
/-- The cursor at (a, d), the document's in block g at (b, e). -/
structure PW (w : World) (p r K s M g n : Nat) (L : List TokV) (a d b e : Nat) (x : World) : Prop where
  cur : CurAt x p r K L a d
  row : RowAt x s M L
  q : Whole x g 32 #[.slice (some ⟨s, 0, none⟩) n M, .int .i64 (b : Int), .int .i64 (e : Int)]
  below : Below w.heap.size w x
  pg : p ≠ g
  rg : r ≠ g
  sg : s ≠ g
  sp : s ≠ p
  wp : w.heap.size ≤ p
  wg : w.heap.size ≤ g
  len : n = L.length
theorem PW.next {w x y : World} {p r K s M g n : Nat} {L : List TokV} {a d b e : Nat} (h : PW w p r K s M g n L a d b e x) (hb : Below x.heap.size x y) : PW w p r K s M g n L a d b e y :=
  ⟨h.cur.below hb, h.row.below hb, h.q.below hb h.q.inside, bthen h.below hb, h.pg, h.rg, h.sg, h.sp, h.wp, h.wg, h.len⟩
theorem PW.drew {w x : World} {p r K s M g n : Nat} {L : List TokV} {a d b e : Nat} (h : PW w p r K s M g n L a d b e x) : PW w p r K s M g n L a d b e x.drew := h.next (below_drew1 (Below.refl _ _))
theorem PW.step {w x y : World} {p r K s M g n : Nat} {L : List TokV} {a d b e a' d' : Nat} (h : PW w p r K s M g n L a d b e x) (m : Moved x y p r K L a' d') : PW w p r K s M g n L a' d' b e y :=
  ⟨m.at_, h.row.keeps m.keeps h.sp, m.keeps.whole h.q (fun c => h.pg c.symm), h.below.trans (m.keeps.below h.below.size fun k hk => by rw [hk]; exact h.wp), h.pg, h.rg, h.sg, h.sp, h.wp, h.wg, h.len⟩
theorem PW.set {w x : World} {p r K s M g n : Nat} {L : List TokV} {a d b e : Nat} (h : PW w p r K s M g n L a d b e x) (b' e' : Nat) :
    PW w p r K s M g n L a d b' e' (((x.setCell ⟨g, 0, none⟩ (.slice (some ⟨s, 0, none⟩) n M)).setCell ⟨g, 1, none⟩ (.int .i64 (b' : Int))).setCell ⟨g, 2, none⟩ (.int .i64 (e' : Int))) :=
  ⟨h.cur.keeps (keeps3 _ _ _ _ _) h.pg h.rg, h.row.keeps (keeps3 _ _ _ _ _) h.sg, h.q.set3 _ _ _, Below.set3 h.below h.wg _ _ _, h.pg, h.rg, h.sg, h.sp, h.wp, h.wg, h.len⟩
end Go.Proofs.Ytnlnkjjegaihcaa
