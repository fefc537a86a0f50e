/-
  The contracts of package cursor's methods that move a cursor. Condition: the cursor stands at a token of a text, whose tokens have one end, the last.
-/
import Derived.Test.YtnlnkjjegaihcaaCur
import Derived.Test.YtnlnkjjegaihcaaKeeps
import Derived.Test.YtnlnkjjegaihcaaTokLaws
import Derived.Deep.RegionHeld3
namespace Go.Proofs.Ytnlnkjjegaihcaa
open Go.ChangeShapes Go.WideShapes Go.ChangeAt Go.RowKit
set_option linter.unusedVariables false
set_option linter.unusedSimpArgs false
/-- Block p holds a cursor of the tokens L, which lie in block r, at place a with depth d. -/
structure CurAt (w : World) (p r K : Nat) (L : List TokV) (a d : Nat) : Prop where
  whole : Whole w p 58 #[.slice (some ⟨r, a * 5, none⟩) (L.length - a) (K - a), .int .i64 (d : Int)]
  row : ∀ j, j < (tokCs L).length → w.cell? ⟨r, j, none⟩ = (tokCs L)[j]?
  rin : r < w.heap.size
  ne : r ≠ p
  ends : Ends L
  inn : a < L.length
  capL : L.length ≤ K
  capM : K ≤ 9223372036854775807
  deep : d ≤ 8
theorem CurAt.look {w : World} {p r K : Nat} {L : List TokV} {a d : Nat} (h : CurAt w p r K L a d) : At w p (curT L a) d r (a * 5) (L.length - a) (K - a) := by
  have hi := h.inn
  have hl := tokCs_len L
  have key : ∀ j, j < 5 → w.cell? ⟨r, a * 5 + j, none⟩ = (curT L a).cells[j]? := fun j hj => by
    rw [h.row _ (by omega), tokCs_at L a j hi hj, curT_get L a hi]
  exact ⟨h.whole.read 0, h.whole.read 1, key 0 (by omega), key 1 (by omega), key 2 (by omega), key 3 (by omega), key 4 (by omega), h.whole.inside, h.rin, by omega, by have := h.capM; have := h.capL; omega⟩
theorem CurAt.keeps {w w' : World} {p r K : Nat} {L : List TokV} {a d : Nat} (h : CurAt w p r K L a d) {S : Nat → Prop} (hk : Keeps S w w') (hp : ¬ S p) (hr : ¬ S r) : CurAt w' p r K L a d :=
  ⟨hk.whole h.whole hp, fun j hj => (World.cell?_of_block (a := ⟨r, j, none⟩) (hk.block r h.rin hr)).trans (h.row j hj), Nat.lt_of_lt_of_le h.rin hk.size, h.ne, h.ends, h.inn, h.capL, h.capM, h.deep⟩
theorem CurAt.below {w w' : World} {p r K : Nat} {L : List TokV} {a d : Nat} (h : CurAt w p r K L a d) (hb : Below w.heap.size w w') : CurAt w' p r K L a d :=
  h.keeps (S := fun _ => False) (Keeps.of_below hb) id id
/-- Where a call left a cursor. -/
structure Moved (w w' : World) (p r K : Nat) (L : List TokV) (a d : Nat) : Prop where
  at_ : CurAt w' p r K L a d
  keeps : Keeps (fun k => k = p) w w'
theorem CurAt.moved {w : World} {p r K : Nat} {L : List TokV} {a d : Nat} (h : CurAt w p r K L a d) (b : Nat) (hb : b < L.length) (u : Value) (hu : u = .slice (some ⟨r, b * 5, none⟩) (L.length - b) (K - b)) : CurAt (w.setCell ⟨p, 0, none⟩ u) p r K L b d := by
  subst hu
  refine ⟨h.whole.write 0 _, fun j hj => ?_, by simp [World.setCell]; exact h.rin, h.ne, h.ends, hb, h.capL, h.capM, h.deep⟩
  rw [World.cell?_of_block (a := ⟨r, j, none⟩) (w := w) (Below.heap_setCell _ _ _ _ h.ne)]
  exact h.row j hj
theorem CurAt.deeper {w : World} {p r K : Nat} {L : List TokV} {a d : Nat} (h : CurAt w p r K L a d) (e : Nat) (he : e ≤ 8) (u : Value) (hu : u = .int .i64 (e : Int)) : CurAt (w.setCell ⟨p, 1, none⟩ u) p r K L a e := by
  subst hu
  refine ⟨h.whole.write 1 _, fun j hj => ?_, by simp [World.setCell]; exact h.rin, h.ne, h.ends, h.inn, h.capL, h.capM, he⟩
  rw [World.cell?_of_block (a := ⟨r, j, none⟩) (w := w) (Below.heap_setCell _ _ _ _ h.ne)]
  exact h.row j hj
def CPost (w : World) (p r K : Nat) (L : List TokV) (a d : Nat) (val : Value) (e : Ending) (w' : World) : Prop := e = .returned val ∧ Moved w w' p r K L a d
theorem Keeps.inner {S T : Nat → Prop} {a b : World} (h : Keeps S a b) (hs : ∀ k, k < a.heap.size → S k → T k) : Keeps T a b := ⟨h.os, h.tape, h.output, h.size, fun k hk hn => h.block k hk fun c => hn (hs k hk c)⟩
/-- A block of the call's own is written. -/
theorem Moved.on {w x y : World} {p r K : Nat} {L : List TokV} {a d : Nat} (m : Moved w x p r K L a d) {G : Nat} (hk : Keeps (fun k => k = G) x y) (hG : w.heap.size ≤ G) (hp : p < w.heap.size) (hr : r < w.heap.size) : Moved w y p r K L a d := by
  refine ⟨m.at_.keeps hk (by omega) (by omega), ?_⟩
  have h1 : Keeps (fun k => k = p ∨ k = G) w x := m.keeps.mono fun k h => .inl h
  have h2 : Keeps (fun k => k = p ∨ k = G) x y := hk.mono fun k h => .inr h
  exact (h1.trans h2).inner fun k hk h => by omega
theorem Moved.next {w x y : World} {p r K : Nat} {L : List TokV} {a d : Nat} (m : Moved w x p r K L a d) (hb : Below x.heap.size x y) : Moved w y p r K L a d :=
  ⟨m.at_.below hb, m.keeps.trans (Keeps.of_below hb)⟩
theorem Moved.then {w x y : World} {p r K : Nat} {L : List TokV} {a d b e : Nat} (m : Moved w x p r K L a d) (h : Moved x y p r K L b e) : Moved w y p r K L b e := ⟨h.at_, m.keeps.trans h.keeps⟩
theorem Moved.start {w : World} {p r K : Nat} {L : List TokV} {a d : Nat} (h : CurAt w p r K L a d) : Moved w w p r K L a d := ⟨h, Keeps.refl _ _⟩
theorem keeps5 (x : World) (g : Nat) (a b c d e : Value) : Keeps (fun k => k = g) x (((((x.setCell ⟨g, 0, none⟩ a).setCell ⟨g, 1, none⟩ b).setCell ⟨g, 2, none⟩ c).setCell ⟨g, 3, none⟩ d).setCell ⟨g, 4, none⟩ e) :=
  ((((Keeps.setCell (S := fun k => k = g) (Keeps.refl _ x) rfl a).setCell rfl b).setCell rfl c).setCell rfl d).setCell rfl e
theorem keeps3 (x : World) (g : Nat) (a b c : Value) : Keeps (fun k => k = g) x (((x.setCell ⟨g, 0, none⟩ a).setCell ⟨g, 1, none⟩ b).setCell ⟨g, 2, none⟩ c) :=
  ((Keeps.setCell (S := fun k => k = g) (Keeps.refl _ x) rfl a).setCell rfl b).setCell rfl c
theorem new_block (w : World) (o : Obj) : Below w.heap.size w (w.alloc o) := (Below.refl _ _).alloc (Nat.le_refl _) o
theorem cNext (w : World) (p r K : Nat) (L : List TokV) (a d : Nat) (h : CurAt w p r K L a d) :
    Calls Try.prog 21 #[.pointer (some ⟨p, 0, none⟩)] w (CPost w p r K L (onA L a) d (tokA (curT L a))) := by
  have h1 := h.below ((Below.refl _ _).alloc (Nat.le_refl _) (.cells #[.int .i64 0, .string ⟨#[]⟩, .int .i64 0, .int .i64 0, .int .i64 0] 40))
  have F0 := Whole.made w 40 #[.int .i64 0, .string ⟨#[]⟩, .int .i64 0, .int .i64 0, .int .i64 0]
  have H1 := Lib.hid h1
  have HL := Lib.hid h1.look
  have hcM := h.capM
  have hcL := h.capL
  have hin := h.inn
  have hon := h.ends.on h.inn
  have hlast := h.ends.last a h.inn
  have pin := h.whole.inside
  have rin := h.rin
  have HC := Lib.hid h
  unfold onA at hon ⊢
  clear h h1
  unfold tokA
  generalize hv : curT L a = v at *
  by_cases hk : v.k = 0
  · have q0 : (v.k != 0) = false := by rw [hk]; rfl
    rw [if_pos hk] at hon ⊢
    have HH := Lib.hid (And.intro hv (And.intro hk (And.intro hlast hon)))
    clear hv hk hlast hon
    go_enter Try.func21, Try.ntmps21
    go_wp2_with (go_at_call 10; refine (cPeek _ _ _ _ _ _ _ _ HL.out).mono ?_; rintro e w2 ⟨rfl, b2⟩; have C2 := Lib.hid (H1.out.below b2); have W2 := Lib.hid (F0.below b2 (by simp)); have hz := W2.out.inside; obtain ⟨k0, k1, k2, k3, k4, f0, f1, f2, f3, f4⟩ := whole5f W2.out; have B2 := Lib.hid b2; clear b2; simp only [tokA])
    have hF := whole5 ((Whole.set5 W2.out (.int .i64 v.k) (.string v.t) (.int .i64 v.n) (.int .i64 (v.line : Int)) (.int .i64 (v.col : Int))).alloc (.cells #[.int .i64 v.k, .string v.t, .int .i64 v.n, .int .i64 (v.line : Int), .int .i64 (v.col : Int)] 40))
    refine bodyPost_ret (v := .agg #[.int .i64 v.k, .string v.t, .int .i64 v.n, .int .i64 (v.line : Int), .int .i64 (v.col : Int)]) (by simp [results, Try.results21, go_sem, hF]) rfl ⟨rfl, ?_⟩
    exact (((Moved.start HC.out).next (new_block _ _)).next B2.out).on ((keeps5 _ _ _ _ _ _ _).alloc _) (Nat.le_refl _) pin rin
  · have q0 : (v.k != 0) = true := by rw [bne_iff_ne]; exact hk
    rw [if_neg hk] at hon ⊢
    have HH := Lib.hid (And.intro hv (And.intro hk (And.intro hlast hon)))
    clear hv hk hlast 
    have l1 : 1 ≤ ((L.length - a : Nat) : Int) := by omega
    have l2 : ((L.length - a : Nat) : Int) ≤ ((K - a : Nat) : Int) := by omega
    have l3 : ((K - a : Nat) : Int) ≤ 9223372036854775807 := by omega
    have l4 : K - a ≠ 1 := by omega
    generalize hN : L.length - a = n at *
    generalize hC : K - a = c at *
    generalize hO : a * 5 = o at *
    have HN := Lib.hid (And.intro hN (And.intro hC hO))
    clear hN hC hO hcM hcL hin hon
    go_enter Try.func21, Try.ntmps21
    go_wp2_with (go_at_call 10; refine (cPeek _ _ _ _ _ _ _ _ HL.out).mono ?_; rintro e w2 ⟨rfl, b2⟩; have C2 := Lib.hid (H1.out.below b2); have W2 := Lib.hid (F0.below b2 (by simp)); have hz := W2.out.inside; obtain ⟨k0, k1, k2, k3, k4, f0, f1, f2, f3, f4⟩ := whole5f W2.out; have hp2 := C2.out.whole.inside; have c0 := (HL.out.below b2).c0; have z0 := C2.out.whole.thawed 0; have B2 := Lib.hid b2; clear b2; simp only [tokA])
    have hne : w.heap.size ≠ p := by omega
    have hF := whole5 ((Whole.set5 (W2.out.aside (p := ⟨p, 0, none⟩) hne (.slice (some ⟨r, o + 5, none⟩) (n - 1) (c - 1))) (.int .i64 v.k) (.string v.t) (.int .i64 v.n) (.int .i64 (v.line : Int)) (.int .i64 (v.col : Int))).alloc (.cells #[.int .i64 v.k, .string v.t, .int .i64 v.n, .int .i64 (v.line : Int), .int .i64 (v.col : Int)] 40))
    refine bodyPost_ret (v := .agg #[.int .i64 v.k, .string v.t, .int .i64 v.n, .int .i64 (v.line : Int), .int .i64 (v.col : Int)]) (by simp [results, Try.results21, go_sem, hF]) rfl ⟨rfl, ?_⟩
    have m2 := ((Moved.start HC.out).next (new_block _ _)).next B2.out
    have m3 : Moved w (w2.setCell ⟨p, 0, none⟩ (.slice (some ⟨r, o + 5, none⟩) (n - 1) (c - 1))) p r K L (a + 1) d := by
      refine ⟨m2.at_.moved (a + 1) HH.out.2.2.2 _ ?_, m2.keeps.setCell rfl _⟩
      obtain ⟨e1, e2, e3⟩ := HN.out
      rw [← e1, ← e2, ← e3, show (a + 1) * 5 = a * 5 + 5 from by omega, Nat.sub_sub, Nat.sub_sub]
    exact m3.on ((keeps5 _ _ _ _ _ _ _).alloc _) (Nat.le_refl _) pin rin
end Go.Proofs.Ytnlnkjjegaihcaa
