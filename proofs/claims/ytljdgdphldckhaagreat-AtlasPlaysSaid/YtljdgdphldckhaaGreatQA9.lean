/-
  Texts TokLaws, Cur2, Cur3, Cur4, CurRef, SynMem, SynN1, SynN2, SynN3, SynN4, SynN5, SynN6, SynN7. No conditions but those that each theorem names.
-/
import Derived.Deep.QuietTactic
import Derived.BigQuiet
import Derived.Deep.RegionHeld3
import Derived.RegionTactic
import Derived.Deep.MidRow
import Derived.Test.YtljdgdphldckhaaGreatQA8
set_option maxRecDepth 20000
set_option maxHeartbeats 12800000
namespace Go.Proofs.YtljdgdphldckhaaGreat
open Go.ChangeShapes Go.WideShapes Go.ChangeAt Go.RowKit
set_option linter.unusedVariables false
set_option linter.unusedSimpArgs false
theorem add_add' (x : Addr) (n m : Nat) : (x.add n).add m = x.add (n + m) := by
 unfold Addr.add
 by_cases h : n = 0
 · subst h; simp
 · by_cases h2 : m = 0
   · subst h2; simp
   · simp [h, h2, Nat.add_assoc]
theorem tokCs_at (L : List TokV) : ∀ (i j : Nat) (h : i < L.length), j < 5 → (Ux L)[i * 5 + j]? = (L[i]'h).cells[j]? := by
 induction L with
 | nil => intro i j h; simp at h
 | cons v L ih =>
   intro i j h hj
   have e : Ux (v :: L) = v.cells ++ Ux L := rfl
   have hl : v.cells.length = 5 := rfl
   rw [e]
   cases i with
   | zero => rw [Nat.zero_mul, Nat.zero_add, List.getElem?_append_left (by omega)]; rfl
   | succ i =>
     rw [List.getElem?_append_right (by omega), hl, show (i + 1) * 5 + j - 5 = i * 5 + j from by omega]
     exact ih i j (by simpa using h) hj
theorem Jd.tok {w : World} {A : Option Addr} {L : List TokV} (h : Jd w A (Ux L)) {i : Nat} (hi : i < L.length) :
   ∃ x, A = some x ∧ x.block < w.heap.size ∧ w.cell? (x.add (i * 5)) = some (.int .i64 (L[i]'hi).k) ∧ w.cell? ⟨(x.add (i * 5)).block, (x.add (i * 5)).off + 1, none⟩ = some (.string (L[i]'hi).t) ∧
     w.cell? ⟨(x.add (i * 5)).block, (x.add (i * 5)).off + 2, none⟩ = some (.int .i64 (L[i]'hi).n) ∧ w.cell? ⟨(x.add (i * 5)).block, (x.add (i * 5)).off + 3, none⟩ = some (.int .i64 ((L[i]'hi).line : Int)) ∧
     w.cell? ⟨(x.add (i * 5)).block, (x.add (i * 5)).off + 4, none⟩ = some (.int .i64 ((L[i]'hi).col : Int)) := by
 have hl := tokCs_len L
 obtain ⟨x, hA, hx, hc⟩ := h.at_ (by omega)
 have key : ∀ j, j < 5 → w.cell? ((x.add (i * 5)).add j) = (L[i]'hi).cells[j]? := fun j hj => by
   rw [add_add', hc _ (by omega), tokCs_at L i j hi hj]
 exact ⟨x, hA, hx, key 0 (by omega), key 1 (by omega), key 2 (by omega), key 3 (by omega), key 4 (by omega)⟩
theorem own5_reads {w : World} {base : Nat} {e : TypeId} {v : Value} {xs : List Value} {n : Nat} (h : w.ownsRow base e 5 v n xs) : ∃ A c, v = .slice A n c ∧ n ≤ 9223372036854775807 ∧ Jd w A xs := by
 obtain ⟨A, c, hv, hn, hm, hc⟩ := Xx h
 exact ⟨A, c, hv, by unfold maxLen at hm; omega, hc.reads⟩
theorem own5_at {w : World} {base : Nat} {e : TypeId} {v : Value} {xs : List Value} {n : Nat} (h : w.ownsRow base e 5 v n xs) (hn : 0 < n) : ∃ g c, v = .slice (some ⟨g, 0, none⟩) n c ∧ g < w.heap.size ∧ ∀ j, j < xs.length → w.cell? ⟨g, j, none⟩ = xs[j]? := by
 obtain ⟨hl, h0 | ⟨g, cap, cur, rfl, hb, hg, h1, h2, h3, h4⟩⟩ := h
 · omega
 · have hw : Zb w g e cur := hg
   refine ⟨g, cap, rfl, hw.inside, fun j hj => ?_⟩
   rw [hw.read j, ← h4, List.getElem?_take_of_lt (by omega), Array.getElem?_toList]
structure Wo (w : World) (p r K : Nat) (L : List TokV) (a d : Nat) : Prop where
 whole : Zb w p 227 #[.slice (some ⟨r, a * 5, none⟩) (L.length - a) (K - a), .int .i64 (d : Int)]
 row : ∀ j, j < (Ux L).length → w.cell? ⟨r, j, none⟩ = (Ux L)[j]?
 rin : r < w.heap.size
 ne : r ≠ p
 ends : Ends L
 inn : a < L.length
 capL : L.length ≤ K
 capM : K ≤ 9223372036854775807
 deep : d ≤ 8
theorem Wo.look {w : World} {p r K : Nat} {L : List TokV} {a d : Nat} (h : Wo w p r K L a d) : At w p (Ye L a) d r (a * 5) (L.length - a) (K - a) := by
 have hi := h.inn
 have hl := tokCs_len L
 have key : ∀ j, j < 5 → w.cell? ⟨r, a * 5 + j, none⟩ = (Ye L a).cells[j]? := fun j hj => by
   rw [h.row _ (by omega), tokCs_at L a j hi hj, curT_get L a hi]
 exact ⟨h.whole.read 0, h.whole.read 1, key 0 (by omega), key 1 (by omega), key 2 (by omega), key 3 (by omega), key 4 (by omega), h.whole.inside, h.rin, by omega, by have := h.capM; have := h.capL; omega⟩
theorem Wo.keeps {w w' : World} {p r K : Nat} {L : List TokV} {a d : Nat} (h : Wo w p r K L a d) {S : Nat → Prop} (hk : Zo S w w') (hp : ¬ S p) (hr : ¬ S r) : Wo w' p r K L a d :=
 ⟨hk.whole h.whole hp, fun j hj => (World.cell?_of_block (a := ⟨r, j, none⟩) (hk.block r h.rin hr)).trans (h.row j hj), Nat.lt_of_lt_of_le h.rin hk.size, h.ne, h.ends, h.inn, h.capL, h.capM, h.deep⟩
theorem Wo.below {w w' : World} {p r K : Nat} {L : List TokV} {a d : Nat} (h : Wo w p r K L a d) (hb : Below w.heap.size w w') : Wo w' p r K L a d :=
 h.keeps (S := fun _ => False) (Zo.of_below hb) id id
structure Vu (w w' : World) (p r K : Nat) (L : List TokV) (a d : Nat) : Prop where
 at_ : Wo w' p r K L a d
 keeps : Zo (fun k => k = p) w w'
theorem Wo.moved {w : World} {p r K : Nat} {L : List TokV} {a d : Nat} (h : Wo w p r K L a d) (b : Nat) (hb : b < L.length) (u : Value) (hu : u = .slice (some ⟨r, b * 5, none⟩) (L.length - b) (K - b)) : Wo (w.setCell ⟨p, 0, none⟩ u) p r K L b d := by
 subst hu
 refine ⟨h.whole.write 0 _, fun j hj => ?_, by simp [World.setCell]; exact h.rin, h.ne, h.ends, hb, h.capL, h.capM, h.deep⟩
 rw [World.cell?_of_block (a := ⟨r, j, none⟩) (w := w) (Below.heap_setCell _ _ _ _ h.ne)]
 exact h.row j hj
theorem Wo.deeper {w : World} {p r K : Nat} {L : List TokV} {a d : Nat} (h : Wo w p r K L a d) (e : Nat) (he : e ≤ 8) (u : Value) (hu : u = .int .i64 (e : Int)) : Wo (w.setCell ⟨p, 1, none⟩ u) p r K L a e := by
 subst hu
 refine ⟨h.whole.write 1 _, fun j hj => ?_, by simp [World.setCell]; exact h.rin, h.ne, h.ends, h.inn, h.capL, h.capM, he⟩
 rw [World.cell?_of_block (a := ⟨r, j, none⟩) (w := w) (Below.heap_setCell _ _ _ _ h.ne)]
 exact h.row j hj
def CPost (w : World) (p r K : Nat) (L : List TokV) (a d : Nat) (val : Value) (e : Ending) (w' : World) : Prop := e = .returned val ∧ Vu w w' p r K L a d
theorem Zo.inner {S T : Nat → Prop} {a b : World} (h : Zo S a b) (hs : ∀ k, k < a.heap.size → S k → T k) : Zo T a b := ⟨h.os, h.tape, h.output, h.size, fun k hk hn => h.block k hk fun c => hn (hs k hk c)⟩
theorem Vu.on {w x y : World} {p r K : Nat} {L : List TokV} {a d : Nat} (m : Vu w x p r K L a d) {G : Nat} (hk : Zo (fun k => k = G) x y) (hG : w.heap.size ≤ G) (hp : p < w.heap.size) (hr : r < w.heap.size) : Vu w y p r K L a d := by
 refine ⟨m.at_.keeps hk (by omega) (by omega), ?_⟩
 have h1 : Zo (fun k => k = p ∨ k = G) w x := m.keeps.mono fun k h => .inl h
 have h2 : Zo (fun k => k = p ∨ k = G) x y := hk.mono fun k h => .inr h
 exact (h1.trans h2).inner fun k hk h => by omega
theorem Vu.next {w x y : World} {p r K : Nat} {L : List TokV} {a d : Nat} (m : Vu w x p r K L a d) (hb : Below x.heap.size x y) : Vu w y p r K L a d :=
 ⟨m.at_.below hb, m.keeps.trans (Zo.of_below hb)⟩
theorem Vu.then {w x y : World} {p r K : Nat} {L : List TokV} {a d b e : Nat} (m : Vu w x p r K L a d) (h : Vu x y p r K L b e) : Vu w y p r K L b e := ⟨h.at_, m.keeps.trans h.keeps⟩
theorem Vu.start {w : World} {p r K : Nat} {L : List TokV} {a d : Nat} (h : Wo w p r K L a d) : Vu w w p r K L a d := ⟨h, Zo.refl _ _⟩
theorem keeps5 (x : World) (g : Nat) (a b c d e : Value) : Zo (fun k => k = g) x (((((x.setCell ⟨g, 0, none⟩ a).setCell ⟨g, 1, none⟩ b).setCell ⟨g, 2, none⟩ c).setCell ⟨g, 3, none⟩ d).setCell ⟨g, 4, none⟩ e) :=
 ((((Zo.setCell (S := fun k => k = g) (Zo.refl _ x) rfl a).setCell rfl b).setCell rfl c).setCell rfl d).setCell rfl e
theorem keeps3 (x : World) (g : Nat) (a b c : Value) : Zo (fun k => k = g) x (((x.setCell ⟨g, 0, none⟩ a).setCell ⟨g, 1, none⟩ b).setCell ⟨g, 2, none⟩ c) :=
 ((Zo.setCell (S := fun k => k = g) (Zo.refl _ x) rfl a).setCell rfl b).setCell rfl c
theorem Za (w : World) (o : Obj) : Below w.heap.size w (w.alloc o) := (Below.refl _ _).alloc (Nat.le_refl _) o
theorem cNext (w : World) (p r K : Nat) (L : List TokV) (a d : Nat) (h : Wo w p r K L a d) :
   Calls Tryz.prog 175 #[.pointer (some ⟨p, 0, none⟩)] w (CPost w p r K L (onA L a) d (Ub (Ye L a))) := by
 have h1 := h.below ((Below.refl _ _).alloc (Nat.le_refl _) (.cells #[.int .i64 0, .string ⟨#[]⟩, .int .i64 0, .int .i64 0, .int .i64 0] 85))
 have F0 := Zb.made w 85 #[.int .i64 0, .string ⟨#[]⟩, .int .i64 0, .int .i64 0, .int .i64 0]
 have H1 := Hh h1
 have HL := Hh h1.look
 have hcM := h.capM
 have hcL := h.capL
 have hin := h.inn
 have hon := h.ends.on h.inn
 have hlast := h.ends.last a h.inn
 have pin := h.whole.inside
 have rin := h.rin
 have HC := Hh h
 unfold onA at hon ⊢
 clear h h1
 unfold Ub
 generalize hv : Ye L a = v at *
 by_cases hk : v.k = 0
 · have q0 : (v.k != 0) = false := by rw [hk]; rfl
   rw [if_pos hk] at hon ⊢
   have HH := Hh (And.intro hv (And.intro hk (And.intro hlast hon)))
   clear hv hk hlast hon
   go_enter Tryz.func175, Tryz.ntmps175
   go_wp2_with (go_at_call 133; refine (cPeek _ _ _ _ _ _ _ _ HL.out).mono ?_; rintro e w2 ⟨rfl, b2⟩; have C2 := Hh (H1.out.below b2); have W2 := Hh (F0.below b2 (by simp)); have hz := W2.out.inside; obtain ⟨k0, k1, k2, k3, k4, f0, f1, f2, f3, f4⟩ := Ur W2.out; have B2 := Hh b2; clear b2; simp only [Ub])
   have hF := Jt ((Zb.set5 W2.out (.int .i64 v.k) (.string v.t) (.int .i64 v.n) (.int .i64 (v.line : Int)) (.int .i64 (v.col : Int))).alloc (.cells #[.int .i64 v.k, .string v.t, .int .i64 v.n, .int .i64 (v.line : Int), .int .i64 (v.col : Int)] 85))
   refine bodyPost_ret (v := .agg #[.int .i64 v.k, .string v.t, .int .i64 v.n, .int .i64 (v.line : Int), .int .i64 (v.col : Int)]) (by simp [results, Tryz.results175, go_sem, hF]) rfl ⟨rfl, ?_⟩
   exact (((Vu.start HC.out).next (Za _ _)).next B2.out).on ((keeps5 _ _ _ _ _ _ _).alloc _) (Nat.le_refl _) pin rin
 · have q0 : (v.k != 0) = true := by rw [bne_iff_ne]; exact hk
   rw [if_neg hk] at hon ⊢
   have HH := Hh (And.intro hv (And.intro hk (And.intro hlast hon)))
   clear hv hk hlast 
   have l1 : 1 ≤ ((L.length - a : Nat) : Int) := by omega
   have l2 : ((L.length - a : Nat) : Int) ≤ ((K - a : Nat) : Int) := by omega
   have l3 : ((K - a : Nat) : Int) ≤ 9223372036854775807 := by omega
   have l4 : K - a ≠ 1 := by omega
   generalize hN : L.length - a = n at *
   generalize hC : K - a = c at *
   generalize hO : a * 5 = o at *
   have HN := Hh (And.intro hN (And.intro hC hO))
   clear hN hC hO hcM hcL hin hon
   go_enter Tryz.func175, Tryz.ntmps175
   go_wp2_with (go_at_call 133; refine (cPeek _ _ _ _ _ _ _ _ HL.out).mono ?_; rintro e w2 ⟨rfl, b2⟩; have C2 := Hh (H1.out.below b2); have W2 := Hh (F0.below b2 (by simp)); have hz := W2.out.inside; obtain ⟨k0, k1, k2, k3, k4, f0, f1, f2, f3, f4⟩ := Ur W2.out; have hp2 := C2.out.whole.inside; have c0 := (HL.out.below b2).c0; have z0 := C2.out.whole.thawed 0; have B2 := Hh b2; clear b2; simp only [Ub])
   have hne : w.heap.size ≠ p := by omega
   have hF := Jt ((Zb.set5 (W2.out.aside (p := ⟨p, 0, none⟩) hne (.slice (some ⟨r, o + 5, none⟩) (n - 1) (c - 1))) (.int .i64 v.k) (.string v.t) (.int .i64 v.n) (.int .i64 (v.line : Int)) (.int .i64 (v.col : Int))).alloc (.cells #[.int .i64 v.k, .string v.t, .int .i64 v.n, .int .i64 (v.line : Int), .int .i64 (v.col : Int)] 85))
   refine bodyPost_ret (v := .agg #[.int .i64 v.k, .string v.t, .int .i64 v.n, .int .i64 (v.line : Int), .int .i64 (v.col : Int)]) (by simp [results, Tryz.results175, go_sem, hF]) rfl ⟨rfl, ?_⟩
   have m2 := ((Vu.start HC.out).next (Za _ _)).next B2.out
   have m3 : Vu w (w2.setCell ⟨p, 0, none⟩ (.slice (some ⟨r, o + 5, none⟩) (n - 1) (c - 1))) p r K L (a + 1) d := by
     refine ⟨m2.at_.moved (a + 1) HH.out.2.2.2 _ ?_, m2.keeps.setCell rfl _⟩
     obtain ⟨e1, e2, e3⟩ := HN.out
     rw [← e1, ← e2, ← e3, show (a + 1) * 5 = a * 5 + 5 from by omega, Nat.sub_sub, Nat.sub_sub]
   exact m3.on ((keeps5 _ _ _ _ _ _ _).alloc _) (Nat.le_refl _) pin rin
theorem cTake (w : World) (p r K : Nat) (L : List TokV) (a d : Nat) (t : ByteArray) (h : Wo w p r K L a d) :
   Calls Tryz.prog 136 #[.pointer (some ⟨p, 0, none⟩), .string t] w (CPost w p r K L (wantA L a t) d (.bool (isT (Ye L a) t))) := by
 have hi := cIs w p _ _ _ _ _ _ t h.look
 have HC := Hh h
 clear h
 unfold wantA
 cases hb : isT (Ye L a) t
 · rw [hb] at hi
   rw [if_neg (by decide)]
   clear hb
   go_enter Tryz.func136, Tryz.ntmps136
   go_wp2_with (go_at_call 174; refine hi.mono ?_; rintro e w2 ⟨rfl, b2⟩; have B2 := Hh b2; clear b2)
   go_ret
   exact ⟨rfl, (Vu.start HC.out).next B2.out⟩
 · rw [hb] at hi
   rw [if_pos rfl]
   clear hb
   go_enter Tryz.func136, Tryz.ntmps136
   go_wp2_with (first
 | (go_at_call 174; refine hi.mono ?_; rintro e w2 ⟨rfl, b2⟩; have B2 := Hh b2; have C2 := Hh (HC.out.below b2); clear b2)
 | (go_at_call 175; refine (cNext _ _ _ _ _ _ _ C2.out).mono ?_; rintro e w3 ⟨rfl, m3⟩; have M3 := Hh m3; clear m3))
   go_ret
   exact ⟨rfl, ((Vu.start HC.out).next B2.out).then M3.out⟩
theorem cWant (w : World) (p r K : Nat) (L : List TokV) (a d : Nat) (t : ByteArray) (h : Wo w p r K L a d) :
   Calls Tryz.prog 210 #[.pointer (some ⟨p, 0, none⟩), .string t] w (CPost w p r K L (wantA L a t) d (Zr (wantF L a t))) := by
 have h1 := h.below (Za w (.cells #[.int .i64 0, .int .i64 0, .int .i64 0] 29))
 have F0 := Hh (Zb.made w 29 #[.int .i64 0, .int .i64 0, .int .i64 0])
 have hi := cTake _ p r K L a d t h1
 have HC := Hh h
 have pin := h.whole.inside
 have rin := h.rin
 have hpw : ¬ (w.heap.size = p) := by omega
 clear h h1
 unfold wantA at hi
 unfold wantA wantF
 cases hb : isT (Ye L a) t
 · rw [hb] at hi
   rw [if_neg (by decide)] at hi ⊢
   rw [if_neg (by decide)]
   clear hb
   go_enter Tryz.func210, Tryz.ntmps210
   go_wp2_with (first
 | (go_at_call 136; refine hi.mono ?_; rintro e w2 ⟨rfl, m2⟩; have M2 := Hh m2; clear m2)
 | (go_at_call 135; refine (cWrong _ _ _ _ _ _ _ _ M2.out.at_.look).mono ?_; rintro e w3 ⟨rfl, b3⟩; have W3 := Hh ((M2.out.keeps.whole F0.out hpw).below b3 (M2.out.keeps.whole F0.out hpw).inside); obtain ⟨k0, k1, k2, f0, f1, f2⟩ := Zu W3.out; have hz := W3.out.inside; have B3 := Hh b3; clear b3; simp only [Zr]))
   have hF := Zu (Zb.set3 W3.out (.int .i64 (wrF (Ye L a)).1) (.int .i64 ((wrF (Ye L a)).2.1 : Int)) (.int .i64 ((wrF (Ye L a)).2.2 : Int)))
   refine bodyPost_ret (v := Zr (wrF (Ye L a))) (by simp [results, Tryz.results210, go_sem, hF, Zr]) rfl ⟨rfl, ?_⟩
   exact (((Vu.start HC.out).next (Za _ _)).then (M2.out.next B3.out)).on (keeps3 _ _ _ _ _) (Nat.le_refl _) pin rin
 · rw [hb] at hi
   rw [if_pos rfl] at hi ⊢
   rw [if_pos rfl]
   clear hb
   go_enter Tryz.func210, Tryz.ntmps210
   go_wp2_with (go_at_call 136; refine hi.mono ?_; rintro e w2 ⟨rfl, m2⟩; have M2 := Hh m2; have W3 := Hh (M2.out.keeps.whole F0.out hpw); obtain ⟨k0, k1, k2, f0, f1, f2⟩ := Zu W3.out; have hz := W3.out.inside; clear m2)
   have hF := Zu (Zb.set3 W3.out (.int .i64 0) (.int .i64 0) (.int .i64 0))
   refine bodyPost_ret (v := Zr okF) (by simp [results, Tryz.results210, go_sem, hF, Zr, okF]) rfl ⟨rfl, ?_⟩
   exact (((Vu.start HC.out).next (Za _ _)).then M2.out).on (keeps3 _ _ _ _ _) (Nat.le_refl _) pin rin
theorem two_set {y : World} {g : Nat} {t u : TypeId} {a b c d e f h i : Value} (w0 : Zb y g t #[a, b, c, d, e]) (w1 : Zb y (g + 1) u #[f, h, i]) (x0 x1 x2 x3 x4 y0 y1 y2 : Value) :
   Zb ((((((((y.setCell ⟨g, 0, none⟩ x0).setCell ⟨g, 1, none⟩ x1).setCell ⟨g, 2, none⟩ x2).setCell ⟨g, 3, none⟩ x3).setCell ⟨g, 4, none⟩ x4).setCell ⟨g + 1, 0, none⟩ y0).setCell ⟨g + 1, 1, none⟩ y1).setCell ⟨g + 1, 2, none⟩ y2) g t #[x0, x1, x2, x3, x4] ∧
   Zb ((((((((y.setCell ⟨g, 0, none⟩ x0).setCell ⟨g, 1, none⟩ x1).setCell ⟨g, 2, none⟩ x2).setCell ⟨g, 3, none⟩ x3).setCell ⟨g, 4, none⟩ x4).setCell ⟨g + 1, 0, none⟩ y0).setCell ⟨g + 1, 1, none⟩ y1).setCell ⟨g + 1, 2, none⟩ y2) (g + 1) u #[y0, y1, y2] := by
 have n1 : g ≠ g + 1 := by omega
 have n2 : g + 1 ≠ g := by omega
 exact ⟨(((w0.set5 x0 x1 x2 x3 x4).aside n1 y0).aside n1 y1).aside n1 y2, Zb.set3 (((((w1.aside n2 x0).aside n2 x1).aside n2 x2).aside n2 x3).aside n2 x4) y0 y1 y2⟩
def kindT (L : List TokV) (a : Nat) (k : Int) : TokV := if (Ye L a).k = k then Ye L a else zTok
theorem cKind (w : World) (p r K : Nat) (L : List TokV) (a d : Nat) (k : Int) (h : Wo w p r K L a d) :
   Calls Tryz.prog 209 #[.pointer (some ⟨p, 0, none⟩), .int .i64 k] w (CPost w p r K L (kindA L a k) d (.tuple #[Ub (kindT L a k), Zr (Zao L a k)])) := by
 have nb1 := Za w (.cells #[.int .i64 0, .string ⟨#[]⟩, .int .i64 0, .int .i64 0, .int .i64 0] 85)
 have nb2 := Za (w.alloc (.cells #[.int .i64 0, .string ⟨#[]⟩, .int .i64 0, .int .i64 0, .int .i64 0] 85)) (.cells #[.int .i64 0, .int .i64 0, .int .i64 0] 29)
 have T0 := Two.start w 85 #[.int .i64 0, .string ⟨#[]⟩, .int .i64 0, .int .i64 0, .int .i64 0] 29 #[.int .i64 0, .int .i64 0, .int .i64 0]
 have H2 := Hh ((h.below nb1).below nb2)
 have HM := Hh (((Vu.start h).next nb1).next nb2)
 have T := Hh T0
 have hfd := fun w => tok_field (Ye L a).k (Ye L a).n ((Ye L a).line : Int) ((Ye L a).col : Int) (Ye L a).t w
 have pin := h.whole.inside
 have rin := h.rin
 have hpw : ¬ (w.heap.size = p) := by omega
 have hpv : ¬ (w.heap.size + 1 = p) := by omega
 clear h nb1 nb2 T0
 unfold kindA Zao kindT
 by_cases hk : (Ye L a).k = k
 · have q0 : ((Ye L a).k != k) = false := by rw [bne_eq_false_iff_eq]; exact hk
   rw [if_pos hk, if_pos hk, if_pos hk]
   clear hk
   go_enter Tryz.func209, Tryz.ntmps209
   go_wp2_with (first
 | (go_at_call 133; refine (cPeek _ _ _ _ _ _ _ _ H2.out.look).mono ?_; rintro e w3 ⟨rfl, b3⟩; have T3 := Hh (T.out.next b3); have M3 := Hh (HM.out.next b3); clear b3; simp only [Ub])
 | (go_at_call 175; refine (cNext _ _ _ _ _ _ _ M3.out.at_).mono ?_; rintro e w4 ⟨rfl, m4⟩; have W0 := Hh (m4.keeps.whole T3.out.k0 hpw); have W1 := Hh (m4.keeps.whole T3.out.k1 hpv); obtain ⟨k0, k1, k2, k3, k4, f0, f1, f2, f3, f4⟩ := Ur W0.out; obtain ⟨g0, g1, g2, z0, z1, z2⟩ := Zu W1.out; have hz := W1.out.inside; have M4 := Hh (M3.out.then m4); clear m4; simp only [Ub]))
   have hFG := two_set W0.out W1.out (.int .i64 (Ye L a).k) (.string (Ye L a).t) (.int .i64 (Ye L a).n) (.int .i64 ((Ye L a).line : Int)) (.int .i64 ((Ye L a).col : Int)) (.int .i64 0) (.int .i64 0) (.int .i64 0)
   have hF := Jt hFG.1
   have hG := Zu hFG.2
   refine bodyPost_ret (v := .tuple #[Ub (Ye L a), Zr okF]) (by simp [results, Tryz.results209, go_sem, hF, hG, Zr, okF, Ub]) rfl ⟨rfl, ?_⟩
   exact (M4.out.on (keeps5 _ _ _ _ _ _ _) (Nat.le_refl _) pin rin).on (keeps3 _ _ _ _ _) (by omega) pin rin
 · have q0 : ((Ye L a).k != k) = true := by rw [bne_iff_ne]; exact hk
   rw [if_neg hk, if_neg hk, if_neg hk]
   clear hk
   go_enter Tryz.func209, Tryz.ntmps209
   go_wp2_with (first
 | (go_at_call 133; refine (cPeek _ _ _ _ _ _ _ _ H2.out.look).mono ?_; rintro e w3 ⟨rfl, b3⟩; have T3 := Hh (T.out.next b3); have M3 := Hh (HM.out.next b3); clear b3; simp only [Ub])
 | (go_at_call 135; refine (cWrong _ _ _ _ _ _ _ _ M3.out.at_.look).mono ?_; rintro e w4 ⟨rfl, b4⟩; have W0 := Hh (T3.out.next b4).k0; have W1 := Hh (T3.out.next b4).k1; obtain ⟨k0, k1, k2, k3, k4, f0, f1, f2, f3, f4⟩ := Ur W0.out; obtain ⟨g0, g1, g2, z0, z1, z2⟩ := Zu W1.out; have hz := W1.out.inside; have M4 := Hh (M3.out.next b4); clear b4; simp only [Zr]))
   have hFG := two_set W0.out W1.out (.int .i64 0) (.string ⟨#[]⟩) (.int .i64 0) (.int .i64 0) (.int .i64 0) (.int .i64 (wrF (Ye L a)).1) (.int .i64 ((wrF (Ye L a)).2.1 : Int)) (.int .i64 ((wrF (Ye L a)).2.2 : Int))
   have hF := Jt hFG.1
   have hG := Zu hFG.2
   refine bodyPost_ret (v := .tuple #[Ub zTok, Zr (wrF (Ye L a))]) (by simp [results, Tryz.results209, go_sem, hF, hG, Zr, zTok, Ub]) rfl ⟨rfl, ?_⟩
   exact (M4.out.on (keeps5 _ _ _ _ _ _ _) (Nat.le_refl _) pin rin).on (keeps3 _ _ _ _ _) (by omega) pin rin
theorem kindT_n (L : List TokV) (a : Nat) : (kindT L a 2).n = intV L a := by unfold kindT intV; split <;> rfl
theorem kindT_t (L : List TokV) (a : Nat) : (kindT L a 3).t = nameV L a := by unfold kindT nameV; split <;> rfl
theorem cInt (w : World) (p r K : Nat) (L : List TokV) (a d : Nat) (h : Wo w p r K L a d) :
   Calls Tryz.prog 180 #[.pointer (some ⟨p, 0, none⟩)] w (CPost w p r K L (kindA L a 2) d (.tuple #[.int .i64 (intV L a), Zr (Zao L a 2)])) := by
 have nb1 := Za w (.cells #[.int .i64 0, .int .i64 0, .int .i64 0] 29)
 have H1 := Hh (h.below nb1)
 have F0 := Hh (Zb.made w 29 #[.int .i64 0, .int .i64 0, .int .i64 0])
 have HM := Hh ((Vu.start h).next nb1)
 have pin := h.whole.inside
 have rin := h.rin
 have hpw : ¬ (w.heap.size = p) := by omega
 clear h nb1
 rw [← kindT_n]
 generalize hv : kindT L a 2 = v at *
 generalize hf : Zao L a 2 = f at *
 have HV := Hh (And.intro hv hf)
 have hi : Calls Tryz.prog 209 #[.pointer (some ⟨p, 0, none⟩), .int .i64 2] (w.alloc (.cells #[.int .i64 0, .int .i64 0, .int .i64 0] 29)) (CPost (w.alloc (.cells #[.int .i64 0, .int .i64 0, .int .i64 0] 29)) p r K L (kindA L a 2) d (.tuple #[Ub v, Zr f])) := by
   have := cKind _ p r K L a d 2 H1.out
   rw [hv, hf] at this
   exact this
 clear hv hf
 obtain ⟨f1, f2, f3⟩ := f
 go_enter Tryz.func180, Tryz.ntmps180
 go_wp2_with (go_at_call 209; refine hi.mono ?_; rintro e w3 ⟨rfl, m3⟩; have W0 := Hh (m3.keeps.whole F0.out hpw); obtain ⟨g0, g1, g2, z0, z1, z2⟩ := Zu W0.out; have hz := W0.out.inside; have M3 := Hh (HM.out.then m3); clear m3; simp only [Ub, Zr])
 go_region
 all_goals
   go_wp2
   have hF := Zu ((((Zb.set3 W0.out (.int .i64 f1) (.int .i64 (f2 : Int)) (.int .i64 (f3 : Int))).alloc (.cells #[.int .i64 v.k, .string v.t, .int .i64 v.n, .int .i64 (v.line : Int), .int .i64 (v.col : Int)] 85)).alloc (.cells #[.int .i64 f1, .int .i64 (f2 : Int), .int .i64 (f3 : Int)] 29)).drew)
   refine bodyPost_ret (v := .tuple #[.int .i64 v.n, Zr (f1, f2, f3)]) (by simp [results, Tryz.results180, go_sem, hF, Zr]) rfl ⟨rfl, ?_⟩
   exact M3.out.on ((((keeps3 _ _ _ _ _).alloc _).alloc _).drew) (Nat.le_refl _) pin rin
theorem cName (w : World) (p r K : Nat) (L : List TokV) (a d : Nat) (h : Wo w p r K L a d) :
   Calls Tryz.prog 177 #[.pointer (some ⟨p, 0, none⟩)] w (CPost w p r K L (kindA L a 3) d (.tuple #[.string (nameV L a), Zr (Zao L a 3)])) := by
 have nb1 := Za w (.cells #[.int .i64 0, .int .i64 0, .int .i64 0] 29)
 have H1 := Hh (h.below nb1)
 have F0 := Hh (Zb.made w 29 #[.int .i64 0, .int .i64 0, .int .i64 0])
 have HM := Hh ((Vu.start h).next nb1)
 have pin := h.whole.inside
 have rin := h.rin
 have hpw : ¬ (w.heap.size = p) := by omega
 clear h nb1
 rw [← kindT_t]
 generalize hv : kindT L a 3 = v at *
 generalize hf : Zao L a 3 = f at *
 have HV := Hh (And.intro hv hf)
 have hi : Calls Tryz.prog 209 #[.pointer (some ⟨p, 0, none⟩), .int .i64 3] (w.alloc (.cells #[.int .i64 0, .int .i64 0, .int .i64 0] 29)) (CPost (w.alloc (.cells #[.int .i64 0, .int .i64 0, .int .i64 0] 29)) p r K L (kindA L a 3) d (.tuple #[Ub v, Zr f])) := by
   have := cKind _ p r K L a d 3 H1.out
   rw [hv, hf] at this
   exact this
 clear hv hf
 obtain ⟨f1, f2, f3⟩ := f
 go_enter Tryz.func177, Tryz.ntmps177
 go_wp2_with (go_at_call 209; refine hi.mono ?_; rintro e w3 ⟨rfl, m3⟩; have W0 := Hh (m3.keeps.whole F0.out hpw); obtain ⟨g0, g1, g2, z0, z1, z2⟩ := Zu W0.out; have hz := W0.out.inside; have M3 := Hh (HM.out.then m3); clear m3; simp only [Ub, Zr])
 go_region
 all_goals
   go_wp2
   have hF := Zu ((((Zb.set3 W0.out (.int .i64 f1) (.int .i64 (f2 : Int)) (.int .i64 (f3 : Int))).alloc (.cells #[.int .i64 v.k, .string v.t, .int .i64 v.n, .int .i64 (v.line : Int), .int .i64 (v.col : Int)] 85)).alloc (.cells #[.int .i64 f1, .int .i64 (f2 : Int), .int .i64 (f3 : Int)] 29)).drew)
   refine bodyPost_ret (v := .tuple #[.string v.t, Zr (f1, f2, f3)]) (by simp [results, Tryz.results177, go_sem, hF, Zr]) rfl ⟨rfl, ?_⟩
   exact M3.out.on ((((keeps3 _ _ _ _ _).alloc _).alloc _).drew) (Nat.le_refl _) pin rin
theorem cUp (w : World) (p r K : Nat) (L : List TokV) (a d : Nat) (h : Wo w p r K L a d) :
   Calls Tryz.prog 279 #[.pointer (some ⟨p, 0, none⟩)] w (CPost w p r K L a (d - 1) (.tuple #[])) := by
 have HC := Hh h
 have c1 := h.look.c1
 have z1 := h.whole.thawed 1
 have hd := h.deep
 clear h
 by_cases h0 : 0 < d
 · have l0 : (0 : Int) < (d : Int) := by omega
   have l1 : (d : Int) ≤ 8 := by omega
   have H0 := Hh h0
   have HD := Hh hd
   clear hd
   go_enter Tryz.func279, Tryz.ntmps279
   go_wp2
   go_end0
   exact ⟨rfl, HC.out.deeper (d - 1) (by have := HD.out; omega) _ (by have := H0.out; rw [show ((d - 1 : Nat) : Int) = (d : Int) - 1 from by omega]), Zo.setCell (S := fun k => k = p) (Zo.refl _ _) rfl _⟩
 · obtain rfl : d = 0 := by omega
   go_enter Tryz.func279, Tryz.ntmps279
   go_wp2
   go_end0
   exact ⟨rfl, Vu.start HC.out⟩
theorem cDown (w : World) (p r K : Nat) (L : List TokV) (a d : Nat) (h : Wo w p r K L a d) :
   Calls Tryz.prog 278 #[.pointer (some ⟨p, 0, none⟩)] w (CPost w p r K L a (downD d) (Zr (downF L a d))) := by
 have nb1 := Za w (.cells #[.int .i64 0, .int .i64 0, .int .i64 0] 29)
 have h1 := h.below nb1
 have F0 := Zb.made w 29 #[.int .i64 0, .int .i64 0, .int .i64 0]
 have HM := Hh ((Vu.start h).next nb1)
 have pin := h.whole.inside
 have rin := h.rin
 have hpw : ¬ (w.heap.size = p) := by omega
 have c1 := h1.look.c1
 have z1 := h1.whole.thawed 1
 have H1 := Hh h1
 have hd := h.deep
 have HC := Hh h
 clear h nb1 h1
 unfold downD downF
 by_cases h0 : d = 8
 · subst h0
   rw [if_pos rfl, if_pos rfl]
   have F0 := Hh F0
   clear hd
   go_enter Tryz.func278, Tryz.ntmps278
   go_wp2_with (first
 | (go_at_call 172; refine (cStands _ _ _ _ _ _ _ _ H1.out.look).mono ?_; rintro e w1 ⟨rfl, rfl⟩)
 | (go_at_call 173; refine (cHere _ _ _ _ _ _ _ _ _ H1.out.look).mono ?_; rintro e w3 ⟨rfl, b3⟩; have W3 := Hh (F0.out.below b3 (by simp)); obtain ⟨k0, k1, k2, f0, f1, f2⟩ := Zu W3.out; have hz := W3.out.inside; have B3 := Hh b3; clear b3; simp only [Zr]))
   have hF := Zu (Zb.set3 W3.out (.int .i64 8) (.int .i64 ((Ye L a).line : Int)) (.int .i64 ((Ye L a).col : Int)))
   refine bodyPost_ret (v := Zr (8, (Ye L a).line, (Ye L a).col)) (by simp [results, Tryz.results278, go_sem, hF, Zr]) rfl ⟨rfl, ?_⟩
   exact (HM.out.next B3.out).on (keeps3 _ _ _ _ _) (Nat.le_refl _) pin rin
 · rw [if_neg h0, if_neg h0]
   have q0 : ((d : Int) == 8) = false := by rw [beq_eq_false_iff_ne]; omega
   have l1 : (d : Int) ≤ 7 := by omega
   have H0 := Hh (And.intro h0 hd)
   clear h0 hd
   go_enter Tryz.func278, Tryz.ntmps278
   go_wp2_with (go_at_call 172; refine (cStands _ _ _ _ _ _ _ _ H1.out.look).mono ?_; rintro e w1 ⟨rfl, rfl⟩)
   refine bodyPost_ret (v := Zr okF) (by simp [results, Tryz.results278, go_sem, Zr, okF]) rfl ⟨rfl, ?_⟩
   have m1 : Vu w (w.setCell ⟨p, 1, none⟩ (.int .i64 ((d : Int) + 1))) p r K L a (d + 1) :=
     ⟨HC.out.deeper (d + 1) (by have := H0.out; omega) _ (by simp), Zo.setCell (S := fun k => k = p) (Zo.refl _ _) rfl _⟩
   exact m1.next (Za _ _)
theorem Wo.copy {w : World} {p r K : Nat} {L : List TokV} {a d : Nat} (h : Wo w p r K L a d) (o n c : Nat) (ho : o = a * 5) (hn : n = L.length - a) (hc : c = K - a) :
   Wo (w.alloc (.cells #[.slice (some ⟨r, o, none⟩) n c, .int .i64 (d : Int)] 227)) w.heap.size r K L a d := by
 subst ho hn hc
 have h1 := h.below (Za w (.cells #[.slice (some ⟨r, a * 5, none⟩) (L.length - a) (K - a), .int .i64 (d : Int)] 227))
 exact ⟨Zb.made _ _ _, h1.row, h1.rin, by have := h.rin; omega, h.ends, h.inn, h.capL, h.capM, h.deep⟩
theorem look2 {w : World} {p r K : Nat} {L : List TokV} {a d : Nat} (h : Wo w p r K L a d) {o n c : Nat} (ho : o = a * 5) (hn : n = L.length - a) (hc : c = K - a) :
   w.cell? ⟨p, 0, none⟩ = some (.slice (some ⟨r, o, none⟩) n c) ∧ w.cell? ⟨p, 1, none⟩ = some (.int .i64 (d : Int)) := by
 subst ho hn hc
 exact ⟨h.look.c0, h.look.c1⟩
theorem cSigned (w : World) (p r K : Nat) (L : List TokV) (a d : Nat) (h : Wo w p r K L a d) :
   Calls Tryz.prog 181 #[.pointer (some ⟨p, 0, none⟩)] w (CPost w p r K L (signA L a) d (.tuple #[.int .i64 (signV L a), Zr (signF L a)])) := by
 have nb1 := Za w (.cells #[.int .i64 0, .int .i64 0, .int .i64 0] 29)
 have h1 := h.below nb1
 have F0 := Hh (Zb.made w 29 #[.int .i64 0, .int .i64 0, .int .i64 0])
 have HM := Hh ((Vu.start h).next nb1)
 have pin := h.whole.inside
 have rin := h.rin
 have hpw : ¬ (w.heap.size = p) := by omega
 have hi := cIs _ p _ _ _ _ _ _ minus h1.look
 have H1 := Hh h1
 clear h nb1 h1
 unfold signA signV signF
 unfold minus at hi ⊢
 cases hb : isT (Ye L a) ⟨#[45]⟩
 · rw [hb] at hi
   rw [if_neg (by decide), if_neg (by decide), if_neg (by decide)]
   clear hb
   generalize hf : Zao L a 2 = f at *
   have hj := cInt _ p r K L a d H1.out
   have HF := Hh hf
   clear hf
   have hj : ∀ w, Wo w p r K L a d → Calls Tryz.prog 180 #[.pointer (some ⟨p, 0, none⟩)] w (CPost w p r K L (kindA L a 2) d (.tuple #[.int .i64 (intV L a), Zr f])) := fun w h => by rw [← HF.out]; exact cInt w p r K L a d h
   obtain ⟨f1, f2, f3⟩ := f
   go_enter Tryz.func181, Tryz.ntmps181
   go_wp2_with (first
 | (go_at_call 174; refine hi.mono ?_; rintro e w2 ⟨rfl, b2⟩; have M2 := Hh (HM.out.next b2); have F2 := Hh (F0.out.below b2 F0.out.inside); clear b2)
 | (go_at_call 180; refine (hj _ M2.out.at_).mono ?_; rintro e w3 ⟨rfl, m3⟩; have W0 := Hh (m3.keeps.whole F2.out hpw); obtain ⟨g0, g1, g2, z0, z1, z2⟩ := Zu W0.out; have hz := W0.out.inside; have M3 := Hh (M2.out.then m3); clear m3; simp only [Zr]))
   have hF := Zu (Zb.set3 W0.out (.int .i64 f1) (.int .i64 (f2 : Int)) (.int .i64 (f3 : Int)))
   refine bodyPost_ret (v := .tuple #[.int .i64 (intV L a), Zr (f1, f2, f3)]) (by simp [results, Tryz.results181, go_sem, hF, Zr]) rfl ⟨rfl, ?_⟩
   exact M3.out.on (keeps3 _ _ _ _ _) (Nat.le_refl _) pin rin
 · rw [hb] at hi
   rw [if_pos rfl, if_pos rfl, if_pos rfl]
   clear hb
   obtain ⟨o, n, c, ho, hn, hc⟩ : ∃ o n c, o = a * 5 ∧ n = L.length - a ∧ c = K - a := ⟨_, _, _, rfl, rfl, rfl⟩
   have HO := Hh (And.intro ho (And.intro hn hc))
   generalize hbn : onA L a = b at *
   have HB := Hh hbn
   have hk : kindA L b 2 = if (Ye L b).k = 2 then onA L b else b := rfl
   have hv : intV L b = if (Ye L b).k = 2 then (Ye L b).n else 0 := rfl
   have hf : Zao L b 2 = if (Ye L b).k = 2 then okF else wrF (Ye L b) := rfl
   have hnx : ∀ w q, Wo w q r K L a d → Calls Tryz.prog 175 #[.pointer (some ⟨q, 0, none⟩)] w (CPost w q r K L b d (Ub (Ye L a))) := fun w q h => by rw [← HB.out]; exact cNext w q r K L a d h
   have hj := fun w q (h : Wo w q r K L b d) => cInt w q r K L b d h
   have HN := Hh hnx
   clear hnx ho hn hc hbn
   rw [hf]
   by_cases h2 : (Ye L b).k = 2
   · rw [if_pos h2] at hk hv hf ⊢
     rw [if_pos h2, if_pos h2]
     have hnum := H1.out.ends.num b
     rw [hk, hv, hf] at hj
     have HJ := Hh hj
     clear hj hk hv hf h2
     generalize hm : (Ye L b).n = m at *
     have HE := Hh hm
     obtain ⟨m0, m9⟩ := hnum
     clear hm
     generalize hbn : onA L b = b2 at *
     obtain ⟨o2, n2, c2, ho, hn, hc⟩ : ∃ o n c, o = b2 * 5 ∧ n = L.length - b2 ∧ c = K - b2 := ⟨_, _, _, rfl, rfl, rfl⟩
     have HB2 := Hh (And.intro ho (And.intro hn hc))
     clear ho hn hc hbn
     go_enter Tryz.func181, Tryz.ntmps181
     go_wp2_with (first
 | (go_at_call 174; refine hi.mono ?_; rintro e w2 ⟨rfl, b2⟩; have M2 := Hh (HM.out.next b2); have F2 := Hh (F0.out.below b2 F0.out.inside); obtain ⟨c0, c1⟩ := look2 M2.out.at_ HO.out.1 HO.out.2.1 HO.out.2.2; have hp2 := M2.out.at_.whole.inside; clear b2)
 | (go_at_call 175; refine (HN.out _ _ (M2.out.at_.copy o n c HO.out.1 HO.out.2.1 HO.out.2.2)).mono ?_; rintro e w3 ⟨rfl, m3⟩; have N3 := Hh m3; clear m3; simp only [Ub])
 | (go_at_call 180; refine (HJ.out _ _ N3.out.at_).mono ?_; rintro e w4 ⟨rfl, m4⟩; have N4 := Hh (N3.out.then m4); have hG := F2.out.inside; have M4 := Hh ((M2.out.next (Za _ _)).on N4.out.keeps (Nat.le_of_lt hG) pin rin); have F4 := Hh (N4.out.keeps.whole (F2.out.alloc _) (Nat.ne_of_lt hG)); obtain ⟨d0, d1⟩ := look2 N4.out.at_ HB2.out.1 HB2.out.2.1 HB2.out.2.2; obtain ⟨p0, p1⟩ := look2 M4.out.at_ HO.out.1 HO.out.2.1 HO.out.2.2; have t0 := M4.out.at_.whole.thawed 0; have t1 := M4.out.at_.whole.thawed 1; have hp4 := M4.out.at_.whole.inside; obtain ⟨g0, g1, g2, z0, z1, z2⟩ := Zu F4.out; have hz := F4.out.inside; have hq4 := N4.out.at_.whole.inside; have hN := Hh hG; clear m4 hG; simp only [Zr, okF]))
     have hne : w.heap.size ≠ p := hpw
     have hF := Zu ((Zb.set3 ((F4.out.aside (p := ⟨p, 0, none⟩) hne (.slice (some ⟨r, o2, none⟩) n2 c2)).aside (p := ⟨p, 1, none⟩) hne (.int .i64 (d : Int))) (.int .i64 0) (.int .i64 0) (.int .i64 0)).alloc (.cells #[.int .i64 0, .int .i64 0, .int .i64 0] 29))
     refine bodyPost_ret (v := .tuple #[.int .i64 (-m), Zr okF]) (by simp [results, Tryz.results181, go_sem, hF, Zr, okF]) rfl ⟨rfl, ?_⟩
     obtain ⟨e1, e2, e3⟩ := HB2.out
     have m5 : Vu w ((w4.setCell ⟨p, 0, none⟩ (.slice (some ⟨r, o2, none⟩) n2 c2)).setCell ⟨p, 1, none⟩ (.int .i64 (d : Int))) p r K L b2 d :=
       ⟨(M4.out.at_.moved b2 N4.out.at_.inn _ (by rw [e1, e2, e3])).deeper d M4.out.at_.deep _ rfl, (M4.out.keeps.setCell rfl _).setCell rfl _⟩
     exact m5.on ((keeps3 _ _ _ _ _).alloc _) (Nat.le_refl _) pin rin
   · rw [if_neg h2] at hk hv hf ⊢
     rw [if_neg h2, if_neg h2]
     rw [hk, hv, hf] at hj
     have HJ := Hh hj
     have hne := wrF_ne (Ye L b)
     clear hj hk hv hf h2
     generalize hm : wrF (Ye L b) = f at *
     obtain ⟨f1, f2, f3⟩ := f
     have HE := Hh hm
     have q0 : (f1 != 0) = true := by rw [bne_iff_ne]; exact hne
     clear hm hne
     go_enter Tryz.func181, Tryz.ntmps181
     go_wp2_with (first
 | (go_at_call 174; refine hi.mono ?_; rintro e w2 ⟨rfl, b2⟩; have M2 := Hh (HM.out.next b2); have F2 := Hh (F0.out.below b2 F0.out.inside); obtain ⟨c0, c1⟩ := look2 M2.out.at_ HO.out.1 HO.out.2.1 HO.out.2.2; have hp2 := M2.out.at_.whole.inside; clear b2)
 | (go_at_call 175; refine (HN.out _ _ (M2.out.at_.copy o n c HO.out.1 HO.out.2.1 HO.out.2.2)).mono ?_; rintro e w3 ⟨rfl, m3⟩; have N3 := Hh m3; clear m3; simp only [Ub])
 | (go_at_call 180; refine (HJ.out _ _ N3.out.at_).mono ?_; rintro e w4 ⟨rfl, m4⟩; have N4 := Hh (N3.out.then m4); have hG := F2.out.inside; have M4 := Hh ((M2.out.next (Za _ _)).on N4.out.keeps (Nat.le_of_lt hG) pin rin); have F4 := Hh (N4.out.keeps.whole (F2.out.alloc _) (Nat.ne_of_lt hG)); obtain ⟨g0, g1, g2, z0, z1, z2⟩ := Zu F4.out; have hz := F4.out.inside; clear m4 hG; simp only [Zr]))
     go_region
     all_goals
       go_wp2
       have hF := Zu (((Zb.set3 F4.out (.int .i64 f1) (.int .i64 (f2 : Int)) (.int .i64 (f3 : Int))).alloc (.cells #[.int .i64 f1, .int .i64 (f2 : Int), .int .i64 (f3 : Int)] 29)).drew)
       refine bodyPost_ret (v := .tuple #[.int .i64 0, Zr (f1, f2, f3)]) (by simp [results, Tryz.results181, go_sem, hF, Zr]) rfl ⟨rfl, ?_⟩
       exact M4.out.on (((keeps3 _ _ _ _ _).alloc _).drew) (Nat.le_refl _) pin rin
theorem own5_all {w : World} {base : Nat} {e : TypeId} {v : Value} {xs : List Value} {n : Nat} (h : w.ownsRow base e 5 v n xs) (hn : 0 < n) :
   ∃ g c, v = .slice (some ⟨g, 0, none⟩) n c ∧ base ≤ g ∧ g < w.heap.size ∧ n ≤ c ∧ c ≤ 9223372036854775807 ∧ ∀ j, j < xs.length → w.cell? ⟨g, j, none⟩ = xs[j]? := by
 obtain ⟨g, c, rfl, hg, hc⟩ := own5_at h hn
 obtain ⟨A, c', hv, h1, h2, _⟩ := Xx h
 injection hv with _ _ e3
 subst e3
 unfold maxLen at h2
 exact ⟨g, c, rfl, (h.lt g rfl).1, hg, h1, by omega, hc⟩
theorem Wo.made {w1 y : World} {g K G : Nat} {L : List TokV} (hrow : ∀ j, j < (Ux L).length → w1.cell? ⟨g, j, none⟩ = (Ux L)[j]?) (hg : g < w1.heap.size) (hk : Zo (fun k => k = G) w1 y) (hG : g ≠ G) (hL : Ends L) (h1 : L.length ≤ K) (h2 : K ≤ 9223372036854775807) :
   Wo (y.alloc (.cells #[.slice (some ⟨g, 0, none⟩) L.length K, .int .i64 0] 227)) y.heap.size g K L 0 0 := by
 have hs := hk.size
 refine ⟨by simpa using Zb.made y 227 #[.slice (some ⟨g, 0, none⟩) L.length K, .int .i64 0], fun j hj => ?_, by simp; omega, by omega, hL, hL.pos, h1, h2, by omega⟩
 have k2 := hk.alloc (.cells #[.slice (some ⟨g, 0, none⟩) L.length K, .int .i64 0] 227)
 exact (World.cell?_of_block (a := ⟨g, j, none⟩) (k2.block g hg hG)).trans (hrow j hj)
def NewPost (L : List TokV) (w : World) (e : Ending) (w' : World) : Prop :=
 ∃ p r K, e = .returned (.tuple #[.pointer (some ⟨p, 0, none⟩), Zr okF]) ∧ Wo w' p r K L 0 0 ∧ w.heap.size ≤ p ∧ w.heap.size ≤ r ∧ Below w.heap.size w w'
theorem cNew_err (s : ByteArray) (w : World) (hs : s.size ≤ 140737488355328) (E : Int) (l c : Nat) (hv : scanV s = ([], E, l, c)) (hE : E ≠ 0) :
   Calls Tryz.prog 132 #[.string s] w fun e w' => e = .returned (.tuple #[.pointer none, Zr (E, l, c)]) ∧ Below w.heap.size w w' := by
 have HV := Hh hv
 have q0 : (E != 0) = true := by rw [bne_iff_ne]; exact hE
 have F0 := Hh (Zb.made w 29 #[.int .i64 0, .int .i64 0, .int .i64 0])
 clear hv hE
 go_enter Tryz.func132, Tryz.ntmps132
 go_wp2_with (go_at_call 171; refine (tkScan s _ (by omega)).mono ?_; rintro e w1 ⟨v, rfl, o1, b1⟩; rw [HV.out] at o1 ⊢; obtain ⟨A1, c1, rfl, hl1, _⟩ := own5_reads o1; have F1 := Hh (F0.out.below b1 (by simp)); obtain ⟨g0, g1, g2, z0, z1, z2⟩ := Zu F1.out; have hz := F1.out.inside; have B1 := Hh b1; clear o1 b1; simp only [Zr])
 go_region
 all_goals
   go_wp2
   have hF := Zu (((Zb.set3 F1.out (.int .i64 E) (.int .i64 (l : Int)) (.int .i64 (c : Int))).alloc (.cells #[.int .i64 E, .int .i64 (l : Int), .int .i64 (c : Int)] 29)).drew)
   refine bodyPost_ret (v := .tuple #[.pointer none, Zr (E, l, c)]) (by simp [results, Tryz.results132, go_sem, hF, Zr]) rfl ⟨rfl, ?_⟩
   exact below_drew1 ((Below.set3 (Xr (Za _ _) B1.out) (Nat.le_refl _) _ _ _).alloc (by simp; omega) _)
theorem cNew_ok (s : ByteArray) (w : World) (hs : s.size ≤ 140737488355328) (L : List TokV) (hv : scanV s = (L, 0, 0, 0)) (hL : Ends L) :
   Calls Tryz.prog 132 #[.string s] w (NewPost L w) := by
 have HV := Hh hv
 have F0 := Hh (Zb.made w 29 #[.int .i64 0, .int .i64 0, .int .i64 0])
 have hpos := hL.pos
 have HL := Hh hL
 clear hv hL
 go_enter Tryz.func132, Tryz.ntmps132
 go_wp2_with (go_at_call 171; refine (tkScan s _ (by omega)).mono ?_; rintro e w1 ⟨v, rfl, o1, b1⟩; rw [HV.out] at o1 ⊢; obtain ⟨g, K, rfl, r1, r2, r3, r4, r5⟩ := own5_all o1 hpos; have F1 := Hh (F0.out.below b1 (by simp)); obtain ⟨g0, g1, g2, z0, z1, z2⟩ := Zu F1.out; have hz := F1.out.inside; have B1 := Hh b1; have R5 := Hh r5; clear o1 b1 r5; simp only [Zr])
 have hk : Zo (fun k => k = w.heap.size) w1 ((((w1.setCell ⟨w.heap.size, 0, none⟩ (.int .i64 0)).setCell ⟨w.heap.size, 1, none⟩ (.int .i64 0)).setCell ⟨w.heap.size, 2, none⟩ (.int .i64 0)).alloc (.cells #[.int .i64 0, .int .i64 0, .int .i64 0] 29)) := (keeps3 _ _ _ _ _).alloc _
 have hF := Zu (((Zb.set3 F1.out (.int .i64 0) (.int .i64 0) (.int .i64 0)).alloc (.cells #[.int .i64 0, .int .i64 0, .int .i64 0] 29)).alloc (.cells #[.slice (some ⟨g, 0, none⟩) L.length K, .int .i64 0] 227))
 have hgs : w.heap.size + 1 ≤ g := by simpa using r1
 have hc := Wo.made R5.out r2 hk (by omega) HL.out r3 r4
 have hb : Below w.heap.size w ((((w1.setCell ⟨w.heap.size, 0, none⟩ (.int .i64 0)).setCell ⟨w.heap.size, 1, none⟩ (.int .i64 0)).setCell ⟨w.heap.size, 2, none⟩ (.int .i64 0)).alloc (.cells #[.int .i64 0, .int .i64 0, .int .i64 0] 29)) :=
   (Below.set3 (Xr (Za _ _) B1.out) (Nat.le_refl _) _ _ _).alloc (by simp; omega) _
 refine bodyPost_ret (v := .tuple #[.pointer (some ⟨w1.heap.size + 1, 0, none⟩), Zr okF]) (by simp [results, Tryz.results132, go_sem, hF, Zr, okF]) rfl ⟨w1.heap.size + 1, g, K, rfl, ?_, by omega, by omega, hb.alloc hb.size _⟩
 simpa using hc
structure RowAt (w : World) (r K : Nat) (L : List TokV) : Prop where
 row : ∀ j, j < (Ux L).length → w.cell? ⟨r, j, none⟩ = (Ux L)[j]?
 rin : r < w.heap.size
 ends : Ends L
 capL : L.length ≤ K
 capM : K ≤ 9223372036854775807
theorem RowAt.keeps {w w' : World} {r K : Nat} {L : List TokV} (h : RowAt w r K L) {S : Nat → Prop} (hk : Zo S w w') (hr : ¬ S r) : RowAt w' r K L :=
 ⟨fun j hj => (World.cell?_of_block (a := ⟨r, j, none⟩) (hk.block r h.rin hr)).trans (h.row j hj), Nat.lt_of_lt_of_le h.rin hk.size, h.ends, h.capL, h.capM⟩
theorem RowAt.below {w w' : World} {r K : Nat} {L : List TokV} (h : RowAt w r K L) (hb : Below w.heap.size w w') : RowAt w' r K L :=
 h.keeps (S := fun _ => False) (Zo.of_below hb) id
theorem RowAt.at_ {w : World} {r K : Nat} {L : List TokV} (h : RowAt w r K L) {a : Nat} (ha : a < L.length) :
   w.cell? ⟨r, a * 5, none⟩ = some (.int .i64 (Ye L a).k) ∧ w.cell? ⟨r, a * 5 + 1, none⟩ = some (.string (Ye L a).t) ∧ w.cell? ⟨r, a * 5 + 2, none⟩ = some (.int .i64 (Ye L a).n) ∧
   w.cell? ⟨r, a * 5 + 3, none⟩ = some (.int .i64 ((Ye L a).line : Int)) ∧ w.cell? ⟨r, a * 5 + 4, none⟩ = some (.int .i64 ((Ye L a).col : Int)) := by
 have hl := tokCs_len L
 have key : ∀ j, j < 5 → w.cell? ⟨r, a * 5 + j, none⟩ = (Ye L a).cells[j]? := fun j hj => by
   rw [h.row _ (by omega), tokCs_at L a j ha hj, curT_get L a ha]
 exact ⟨key 0 (by omega), key 1 (by omega), key 2 (by omega), key 3 (by omega), key 4 (by omega)⟩
end Go.Proofs.YtljdgdphldckhaaGreat
namespace Go.Proofs.YtljdgdphldckhaaGreat
open Go Go.RowKit
set_option linter.unusedSimpArgs false
set_option linter.unusedVariables false
inductive Ds where
 | nil
 | int (n : Int) (r : Ds)
 | str (s : ByteArray) (r : Ds)
 | row (n : Nat) (cs r : Ds)
def Ds.app : Ds → Ds → Ds
 | .nil, y => y
 | .int n r, y => .int n (r.app y)
 | .str s r, y => .str s (r.app y)
 | .row n cs r, y => .row n cs (r.app y)
def Ds.len : Ds → Nat
 | .nil => 0
 | .int _ r => r.len + 1
 | .str _ r => r.len + 1
 | .row _ _ r => r.len + 1
theorem Ds.app_nil : ∀ x : Ds, x.app .nil = x
 | .nil => rfl
 | .int n r => by rw [Ds.app, Ds.app_nil r]
 | .str s r => by rw [Ds.app, Ds.app_nil r]
 | .row n cs r => by rw [Ds.app, Ds.app_nil r]
theorem Ds.app_assoc (y z : Ds) : ∀ x : Ds, (x.app y).app z = x.app (y.app z)
 | .nil => rfl
 | .int n r => by rw [Ds.app, Ds.app, Ds.app, Ds.app_assoc y z r]
 | .str s r => by rw [Ds.app, Ds.app, Ds.app, Ds.app_assoc y z r]
 | .row n cs r => by rw [Ds.app, Ds.app, Ds.app, Ds.app_assoc y z r]
theorem Ds.len_app (y : Ds) : ∀ x : Ds, (x.app y).len = x.len + y.len
 | .nil => by rw [Ds.app, Ds.len]; omega
 | .int n r => by rw [Ds.app, Ds.len, Ds.len, Ds.len_app y r]; omega
 | .str s r => by rw [Ds.app, Ds.len, Ds.len, Ds.len_app y r]; omega
 | .row n cs r => by rw [Ds.app, Ds.len, Ds.len, Ds.len_app y r]; omega
def Ji (N : Nat → Prop) (w : World) (A : Option Addr) (xs : List Value) : Prop :=
 xs = [] ∨ ∃ g, A = some ⟨g, 0, none⟩ ∧ N g ∧ g < w.heap.size ∧ ∀ j, j < xs.length → w.cell? ⟨g, j, none⟩ = xs[j]?
def Zh (N : Nat → Prop) (w : World) : Ds → List Value → Prop
 | .nil, vs => vs = []
 | .int n r, vs => ∃ t, vs = .int .i64 n :: t ∧ Zh N w r t
 | .str s r, vs => ∃ t, vs = .string s :: t ∧ Zh N w r t
 | .row n cs r, vs => ∃ A c xs t, vs = .slice A n c :: t ∧ n ≤ 9223372036854775807 ∧ Ji N w A xs ∧ Zh N w cs xs ∧ Zh N w r t
theorem Ji.keeps {N M S : Nat → Prop} {w w' : World} {A : Option Addr} {xs : List Value} (h : Ji N w A xs) (hk : Zo S w w') (hs : ∀ k, k < w.heap.size → N k → ¬ S k ∧ M k) : Ji M w' A xs := by
 rcases h with h | ⟨g, e, h1, h2, h3⟩
 · exact .inl h
 · exact .inr ⟨g, e, (hs g h2 h1).2, Nat.lt_of_lt_of_le h2 hk.size, fun j hj => (World.cell?_of_block (a := ⟨g, j, none⟩) (hk.block g h2 (hs g h2 h1).1)).trans (h3 j hj)⟩
theorem Zh.keeps {N M S : Nat → Prop} {w w' : World} (hk : Zo S w w') (hs : ∀ k, k < w.heap.size → N k → ¬ S k ∧ M k) : ∀ {ds : Ds} {vs : List Value}, Zh N w ds vs → Zh M w' ds vs
 | .nil, vs, h => h
 | .int n r, vs, ⟨t, e, h⟩ => ⟨t, e, Zh.keeps hk hs h⟩
 | .str s r, vs, ⟨t, e, h⟩ => ⟨t, e, Zh.keeps hk hs h⟩
 | .row n cs r, vs, ⟨A, c, xs, t, e, hn, h1, h2, h3⟩ => ⟨A, c, xs, t, e, hn, h1.keeps hk hs, Zh.keeps hk hs h2, Zh.keeps hk hs h3⟩
theorem Zh.mono {N M : Nat → Prop} {w : World} {ds : Ds} {vs : List Value} (h : Zh N w ds vs) (hs : ∀ k, k < w.heap.size → N k → M k) : Zh M w ds vs :=
 h.keeps (S := fun _ => False) (Zo.refl _ w) fun k hk hn => ⟨id, hs k hk hn⟩
theorem Zh.below {N : Nat → Prop} {w w' : World} {ds : Ds} {vs : List Value} (h : Zh N w ds vs) (hb : Below w.heap.size w w') : Zh N w' ds vs :=
 h.keeps (S := fun _ => False) (Zo.of_below hb) fun k _ hn => ⟨id, hn⟩
theorem Zh.len {N : Nat → Prop} {w : World} : ∀ {ds : Ds} {vs : List Value}, Zh N w ds vs → vs.length = ds.len
 | .nil, vs, h => by cases h; rfl
 | .int n r, vs, ⟨t, e, h⟩ => by rw [e, List.length_cons, Zh.len h]; rfl
 | .str s r, vs, ⟨t, e, h⟩ => by rw [e, List.length_cons, Zh.len h]; rfl
 | .row n cs r, vs, ⟨A, c, xs, t, e, _, _, _, h⟩ => by rw [e, List.length_cons, Zh.len h]; rfl
theorem Zh.one {N : Nat → Prop} {w : World} : ∀ {ds : Ds} {vs : List Value}, Zh N w ds vs → ∀ v ∈ vs, v.oneCell' = true
 | .nil, vs, h => by cases h; intro v hv; cases hv
 | .int n r, vs, ⟨t, e, h⟩ => by rw [e]; intro v hv; rcases List.mem_cons.1 hv with rfl | hv; rfl; exact Zh.one h v hv
 | .str s r, vs, ⟨t, e, h⟩ => by rw [e]; intro v hv; rcases List.mem_cons.1 hv with rfl | hv; rfl; exact Zh.one h v hv
 | .row n cs r, vs, ⟨A, c, xs, t, e, _, _, _, h⟩ => by rw [e]; intro v hv; rcases List.mem_cons.1 hv with rfl | hv; rfl; exact Zh.one h v hv
theorem Zh.app {N : Nat → Prop} {w : World} {y : Ds} {us : List Value} (hy : Zh N w y us) : ∀ {x : Ds} {vs : List Value}, Zh N w x vs → Zh N w (x.app y) (vs ++ us)
 | .nil, vs, h => by cases h; exact hy
 | .int n r, vs, ⟨t, e, h⟩ => ⟨t ++ us, by rw [e]; rfl, Zh.app hy h⟩
 | .str s r, vs, ⟨t, e, h⟩ => ⟨t ++ us, by rw [e]; rfl, Zh.app hy h⟩
 | .row n cs r, vs, ⟨A, c, xs, t, e, hn, h1, h2, h⟩ => ⟨A, c, xs, t ++ us, by rw [e]; rfl, hn, h1, h2, Zh.app hy h⟩
theorem Zh.split {N : Nat → Prop} {w : World} {y : Ds} : ∀ {x : Ds} {vs : List Value}, Zh N w (x.app y) vs → ∃ a b, vs = a ++ b ∧ Zh N w x a ∧ Zh N w y b
 | .nil, vs, h => ⟨[], vs, rfl, rfl, h⟩
 | .int n r, vs, ⟨t, e, h⟩ => by obtain ⟨a, b, e2, h1, h2⟩ := Zh.split (x := r) h; exact ⟨.int .i64 n :: a, b, by rw [e, e2]; rfl, ⟨a, rfl, h1⟩, h2⟩
 | .str s r, vs, ⟨t, e, h⟩ => by obtain ⟨a, b, e2, h1, h2⟩ := Zh.split (x := r) h; exact ⟨.string s :: a, b, by rw [e, e2]; rfl, ⟨a, rfl, h1⟩, h2⟩
 | .row n cs r, vs, ⟨A, c, xs, t, e, hn, g1, g2, h⟩ => by obtain ⟨a, b, e2, h1, h2⟩ := Zh.split (x := r) h; exact ⟨.slice A n c :: a, b, by rw [e, e2]; rfl, ⟨A, c, xs, a, rfl, hn, g1, g2, h1⟩, h2⟩
theorem own_within {w : World} {base : Nat} {e : TypeId} {size : Nat} {v : Value} {n : Nat} {xs : List Value} (h : w.ownsRow base e size v n xs) :
   ∃ A c, v = .slice A n c ∧ n ≤ 9223372036854775807 ∧ Ji (fun k => base ≤ k) w A xs := by
 obtain ⟨hl, h⟩ := id h
 rcases h with ⟨rfl, rfl⟩ | ⟨g, cap, cur, rfl, hb, hw, h1, h2, h3, h4⟩
 · refine ⟨none, 0, rfl, by omega, .inl ?_⟩
   rw [Nat.zero_mul] at hl
   exact List.length_eq_zero_iff.1 hl
 · unfold maxLen at h2
   refine ⟨some ⟨g, 0, none⟩, cap, rfl, by omega, .inr ⟨g, rfl, hb, Zb.inside (cs := cur) hw, fun j hj => ?_⟩⟩
   rw [Zb.read (cs := cur) hw j, ← h4, List.getElem?_take]
   have hj' : j < n * size := by rw [← hl]; exact hj
   rw [if_pos hj', Array.getElem?_toList]
theorem Zh.rowOf {N : Nat → Prop} {w : World} {base : Nat} {e : TypeId} {size : Nat} {v : Value} {n : Nat} {xs : List Value} {ds : Ds} (h : w.ownsRow base e size v n xs) (hb : ∀ k, base ≤ k → N k) (hd : Zh N w ds xs) :
   Zh N w (.row n ds .nil) [v] := by
 obtain ⟨A, c, rfl, hn, hw⟩ := own_within h
 exact ⟨A, c, xs, [], rfl, hn, hw.keeps (S := fun _ => False) (Zo.refl _ w) (fun k _ hk => ⟨id, hb k hk⟩), hd, rfl⟩
theorem Zb.range {w : World} {g : Nat} {t : TypeId} {a b c : List Value} (h : Zb w g t (a ++ b ++ c).toArray) : w.rangeAt g a.length b := fun j v hv => by
 have hj : j < b.length := (List.getElem?_eq_some_iff.1 hv).1
 rw [h.read, List.getElem?_toArray, List.getElem?_append_left (by rw [List.length_append]; omega), List.getElem?_append_right (by omega), show a.length + j - a.length = j from by omega, hv]
theorem Zb.there {w : World} {g : Nat} {t : TypeId} {a b c : List Value} (h : Zb w g t (a ++ b ++ c).toArray) : w.there g a.length b.length := fun j hj =>
 ⟨h.range.isSome j hj, h.thawed _⟩
theorem Zb.setCells {g : Nat} {t : TypeId} (c : List Value) : ∀ (y b a : List Value) (w : World), y.length = b.length → Zb w g t (a ++ b ++ c).toArray → Zb (w.setCells g a.length y) g t (a ++ y ++ c).toArray
 | [], b, a, w, hl, h => by
   have : b = [] := List.length_eq_zero_iff.1 (by rw [← hl]; rfl)
   rw [this] at h
   exact h
 | v :: y, [], a, w, hl, h => by cases hl
 | v :: y, u :: b, a, w, hl, h => by
   rw [World.setCells]
   have h1 := h.write a.length v
   have e : (a ++ u :: b ++ c).toArray.setIfInBounds a.length v = ((a ++ [v]) ++ b ++ c).toArray := by
     simp [List.setIfInBounds_toArray, List.set_append_right]
   rw [e] at h1
   have h2 := Zb.setCells c y b (a ++ [v]) _ (by rw [List.length_cons, List.length_cons] at hl; omega) h1
   rw [List.length_append] at h2
   have e2 : (a ++ [v] ++ y ++ c).toArray = (a ++ v :: y ++ c).toArray := by simp
   rw [e2] at h2
   exact h2
theorem Zo.setCells {S : Nat → Prop} {g : Nat} (hg : S g) : ∀ (y : List Value) (o : Nat) {a b : World}, Zo S a b → Zo S a (b.setCells g o y)
 | [], _, _, _, h => h
 | v :: y, o, a, b, h => Zo.setCells hg y (o + 1) (h.setCell (p := ⟨g, o, none⟩) hg v)
theorem Ze {P : Program} {ops : Array Oper} {rest : List Oper} {op : Op} {t : TypeId} {ps : String} {af : Array Edge} {gd : Option (Nat × Bool)} {a : Act} {w : World} {Q : Exit → Act → World → Prop} (d : Nat)
   (h : wpList P ops Q (⟨some d, op, t, ps, af, gd⟩ :: rest) a w) : wpList P ops Q (⟨some d, op, t, ps, af, gd⟩ :: rest) a w := h
theorem Zl {P : Program} {ops : Array Oper} {rest : List Oper} {T : TypeId} {t : TypeId} {ps : String} {af : Array Edge} {gd : Option (Nat × Bool)} {a : Act} {w : World} {Q : Exit → Act → World → Prop} (x y : Nat)
   (h : wpList P ops Q (⟨none, .store T (.tmp x) (.tmp y), t, ps, af, gd⟩ :: rest) a w) : wpList P ops Q (⟨none, .store T (.tmp x) (.tmp y), t, ps, af, gd⟩ :: rest) a w := h
structure Put (w w' : World) (g : Nat) (t : TypeId) (vs : List Value) : Prop where
 whole : Zb w' g t vs.toArray
 keeps : Zo (fun k => k = g) w w'
theorem Wh {P : Program} {ops : Array Oper} {rest : List Oper} {o : Oper} {a : Act} {w : World} {Q : Exit → Act → World → Prop} (T : TypeId) (x y : Operand) (t : TypeId) (g n : Nat) (pre old post ys : List Value) (hW : Zb w g t (pre ++ old ++ post).toArray) (hl : ys.length = old.length)
   (hpn : n = pre.length) (hi : (P.info? T).map (·.size) = some ys.length) (h1 : ∀ v ∈ ys, v.oneCell' = true)
   (hgd : o.guard = none) (ho : o.op = .store T x y) (hd : o.dst = none)
   (hx : a.eval x = .pointer (some ⟨g, n, none⟩)) (hy : a.eval y = .agg ys.toArray)
   (h : ∀ w', Put w w' g t (pre ++ ys ++ post) → wpList P ops Q rest a w') : wpList P ops Q (o :: rest) a w := by
 subst hpn
 have ht : w.there g pre.length ys.length := by rw [hl]; exact hW.there
 refine wpList_store_mid hgd T x y ho g pre.length ys.toArray hx hy (by simpa using ht) (by simpa using hi) (all_oneCell_toArray h1) ?_
 rw [hd]
 exact h _ ⟨Zb.setCells post ys old pre w hl hW, Zo.setCells (S := fun k => k = g) rfl _ _ (Zo.refl _ _)⟩
theorem Zc {P : Program} {ops : Array Oper} {rest : List Oper} {o : Oper} {a : Act} {w : World} {Q : Exit → Act → World → Prop} (T : TypeId) (x y : Operand) (t : TypeId) (g : Nat) (old ys : List Value) (hW : Zb w g t old.toArray) (hl : ys.length = old.length)
   (hi : (P.info? T).map (·.size) = some ys.length) (h1 : ∀ v ∈ ys, v.oneCell' = true)
   (hgd : o.guard = none) (ho : o.op = .store T x y) (hd : o.dst = none)
   (hx : a.eval x = .pointer (some ⟨g, 0, none⟩)) (hy : a.eval y = .agg ys.toArray)
   (h : ∀ w', Put w w' g t ys → wpList P ops Q rest a w') : wpList P ops Q (o :: rest) a w :=
 Wh T x y t g 0 [] old [] ys (by simpa using hW) hl rfl hi h1 hgd ho hd hx hy fun w' p => h w' ⟨by simpa using p.whole, p.keeps⟩
theorem Zn {P : Program} {ops : Array Oper} {rest : List Oper} {o : Oper} {a : Act} {w : World} {Q : Exit → Act → World → Prop} (T : TypeId) (x y : Operand) (t : TypeId) (g n : Nat) (pre : List Value) (old v : Value) (post : List Value) (hW : Zb w g t (pre ++ [old] ++ post).toArray)
   (hpn : n = pre.length) (hi : (P.info? T).map (·.size) = some 1) (h1 : v.oneCell' = true)
   (hgd : o.guard = none) (ho : o.op = .store T x y) (hd : o.dst = none)
   (hx : a.eval x = .pointer (some ⟨g, n, none⟩)) (hy : a.eval y = v)
   (h : ∀ w', Put w w' g t (pre ++ [v] ++ post) → wpList P ops Q rest a w') : wpList P ops Q (o :: rest) a w := by
 subst hpn
 refine wpList_plain hgd fun K hK => ?_
 have hc : v.cells = #[v] := by cases v <;> first | rfl | cases h1
 have hst : (storeVar T ⟨g, pre.length, none⟩ v).run P w = .ok () (w.setCells g pre.length [v]) := by
   have := run_storeCells_cells (P := P) g pre.length [v] 0 w (fun j hj => by simpa using (hW.there j hj).1) (fun j hj => by simpa using (hW.there j hj).2) (fun u hu => by simp at hu; rw [hu]; exact h1)
   cases hq : P.info? T with
   | none => simp [hq] at hi
   | some i =>
     have hs : i.size = 1 := by simpa [hq] using hi
     simp only [Nat.add_zero] at this
     simp [storeVar, sizeOf, typeInfo, hq, hc, hs, this]
 unfold Oper.wp execOp
 simp only [ho, hx, hy, Instr.storeAt, Instr.sureAddr, Sem.run_bind, Sem.run_pure, Result.andThen_ok, hst]
 have hh := hK _ _ (h _ ⟨Zb.setCells post [v] [old] pre w rfl hW, Zo.setCells (S := fun k => k = g) rfl _ _ (Zo.refl _ _)⟩)
 have e : a.put o.dst undef = a := by rw [hd]; rfl
 show K (a.put o.dst undef) _
 rw [e]
 exact hh
theorem wpList_loadP {P : Program} {ops : Array Oper} {rest : List Oper} {o : Oper} {a : Act} {w : World} {Q : Exit → Act → World → Prop} (T : TypeId) (x : Operand) (t : TypeId) (g n : Nat) (pre vs post : List Value) (hW : Zb w g t (pre ++ vs ++ post).toArray) (hpn : n = pre.length)
   (hu : (P.underlying T).map TypeDesc.isRow = some true) (hi : (P.info? T).map (·.size) = some vs.length)
   (hgd : o.guard = none) (ho : o.op = .load T x) (hx : a.eval x = .pointer (some ⟨g, n, none⟩))
   (h : wpList P ops Q rest (a.put o.dst (.agg vs.toArray)) w) : wpList P ops Q (o :: rest) a w := by
 subst hpn
 obtain ⟨d, hu, hr⟩ := Option.map_eq_some_iff.1 hu
 exact wpList_load_mid hgd T x ho g pre.length hx vs d hW.range hu hr hi h
theorem Zd {P : Program} {ops : Array Oper} {rest : List Oper} {o : Oper} {a : Act} {w : World} {Q : Exit → Act → World → Prop} (T : TypeId) (x : Operand) (t : TypeId) (g : Nat) (vs : List Value) (hW : Zb w g t vs.toArray)
   (hu : (P.underlying T).map TypeDesc.isRow = some true) (hi : (P.info? T).map (·.size) = some vs.length)
   (hgd : o.guard = none) (ho : o.op = .load T x) (hx : a.eval x = .pointer (some ⟨g, 0, none⟩))
   (h : wpList P ops Q rest (a.put o.dst (.agg vs.toArray)) w) : wpList P ops Q (o :: rest) a w :=
 wpList_loadP T x t g 0 [] vs [] (by simpa using hW) rfl hu hi hgd ho hx h
theorem Xm {P : Program} {w : World} {ops : Array Oper} {rest : List Oper} {o : Oper} {a : Act} {Q : Exit → Act → World → Prop} (s x : Operand) (t e : TypeId) (sz bytes : Nat) (z : Value)
   (ht : P.underlying t = some (.slice e)) (hinfo : (P.info? e).map (fun i => (i.zero, i.size, i.bytes)) = some (some z, sz, bytes)) (hzs : z.cells.size = sz) (hpos : 0 < sz) (hby : bytes ≤ 1024)
   (base : Nat) (v : Value) (n : Nat) (xs news : List Value) (hown : w.ownsRow base e sz v n xs) (g : Nat) (hW : Zb w g e news.toArray) (hnl : news.length = sz) (h1 : ∀ u ∈ news, u.oneCell' = true)
   (hn : n ≤ 68719476736) (hbase : base ≤ w.heap.size)
   (hgd : o.guard = none) (ho : o.op = .call { callee := .builtin .append, args := #[s, x], argTypes := #[t, t] }) (hs : a.eval s = v) (hx : a.eval x = .slice (some ⟨g, 0, none⟩) 1 1)
   (h : ∀ v' w', w'.ownsRow base e sz v' (n + 1) (xs ++ news) → w.grownBy w' v.ownBlock → (v'.ownBlock = v.ownBlock ∨ v'.ownBlock = some w.heap.size) → wpList P ops Q rest (a.put o.dst v') w') :
   wpList P ops Q (o :: rest) a w := by
 obtain ⟨i, hi, hz, hsize, hbytes⟩ := info_parts hinfo
 refine wpList_append_own_at w hgd s x t ho base e i z sz bytes ht hi hz hsize hbytes hzs hpos v n xs hs hown ⟨g, 0, none⟩ 1 1 news hx (by rw [hnl]; omega) ?_ h1 (by unfold maxLen; omega) ?_ hbase ?_
 · intro j u hj
   have hr := hW.read j
   have ha : (⟨g, 0, none⟩ : Addr).add j = ⟨g, j, none⟩ := by simp [Addr.add]; omega
   rw [ha, hr, ← hj]; simp
 · have : (n + 1) * bytes ≤ (n + 1) * 1024 := Nat.mul_le_mul_left _ hby
   omega
 · intro v' w' ho' hg _ hat
   exact h v' w' ho' hg hat
theorem Zs {P : Program} {fn : Func} {R : Ending → World → Prop} {a : Act} {w : World} (s T : Nat) (t : TypeId) (g : Nat) (vs : List Value) (hres : fn.results = #[.cell s T]) (hW : Zb w g t vs.toArray)
   (hu : (P.underlying T).map TypeDesc.isRow = some true) (hi : (P.info? T).map (·.size) = some vs.length)
   (hp : a.tmps.getD s undef = .pointer (some ⟨g, 0, none⟩)) (hd : a.defers = []) (hR : R (.returned (.agg vs.toArray)) w) : bodyPost P fn R .ret a w := by
 obtain ⟨d, hu, hr⟩ := Option.map_eq_some_iff.1 hu
 refine bodyPost_ret (v := .agg vs.toArray) ?_ hd hR
 have hl := run_loadVar_mid (P := P) w g 0 T vs d (by have := Zb.range (a := []) (b := vs) (c := []) (by simpa using hW); exact this) hu hr hi
 have hp' : a.tmps[s]?.getD undef = .pointer (some ⟨g, 0, none⟩) := by simpa using hp
 simp [results, hres, hp', hl, asAddr, Sem.run_bind, Sem.run_pure]
end Go.Proofs.YtljdgdphldckhaaGreat
namespace Go.Proofs.YtljdgdphldckhaaGreat
open Go
set_option linter.unusedSimpArgs false
set_option linter.unusedVariables false
def TokSim (pl : Bool) (u v : TokV) : Prop := u.k = v.k ∧ u.t = v.t ∧ u.n = v.n ∧ (pl = true → u.line = v.line ∧ u.col = v.col)
structure RowSim (pl : Bool) (L M : List TokV) : Prop where
 len : L.length = M.length
 tok : ∀ a, TokSim pl (Ye L a) (Ye M a)
def FltSim (pl : Bool) (F G : Int × Nat × Nat) : Prop := F.1 = G.1 ∧ (pl = true → F = G)
def StSim (pl : Bool) : St → St → Prop
 | .ok a d, .ok b e => a = b ∧ d = e
 | .bad F, .bad G => FltSim pl F G
 | _, _ => False
theorem StSim.good {pl : Bool} : ∀ {s t : St}, StSim pl s t → s.good = t.good
 | .ok _ _, .ok _ _, _ => rfl
 | .bad _, .bad _, _ => rfl
section
variable {pl : Bool} {L M : List TokV} (h : RowSim pl L M)
include h
end
theorem Vi {L : List TokV} {t : ByteArray} : ∀ {s : St}, (Yz L t s).good = true → s.good = true
 | .ok a d, _ => rfl
 | .bad F, h => h
theorem Jb {L : List TokV} {ws : List ByteArray} : ∀ {s : St}, (Yu L ws s).good = true → s.good = true
 | .ok a d, _ => rfl
 | .bad F, h => h
theorem good_up : ∀ {s : St}, (upS s).good = true → s.good = true
 | .ok a d, _ => rfl
 | .bad F, h => h
theorem filters_stop0 (nk : Int) (L : List TokV) (n : Nat) (F : Int × Nat × Nat) : Xc nk L (n + 1) (.bad F) = ([], .bad F) := by rw [Xc]; exact if_pos rfl
theorem good_filters {nk : Int} {L : List TokV} : ∀ {n : Nat} {s : St}, (Xc nk L n s).2.good = true → s.good = true
 | _, .ok a d, _ => rfl
 | 0, .bad F, h => h
 | n + 1, .bad F, h => by rw [filters_stop0 nk L n F] at h; exact h
section
variable {pl : Bool} {L M : List TokV} (h : RowSim pl L M) (a b : Int)
include h
end
section
variable {nk : Int} {L : List TokV}
theorem exprs_bad : ∀ n : Nat, (∀ F, (Yq nk L n (.bad F)).2 = .bad F) ∧ (∀ e F, (Zaa nk L n (e, .bad F)).2 = .bad F) ∧ (∀ F, (Vy nk L n (.bad F)).2 = .bad F) ∧ (∀ e F, (Jy nk L n (e, .bad F)).2 = .bad F) ∧ (∀ F, (Vt nk L n (.bad F)).2 = .bad F)
 | 0 => ⟨fun F => rfl, fun e F => rfl, fun F => rfl, fun e F => rfl, fun F => rfl⟩
 | n + 1 => by
   obtain ⟨e1, e2, e3, e4, e5⟩ := exprs_bad n
   refine ⟨fun F => ?_, fun e F => ?_, fun F => ?_, fun e F => ?_, fun F => ?_⟩
   · rw [Yq]
     have : Vy nk L n (.bad F) = ((Vy nk L n (.bad F)).1, .bad F) := Prod.ext rfl (e3 F)
     rw [this]
     exact e2 _ F
   · rw [Zaa]
     show (if (0 : Nat) = 0 then (e, St.bad F) else _).2 = _
     rw [if_pos rfl]
   · rw [Vy]
     have : Vt nk L n (.bad F) = ((Vt nk L n (.bad F)).1, .bad F) := Prod.ext rfl (e5 F)
     rw [this]
     exact e4 _ F
   · rw [Jy]
     show (if false = true then _ else (e, St.bad F)).2 = _
     rw [if_neg Bool.false_ne_true]
   · rw [Vt]
     have h1 : ¬ isS L Vo (.bad F) = true := Bool.false_ne_true
     have h2 : Zm L Vb (.bad F) = 0 := rfl
     rw [if_neg h1, if_pos h2]
     rfl
theorem good_expr {n : Nat} : ∀ {s : St}, (Yq nk L n s).2.good = true → s.good = true
 | .ok a d, _ => rfl
 | .bad F, h => by rw [(exprs_bad n).1 F] at h; exact h
theorem good_to : ∀ {s : St}, (toS L s).good = true → s.good = true
 | .ok a d, _ => rfl
 | .bad F, h => h
end
def AHSim (pl : Bool) (x y : AH) : Prop := x = { y with line := x.line, col := x.col } ∧ (pl = true → x.line = y.line ∧ x.col = y.col)
section
variable {pl : Bool} {L M : List TokV} (h : RowSim pl L M) (a b : Int)
include h
end
def AcsSim (pl : Bool) : Acs → Acs → Prop
 | .nil, .nil => True
 | .cons h t e r, .cons h' t' e' r' => AHSim pl h h' ∧ AcsSim pl t t' ∧ AcsSim pl e e' ∧ AcsSim pl r r'
 | _, _ => False
theorem acts_bad {nk : Int} {L : List TokV} : ∀ (n : Nat) (F : Int × Nat × Nat), (Xs nk L n (.bad F)).2 = .bad F
 | 0, F => rfl
 | n + 1, F => by
   have h2 : Zm L Xv (.bad F) = 0 := rfl
   rw [Xs, if_pos h2]
theorem good_acts {nk : Int} {L : List TokV} {n : Nat} : ∀ {s : St}, (Xs nk L n s).2.good = true → s.good = true
 | .ok a d, _ => rfl
 | .bad F, h => by rw [acts_bad n F] at h; exact h
theorem good_block {nk : Int} {L : List TokV} : ∀ {n : Nat} {s : St}, (Yx nk L n s).2.good = true → s.good = true
 | _, .ok a d, _ => rfl
 | 0, .bad F, h => h
 | n + 1, .bad F, h => by
   rw [Yx] at h
   have h1 := good_acts (Vi (good_up h))
   exact h1
theorem good_take {L : List TokV} {t : ByteArray} : ∀ {s : St}, (Wc L t s).good = true → s.good = true
 | .ok a d, _ => rfl
 | .bad F, h => h
section
variable {pl : Bool} {L M : List TokV} (h : RowSim pl L M) (a b : Int)
include h
end
theorem good_rules {nk : Int} {L : List TokV} : ∀ {n : Nat} {s : St}, (Vw nk L n s).2.good = true → s.good = true
 | _, .ok a d, _ => rfl
 | 0, .bad F, h => h
 | n + 1, .bad F, h => by
   have h2 : Zm L Xf (.bad F) = 0 := rfl
   rw [Vw, if_pos h2] at h
   exact h
theorem good_body {nk : Int} {L : List TokV} {n : Nat} {s : St} (h : (Jg nk L n s).2.good = true) : s.good = true := Vi (good_rules (Vi h))
theorem good_file {nk : Int} {L : List TokV} : ∀ {n : Nat} {s : St}, (Vc nk L n s).2.good = true → s.good = true
 | _, .ok a d, _ => rfl
 | 0, .bad F, h => h
 | n + 1, .bad F, h => by
   have h2 : Zm L Ws (.bad F) = 0 := rfl
   rw [Vc, if_pos h2] at h
   exact h
section
variable {pl : Bool} {L M : List TokV} (h : RowSim pl L M) (a b : Int)
include h
end
end Go.Proofs.YtljdgdphldckhaaGreat
