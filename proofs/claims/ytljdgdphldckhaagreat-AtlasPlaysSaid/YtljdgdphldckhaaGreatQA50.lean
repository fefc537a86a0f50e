/-
  Texts PlaysP. No conditions but those that each theorem names.
-/
import Derived.Deep.QuietTactic
import Derived.BigQuiet
import Derived.Test.YtljdgdphldckhaaGreatQA49
set_option maxRecDepth 20000
set_option maxHeartbeats 12800000
namespace Go.Proofs.YtljdgdphldckhaaGreat
open Go.Great Go.ChangeShapes Go.WideShapes Go.ChangeAt Go.RowKit
set_option linter.unusedVariables false
set_option linter.unusedSimpArgs false
theorem one_place {N : Nat → Prop} {w : World} {c : Pl} {v0 v1 : Value} (d : Zh N w (⟨[], [c]⟩ : Fi).ds [v0, v1]) : ∃ gc kc B kb, v0 = .slice B 0 kb ∧ v1 = .slice (some ⟨gc, 0, none⟩) 1 kc := by
 obtain ⟨B, kb, ys, _, e, _, _, _, A, kc, xs, _, rfl, _, hw, hd, rfl⟩ := d
 injection e with e1 e2
 injection e2 with e2 _
 have hl := hd.len
 have hl : xs.length = 4 := hl
 obtain ⟨g, rfl, _⟩ := hw.reads (by omega)
 exact ⟨g, kc, B, kb, e1, e2⟩
theorem one_placeAt {N : Nat → Prop} {w : World} {c : Pl} {gc kc : Nat} {v0 : Value} (d : Zh N w (⟨[], [c]⟩ : Fi).ds [v0, .slice (some ⟨gc, 0, none⟩) 1 kc]) : ∃ ys, ys.length = 4 ∧ w.rangeAt gc 0 ys ∧ Zh N w c.ds ys ∧ w.cell? ⟨gc, 0, none⟩ = some (.string c.name) := by
 obtain ⟨_, _, _, _, e0, _, _, _, A, kc2, xs, _, rfl, _, hw, hd, rfl⟩ := d
 injection e0 with _ e
 injection e with e1 e2
 injection e1 with e1 _ _
 have hd2 : Zh N w (c.ds.app .nil) xs := hd
 rw [Ds.app_nil] at hd2
 have hl : xs.length = 4 := hd2.len
 subst e1
 obtain ⟨g, e3, _, hc⟩ := hw.reads (by omega)
 injection e3 with e3
 injection e3 with e3 _ _
 subst e3
 obtain ⟨r, er, _⟩ := id hd2
 refine ⟨xs, hl, fun j v hv => ?_, hd2, ?_⟩
 · rw [Nat.zero_add, hc j (List.getElem?_eq_some_iff.1 hv).1]; exact hv
 · rw [hc 0 (by omega), er]; rfl
theorem one_place4 {N : Nat → Prop} {w : World} {c : Pl} {gc kc : Nat} {v0 : Value} (d : Zh N w (⟨[], [c]⟩ : Fi).ds [v0, .slice (some ⟨gc, 0, none⟩) 1 kc]) : ∃ v : Value, w.cell? ⟨gc, 0, none⟩ = some (.string c.name) ∧ w.cell? ⟨gc, 1, none⟩ = some (.int .i64 c.line) ∧ w.cell? ⟨gc, 2, none⟩ = some (.int .i64 c.col) ∧ w.cell? ⟨gc, 3, none⟩ = some v ∧
   Zh N w c.ds [.string c.name, .int .i64 c.line, .int .i64 c.col, v] := by
 obtain ⟨ys, hl, hr, hd, _⟩ := one_placeAt d
 obtain ⟨_, rfl, _, rfl, _, rfl, A, k, xs, _, rfl, r1, r2, r3, rfl⟩ := id hd
 exact ⟨_, hr 0 _ rfl, hr 1 _ rfl, hr 2 _ rfl, hr 3 _ rfl, hd⟩
def plOf1 (s : ByteArray) : Pl := match (parseF 5 s).1.places with | c :: _ => c | [] => ⟨⟨#[]⟩, 0, 0, []⟩
def goodP (s nm : ByteArray) : Bool := match parseF 5 s with
 | (⟨[], [c]⟩, F) => decide (F = okF) && decide (lPlaces (-1) 0 [c] = (0, 0, 0)) && decide (strOfNums (Zp ([], false) (kPl c)).1 = s) && decide (lenB (kPl c) ≤ 10000) && decide (s.size ≤ 65536) && decide (c.name = nm)
 | _ => false
def goodPR (S M : List ByteArray) (a n : Nat) : Bool := (List.range n).all fun i => goodP (S.getD (a + i) ⟨#[]⟩) (M.getD (a + i) ⟨#[]⟩)
theorem goodPR_at {S M : List ByteArray} {a n : Nat} (h : goodPR S M a n = true) {k : Nat} (h1 : a ≤ k) (h2 : k < a + n) : goodP (S.getD k ⟨#[]⟩) (M.getD k ⟨#[]⟩) = true := by
 unfold goodPR at h
 rw [List.all_eq_true] at h
 have := h (k - a) (List.mem_range.2 (by omega))
 rwa [show a + (k - a) = k from by omega] at this
structure PlaceOK (s : ByteArray) (c : Pl) : Prop where
 parse : parseF 5 s = (⟨[], [c]⟩, okF)
 lint : lCheck ⟨[], [c]⟩ = (0, 0, 0)
 text : strOfNums (Zp ([], false) (kPl c)).1 = s
 room : Yk ([], false) (kPl c)
 size : s.size ≤ 65536
 val : VPl c
theorem goodP_of {s nm : ByteArray} (h : goodP s nm = true) : PlaceOK s (plOf1 s) ∧ (plOf1 s).name = nm := by
 have hv := parse_val 5 s
 unfold goodP at h
 unfold plOf1
 obtain ⟨⟨cs, ps⟩, F, hp⟩ : ∃ f F, parseF 5 s = (f, F) := ⟨_, _, rfl⟩
 rw [hp] at h hv ⊢
 match cs, ps, h with
 | [], [c], h =>
   simp only [Bool.and_eq_true, decide_eq_true_eq] at h
   obtain ⟨⟨⟨⟨⟨h1, h2⟩, h3⟩, h4⟩, h5⟩, h6⟩ := h
   refine ⟨⟨by rw [hp, h1], ?_, h3, ?_, h5, (hv h5).2 c (by simp)⟩, h6⟩
   · show orF (lCards (Uw (Yt [])) 0 []) (lPlaces (Uw (Yt [_])) 0 [c]) = _
     rw [twice_one, h2]
     rfl
   · show 0 + lenB (kPl c) ≤ 10000000000; omega
theorem tPlace (w : World) (N : Nat → Prop) (c : Pl) (hv : VPl c) (vs : List Value) (hd : Zh N w c.ds vs) (hr : Yk ([], false) (kPl c)) :
   Calls Tryz.prog 15 #[.agg vs.toArray] w fun e y => e = .returned (.string (strOfNums (Zp ([], false) (kPl c)).1)) ∧ Below w.heap.size w y :=
 topPlace w vs hd.len _ (fun x hb => pPlace x N c hv vs (hd.below hb)) hr (puts_ne (t := wd Ws 2) (K := [qN c.name] ++ kBody c.rules) (by decide +kernel))
theorem pParseP {s : ByteArray} {c : Pl} (h : PlaceOK s c) (x : World) : Calls Tryz.prog 30 #[.string s] x fun e w' => ∃ gc kc B kb, e = .returned (.tuple #[.agg ([.slice B 0 kb, .slice (some ⟨gc, 0, none⟩) 1 kc] : List Value).toArray, .agg #[.int .i64 0, .int .i64 0, .int .i64 0]]) ∧
   Zh (fun k => x.heap.size ≤ k) w' (⟨[], [c]⟩ : Fi).ds [.slice B 0 kb, .slice (some ⟨gc, 0, none⟩) 1 kc] ∧ Below x.heap.size x w' := by
 have hp := xParse s x h.size
 rw [h.parse] at hp
 refine hp.mono ?_
 rintro e y ⟨vs, rfl, d, b⟩
 obtain ⟨v0, v1, rfl⟩ := two_vals vs d.len
 obtain ⟨gc, kc, B, kb, rfl, rfl⟩ := one_place d
 exact ⟨gc, kc, B, kb, rfl, d, b⟩
theorem pLintP {s : ByteArray} {c : Pl} (h : PlaceOK s c) (x : World) (N : Nat → Prop) (vs : List Value) (d : Zh N x (⟨[], [c]⟩ : Fi).ds vs) : Calls Tryz.prog 32 #[.agg vs.toArray] x fun e w' => e = .returned (.agg #[.int .i64 0, .int .i64 0, .int .i64 0]) ∧ Below x.heap.size x w' := by
 have hc := lCheck_any ⟨[], [c]⟩ (by simp) (by simp) x N vs d
 rw [h.lint] at hc
 exact hc
theorem pTextP {s : ByteArray} {c : Pl} (h : PlaceOK s c) (x : World) (N : Nat → Prop) (vs : List Value) (d : Zh N x c.ds vs) : Calls Tryz.prog 15 #[.agg vs.toArray] x fun e y => e = .returned (.string s) ∧ Below x.heap.size x y := by
 have ht := tPlace x N c h.val vs d h.room
 rw [h.text] at ht
 exact ht
end Go.Proofs.YtljdgdphldckhaaGreat
