/-
  Texts Tree. No conditions but those that each theorem names.
-/
import Derived.Test.YtljdgdphldckhaaGreatQA16
import Derived.Test.YtljdgdphldckhaaGreatQA20
set_option maxRecDepth 20000
set_option maxHeartbeats 12800000
namespace Go.Proofs.YtljdgdphldckhaaGreat
open Go Go.RowKit Go.Great
set_option linter.unusedSimpArgs false
set_option linter.unusedVariables false
theorem Ji.reads {N : Nat → Prop} {w : World} {A : Option Addr} {xs : List Value} (h : Ji N w A xs) (hx : 0 < xs.length) : ∃ g, A = some ⟨g, 0, none⟩ ∧ g < w.heap.size ∧ ∀ j, j < xs.length → w.cell? ⟨g, j, none⟩ = xs[j]? := by
 rcases h with h | ⟨g, e, _, h2, h3⟩
 · rw [h] at hx; cases hx
 · exact ⟨g, e, h2, h3⟩
theorem Zh.inRow {N : Nat → Prop} {w : World} {n : Nat} {ds : Ds} {v : Value} (h : Zh N w (.row n ds .nil) [v]) : ∃ A c xs, v = .slice A n c ∧ n ≤ 9223372036854775807 ∧ Ji N w A xs ∧ Zh N w ds xs := by
 obtain ⟨A, c, xs, t, e, hn, hw, hd, _⟩ := h
 injection e with e1 e2
 exact ⟨A, c, xs, e1, hn, hw, hd⟩
theorem Zh.inRow1 {N : Nat → Prop} {w : World} {n : Nat} {ds : Ds} {vs : List Value} (h : Zh N w (.row n ds .nil) vs) : ∃ A c xs, vs = [.slice A n c] ∧ n ≤ 9223372036854775807 ∧ Ji N w A xs ∧ Zh N w ds xs := by
 obtain ⟨A, c, xs, t, e, hn, hw, hd, ht⟩ := h
 have ht : t = [] := ht
 exact ⟨A, c, xs, by rw [e, ht], hn, hw, hd⟩
def Fl.vals (f : Fl) : List Value := [.int .i64 f.kind, .int .i64 f.op, .int .i64 f.n, .string f.name]
theorem fls_at {N : Nat → Prop} {w : World} : ∀ {l : List Fl} {xs : List Value}, Zh N w (flsDs l) xs → ∀ (k : Nat) (hk : k < l.length) (j : Nat), j < 4 → xs[k * 4 + j]? = (l[k]'hk).vals[j]? := by
 intro l
 induction l with
 | nil => intro xs _ k hk; cases hk
 | cons f l ih =>
   intro xs h k hk j hj
   obtain ⟨_, rfl, _, rfl, _, rfl, xs, rfl, h⟩ := h
   cases k with
   | zero =>
     rcases (show j = 0 ∨ j = 1 ∨ j = 2 ∨ j = 3 by omega) with rfl | rfl | rfl | rfl <;> rfl
   | succ k =>
     have := ih h k (by simpa using hk) j hj
     rw [show (k + 1) * 4 + j = (k * 4 + j) + 4 by omega]
     simpa using this
theorem fls_len {N : Nat → Prop} {w : World} : ∀ {l : List Fl} {xs : List Value}, Zh N w (flsDs l) xs → xs.length = l.length * 4 := by
 intro l
 induction l with
 | nil => intro xs h; cases h; rfl
 | cons f l ih =>
   intro xs h
   obtain ⟨_, rfl, _, rfl, _, rfl, xs, rfl, h⟩ := h
   have := ih h
   simp only [List.length_cons]; omega
theorem fil_at {N : Nat → Prop} {w : World} {A : Option Addr} {l : List Fl} {xs : List Value} (hw : Ji N w A xs) (hd : Zh N w (flsDs l) xs) {k : Nat} (hk : k < l.length) :
   ∃ x, A = some x ∧ x.block < w.heap.size ∧ w.cell? (x.add (k * 4)) = some (.int .i64 (l[k]'hk).kind) ∧ w.cell? ⟨(x.add (k * 4)).block, (x.add (k * 4)).off + 1, none⟩ = some (.int .i64 (l[k]'hk).op) ∧
     w.cell? ⟨(x.add (k * 4)).block, (x.add (k * 4)).off + 2, none⟩ = some (.int .i64 (l[k]'hk).n) ∧ w.cell? ⟨(x.add (k * 4)).block, (x.add (k * 4)).off + 3, none⟩ = some (.string (l[k]'hk).name) := by
 have hl := fls_len hd
 obtain ⟨g, hA, hg, hc⟩ := hw.reads (by omega)
 have key : ∀ j, j < 4 → w.cell? (((⟨g, 0, none⟩ : Addr).add (k * 4)).add j) = (l[k]'hk).vals[j]? := fun j hj => by
   rw [Addr.add_add, Addr.add_lit, Nat.zero_add, hc _ (by omega), fls_at hd k hk j hj]
 exact ⟨⟨g, 0, none⟩, hA, hg, key 0 (by omega), key 1 (by omega), key 2 (by omega), key 3 (by omega)⟩
def Acs.at? : Acs → Nat → Option (AH × Acs × Acs)
 | .nil, _ => none
 | .cons h t e _, 0 => some (h, t, e)
 | .cons _ _ _ r, n + 1 => r.at? n
theorem Acs.at_some : ∀ (x : Acs) (k : Nat), k < x.len → ∃ u, x.at? k = some u
 | .nil, k, h => absurd h (Nat.not_lt_zero k)
 | .cons h t e r, 0, _ => ⟨(h, t, e), rfl⟩
 | .cons h t e r, k + 1, hk => Acs.at_some r k (Nat.lt_of_succ_lt_succ hk)
theorem Acs.at_lt : ∀ (x : Acs) (k : Nat) (u : AH × Acs × Acs), x.at? k = some u → SizeOf.sizeOf u.2.1 < SizeOf.sizeOf x ∧ SizeOf.sizeOf u.2.2 < SizeOf.sizeOf x
 | .nil, k, u, h => by cases h
 | .cons h t e r, 0, u, hu => by cases hu; simp only [Acs.cons.sizeOf_spec]; omega
 | .cons h t e r, k + 1, u, hu => by have := Acs.at_lt r k u hu; simp only [Acs.cons.sizeOf_spec]; omega
theorem acs_at {N : Nat → Prop} {w : World} : ∀ {l : Acs} {xs : List Value}, Zh N w l.ds xs → ∀ (k : Nat) (u : AH × Acs × Acs), l.at? k = some u → ∃ pre ys post, xs = pre ++ ys ++ post ∧ pre.length = k * 53 ∧ Zh N w (u.1.dsr u.2.1.len u.2.1.ds u.2.2.len u.2.2.ds) ys := by
 intro l
 induction l with
 | nil => intro xs _ k u hu; cases hu
 | cons f t e r _ _ ih =>
   intro xs h k u hu
   obtain ⟨a, b, rfl, ha, hb⟩ := Zh.split (x := f.dsr t.len t.ds e.len e.ds) h
   cases k with
   | zero => cases hu; exact ⟨[], a, b, rfl, by simp, ha⟩
   | succ k =>
     obtain ⟨pre, ys, post, rfl, hp, hy⟩ := ih hb k u hu
     refine ⟨a ++ pre, ys, post, by simp, ?_, hy⟩
     rw [List.length_append, ha.len, AH.dsr_len, hp]; omega
theorem Zam {w : World} {g sz : Nat} {pre ys post : List Value} (hc : ∀ j, j < (pre ++ ys ++ post).length → w.cell? ⟨g, j, none⟩ = (pre ++ ys ++ post)[j]?) {k : Nat} (hp : pre.length = k * sz) : w.rangeAt g (k * sz) ys := fun j v hv => by
 have hj : j < ys.length := by rcases Nat.lt_or_ge j ys.length with h | h; exact h; rw [List.getElem?_eq_none h] at hv; cases hv
 have := hc (k * sz + j) (by simp; omega)
 rw [this, ← hp, List.append_assoc, List.getElem?_append_right (by omega), Nat.add_sub_cancel_left, List.getElem?_append_left hj, hv]
theorem act_at {N : Nat → Prop} {w : World} {A : Option Addr} {l : Acs} {xs : List Value} (hw : Ji N w A xs) (hd : Zh N w l.ds xs) {k : Nat} {u : AH × Acs × Acs} (hu : l.at? k = some u) :
   ∃ g ys, A = some ⟨g, 0, none⟩ ∧ g < w.heap.size ∧ w.rangeAt g (k * 53) ys ∧ Zh N w (u.1.dsr u.2.1.len u.2.1.ds u.2.2.len u.2.2.ds) ys := by
 obtain ⟨pre, ys, post, rfl, hp, hy⟩ := acs_at hd k u hu
 have hl : ys.length = 53 := by rw [hy.len, AH.dsr_len]
 obtain ⟨g, hA, hg, hc⟩ := hw.reads (by simp; omega)
 exact ⟨g, ys, hA, hg, Zam hc hp, hy⟩
theorem act_of {N : Nat → Prop} {w : World} {h : AH} {tn en : Nat} {t e : Ds} {ys : List Value} (hd : Zh N w (h.dsr tn t en e) ys) :
   ∃ sel num cl cr thn els, ys = Zz h.kind h.line h.col sel num h.side h.tk h.tl h.how h.name h.cop cl cr thn els ∧ Zh N w h.sel.ds sel ∧ Zh N w h.num.ds num ∧ Zh N w h.cl.ds cl ∧ Zh N w h.cr.ds cr ∧ Zh N w (.row tn t .nil) [thn] ∧ Zh N w (.row en e .nil) [els] := by
 obtain ⟨_, rfl, _, rfl, _, rfl, k1⟩ := hd
 obtain ⟨sel, _, rfl, h1, k2⟩ := Zh.split (x := h.sel.ds) k1
 obtain ⟨num, _, rfl, h2, k3⟩ := Zh.split (x := h.num.ds) k2
 obtain ⟨_, rfl, _, rfl, _, rfl, _, rfl, _, rfl, _, rfl, k4⟩ := k3
 obtain ⟨cl, _, rfl, h3, k5⟩ := Zh.split (x := h.cl.ds) k4
 obtain ⟨cr, _, rfl, h4, k6⟩ := Zh.split (x := h.cr.ds) k5
 obtain ⟨a, b, rfl, h5, h6⟩ := Zh.split (x := .row tn t .nil) k6
 obtain ⟨A, c, xs, rfl, _⟩ := id h5.inRow1
 obtain ⟨B, d, zs, rfl, _⟩ := id h6.inRow1
 exact ⟨sel, num, cl, cr, _, _, by simp [Zz], h1, h2, h3, h4, h5, h6⟩
theorem actV_at {k l c sd tk tl how cop : Int} {nm : ByteArray} {sel num cl cr : List Value} {thn els : Value} (e1 : sel.length = 6) (e2 : num.length = 12) (e3 : cl.length = 12) (e4 : cr.length = 12) :
   (Zz k l c sel num sd tk tl how nm cop cl cr thn els)[0]? = some (.int .i64 k) ∧ (Zz k l c sel num sd tk tl how nm cop cl cr thn els)[1]? = some (.int .i64 l) ∧ (Zz k l c sel num sd tk tl how nm cop cl cr thn els)[2]? = some (.int .i64 c) ∧
   (Zz k l c sel num sd tk tl how nm cop cl cr thn els)[21]? = some (.int .i64 sd) ∧ (Zz k l c sel num sd tk tl how nm cop cl cr thn els)[22]? = some (.int .i64 tk) ∧ (Zz k l c sel num sd tk tl how nm cop cl cr thn els)[23]? = some (.int .i64 tl) ∧
   (Zz k l c sel num sd tk tl how nm cop cl cr thn els)[24]? = some (.int .i64 how) ∧ (Zz k l c sel num sd tk tl how nm cop cl cr thn els)[25]? = some (.string nm) ∧ (Zz k l c sel num sd tk tl how nm cop cl cr thn els)[26]? = some (.int .i64 cop) ∧
   (Zz k l c sel num sd tk tl how nm cop cl cr thn els)[51]? = some thn ∧ (Zz k l c sel num sd tk tl how nm cop cl cr thn els)[52]? = some els := by
 simp only [Zz]
 refine ⟨?_, ?_, ?_, ?_, ?_, ?_, ?_, ?_, ?_, ?_, ?_⟩ <;> simp [List.getElem?_append, e1, e2, e3, e4]
end Go.Proofs.YtljdgdphldckhaaGreat
