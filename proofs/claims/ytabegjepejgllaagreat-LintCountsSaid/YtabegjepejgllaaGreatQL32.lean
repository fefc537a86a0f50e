/-
  Texts SynS2, SynN1, SynN2, SynN3, SynN4, SynN5, SynS3. No conditions but those that each theorem names.
-/
import Derived.StillTailTactics
import Derived.Test.YtabegjepejgllaaGreatQL31
namespace Go.Proofs.YtabegjepejgllaaGreat
open Go.ChangeShapes Go.WideShapes Go.ChangeAt Go.RowKit
set_option linter.unusedVariables false
set_option linter.unusedSimpArgs false
section
variable {P : Program} {ops : Array Oper} {S : World → Prop} {o : Oper} {a : Act}
theorem yield_move {x : Operand} {v : Value} (g : o.guard = none) (ho : o.op = .move x) (e : a.eval x = v) : YieldsIf P ops S o v a :=
 .inl ⟨wanted_plain g, fun w _ => by unfold execOp; rw [ho]; simp [e, Sem.run_pure]⟩
theorem Wq {T : TypeId} {x : Operand} {b k : Nat} {ys : List Value} (g : o.guard = none) (ho : o.op = .load T x) (hx : a.eval x = .pointer (some ⟨b, k, none⟩)) (hS : ∀ w, S w → w.rangeAt b k ys)
   (hu : (P.underlying T).map TypeDesc.isRow = some true) (hi : (P.info? T).map (·.size) = some ys.length) : YieldsIf P ops S o (.agg ys.toArray) a := by
 obtain ⟨d, hu, hr⟩ := Option.map_eq_some_iff.1 hu
 exact yieldsIf_load_mid (wanted_plain g) T x ho b k hx ys d hS hu hr hi
end
def Ex.tk : Ex → Int
 | .leaf _ _ _ _ t _ => t
 | .bin _ _ _ => 0
def Ex.tl : Ex → Int
 | .leaf _ _ _ _ _ t => t
 | .bin _ _ _ => 0
end Go.Proofs.YtabegjepejgllaaGreat
namespace Go.Proofs.YtabegjepejgllaaGreat
open Go
set_option linter.unusedSimpArgs false
set_option linter.unusedVariables false
def TokSim (pl : Bool) (u v : TokV) : Prop := u.k = v.k ∧ u.t = v.t ∧ u.n = v.n ∧ (pl = true → u.line = v.line ∧ u.col = v.col)
structure RowSim (pl : Bool) (L M : List TokV) : Prop where
 len : L.length = M.length
 tok : ∀ a, TokSim pl (Yk L a) (Yk M a)
def FltSim (pl : Bool) (F G : Int × Nat × Nat) : Prop := F.1 = G.1 ∧ (pl = true → F = G)
def StSim (pl : Bool) : St → St → Prop
 | .ok a d, .ok b e => a = b ∧ d = e
 | .bad F, .bad G => FltSim pl F G
 | _, _ => False
theorem StSim.good {pl : Bool} : ∀ {s t : St}, StSim pl s t → s.good = t.good
 | .ok _ _, .ok _ _, _ => rfl
 | .bad _, .bad _, _ => rfl
section
variable {pl : Bool} {L M : List TokV} (h : RowSim pl L M)
include h
end
section
variable {pl : Bool} {L M : List TokV} (h : RowSim pl L M) (a b : Int)
include h
end
section
variable {nk : Int} {L : List TokV}
end
def AHSim (pl : Bool) (x y : AH) : Prop := x = { y with line := x.line, col := x.col } ∧ (pl = true → x.line = y.line ∧ x.col = y.col)
section
variable {pl : Bool} {L M : List TokV} (h : RowSim pl L M) (a b : Int)
include h
end
def AcsSim (pl : Bool) : Acs → Acs → Prop
 | .nil, .nil => True
 | .cons h t e r, .cons h' t' e' r' => AHSim pl h h' ∧ AcsSim pl t t' ∧ AcsSim pl e e' ∧ AcsSim pl r r'
 | _, _ => False
section
variable {pl : Bool} {L M : List TokV} (h : RowSim pl L M) (a b : Int)
include h
end
end Go.Proofs.YtabegjepejgllaaGreat
namespace Go.Proofs.YtabegjepejgllaaGreat
open Go.ChangeShapes Go.WideShapes Go.ChangeAt Go.RowKit
set_option linter.unusedVariables false
set_option linter.unusedSimpArgs false
def Acs.at? : Acs → Nat → Option (AH × Acs × Acs)
 | .nil, _ => none
 | .cons h t e _, 0 => some (h, t, e)
 | .cons _ _ _ r, n + 1 => r.at? n
theorem Acs.at_some : ∀ (x : Acs) (k : Nat), k < x.len → ∃ u, x.at? k = some u
 | .nil, k, h => absurd h (Nat.not_lt_zero k)
 | .cons h t e r, 0, _ => ⟨(h, t, e), rfl⟩
 | .cons h t e r, k + 1, hk => Acs.at_some r k (Nat.lt_of_succ_lt_succ hk)
theorem Acs.at_lt : ∀ (x : Acs) (k : Nat) (u : AH × Acs × Acs), x.at? k = some u → SizeOf.sizeOf u.2.1 < SizeOf.sizeOf x ∧ SizeOf.sizeOf u.2.2 < SizeOf.sizeOf x
 | .nil, k, u, h => by cases h
 | .cons h t e r, 0, u, hu => by cases hu; simp only [Acs.cons.sizeOf_spec]; omega
 | .cons h t e r, k + 1, u, hu => by have := Acs.at_lt r k u hu; simp only [Acs.cons.sizeOf_spec]; omega
theorem AcsSim.len {pl : Bool} : ∀ (x y : Acs), AcsSim pl x y → x.len = y.len := by
 intro x
 induction x with
 | nil => intro y h; cases y with
   | nil => rfl
   | cons h t e r => exact h.elim
 | cons h t e r _ _ ih => intro y hs; cases y with
   | nil => exact hs.elim
   | cons h' t' e' r' => show r.len + 1 = r'.len + 1; rw [ih r' hs.2.2.2]
theorem AcsSim.at_ {pl : Bool} : ∀ (x y : Acs), AcsSim pl x y → ∀ (k : Nat) (u v : AH × Acs × Acs), x.at? k = some u → y.at? k = some v → AHSim pl u.1 v.1 ∧ AcsSim pl u.2.1 v.2.1 ∧ AcsSim pl u.2.2 v.2.2 := by
 intro x
 induction x with
 | nil => intro y h k u v hu; cases hu
 | cons h t e r _ _ ih => intro y hs k u v hu hv; cases y with
   | nil => exact hs.elim
   | cons h' t' e' r' => cases k with
     | zero => cases hu; cases hv; exact ⟨hs.1, hs.2.1, hs.2.2.1⟩
     | succ k => exact ih r' hs.2.2.2 k u v hu hv
theorem acs_at {N : Nat → Prop} {w : World} : ∀ {l : Acs} {xs : List Value}, Zi N w l.ds xs → ∀ (k : Nat) (u : AH × Acs × Acs), l.at? k = some u → ∃ pre ys post, xs = pre ++ ys ++ post ∧ pre.length = k * 53 ∧ Zi N w (u.1.dsr u.2.1.len u.2.1.ds u.2.2.len u.2.2.ds) ys := by
 intro l
 induction l with
 | nil => intro xs _ k u hu; cases hu
 | cons f t e r _ _ ih =>
   intro xs h k u hu
   obtain ⟨a, b, rfl, ha, hb⟩ := Zi.split (x := f.dsr t.len t.ds e.len e.ds) h
   cases k with
   | zero => cases hu; exact ⟨[], a, b, rfl, by simp, ha⟩
   | succ k =>
     obtain ⟨pre, ys, post, rfl, hp, hy⟩ := ih hb k u hu
     refine ⟨a ++ pre, ys, post, by simp, ?_, hy⟩
     rw [List.length_append, ha.len, AH.dsr_len, hp]; omega
theorem range_of {w : World} {g sz : Nat} {pre ys post : List Value} (hc : ∀ j, j < (pre ++ ys ++ post).length → w.cell? ⟨g, j, none⟩ = (pre ++ ys ++ post)[j]?) {k : Nat} (hp : pre.length = k * sz) : w.rangeAt g (k * sz) ys := fun j v hv => by
 have hj : j < ys.length := by rcases Nat.lt_or_ge j ys.length with h | h; exact h; rw [List.getElem?_eq_none h] at hv; cases hv
 have := hc (k * sz + j) (by simp; omega)
 rw [this, ← hp, List.append_assoc, List.getElem?_append_right (by omega), Nat.add_sub_cancel_left, List.getElem?_append_left hj, hv]
theorem act_at {N : Nat → Prop} {w : World} {A : Option Addr} {l : Acs} {xs : List Value} (hw : Within N w A xs) (hd : Zi N w l.ds xs) {k : Nat} {u : AH × Acs × Acs} (hu : l.at? k = some u) :
   ∃ g ys, A = some ⟨g, 0, none⟩ ∧ g < w.heap.size ∧ w.rangeAt g (k * 53) ys ∧ Zi N w (u.1.dsr u.2.1.len u.2.1.ds u.2.2.len u.2.2.ds) ys := by
 obtain ⟨pre, ys, post, rfl, hp, hy⟩ := acs_at hd k u hu
 have hl : ys.length = 53 := by rw [hy.len, AH.dsr_len]
 obtain ⟨g, hA, hg, hc⟩ := hw.reads (by simp; omega)
 exact ⟨g, ys, hA, hg, range_of hc hp, hy⟩
theorem act_of {N : Nat → Prop} {w : World} {h : AH} {tn en : Nat} {t e : Ds} {ys : List Value} (hd : Zi N w (h.dsr tn t en e) ys) :
   ∃ sel num cl cr thn els, ys = Zr h.kind h.line h.col sel num h.side h.tk h.tl h.how h.name h.cop cl cr thn els ∧ Zi N w h.sel.ds sel ∧ Zi N w h.num.ds num ∧ Zi N w h.cl.ds cl ∧ Zi N w h.cr.ds cr ∧ Zi N w (.row tn t .nil) [thn] ∧ Zi N w (.row en e .nil) [els] := by
 obtain ⟨_, rfl, _, rfl, _, rfl, k1⟩ := hd
 obtain ⟨sel, _, rfl, h1, k2⟩ := Zi.split (x := h.sel.ds) k1
 obtain ⟨num, _, rfl, h2, k3⟩ := Zi.split (x := h.num.ds) k2
 obtain ⟨_, rfl, _, rfl, _, rfl, _, rfl, _, rfl, _, rfl, k4⟩ := k3
 obtain ⟨cl, _, rfl, h3, k5⟩ := Zi.split (x := h.cl.ds) k4
 obtain ⟨cr, _, rfl, h4, k6⟩ := Zi.split (x := h.cr.ds) k5
 obtain ⟨a, b, rfl, h5, h6⟩ := Zi.split (x := .row tn t .nil) k6
 obtain ⟨A, c, xs, rfl, _⟩ := id h5.inRow1
 obtain ⟨B, d, zs, rfl, _⟩ := id h6.inRow1
 exact ⟨sel, num, cl, cr, _, _, by simp [Zr], h1, h2, h3, h4, h5, h6⟩
theorem actV_at {k l c sd tk tl how cop : Int} {nm : ByteArray} {sel num cl cr : List Value} {thn els : Value} (e1 : sel.length = 6) (e2 : num.length = 12) (e3 : cl.length = 12) (e4 : cr.length = 12) :
   (Zr k l c sel num sd tk tl how nm cop cl cr thn els)[0]? = some (.int .i64 k) ∧ (Zr k l c sel num sd tk tl how nm cop cl cr thn els)[1]? = some (.int .i64 l) ∧ (Zr k l c sel num sd tk tl how nm cop cl cr thn els)[2]? = some (.int .i64 c) ∧
   (Zr k l c sel num sd tk tl how nm cop cl cr thn els)[21]? = some (.int .i64 sd) ∧ (Zr k l c sel num sd tk tl how nm cop cl cr thn els)[22]? = some (.int .i64 tk) ∧ (Zr k l c sel num sd tk tl how nm cop cl cr thn els)[23]? = some (.int .i64 tl) ∧
   (Zr k l c sel num sd tk tl how nm cop cl cr thn els)[24]? = some (.int .i64 how) ∧ (Zr k l c sel num sd tk tl how nm cop cl cr thn els)[25]? = some (.string nm) ∧ (Zr k l c sel num sd tk tl how nm cop cl cr thn els)[26]? = some (.int .i64 cop) ∧
   (Zr k l c sel num sd tk tl how nm cop cl cr thn els)[51]? = some thn ∧ (Zr k l c sel num sd tk tl how nm cop cl cr thn els)[52]? = some els := by
 simp only [Zr]
 refine ⟨?_, ?_, ?_, ?_, ?_, ?_, ?_, ?_, ?_, ?_, ?_⟩ <;> simp [List.getElem?_append, e1, e2, e3, e4]
end Go.Proofs.YtabegjepejgllaaGreat
