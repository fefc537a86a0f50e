/-
  Texts UnpAct. No conditions but those that each theorem names.
-/
import Derived.Test.YtljdgdphldckhaaGreatQB26
namespace Go.Proofs.YtljdgdphldckhaaGreat
open Go
set_option linter.unusedSimpArgs false
set_option linter.unusedVariables false
def VPlain (d : Nat) (h : AH) : Prop :=
 ((h.kind = 1 ∨ h.kind = 2 ∨ h.kind = 12) ∧ h = { AH.zero h.kind h.line h.col with sel := h.sel, num := h.num } ∧ VSe h.sel ∧ VEx h.num ∧ pD h.num + d ≤ 8) ∨
 ((h.kind = 3 ∨ h.kind = 5 ∨ h.kind = 14) ∧ h = { AH.zero h.kind h.line h.col with sel := h.sel } ∧ VSe h.sel) ∨
 (h.kind = 4 ∧ h = { AH.zero h.kind h.line h.col with sel := h.sel, tk := h.tk, tl := h.tl } ∧ VSe h.sel ∧ VTo h.tk h.tl) ∨
 (h.kind = 6 ∧ h = { AH.zero h.kind h.line h.col with name := h.name, side := h.side, tk := h.tk, tl := h.tl, num := h.num } ∧ NameOK h.name ∧ (1 ≤ h.side ∧ h.side ≤ 3) ∧ VTo h.tk h.tl ∧ VEx h.num ∧ pD h.num + d ≤ 8) ∨
 ((h.kind = 7 ∨ h.kind = 9) ∧ h = { AH.zero h.kind h.line h.col with side := h.side, num := h.num } ∧ (1 ≤ h.side ∧ h.side ≤ 3) ∧ VEx h.num ∧ pD h.num + d ≤ 8) ∨
 (h.kind = 8 ∧ h = { AH.zero h.kind h.line h.col with side := h.side, how := h.how } ∧ (1 ≤ h.side ∧ h.side ≤ 3) ∧ (1 ≤ h.how ∧ h.how ≤ 4)) ∨
 ((h.kind = 13 ∨ h.kind = 15) ∧ h = { AH.zero h.kind h.line h.col with side := h.side, tk := h.tk, tl := h.tl } ∧ (1 ≤ h.side ∧ h.side ≤ 3) ∧ VTo h.tk h.tl)
def VCond (d : Nat) (h : AH) : Prop := h = { AH.zero 10 h.line h.col with cop := h.cop, cl := h.cl, cr := h.cr } ∧ (1 ≤ h.cop ∧ h.cop ≤ 6) ∧ (VEx h.cl ∧ pD h.cl + d ≤ 8) ∧ (VEx h.cr ∧ pD h.cr + d ≤ 8)
def VEach (h : AH) : Prop := h = { AH.zero 11 h.line h.col with sel := h.sel } ∧ VSe h.sel
def Zar : Nat → Acs → Prop
 | _, .nil => True
 | d, .cons h t e r => ((d < 8 ∧ VCond d h ∧ Zar (d + 1) t ∧ Zar (d + 1) e) ∨ (d < 8 ∧ VEach h ∧ Zar (d + 1) t ∧ e = .nil) ∨ (VPlain d h ∧ t = .nil ∧ e = .nil)) ∧ Zar d r
def Jl (h : AH) : List PT :=
 if h.kind = 1 ∨ h.kind = 2 ∨ h.kind = 12 then tSel h.sel ++ tE h.num
 else if h.kind = 3 ∨ h.kind = 5 ∨ h.kind = 14 then tSel h.sel
 else if h.kind = 4 then tSel h.sel ++ tTo h.tk h.tl
 else if h.kind = 6 then pN h.name :: pw Zk h.side :: (tTo h.tk h.tl ++ tE h.num)
 else if h.kind = 7 ∨ h.kind = 9 then pw Zk h.side :: tE h.num
 else if h.kind = 8 then [pw Zk h.side, pw Zav h.how]
 else pw Zk h.side :: tTo h.tk h.tl
def tBlk (T : List PT) : List PT := pM Yv :: (T ++ [pM Yw])
def tElse (no : Bool) (e : List PT) : List PT := if no = true then [] else pW Wx :: tBlk e
def tAct (h : AH) (t e : List PT) (no : Bool) : List PT :=
 pw Yr h.kind :: (if h.kind = 10 then tE h.cl ++ pm wOp h.cop :: (tE h.cr ++ (tBlk t ++ tElse no e)) else if h.kind = 11 then tSel h.sel ++ tBlk t else Jl h ++ [pM sSemi])
def Acs.isNil : Acs → Bool
 | .nil => true
 | .cons .. => false
def Xw : Acs → List PT
 | .nil => []
 | .cons h t e r => tAct h (Xw t) (Xw e) e.isNil ++ Xw r
theorem VCond.kind {d : Nat} {h : AH} (v : VCond d h) : h.kind = 10 := (congrArg AH.kind v.1 :)
theorem VEach.kind {h : AH} (v : VEach h) : h.kind = 11 := (congrArg AH.kind v.1 :)
theorem VPlain.kind {d : Nat} {h : AH} (v : VPlain d h) : 1 ≤ h.kind ∧ h.kind ≤ 15 ∧ h.kind ≠ 10 ∧ h.kind ≠ 11 := by
 rcases v with ⟨k, _⟩ | ⟨k, _⟩ | ⟨k, _⟩ | ⟨k, _⟩ | ⟨k, _⟩ | ⟨k, _⟩ | ⟨k, _⟩ <;> omega
theorem acts_kind {d : Nat} {h : AH} {t e r : Acs} (v : Zar d (.cons h t e r)) : 1 ≤ h.kind ∧ h.kind ≤ 15 := by
 rcases v.1 with ⟨_, v, _⟩ | ⟨_, v, _⟩ | ⟨v, _⟩
 · rw [v.kind]; exact ⟨by decide, by decide⟩
 · rw [v.kind]; exact ⟨by decide, by decide⟩
 · exact ⟨v.kind.1, v.kind.2.1⟩
theorem tBlk_len (T : List PT) : (tBlk T).length = T.length + 2 := by unfold tBlk; simp
section
variable {L : List TokV} {nk : Int}
set_option maxHeartbeats 1600000 in
theorem plain_fit {h : AH} {d n a : Nat} {l c : Int} (hv : VPlain d h) (hn : 4 * (Jl h).length + 4 ≤ n) (hf : Zay L a (Jl h)) (h1 : isT (Zp L (a + (Jl h).length)) Wf = false)
   (h2 : Xg (Zp L (a + (Jl h).length)) Un = 0) (k : Nat) (hk : (k : Int) = h.kind) : Xc nk L n (AH.zero k l c) k (.ok a d) = ({ h with line := l, col := c }, .ok (a + (Jl h).length) d) := by
 rw [hk]
 unfold Xc
 rcases hv with ⟨hk', he, v1, v2, v3⟩ | ⟨hk', he, v1⟩ | ⟨hk', he, v1, v2⟩ | ⟨hk', he, v1, v2, v3, v4, v5⟩ | ⟨hk', he, v1, v2, v3⟩ | ⟨hk', he, v1, v2⟩ | ⟨hk', he, v1, v2⟩
 · have e : Jl h = tSel h.sel ++ tE h.num := by unfold Jl; rw [if_pos hk']
   rw [e] at hn hf h1 h2 ⊢
   rw [List.length_append] at hn h1 h2 ⊢
   obtain ⟨g1, g2⟩ := Xu.1 hf
   rw [if_pos (by omega), sel_fit v1 (sel_fuel v1 (by omega)) g1]
   dsimp only
   rw [expr_fit v2 g2 v3 (by omega) (by rw [Nat.add_assoc]; exact h1) (by rw [Nat.add_assoc]; exact h2), Nat.add_assoc]
   rw [he]; rfl
 · have e : Jl h = tSel h.sel := by unfold Jl; rw [if_neg (by omega), if_pos hk']
   rw [e] at hn hf ⊢
   rw [if_neg (by omega), if_pos (by omega), sel_fit v1 (sel_fuel v1 (by omega)) hf]
   rw [he]; rfl
 · have e : Jl h = tSel h.sel ++ tTo h.tk h.tl := by unfold Jl; rw [if_neg (by omega), if_neg (by omega), if_pos hk']
   rw [e] at hn hf ⊢
   rw [List.length_append] at hn ⊢
   obtain ⟨g1, g2⟩ := Xu.1 hf
   have t := to_fit (d := d) v2 g2
   rw [if_neg (by omega), if_neg (by omega), if_pos (by omega), sel_fit v1 (sel_fuel v1 (by omega)) g1]
   dsimp only
   rw [t.1, t.2.1, t.2.2, Nat.add_assoc]
   rw [he]; rfl
 · have e : Jl h = pN h.name :: pw Zk h.side :: (tTo h.tk h.tl ++ tE h.num) := by unfold Jl; rw [if_neg (by omega), if_neg (by omega), if_neg (by omega), if_pos hk']
   rw [e] at hn hf h1 h2 ⊢
   simp only [List.length_cons, List.length_append] at hn h1 h2 ⊢
   obtain ⟨g1, g2, g3⟩ := hf
   obtain ⟨g3, g4⟩ := Xu.1 g3
   have t := to_fit (d := d) v3 g3
   have x := x_side v2.1 v2.2
   have ha : a + 1 + 1 + (tTo h.tk h.tl).length + (tE h.num).length = a + ((tTo h.tk h.tl).length + (tE h.num).length + 1 + 1) := by omega
   rw [if_neg (by omega), if_neg (by omega), if_neg (by omega), if_pos (by omega), (name_fit g1).1, (name_fit g1).2, Xd g2, Uk g2 (by first | exact n1 | exact n4) (by omega), t.1, t.2.1, t.2.2,
     expr_fit v4 g4 v5 (by omega) (by rw [ha]; exact h1) (by rw [ha]; exact h2), x, ha]
   rw [he]; rfl
 · have e : Jl h = pw Zk h.side :: tE h.num := by unfold Jl; rw [if_neg (by omega), if_neg (by omega), if_neg (by omega), if_neg (by omega), if_pos hk']
   rw [e] at hn hf h1 h2 ⊢
   simp only [List.length_cons] at hn h1 h2 ⊢
   obtain ⟨g1, g2⟩ := hf
   have x := x_side v1.1 v1.2
   have ha : a + 1 + (tE h.num).length = a + ((tE h.num).length + 1) := by omega
   rw [if_neg (by omega), if_neg (by omega), if_neg (by omega), if_neg (by omega), if_pos (by omega), Xd g1, Uk g1 (by first | exact n1 | exact n4) (by omega),
     expr_fit v2 g2 v3 (by omega) (by rw [ha]; exact h1) (by rw [ha]; exact h2), x, ha]
   rw [he]; rfl
 · have e : Jl h = [pw Zk h.side, pw Zav h.how] := by unfold Jl; rw [if_neg (by omega), if_neg (by omega), if_neg (by omega), if_neg (by omega), if_neg (by omega), if_pos hk']
   rw [e] at hf ⊢
   obtain ⟨g1, g2, _⟩ := hf
   have x := x_side v1.1 v1.2
   have y := x_how v2.1 v2.2
   rw [if_neg (by omega), if_neg (by omega), if_neg (by omega), if_neg (by omega), if_neg (by omega), if_pos (by omega), Xd g1, Uk g1 (by first | exact n1 | exact n4) (by omega), Xd g2, Uk g2 (by first | exact n1 | exact n4) (by omega), x, y]
   rw [he]; rfl
 · have e : Jl h = pw Zk h.side :: tTo h.tk h.tl := by unfold Jl; rw [if_neg (by omega), if_neg (by omega), if_neg (by omega), if_neg (by omega), if_neg (by omega), if_neg (by omega)]
   rw [e] at hf ⊢
   obtain ⟨g1, g2⟩ := hf
   have x := x_side v1.1 v1.2
   have t := to_fit (d := d) v2 g2
   rw [if_neg (by omega), if_neg (by omega), if_neg (by omega), if_neg (by omega), if_neg (by omega), if_neg (by omega), if_pos (by omega), Xd g1, Uk g1 (by first | exact n1 | exact n4) (by omega), t.1, t.2.1, t.2.2, x]
   simp only [List.length_cons]
   rw [show a + 1 + (tTo h.tk h.tl).length = a + ((tTo h.tk h.tl).length + 1) from by omega]
   rw [he]; rfl
theorem AHSim.any (h : AH) (l c : Int) : AHSim false h { h with line := l, col := c } := ⟨rfl, fun hh => by cases hh⟩
theorem Uo.isNil {pl : Bool} {x y : Acs} (h : Uo pl x y) : x.isNil = y.isNil := by
 cases x with
 | nil => cases y with
   | nil => rfl
   | cons h' t' e' r' => exact h.elim
 | cons h' t' e' r' => cases y with
   | nil => exact h.elim
   | cons h' t' e' r' => rfl
def NoElse (L : List TokV) (a : Nat) : Prop := Xg (Zp L a) Yr = 0 ∧ isT (Zp L a) Wx = false
theorem acts_head {x : Acs} {d a : Nat} (hv : Zar d x) (hf : Zay L a (Xw x)) (h0 : isT (Zp L (a + (Xw x).length)) Wx = false) : isT (Zp L a) Wx = false := by
 cases x with
 | nil => exact h0
 | cons h t e r =>
   have g : Fit (Zp L a) (pw Yr h.kind) := (Xu.1 hf).1.1
   have hk := acts_kind hv
   rw [Jy g]
   exact (x_act hk.1 hk.2).2
def ActsFit (nk : Int) (L : List TokV) (x : Acs) : Prop := ∀ d n a, Zar d x → Zay L a (Xw x) → 4 * (Xw x).length + 8 ≤ n → NoElse L (a + (Xw x).length) →
 ∃ y, Xs nk L n (.ok a d) = (y, .ok (a + (Xw x).length) d) ∧ Uo false x y
theorem block_fit {x : Acs} (h : ActsFit nk L x) {d n a : Nat} (hv : Zar (d + 1) x) (hd : d < 8) (hf : Zay L a (tBlk (Xw x))) (hn : 4 * (tBlk (Xw x)).length + 1 ≤ n) :
   ∃ y, Yl nk L n (.ok a d) = (y, .ok (a + (tBlk (Xw x)).length) d) ∧ Uo false x y := by
 rw [tBlk_len] at hn ⊢
 obtain ⟨g1, g2⟩ := hf
 obtain ⟨g2, g3⟩ := Xu.1 g2
 obtain ⟨n, rfl⟩ : ∃ k, n = k + 1 := ⟨n - 1, by omega⟩
 obtain ⟨y, e, hs⟩ := h (d + 1) n (a + 1) hv g2 (by omega) ⟨by rw [Zbm g3.1]; decide +kernel, by rw [Jy g3.1]; decide +kernel⟩
 refine ⟨y, ?_, hs⟩
 rw [Yl, down_fit g1 hd, e]
 dsimp only
 rw [rise_fit g3.1, show a + 1 + (Xw x).length + 1 = a + ((Xw x).length + 2) from by omega]
theorem acts_fit : ∀ x : Acs, ActsFit nk L x
 | .nil => fun d n a hv hf hn h0 => by
   refine ⟨.nil, ?_, trivial⟩
   cases n with
   | zero => rfl
   | succ n =>
     have h0' : Zd L Yr (.ok a d) = 0 := h0.1
     rw [Xs, if_pos h0']; rfl
 | .cons h t e r => fun d n a hv hf hn h0 => by
   have it := acts_fit t
   have ie := acts_fit e
   have ir := acts_fit r
   have hk := acts_kind hv
   obtain ⟨v, vr⟩ := hv
   rw [Xw] at hf hn h0 ⊢
   rw [List.length_append] at hn h0 ⊢
   obtain ⟨g, gr⟩ := Xu.1 hf
   have hel : isT (Zp L (a + (tAct h (Xw t) (Xw e) e.isNil).length)) Wx = false := acts_head vr gr (by rw [Nat.add_assoc]; exact h0.2)
   have hpos : 2 ≤ (tAct h (Xw t) (Xw e) e.isNil).length := by
     unfold tAct tBlk; simp only [List.length_cons]; split
     · simp only [List.length_append, List.length_cons]; omega
     · split <;> (simp only [List.length_append, List.length_cons]; omega)
   obtain ⟨n, rfl⟩ : ∃ k, n = k + 1 := ⟨n - 1, by omega⟩
   obtain ⟨yr, er, sr⟩ := ir d n _ vr gr (by omega) (by rw [Nat.add_assoc]; exact h0)
   have x := x_act hk.1 hk.2
   have gw : Fit (Zp L a) (pw Yr h.kind) := g.1
   suffices hs : ∀ l c : Int, ∃ t' e', Vl nk L n (AH.zero (Xg (pw Yr h.kind).v Yr : Nat) l c) (Xg (pw Yr h.kind).v Yr) (.ok (a + 1) d) =
       ⟨{ h with line := l, col := c }, t', e', .ok (a + (tAct h (Xw t) (Xw e) e.isNil).length) d⟩ ∧ Uo false t t' ∧ Uo false e e' by
     obtain ⟨t', e', ea, st, se⟩ := hs ((St.ok a d).tok L).line ((St.ok a d).tok L).col
     refine ⟨.cons { h with line := ((St.ok a d).tok L).line, col := ((St.ok a d).tok L).col } t' e' yr, ?_, AHSim.any h _ _, st, se, sr⟩
     rw [Xs, Xd gw, if_neg (by omega), Vw gw (by first | exact n1 | exact n4) (by omega), ea]
     dsimp only
     rw [er, Nat.add_assoc]
   intro l c
   obtain ⟨n, rfl⟩ : ∃ k, n = k + 1 := ⟨n - 1, by omega⟩
   rcases v with ⟨hd, vc, vt, ve⟩ | ⟨hd, vc, vt, rfl⟩ | ⟨vp, rfl, rfl⟩
   · have h10 := vc.kind
     have hi : Xg (pw Yr h.kind).v Yr = 10 := by omega
     have et : tAct h (Xw t) (Xw e) e.isNil = pw Yr h.kind :: (tE h.cl ++ pm wOp h.cop :: (tE h.cr ++ (tBlk (Xw t) ++ tElse e.isNil (Xw e)))) := by unfold tAct; rw [if_pos h10]
     rw [et] at g hel hn ⊢
     simp only [List.length_cons, List.length_append] at hel hn ⊢
     obtain ⟨_, g⟩ := g
     obtain ⟨g1, g2, g⟩ := Xu.1 g
     obtain ⟨g3, g⟩ := Xu.1 g
     obtain ⟨g4, g5⟩ := Xu.1 g
     have xo := x_op vc.2.1.1 vc.2.1.2
     have gb : Fit (Zp L (a + 1 + (tE h.cl).length + 1 + (tE h.cr).length)) (pM Yv) := g4.1
     have e1 := expr_fit (nk := nk) (n := n) (d := d) vc.2.2.1.1 g1 vc.2.2.1.2 (by omega) (by rw [Jy g2]; exact xo.2.2) (by rw [Zbm g2]; exact xo.2.1)
     have e2 := expr_fit (nk := nk) (n := n) (d := d) vc.2.2.2.1 g3 vc.2.2.2.2 (by omega) (by rw [Jy gb]; decide +kernel) (by rw [Zbm gb]; decide +kernel)
     have ec : Xv nk L n (AH.zero (Xg (pw Yr h.kind).v Yr : Nat) l c) (.ok (a + 1) d) = ({ h with line := l, col := c }, .ok (a + 1 + (tE h.cl).length + 1 + (tE h.cr).length) d) := by
       unfold Xv
       rw [e1]
       dsimp only
       rw [Xd g2, Uk g2 n4 (Ji xo.1 vc.2.1.1), e2, hi, xo.1]
       have := vc.1
       rw [this]; rfl
     obtain ⟨t', eb, st⟩ := block_fit it (n := n) vt hd g4 (by omega)
     by_cases hne : e.isNil = true
     · obtain rfl : e = .nil := by cases e with | nil => rfl | cons => cases hne
       refine ⟨t', .nil, ?_, st, trivial⟩
       have e0 : tElse (Acs.nil.isNil) (Xw Acs.nil) = [] := rfl
       rw [e0] at hel ⊢
       simp only [List.length_nil] at hel ⊢
       have ha : a + 1 + (tE h.cl).length + 1 + (tE h.cr).length + (tBlk (Xw t)).length = a + ((tE h.cl).length + ((tE h.cr).length + ((tBlk (Xw t)).length + 0) + 1) + 1) := by omega
       rw [Vl, if_pos hi, ec]
       dsimp only
       rw [eb]
       dsimp only
       have hno : isS L Wx (.ok (a + 1 + (tE h.cl).length + 1 + (tE h.cr).length + (tBlk (Xw t)).length) d) = false := by rw [ha]; exact hel
       rw [hno, if_neg Bool.false_ne_true, ha]
     · have e0 : tElse e.isNil (Xw e) = pW Wx :: tBlk (Xw e) := by unfold tElse; rw [if_neg hne]
       rw [e0] at g5 hn hel ⊢
       simp only [List.length_cons] at hn hel ⊢
       obtain ⟨g5, g6⟩ := g5
       obtain ⟨e', ee, se⟩ := block_fit ie (n := n) ve hd g6 (by omega)
       refine ⟨t', e', ?_, st, se⟩
       rw [Vl, if_pos hi, ec]
       dsimp only
       rw [eb]
       dsimp only
       rw [is_fit g5, isW, if_pos rfl, take_fit g5 (by first | exact n1 | exact n4) (isW _), ee]
       dsimp only
       rw [show a + 1 + (tE h.cl).length + 1 + (tE h.cr).length + (tBlk (Xw t)).length + 1 + (tBlk (Xw e)).length = a + ((tE h.cl).length + ((tE h.cr).length + ((tBlk (Xw t)).length + ((tBlk (Xw e)).length + 1)) + 1) + 1) from by omega]
   · have h11 := vc.kind
     have hi : Xg (pw Yr h.kind).v Yr = 11 := by omega
     have et : tAct h (Xw t) (Xw Acs.nil) Acs.nil.isNil = pw Yr h.kind :: (tSel h.sel ++ tBlk (Xw t)) := by unfold tAct; rw [if_neg (by omega), if_pos h11]
     rw [et] at g hn ⊢
     simp only [List.length_cons, List.length_append] at hn ⊢
     obtain ⟨_, g⟩ := g
     obtain ⟨g1, g2⟩ := Xu.1 g
     obtain ⟨t', eb, st⟩ := block_fit it (n := n) vt hd g2 (by omega)
     refine ⟨t', .nil, ?_, st, trivial⟩
     rw [Vl, if_neg (by omega), if_pos hi, sel_fit vc.2 (sel_fuel vc.2 (by omega)) g1]
     dsimp only
     rw [eb, hi, show a + 1 + (tSel h.sel).length + (tBlk (Xw t)).length = a + ((tSel h.sel).length + (tBlk (Xw t)).length + 1) from by omega]
     have := vc.1
     rw [this]; rfl
   · have hkp := vp.kind.2.2
     have et : tAct h (Xw Acs.nil) (Xw Acs.nil) Acs.nil.isNil = pw Yr h.kind :: (Jl h ++ [pM sSemi]) := by unfold tAct; rw [if_neg hkp.1, if_neg hkp.2]
     rw [et] at g hn ⊢
     simp only [List.length_cons, List.length_append, List.length_nil] at hn ⊢
     obtain ⟨_, g⟩ := g
     obtain ⟨g1, g2⟩ := Xu.1 g
     refine ⟨.nil, .nil, ?_, trivial, trivial⟩
     rw [Vl, if_neg (by omega), if_neg (by omega), plain_fit vp (by omega) g1 (by rw [Jy g2.1]; decide +kernel) (by rw [Zbm g2.1]; decide +kernel) _ (by omega)]
     dsimp only
     rw [want_M g2.1, show a + 1 + (Jl h).length + 1 = a + ((Jl h).length + (0 + 1) + 1) from by omega]
end
def VRu (r : Ru) : Prop := (1 ≤ r.when_ ∧ r.when_ ≤ 6) ∧ (0 ≤ r.stratum ∧ r.stratum ≤ 99) ∧ (r.when_ ≠ 5 → r.stratum = 0) ∧ Zar 0 r.acts
def tStr (r : Ru) : List PT := if r.when_ = 5 then [pI r.stratum] else []
def tRu (r : Ru) : List PT := pw Yd r.when_ :: (tStr r ++ tBlk (Xw r.acts))
def tRus (l : List Ru) : List PT := l.flatMap tRu
theorem tRus_cons (r : Ru) (l : List Ru) : tRus (r :: l) = tRu r ++ tRus l := rfl
def tBody (l : List Ru) : List PT := pM Yv :: (tRus l ++ [pM Yw])
def VCa (c : Ca) : Prop := NameOK c.name ∧ (0 ≤ c.cost ∧ c.cost ≤ 99) ∧ (-99 ≤ c.power ∧ c.power ≤ 99) ∧ ∀ r ∈ c.rules, VRu r
def VPl (p : Pl) : Prop := NameOK p.name ∧ ∀ r ∈ p.rules, VRu r
def tCa (c : Ca) : List PT := pw Ys 1 :: pN c.name :: pW Jn :: pI c.cost :: pW Ut :: (tS c.power ++ tBody c.rules)
def tPl (p : Pl) : List PT := pw Ys 2 :: pN p.name :: tBody p.rules
def tFi (f : Fi) : List PT := f.cards.flatMap tCa ++ f.places.flatMap tPl
def VFi (f : Fi) : Prop := (∀ c ∈ f.cards, VCa c) ∧ ∀ p ∈ f.places, VPl p
section
variable {L : List TokV} {nk : Int}
theorem rules_fit : ∀ (l : List Ru) (n a : Nat), (∀ r ∈ l, VRu r) → Zay L a (tRus l) → 4 * (tRus l).length + 8 ≤ n → Xg (Zp L (a + (tRus l).length)) Yd = 0 →
   ∃ m, Vf nk L n (.ok a 0) = (m, .ok (a + (tRus l).length) 0) ∧ RusSim false l m
 | [], n, a, hv, hf, hn, h0 => by
   refine ⟨[], ?_, trivial⟩
   cases n with
   | zero => rfl
   | succ n =>
     have h0' : Zd L Yd (.ok a 0) = 0 := h0
     rw [Vf, if_pos h0']; rfl
 | r :: l, n, a, hv, hf, hn, h0 => by
   rw [tRus_cons] at hf hn h0 ⊢
   rw [List.length_append] at hn h0 ⊢
   obtain ⟨g, gl⟩ := Xu.1 hf
   obtain ⟨n, rfl⟩ : ∃ k, n = k + 1 := ⟨n - 1, by omega⟩
   obtain ⟨hw, hst, hst0, hva⟩ := hv r (by simp)
   have hlen : (tRu r).length = (tStr r).length + ((Xw r.acts).length + 2) + 1 := by unfold tRu; simp only [List.length_cons, List.length_append, tBlk_len]
   obtain ⟨m, em, sm⟩ := rules_fit l n (a + (tRu r).length) (fun q hq => hv q (by simp [hq])) gl (by omega) (by rw [Nat.add_assoc]; exact h0)
   obtain ⟨g1, g2⟩ := g
   obtain ⟨g2, g3⟩ := Xu.1 g2
   obtain ⟨g3, g4⟩ := g3
   obtain ⟨g4, g5⟩ := Xu.1 g4
   have x := x_when hw.1 hw.2
   have es : strN L (Xg (pw Yd r.when_).v Yd) (.ok (a + 1) 0) = r.stratum ∧ strS L (Xg (pw Yd r.when_).v Yd) (.ok (a + 1) 0) = .ok (a + 1 + (tStr r).length) 0 := by
     unfold strN strS
     unfold tStr at g2 ⊢
     by_cases h5 : r.when_ = 5
     · rw [if_pos h5] at g2
       have := int_fit (d := 0) g2.1
       rw [if_pos (by omega), if_pos (by omega), if_pos h5, this.1, this.2]; exact ⟨rfl, rfl⟩
     · rw [if_neg (by omega), if_neg (by omega), if_neg h5, hst0 h5]; exact ⟨rfl, rfl⟩
   obtain ⟨y, ey, sy⟩ := acts_fit (nk := nk) r.acts 0 n _ hva g4 (by omega) ⟨by rw [Zbm g5.1]; decide +kernel, by rw [Jy g5.1]; decide +kernel⟩
   refine ⟨⟨r.when_, r.stratum, ((St.ok a 0).tok L).line, ((St.ok a 0).tok L).col, y⟩ :: m, ?_, ⟨rfl, rfl, (fun h => by cases h), sy⟩, sm⟩
   rw [Vf, Xd g1, if_neg (by omega), Vw g1 (by first | exact n1 | exact n4) (by omega), es.1, es.2, want_M g3, ey]
   dsimp only
   rw [want_M g5.1, show a + 1 + (tStr r).length + 1 + (Xw r.acts).length + 1 = a + (tRu r).length from by omega, em, x, Nat.add_assoc]
theorem body_fit {l : List Ru} {n a : Nat} (hv : ∀ r ∈ l, VRu r) (hf : Zay L a (tBody l)) (hn : 4 * (tBody l).length + 1 ≤ n) :
   ∃ m, Uy nk L n (.ok a 0) = (m, .ok (a + (tBody l).length) 0) ∧ RusSim false l m := by
 have hlen : (tBody l).length = (tRus l).length + 2 := by unfold tBody; simp
 obtain ⟨g1, g2⟩ := hf
 obtain ⟨g2, g3⟩ := Xu.1 g2
 obtain ⟨m, em, sm⟩ := rules_fit (nk := nk) l n (a + 1) hv g2 (by omega) (by rw [Zbm g3.1]; decide +kernel)
 refine ⟨m, ?_, sm⟩
 unfold Uy
 rw [want_M g1, em]
 dsimp only
 rw [want_M g3.1, show a + 1 + (tRus l).length + 1 = a + (tBody l).length from by omega]
theorem card_fit {c : Ca} {n a : Nat} {l k : Int} (hv : VCa c) (hf : Zay L a (tCa c)) (hn : 4 * (tCa c).length ≤ n) :
   ∃ c', Ub nk L n l k (.ok (a + 1) 0) = (c', .ok (a + (tCa c).length) 0) ∧ CaSim false c c' := by
 obtain ⟨v1, v2, v3, v4⟩ := hv
 have hlen : (tCa c).length = (tS c.power).length + (tBody c.rules).length + 5 := by unfold tCa; simp only [List.length_cons, List.length_append]
 obtain ⟨_, g2, g3, g4, g5, g6⟩ := hf
 obtain ⟨g6, g7⟩ := Xu.1 g6
 obtain ⟨m, em, sm⟩ := body_fit (nk := nk) (n := n) v4 g7 (by omega)
 refine ⟨⟨c.name, c.cost, c.power, l, k, m⟩, ?_, rfl, rfl, rfl, (fun h => by cases h), sm⟩
 unfold Ub
 rw [(name_fit g2).1, (name_fit g2).2, want_W g3, (int_fit g4).1, (int_fit g4).2, want_W g5, (sign_fit g6).1, (sign_fit g6).2, em]
 dsimp only
 rw [show a + 1 + 1 + 1 + 1 + 1 + (tS c.power).length + (tBody c.rules).length = a + (tCa c).length from by omega]
theorem place_fit {p : Pl} {n a : Nat} {l k : Int} (hv : VPl p) (hf : Zay L a (tPl p)) (hn : 4 * (tPl p).length ≤ n) :
   ∃ p', Wz nk L n l k (.ok (a + 1) 0) = (p', .ok (a + (tPl p).length) 0) ∧ PlSim false p p' := by
 obtain ⟨v1, v2⟩ := hv
 have hlen : (tPl p).length = (tBody p.rules).length + 2 := by unfold tPl; simp only [List.length_cons]
 obtain ⟨_, g2, g3⟩ := hf
 obtain ⟨m, em, sm⟩ := body_fit (nk := nk) (n := n) v2 g3 (by omega)
 refine ⟨⟨p.name, l, k, m⟩, ?_, rfl, (fun h => by cases h), sm⟩
 unfold Wz
 rw [(name_fit g2).1, (name_fit g2).2, em]
 dsimp only
 rw [show a + 1 + 1 + (tBody p.rules).length = a + (tPl p).length from by omega]
theorem places_fit : ∀ (l : List Pl) (n a : Nat), (∀ p ∈ l, VPl p) → Zay L a (l.flatMap tPl) → 4 * (l.flatMap tPl).length + 1 ≤ n → Xg (Zp L (a + (l.flatMap tPl).length)) Ys = 0 →
   ∃ m, Wm nk L n (.ok a 0) = (⟨[], m⟩, .ok (a + (l.flatMap tPl).length) 0) ∧ PlsSim false l m
 | [], n, a, hv, hf, hn, h0 => by
   refine ⟨[], ?_, trivial⟩
   cases n with
   | zero => rfl
   | succ n =>
     have h0' : Zd L Ys (.ok a 0) = 0 := h0
     rw [Wm, if_pos h0']; rfl
 | p :: l, n, a, hv, hf, hn, h0 => by
   rw [List.flatMap_cons] at hf hn h0 ⊢
   rw [List.length_append] at hn h0 ⊢
   obtain ⟨g, gl⟩ := Xu.1 hf
   have hpos : 2 ≤ (tPl p).length := by unfold tPl; simp
   obtain ⟨n, rfl⟩ : ∃ k, n = k + 1 := ⟨n - 1, by omega⟩
   obtain ⟨m, em, sm⟩ := places_fit l n (a + (tPl p).length) (fun q hq => hv q (by simp [hq])) gl (by omega) (by rw [Nat.add_assoc]; exact h0)
   obtain ⟨p', ep, sp⟩ := place_fit (nk := nk) (n := n) (l := ((St.ok a 0).tok L).line) (k := ((St.ok a 0).tok L).col) (hv p (by simp)) g (by omega)
   have g1 : Fit (Zp L a) (pw Ys 2) := g.1
   have x := x_file (k := 2) (by decide) (by decide)
   refine ⟨p' :: m, ?_, sp, sm⟩
   rw [Wm, Xd g1, if_neg (by omega), if_neg (by omega), Vw g1 (by first | exact n1 | exact n4) (by omega), ep]
   dsimp only
   rw [em, Nat.add_assoc]
theorem file_fit' : ∀ (cs : List Ca) (l : List Pl) (n a : Nat), (∀ c ∈ cs, VCa c) → (∀ p ∈ l, VPl p) → Zay L a (cs.flatMap tCa ++ l.flatMap tPl) → 4 * (cs.flatMap tCa ++ l.flatMap tPl).length + 1 ≤ n →
   Xg (Zp L (a + (cs.flatMap tCa ++ l.flatMap tPl).length)) Ys = 0 → ∃ f, Wm nk L n (.ok a 0) = (f, .ok (a + (cs.flatMap tCa ++ l.flatMap tPl).length) 0) ∧ FiSim false ⟨cs, l⟩ f
 | [], l, n, a, hc, hv, hf, hn, h0 => by
   obtain ⟨m, em, sm⟩ := places_fit (nk := nk) l n a hv hf hn h0
   exact ⟨_, em, trivial, sm⟩
 | c :: cs, l, n, a, hc, hv, hf, hn, h0 => by
   rw [List.flatMap_cons, List.append_assoc] at hf hn h0 ⊢
   rw [List.length_append] at hn h0 ⊢
   obtain ⟨g, gl⟩ := Xu.1 hf
   have hpos : 2 ≤ (tCa c).length := by unfold tCa; simp
   obtain ⟨n, rfl⟩ : ∃ k, n = k + 1 := ⟨n - 1, by omega⟩
   obtain ⟨f, ef, sf1, sf2⟩ := file_fit' cs l n (a + (tCa c).length) (fun q hq => hc q (by simp [hq])) hv gl (by omega) (by rw [Nat.add_assoc]; exact h0)
   obtain ⟨c', ec, sc⟩ := card_fit (nk := nk) (n := n) (l := ((St.ok a 0).tok L).line) (k := ((St.ok a 0).tok L).col) (hc c (by simp)) g (by omega)
   have g1 : Fit (Zp L a) (pw Ys 1) := g.1
   have x := x_file (k := 1) (by decide) (by decide)
   refine ⟨⟨c' :: f.cards, f.places⟩, ?_, ⟨sc, sf1⟩, sf2⟩
   rw [Wm, Xd g1, if_neg (by omega), if_pos (by omega), Vw g1 (by first | exact n1 | exact n4) (by omega), ec]
   dsimp only
   rw [ef, Nat.add_assoc]
theorem file_fit {f : Fi} (hv : VFi f) {n a : Nat} (hf : Zay L a (tFi f)) (hn : 4 * (tFi f).length + 1 ≤ n) (h0 : (Zp L (a + (tFi f).length)).k = 0) :
   ∃ g, Wm nk L n (.ok a 0) = (g, .ok (a + (tFi f).length) 0) ∧ FiSim false f g := by
 refine file_fit' f.cards f.places n a hv.1 hv.2 hf hn ?_
 rcases Nat.eq_zero_or_pos (Xg (Zp L (a + (tFi f).length)) Ys) with h | h
 · exact h
 · exact absurd h0 (idxW_k (ws := Ys) (by omega))
end
end Go.Proofs.YtljdgdphldckhaaGreat
