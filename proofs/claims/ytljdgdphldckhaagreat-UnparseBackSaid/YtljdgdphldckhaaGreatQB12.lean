/-
  Texts UnpTok. No conditions but those that each theorem names.
-/
import Derived.Test.YtljdgdphldckhaaGreatQB9
namespace Go.Proofs.YtljdgdphldckhaaGreat
open Go
set_option linter.unusedSimpArgs false
set_option linter.unusedVariables false
structure PT where
 k : Int
 t : ByteArray
 n : Int
def PT.v (p : PT) : TokV := ⟨p.k, p.t, p.n, 0, 0, 0⟩
def Fit (v : TokV) (p : PT) : Prop := v.k = p.k ∧ v.t = p.t ∧ v.n = p.n
theorem Jy {v : TokV} {p : PT} (h : Fit v p) (t : ByteArray) : isT v t = isT p.v t := by unfold isT; rw [h.1, h.2.1]; rfl
theorem Zbm {v : TokV} {p : PT} (h : Fit v p) : ∀ ws : List ByteArray, Xg v ws = Xg p.v ws
 | [] => rfl
 | t :: r => by unfold Xg; rw [Jy h, Zbm h r]
theorem n1 : (1 : Int) ≠ 0 := by decide
theorem n4 : (4 : Int) ≠ 0 := by decide
def Zay (L : List TokV) : Nat → List PT → Prop
 | _, [] => True
 | a, p :: r => Fit (Zp L a) p ∧ Zay L (a + 1) r
theorem Xu {L : List TokV} {T : List PT} : ∀ {S : List PT} {a : Nat}, Zay L a (S ++ T) ↔ Zay L a S ∧ Zay L (a + S.length) T
 | [], a => by simp [Zay]
 | p :: S, a => by
   simp only [List.cons_append, Zay, List.length_cons, Xu (S := S), and_assoc]
   rw [show a + 1 + S.length = a + (S.length + 1) from by omega]
def wd (ws : List ByteArray) (k : Int) : ByteArray := ws[k.toNat - 1]?.getD ⟨#[]⟩
def pw (ws : List ByteArray) (k : Int) : PT := ⟨1, wd ws k, 0⟩
def pm (ws : List ByteArray) (k : Int) : PT := ⟨4, wd ws k, 0⟩
def pM (t : ByteArray) : PT := ⟨4, t, 0⟩
def pW (t : ByteArray) : PT := ⟨1, t, 0⟩
def pI (n : Int) : PT := ⟨2, Vc n, n⟩
def pN (s : ByteArray) : PT := ⟨3, s, 0⟩
theorem Zaw {m : Nat} {P : Int → Prop} (h : ∀ i : Fin m, P ((i.val : Int) + 1)) {k : Int} (h1 : 1 ≤ k) (h2 : k ≤ m) : P k := by
 have := h ⟨k.toNat - 1, by omega⟩
 have e : (((⟨k.toNat - 1, by omega⟩ : Fin m).val : Int) + 1) = k := by show ((k.toNat - 1 : Nat) : Int) + 1 = k; omega
 rwa [e] at this
theorem x_sel {k : Int} (h1 : 1 ≤ k) (h2 : k ≤ 2) : (Xg (pw Vj k).v Vj : Int) = k := Zaw (m := 2) (P := fun k => (Xg (pw Vj k).v Vj : Int) = k) (by decide +kernel) h1 h2
theorem x_side {k : Int} (h1 : 1 ≤ k) (h2 : k ≤ 3) : (Xg (pw Zk k).v Zk : Int) = k := Zaw (m := 3) (P := fun k => (Xg (pw Zk k).v Zk : Int) = k) (by decide +kernel) h1 h2
theorem x_where {k : Int} (h1 : 1 ≤ k) (h2 : k ≤ 4) : (Xg (pw Yy k).v Yy : Int) = k := Zaw (m := 4) (P := fun k => (Xg (pw Yy k).v Yy : Int) = k) (by decide +kernel) h1 h2
theorem x_filter {k : Int} (h1 : 1 ≤ k) (h2 : k ≤ 4) : (Xg (pw Zq k).v Zq : Int) = k := Zaw (m := 4) (P := fun k => (Xg (pw Zq k).v Zq : Int) = k) (by decide +kernel) h1 h2
theorem x_meit {k : Int} (h1 : 1 ≤ k) (h2 : k ≤ 2) : (Xg (pw Ww k).v Ww : Int) = k := Zaw (m := 2) (P := fun k => (Xg (pw Ww k).v Ww : Int) = k) (by decide +kernel) h1 h2
theorem x_pick {k : Int} (h1 : 1 ≤ k) (h2 : k ≤ 5) : (Xg (pw Wq k).v Wq : Int) = k ∧ Xg (pw Wq k).v Zq = 0 :=
 Zaw (m := 5) (P := fun k => (Xg (pw Wq k).v Wq : Int) = k ∧ Xg (pw Wq k).v Zq = 0) (by decide +kernel) h1 h2
theorem x_to {k : Int} (h1 : 1 ≤ k) (h2 : k ≤ 4) : (Xg (pw wTo k).v wTo : Int) = k := Zaw (m := 4) (P := fun k => (Xg (pw wTo k).v wTo : Int) = k) (by decide +kernel) h1 h2
theorem x_how {k : Int} (h1 : 1 ≤ k) (h2 : k ≤ 4) : (Xg (pw Zav k).v Zav : Int) = k := Zaw (m := 4) (P := fun k => (Xg (pw Zav k).v Zav : Int) = k) (by decide +kernel) h1 h2
theorem x_op {k : Int} (h1 : 1 ≤ k) (h2 : k ≤ 6) : (Xg (pm wOp k).v wOp : Int) = k ∧ Xg (pm wOp k).v Un = 0 ∧ isT (pm wOp k).v Wf = false :=
 Zaw (m := 6) (P := fun k => (Xg (pm wOp k).v wOp : Int) = k ∧ Xg (pm wOp k).v Un = 0 ∧ isT (pm wOp k).v Wf = false) (by decide +kernel) h1 h2
theorem x_sum {k : Int} (h1 : 1 ≤ k) (h2 : k ≤ 2) : (Xg (pm Un k).v Un : Int) = k ∧ isT (pm Un k).v Wf = false :=
 Zaw (m := 2) (P := fun k => (Xg (pm Un k).v Un : Int) = k ∧ isT (pm Un k).v Wf = false) (by decide +kernel) h1 h2
theorem x_fact {k : Int} (h1 : 1 ≤ k) (h2 : k ≤ 5) : (Xg (pw Yj k).v Yj : Int) = k ∧ isT (pw Yj k).v Wh = false :=
 Zaw (m := 5) (P := fun k => (Xg (pw Yj k).v Yj : Int) = k ∧ isT (pw Yj k).v Wh = false) (by decide +kernel) h1 h2
theorem x_act {k : Int} (h1 : 1 ≤ k) (h2 : k ≤ 15) : (Xg (pw Yr k).v Yr : Int) = k ∧ isT (pw Yr k).v Wx = false :=
 Zaw (m := 15) (P := fun k => (Xg (pw Yr k).v Yr : Int) = k ∧ isT (pw Yr k).v Wx = false) (by decide +kernel) h1 h2
theorem x_when {k : Int} (h1 : 1 ≤ k) (h2 : k ≤ 6) : (Xg (pw Yd k).v Yd : Int) = k := Zaw (m := 6) (P := fun k => (Xg (pw Yd k).v Yd : Int) = k) (by decide +kernel) h1 h2
theorem x_file {k : Int} (h1 : 1 ≤ k) (h2 : k ≤ 2) : (Xg (pw Ys k).v Ys : Int) = k := Zaw (m := 2) (P := fun k => (Xg (pw Ys k).v Ys : Int) = k) (by decide +kernel) h1 h2
section
variable {L : List TokV}
theorem on_fit {a : Nat} {p : PT} (h : Fit (Zp L a) p) (hk : p.k ≠ 0) : onA L a = a + 1 := by unfold onA; rw [if_neg (by rw [h.1]; exact hk)]
theorem Xd {a d : Nat} {p : PT} {ws : List ByteArray} (h : Fit (Zp L a) p) : Zd L ws (.ok a d) = Xg p.v ws := Zbm h ws
theorem Vw {a d : Nat} {p : PT} {ws : List ByteArray} (h : Fit (Zp L a) p) (hk : p.k ≠ 0) (h0 : Xg p.v ws ≠ 0) : Zt L ws (.ok a d) = .ok (a + 1) d := by
 show (if Xg (Zp L a) ws = 0 then St.ok a d else .ok (onA L a) d) = _
 rw [Zbm h, if_neg h0, on_fit h hk]
theorem Uk {a d : Nat} {p : PT} {ws : List ByteArray} (h : Fit (Zp L a) p) (hk : p.k ≠ 0) (h0 : Xg p.v ws ≠ 0) : Yn L ws (.ok a d) = .ok (a + 1) d := by
 unfold Yn
 rw [Xd h, if_neg h0, Vw h hk h0]
theorem is_fit {a d : Nat} {p : PT} {t : ByteArray} (h : Fit (Zp L a) p) : isS L t (.ok a d) = isT p.v t := Jy h t
theorem isM (t : ByteArray) : isT (pM t).v t = true := by unfold isT PT.v pM; simp
theorem isW (t : ByteArray) : isT (pW t).v t = true := by unfold isT PT.v pW; simp
theorem take_fit {a d : Nat} {p : PT} {t : ByteArray} (h : Fit (Zp L a) p) (hk : p.k ≠ 0) (ht : isT p.v t = true) : Xz L t (.ok a d) = .ok (a + 1) d := by
 show St.ok (Zal L a t) d = _
 unfold Zal
 rw [Jy h, if_pos ht, on_fit h hk]
theorem want_fit {a d : Nat} {p : PT} {t : ByteArray} (h : Fit (Zp L a) p) (hk : p.k ≠ 0) (ht : isT p.v t = true) : Yk L t (.ok a d) = .ok (a + 1) d := by
 unfold Yk
 rw [is_fit h, if_pos ht, take_fit h hk ht]
theorem want_M {a d : Nat} {t : ByteArray} (h : Fit (Zp L a) (pM t)) : Yk L t (.ok a d) = .ok (a + 1) d := want_fit h (by first | exact n1 | exact n4) (isM t)
theorem want_W {a d : Nat} {t : ByteArray} (h : Fit (Zp L a) (pW t)) : Yk L t (.ok a d) = .ok (a + 1) d := want_fit h (by first | exact n1 | exact n4) (isW t)
theorem down_fit {a d : Nat} {t : ByteArray} (h : Fit (Zp L a) (pM t)) (hd : d < 8) : Ux L t (.ok a d) = .ok (a + 1) (d + 1) := by
 unfold Ux
 have e : deepS L t (.ok a d) = .ok a (d + 1) := by
   show (if isT (Zp L a) t = true then Vo (downF L a d) (St.ok a (downD d)) else St.ok a d) = _
   rw [Jy h, if_pos (isM t)]
   unfold downF downD
   rw [if_neg (by omega), if_neg (by omega)]
   rfl
 rw [e, want_M h]
theorem rise_fit {a d : Nat} {t : ByteArray} (h : Fit (Zp L a) (pM t)) : riseS L t (.ok a (d + 1)) = .ok (a + 1) d := by
 unfold riseS
 rw [want_M h]; rfl
theorem int_fit {a d : Nat} {n : Int} (h : Fit (Zp L a) (pI n)) : intN L (.ok a d) = n ∧ intS L (.ok a d) = .ok (a + 1) d := by
 have hk : (Zp L a).k = 2 := h.1
 have hn : (Zp L a).n = n := h.2.2
 constructor
 · show intV L a = n
   unfold intV; rw [if_pos hk, hn]
 · show Vo (Up L a 2) (.ok (Uv L a 2) d) = _
   unfold Up Uv
   rw [if_pos hk, if_pos hk, on_fit h (by decide : (2 : Int) ≠ 0)]; rfl
theorem name_fit {a d : Nat} {s : ByteArray} (h : Fit (Zp L a) (pN s)) : Zba L (.ok a d) = s ∧ We L (.ok a d) = .ok (a + 1) d := by
 have hk : (Zp L a).k = 3 := h.1
 constructor
 · show nameV L a = s
   unfold nameV; rw [if_pos hk]; exact h.2.1
 · show Vo (Up L a 3) (.ok (Uv L a 3) d) = _
   unfold Up Uv
   rw [if_pos hk, if_pos hk, on_fit h (by decide : (3 : Int) ≠ 0)]; rfl
def tS (n : Int) : List PT := if n < 0 then [pM minus, pI (-n)] else [pI n]
theorem not_minus (n : Int) : isT (pI n).v minus = false := rfl
theorem sign_fit {a d : Nat} {n : Int} (h : Zay L a (tS n)) : Zaz L (.ok a d) = n ∧ Zah L (.ok a d) = .ok (a + (tS n).length) d := by
 unfold tS at h ⊢
 split at h
 · rename_i hn
   rw [if_pos hn]
   obtain ⟨h1, h2, _⟩ := h
   have e1 : isT (Zp L a) minus = true := by rw [Jy h1]; exact isM minus
   have e2 : onA L a = a + 1 := on_fit h1 (by decide : (4 : Int) ≠ 0)
   have e3 : (Zp L (a + 1)).k = 2 := h2.1
   have e4 : (Zp L (a + 1)).n = -n := h2.2.2
   have e5 : onA L (a + 1) = a + 2 := on_fit h2 (by decide : (2 : Int) ≠ 0)
   constructor
   · show signV L a = n
     unfold signV; rw [if_pos e1, e2, if_pos e3, e4]; omega
   · show Vo (signF L a) (.ok (signA L a) d) = _
     unfold signF signA Up
     rw [if_pos e1, if_pos e1, e2, if_pos e3, if_pos e3, e5]; rfl
 · rename_i hn
   rw [if_neg hn]
   obtain ⟨h1, _⟩ := h
   have e1 : ¬ isT (Zp L a) minus = true := by rw [Jy h1, not_minus]; simp
   have := int_fit (d := d) h1
   constructor
   · show signV L a = n
     unfold signV; rw [if_neg e1]; exact this.1
   · show Vo (signF L a) (.ok (signA L a) d) = _
     unfold signF signA; rw [if_neg e1, if_neg e1]; exact this.2
end
def NameOK (s : ByteArray) : Prop := nameB s = true ∧ (∀ x ∈ bL s, 0 ≤ x ∧ x < 256 ∧ x ≠ 34)
def VFl (f : Fl) : Prop :=
 ((f.kind = 1 ∨ f.kind = 2) ∧ (1 ≤ f.op ∧ f.op ≤ 6) ∧ (-99 ≤ f.n ∧ f.n ≤ 99) ∧ f.name = ⟨#[]⟩) ∨ (f.kind = 3 ∧ f.op = 0 ∧ f.n = 0 ∧ NameOK f.name) ∨
   ((f.kind = 4 ∨ f.kind = 5) ∧ f.op = 0 ∧ f.n = 0 ∧ f.name = ⟨#[]⟩)
def tFl (f : Fl) : List PT :=
 if f.kind = 1 ∨ f.kind = 2 then pw Zq f.kind :: pm wOp f.op :: tS f.n else if f.kind = 3 then [pw Zq 3, pN f.name] else [pw Zq 4, pw Ww (f.kind - 3)]
def tFls (l : List Fl) : List PT := l.flatMap tFl
theorem tFls_cons (f : Fl) (l : List Fl) : tFls (f :: l) = tFl f ++ tFls l := rfl
def VSe (s : Se) : Prop :=
 ((s.kind = 1 ∨ s.kind = 2) ∧ s.side = 0 ∧ s.wh = 0 ∧ s.lane = 0 ∧ s.fs = [] ∧ s.pick = 0) ∨
   (s.kind = 3 ∧ (1 ≤ s.side ∧ s.side ≤ 3) ∧ (1 ≤ s.wh ∧ s.wh ≤ 4) ∧ (0 ≤ s.lane ∧ s.lane ≤ 99) ∧ (s.wh ≠ 3 → s.lane = 0) ∧ (∀ f ∈ s.fs, VFl f) ∧ (1 ≤ s.pick ∧ s.pick ≤ 5))
def tWh (s : Se) : List PT := if s.wh = 3 then [pI s.lane] else []
def tSel (s : Se) : List PT :=
 if s.kind = 1 ∨ s.kind = 2 then [pw Vj s.kind] else pM Wh :: pw Zk s.side :: pw Yy s.wh :: (tWh s ++ (tFls s.fs ++ [pw Wq s.pick, pM Wi]))
section
variable {L : List TokV} {nk : Int}
theorem Ji {n : Nat} {k : Int} (h : (n : Int) = k) (h1 : 1 ≤ k) : n ≠ 0 := by omega
theorem filters_fit {d : Nat} : ∀ (l : List Fl) (a n : Nat), (∀ f ∈ l, VFl f) → l.length ≤ n → Zay L a (tFls l) → Xg (Zp L (a + (tFls l).length)) Zq = 0 →
   Yu nk L n (.ok a d) = (l, .ok (a + (tFls l).length) d)
 | [], a, n, _, _, _, h0 => by
   cases n with
   | zero => rfl
   | succ n =>
     have h0' : Zd L Zq (.ok a d) = 0 := h0
     rw [Yu, if_pos h0']; rfl
 | f :: l, a, 0, _, hn, _, _ => by simp at hn
 | f :: l, a, n + 1, hv, hn, hf, h0 => by
   rw [tFls_cons] at hf h0 ⊢
   rw [List.length_append] at h0 ⊢
   obtain ⟨hf1, hf2⟩ := Xu.1 hf
   have hl : l.length ≤ n := by simpa using hn
   have ih := filters_fit (d := d) l (a + (tFl f).length) n (fun g hg => hv g (by simp [hg])) hl hf2 (by rw [Nat.add_assoc]; exact h0)
   suffices hs : Zd L Zq (.ok a d) ≠ 0 ∧ Wc nk L (Zd L Zq (.ok a d)) (Zt L Zq (.ok a d)) = (f, .ok (a + (tFl f).length) d) by
     rw [Yu, if_neg hs.1, hs.2]
     dsimp only
     rw [ih, Nat.add_assoc]
   obtain ⟨fk, fo, fn, fnm⟩ := f
   rcases hv _ (List.mem_cons_self ..) with ⟨hk, ho, hn', hm⟩ | ⟨hk, ho, hn', hm⟩ | ⟨hk, ho, hn', hm⟩
   · dsimp only at hk ho hn' hm
     subst hm
     unfold tFl at hf1 ⊢
     dsimp only at hf1 ⊢
     rw [if_pos hk] at hf1 ⊢
     obtain ⟨g1, g2, g3⟩ := hf1
     have hk1 : 1 ≤ fk ∧ fk ≤ 4 := by omega
     have x1 := x_filter hk1.1 hk1.2
     have x1' := Ji x1 hk1.1
     have x2 := (x_op ho.1 ho.2).1
     have x2' := Ji x2 ho.1
     rw [Xd g1, Vw g1 (by first | exact n1 | exact n4) x1']
     refine ⟨x1', ?_⟩
     unfold Wc
     have hc : Xg (pw Zq fk).v Zq = 1 ∨ Xg (pw Zq fk).v Zq = 2 := by omega
     rw [if_pos hc, Xd g2, Uk g2 (by first | exact n1 | exact n4) x2', (sign_fit g3).1, (sign_fit g3).2, x1, x2]
     simp only [List.length_cons]
     rw [show a + 1 + 1 + (tS fn).length = a + ((tS fn).length + 1 + 1) from by omega]
   · dsimp only at hk ho hn' hm
     subst hk ho hn'
     unfold tFl at hf1 ⊢
     dsimp only at hf1 ⊢
     rw [if_neg (by decide), if_pos rfl] at hf1 ⊢
     obtain ⟨g1, g2, _⟩ := hf1
     have x1 := x_filter (k := 3) (by decide) (by decide)
     have x1' := Ji x1 (by decide)
     rw [Xd g1, Vw g1 (by first | exact n1 | exact n4) x1']
     refine ⟨x1', ?_⟩
     unfold Wc
     rw [if_neg (by omega), if_pos (by omega), (name_fit g2).1, (name_fit g2).2]
     rfl
   · dsimp only at hk ho hn' hm
     subst ho hn' hm
     unfold tFl at hf1 ⊢
     dsimp only at hf1 ⊢
     rw [if_neg (by omega), if_neg (by omega)] at hf1 ⊢
     obtain ⟨g1, g2, _⟩ := hf1
     have x1 := x_filter (k := 4) (by decide) (by decide)
     have x1' := Ji x1 (by decide)
     have x2 := x_meit (k := fk - 3) (by omega) (by omega)
     have x2' := Ji x2 (by omega)
     rw [Xd g1, Vw g1 (by first | exact n1 | exact n4) x1']
     refine ⟨x1', ?_⟩
     unfold Wc
     rw [if_neg (by omega), if_neg (by omega), Xd g2, if_neg x2', Uk g2 (by first | exact n1 | exact n4) x2', x2, show 3 + (fk - 3) = fk from by omega]
     rfl
theorem tFl_len (f : Fl) : 2 ≤ (tFl f).length := by
 unfold tFl; split
 · simp only [List.length_cons]; omega
 · split <;> simp
theorem tFls_len : ∀ l : List Fl, 2 * l.length ≤ (tFls l).length
 | [] => by simp
 | f :: l => by rw [tFls_cons, List.length_append, List.length_cons]; have := tFl_len f; have := tFls_len l; omega
theorem sel_fit {s : Se} {a d n : Nat} (hv : VSe s) (hn : s.fs.length ≤ n) (hf : Zay L a (tSel s)) : Wp nk L n (.ok a d) = (s, .ok (a + (tSel s).length) d) := by
 obtain ⟨sk, ss, sw, sl, sf, sp⟩ := s
 rcases hv with ⟨hk, h1, h2, h3, h4, h5⟩ | ⟨hk, h1, h2, h3, h4, h5, h6⟩
 · dsimp only at hk h1 h2 h3 h4 h5
   subst h1 h2 h3 h4 h5
   unfold tSel at hf ⊢
   dsimp only at hf ⊢
   rw [if_pos hk] at hf ⊢
   obtain ⟨g1, _⟩ := hf
   have x1 := x_sel (k := sk) (by omega) (by omega)
   unfold Wp
   rw [Xd g1, if_neg (by omega), Uk g1 (by first | exact n1 | exact n4) (by omega), x1]
   rfl
 · dsimp only at hk h1 h2 h3 h4 h5 h6 hn
   subst hk
   unfold tSel at hf ⊢
   dsimp only at hf ⊢
   rw [if_neg (by decide)] at hf ⊢
   obtain ⟨g1, g2, g3, g4⟩ := hf
   obtain ⟨g4, g5⟩ := Xu.1 g4
   obtain ⟨g5, g6⟩ := Xu.1 g5
   obtain ⟨g6, g7, _⟩ := g6
   have x1 : Xg (pM Wh).v Vj = 3 := by decide +kernel
   have x2 := x_side h1.1 h1.2
   have x2' := Ji x2 h1.1
   have x3 := x_where h2.1 h2.2
   have x3' := Ji x3 h2.1
   have x4 := x_pick h6.1 h6.2
   have x4' := Ji x4.1 h6.1
   have e1 : Yn L Vj (.ok a d) = .ok (a + 1) d := Uk g1 (by first | exact n1 | exact n4) (by omega)
   have e2 : Yn L Zk (.ok (a + 1) d) = .ok (a + 1 + 1) d := Uk g2 (by first | exact n1 | exact n4) x2'
   have e3 : Yn L Yy (.ok (a + 1 + 1) d) = .ok (a + 1 + 1 + 1) d := Uk g3 (by first | exact n1 | exact n4) x3'
   have e4 : Us L (.ok (a + 1) d) = (ss, sw, sl) ∧ Zbe L (.ok (a + 1) d) = .ok (a + 1 + 1 + 1 + (tWh ⟨3, ss, sw, sl, sf, sp⟩).length) d := by
     unfold Us Zbe
     rw [e2, e3, Xd g2, Xd g3, x2, x3]
     unfold tWh at g4 ⊢
     dsimp only at g4 ⊢
     by_cases h3w : sw = 3
     · rw [if_pos h3w] at g4
       have hi : Xg (pw Yy sw).v Yy = 3 := by omega
       have := int_fit (d := d) g4.1
       rw [if_pos hi, if_pos hi, if_pos h3w, this.1, this.2]; exact ⟨rfl, rfl⟩
     · have hi : ¬ Xg (pw Yy sw).v Yy = 3 := by omega
       rw [if_neg hi, if_neg hi, if_neg h3w, h4 h3w]; exact ⟨rfl, rfl⟩
   have e5 := filters_fit (nk := nk) (d := d) sf _ n h5 hn g5 (by rw [Zbm g6]; exact x4.2)
   unfold Wp
   rw [Xd g1, if_pos x1, e1, e4.1, e4.2, e5]
   dsimp only
   rw [Xd g6, Uk g6 (by first | exact n1 | exact n4) x4', want_M g7, x4.1]
   simp only [List.length_cons, List.length_append, List.length_nil]
   rw [show a + 1 + 1 + 1 + (tWh ⟨3, ss, sw, sl, sf, sp⟩).length + (tFls sf).length + 1 + 1 = a + ((tWh ⟨3, ss, sw, sl, sf, sp⟩).length + ((tFls sf).length + (0 + 1 + 1)) + 1 + 1 + 1) from by omega]
def VTo (k l : Int) : Prop := ((1 ≤ k ∧ k ≤ 3) ∧ l = 0) ∨ (k = 4 ∧ 0 ≤ l ∧ l ≤ 99)
def tTo (k l : Int) : List PT := if k = 4 then [pw wTo 4, pI l] else [pw wTo k]
theorem to_fit {k l : Int} {a d : Nat} (hv : VTo k l) (hf : Zay L a (tTo k l)) : toK L (.ok a d) = k ∧ toL L (.ok a d) = l ∧ toS L (.ok a d) = .ok (a + (tTo k l).length) d := by
 unfold toK toL toS
 rcases hv with ⟨hk, hl⟩ | ⟨hk, hl⟩
 · subst hl
   unfold tTo at hf ⊢
   have hk4 : ¬ k = 4 := by omega
   rw [if_neg hk4] at hf ⊢
   obtain ⟨g1, _⟩ := hf
   have x1 := x_to hk.1 (by omega)
   rw [Xd g1, Uk g1 (by first | exact n1 | exact n4) (by omega), if_neg (by omega), if_neg (by omega), x1]
   exact ⟨rfl, rfl, rfl⟩
 · subst hk
   unfold tTo at hf ⊢
   rw [if_pos (show (4 : Int) = 4 from rfl)] at hf ⊢
   obtain ⟨g1, g2, _⟩ := hf
   have x1 := x_to (k := 4) (by decide) (by decide)
   have := int_fit (d := d) g2
   rw [Xd g1, Uk g1 (by first | exact n1 | exact n4) (by omega), if_pos (by omega), if_pos (by omega), this.1, this.2, x1]
   exact ⟨rfl, rfl, rfl⟩
end
end Go.Proofs.YtljdgdphldckhaaGreat
