/-
  Texts SynA1, SynA2, SynA3, SynA4, SynA5, SynA6, SynB1, SynB2. No conditions but those that each theorem names.
-/
import Derived.Great.Walk
import Derived.RegionTactic
import Derived.Test.YtljdgdphldckhaaGreatQA19
set_option maxRecDepth 20000
set_option maxHeartbeats 12800000
namespace Go.Proofs.YtljdgdphldckhaaGreat
open Go.ChangeShapes Go.WideShapes Go.ChangeAt Go.RowKit
set_option linter.unusedVariables false
set_option linter.unusedSimpArgs false
theorem exprs_all : ∀ n m : Nat, m ≤ n → ExprOK m ∧ ProdOK m ∧ FactOK m := by
 intro n
 induction n with
 | zero =>
   intro m hm
   obtain rfl : m = 0 := by omega
   exact ⟨fun w q c r K L st h hn _ => absurd hn (by omega), fun w q c r K L st h hn _ => absurd hn (by omega), fun w q c r K L st h hn _ => absurd hn (by omega)⟩
 | succ n ih =>
   intro m hm
   by_cases e : m ≤ n
   · exact ih m e
   · obtain rfl : m = n + 1 := by omega
     exact ⟨xexpr n fun k hk => (ih k hk).2.1, xproduct n fun k hk => (ih k hk).2.2, xfact n (ih n (Nat.le_refl _)).1⟩
theorem xexprs (w : World) (q c r K : Nat) (L : List TokV) (st : St) (n : Nat) (h : PAt w q c r K L st) (hn : 4 * Zw L st + 3 ≤ n) (hLn : Zw L st ≤ 68719476736) :
   Calls Tryz.prog 97 #[.pointer (some ⟨q, 0, none⟩)] w (Yl w q c r K L (Yq 5 L n st).2 (Yq 5 L n st).1.ds) := (exprs_all n n (Nat.le_refl _)).1 w q c r K L st h hn hLn
def Wg (cop : Int) (cl cr : List Value) : List Value := .int .i64 cop :: (cl ++ cr)
def Zz (k l c : Int) (sel num : List Value) (sd tk tl how : Int) (nm : ByteArray) (cop : Int) (cl cr : List Value) (thn els : Value) : List Value :=
 .int .i64 k :: .int .i64 l :: .int .i64 c :: (sel ++ (num ++ (.int .i64 sd :: .int .i64 tk :: .int .i64 tl :: .int .i64 how :: .string nm :: .int .i64 cop :: (cl ++ (cr ++ [thn, els])))))
def AH.dsr (h : AH) (tn : Nat) (t : Ds) (en : Nat) (e : Ds) : Ds :=
 .int h.kind (.int h.line (.int h.col (h.sel.ds.app (h.num.ds.app (.int h.side (.int h.tk (.int h.tl (.int h.how (.str h.name (.int h.cop (h.cl.ds.app (h.cr.ds.app (.row tn t (.row en e .nil))))))))))))))
def Acs.ds : Acs → Ds
 | .nil => .nil
 | .cons h t e r => (h.dsr t.len t.ds e.len e.ds).app r.ds
theorem AH.dsr_len (h : AH) (tn : Nat) (t : Ds) (en : Nat) (e : Ds) : (h.dsr tn t en e).len = 53 := by
 simp only [AH.dsr, Ds.len, Ds.len_app, Ex.ds_len, Se.ds_len]
theorem Zv {N : Nat → Prop} {w : World} (k l c sd tk tl how cop : Int) (nm : ByteArray) {s : Se} {e x y : Ex} {sel num cl cr : List Value} (h1 : Zh N w s.ds sel) (h2 : Zh N w e.ds num) (h3 : Zh N w x.ds cl) (h4 : Zh N w y.ds cr)
   {tn en : Nat} {t u : Ds} {thn els : Value} (h5 : Zh N w (.row tn t .nil) [thn]) (h6 : Zh N w (.row en u .nil) [els]) :
   Zh N w ((⟨k, l, c, s, e, sd, tk, tl, how, nm, cop, x, y⟩ : AH).dsr tn t en u) (Zz k l c sel num sd tk tl how nm cop cl cr thn els) := by
 have h7 : Zh N w (.row tn t (.row en u .nil)) [thn, els] := Zh.app (x := .row tn t .nil) h6 h5
 have a2 := Zh.app (Zh.app h7 h4) h3
 have a3 : Zh N w (.int sd (.int tk (.int tl (.int how (.str nm (.int cop (x.ds.app (y.ds.app (.row tn t (.row en u .nil)))))))))) (.int .i64 sd :: .int .i64 tk :: .int .i64 tl :: .int .i64 how :: .string nm :: .int .i64 cop :: (cl ++ (cr ++ [thn, els]))) := ⟨_, rfl, _, rfl, _, rfl, _, rfl, _, rfl, _, rfl, a2⟩
 exact ⟨_, rfl, _, rfl, _, rfl, Zh.app (Zh.app a3 h2) h1⟩
theorem Zk (N : Nat → Prop) (w : World) : Zh N w (.row 0 .nil .nil) [.slice none 0 0] := ⟨none, 0, [], [], rfl, Nat.zero_le _, .inl rfl, rfl, rfl⟩
theorem cond_deep {N : Nat → Prop} {w : World} (cop : Int) {x y : Ex} {cl cr : List Value} (h3 : Zh N w x.ds cl) (h4 : Zh N w y.ds cr) : Zh N w (.int cop (x.ds.app y.ds)) (Wg cop cl cr) := ⟨_, rfl, Zh.app h4 h3⟩
theorem Wj : (Tryz.prog.underlying 57).map TypeDesc.isRow = some true := by kernel_rfl
theorem size_act : (Tryz.prog.info? 57).map (·.size) = some 53 := by kernel_rfl
theorem Yi {vs : List Value} (h : vs.length = 53) : (Tryz.prog.info? 57).map (·.size) = some vs.length := by rw [h]; exact size_act
theorem row_cond : (Tryz.prog.underlying 55).map TypeDesc.isRow = some true := by kernel_rfl
theorem size_cond : (Tryz.prog.info? 55).map (·.size) = some 25 := by kernel_rfl
theorem size_cond' {vs : List Value} (h : vs.length = 25) : (Tryz.prog.info? 55).map (·.size) = some vs.length := by rw [h]; exact size_cond
theorem size_acts : (Tryz.prog.info? 41).map (·.size) = some 1 := by kernel_rfl
def zexL : List Value := [.int .i64 0, .int .i64 0, .int .i64 0, .int .i64 0, .int .i64 0, .int .i64 0, .slice none 0 0, .int .i64 0, .int .i64 0, .int .i64 0, .int .i64 0, .slice none 0 0]
def zseL : List Value := [.int .i64 0, .int .i64 0, .int .i64 0, .int .i64 0, .slice none 0 0, .int .i64 0]
def Yp : List Value := Zz 0 0 0 zseL zexL 0 0 0 0 ⟨#[]⟩ 0 zexL zexL (.slice none 0 0) (.slice none 0 0)
theorem Zf (N : Nat → Prop) (w : World) : Zh N w zEx.ds zexL := zEx_deep N w
theorem Ys (N : Nat → Prop) (w : World) : Zh N w zSe.ds zseL := Xj N w
section
variable {P : Program} {ops : Array Oper} {rest : List Oper} {o : Oper} {a : Act} {w : World} {Q : Exit → Act → World → Prop}
theorem put_sel (T : TypeId) (x y : Operand) (t : TypeId) (g : Nat) {k l c : Int} {sel num : List Value} {sd tk tl how : Int} {nm : ByteArray} {cop : Int} {cl cr : List Value} {thn els : Value} {ys : List Value} (hW : Zb w g t (Zz k l c sel num sd tk tl how nm cop cl cr thn els).toArray) (e1 : sel.length = 6) (hy1 : ys.length = 6) (hi : (P.info? T).map (·.size) = some 6) (h1 : ∀ v ∈ ys, v.oneCell' = true)
   (hgd : o.guard = none) (ho : o.op = .store T x y) (hd : o.dst = none) (hx : a.eval x = .pointer (some ⟨g, 3, none⟩)) (hy : a.eval y = .agg ys.toArray)
   (h : ∀ w', Put w w' g t (Zz k l c ys num sd tk tl how nm cop cl cr thn els) → wpList P ops Q rest a w') : wpList P ops Q (o :: rest) a w :=
 Wh T x y t g 3 ([.int .i64 k, .int .i64 l, .int .i64 c]) (sel) (num ++ ([.int .i64 sd, .int .i64 tk, .int .i64 tl, .int .i64 how, .string nm, .int .i64 cop] ++ (cl ++ (cr ++ [thn, els])))) ys (by simpa [Zz, Wg] using hW) (by simp [hy1, e1]) (by simp [e1]) (by rw [hy1]; exact hi) h1 hgd ho hd hx hy
   fun w' p => h w' ⟨by simpa [Zz, Wg] using p.whole, p.keeps⟩
theorem put_num (T : TypeId) (x y : Operand) (t : TypeId) (g : Nat) {k l c : Int} {sel num : List Value} {sd tk tl how : Int} {nm : ByteArray} {cop : Int} {cl cr : List Value} {thn els : Value} {ys : List Value} (hW : Zb w g t (Zz k l c sel num sd tk tl how nm cop cl cr thn els).toArray) (e1 : sel.length = 6) (e2 : num.length = 12) (hy1 : ys.length = 12) (hi : (P.info? T).map (·.size) = some 12) (h1 : ∀ v ∈ ys, v.oneCell' = true)
   (hgd : o.guard = none) (ho : o.op = .store T x y) (hd : o.dst = none) (hx : a.eval x = .pointer (some ⟨g, 9, none⟩)) (hy : a.eval y = .agg ys.toArray)
   (h : ∀ w', Put w w' g t (Zz k l c sel ys sd tk tl how nm cop cl cr thn els) → wpList P ops Q rest a w') : wpList P ops Q (o :: rest) a w :=
 Wh T x y t g 9 ([.int .i64 k, .int .i64 l, .int .i64 c] ++ sel) (num) ([.int .i64 sd, .int .i64 tk, .int .i64 tl, .int .i64 how, .string nm, .int .i64 cop] ++ (cl ++ (cr ++ [thn, els]))) ys (by simpa [Zz, Wg] using hW) (by simp [hy1, e1, e2]) (by simp [e1, e2]) (by rw [hy1]; exact hi) h1 hgd ho hd hx hy
   fun w' p => h w' ⟨by simpa [Zz, Wg] using p.whole, p.keeps⟩
theorem put_sd (T : TypeId) (x y : Operand) (t : TypeId) (g : Nat) {k l c : Int} {sel num : List Value} {sd tk tl how : Int} {nm : ByteArray} {cop : Int} {cl cr : List Value} {thn els : Value} {v : Int} (hW : Zb w g t (Zz k l c sel num sd tk tl how nm cop cl cr thn els).toArray) (e1 : sel.length = 6) (e2 : num.length = 12) (hi : (P.info? T).map (·.size) = some 1) (h1 : (.int .i64 v : Value).oneCell' = true)
   (hgd : o.guard = none) (ho : o.op = .store T x y) (hd : o.dst = none) (hx : a.eval x = .pointer (some ⟨g, 21, none⟩)) (hy : a.eval y = .int .i64 v)
   (h : ∀ w', Put w w' g t (Zz k l c sel num v tk tl how nm cop cl cr thn els) → wpList P ops Q rest a w') : wpList P ops Q (o :: rest) a w :=
 Zn T x y t g 21 ([.int .i64 k, .int .i64 l, .int .i64 c] ++ sel ++ num) (.int .i64 sd) (.int .i64 v) ([.int .i64 tk, .int .i64 tl, .int .i64 how, .string nm, .int .i64 cop] ++ (cl ++ (cr ++ [thn, els]))) (by simpa [Zz] using hW) (by simp [e1, e2]) hi h1 hgd ho hd hx hy
   fun w' p => h w' ⟨by simpa [Zz] using p.whole, p.keeps⟩
theorem put_how (T : TypeId) (x y : Operand) (t : TypeId) (g : Nat) {k l c : Int} {sel num : List Value} {sd tk tl how : Int} {nm : ByteArray} {cop : Int} {cl cr : List Value} {thn els : Value} {v : Int} (hW : Zb w g t (Zz k l c sel num sd tk tl how nm cop cl cr thn els).toArray) (e1 : sel.length = 6) (e2 : num.length = 12) (hi : (P.info? T).map (·.size) = some 1) (h1 : (.int .i64 v : Value).oneCell' = true)
   (hgd : o.guard = none) (ho : o.op = .store T x y) (hd : o.dst = none) (hx : a.eval x = .pointer (some ⟨g, 24, none⟩)) (hy : a.eval y = .int .i64 v)
   (h : ∀ w', Put w w' g t (Zz k l c sel num sd tk tl v nm cop cl cr thn els) → wpList P ops Q rest a w') : wpList P ops Q (o :: rest) a w :=
 Zn T x y t g 24 ([.int .i64 k, .int .i64 l, .int .i64 c] ++ sel ++ num ++ [.int .i64 sd, .int .i64 tk, .int .i64 tl]) (.int .i64 how) (.int .i64 v) ([.string nm, .int .i64 cop] ++ (cl ++ (cr ++ [thn, els]))) (by simpa [Zz] using hW) (by simp [e1, e2]) hi h1 hgd ho hd hx hy
   fun w' p => h w' ⟨by simpa [Zz] using p.whole, p.keeps⟩
theorem put_nm (T : TypeId) (x y : Operand) (t : TypeId) (g : Nat) {k l c : Int} {sel num : List Value} {sd tk tl how : Int} {nm : ByteArray} {cop : Int} {cl cr : List Value} {thn els : Value} {v : ByteArray} (hW : Zb w g t (Zz k l c sel num sd tk tl how nm cop cl cr thn els).toArray) (e1 : sel.length = 6) (e2 : num.length = 12) (hi : (P.info? T).map (·.size) = some 1) (h1 : (.string v : Value).oneCell' = true)
   (hgd : o.guard = none) (ho : o.op = .store T x y) (hd : o.dst = none) (hx : a.eval x = .pointer (some ⟨g, 25, none⟩)) (hy : a.eval y = .string v)
   (h : ∀ w', Put w w' g t (Zz k l c sel num sd tk tl how v cop cl cr thn els) → wpList P ops Q rest a w') : wpList P ops Q (o :: rest) a w :=
 Zn T x y t g 25 ([.int .i64 k, .int .i64 l, .int .i64 c] ++ sel ++ num ++ [.int .i64 sd, .int .i64 tk, .int .i64 tl, .int .i64 how]) (.string nm) (.string v) ([.int .i64 cop] ++ (cl ++ (cr ++ [thn, els]))) (by simpa [Zz] using hW) (by simp [e1, e2]) hi h1 hgd ho hd hx hy
   fun w' p => h w' ⟨by simpa [Zz] using p.whole, p.keeps⟩
theorem put_to (T : TypeId) (x y : Operand) (t : TypeId) (g : Nat) {k l c : Int} {sel num : List Value} {sd tk tl how : Int} {nm : ByteArray} {cop : Int} {cl cr : List Value} {thn els : Value} {u v : Int} (hW : Zb w g t (Zz k l c sel num sd tk tl how nm cop cl cr thn els).toArray) (e1 : sel.length = 6) (e2 : num.length = 12) (hi : (P.info? T).map (·.size) = some 2)
   (hgd : o.guard = none) (ho : o.op = .store T x y) (hd : o.dst = none) (hx : a.eval x = .pointer (some ⟨g, 22, none⟩)) (hy : a.eval y = .agg #[.int .i64 u, .int .i64 v])
   (h : ∀ w', Put w w' g t (Zz k l c sel num sd u v how nm cop cl cr thn els) → wpList P ops Q rest a w') : wpList P ops Q (o :: rest) a w :=
 Wh T x y t g 22 ([.int .i64 k, .int .i64 l, .int .i64 c] ++ sel ++ num ++ [.int .i64 sd]) ([.int .i64 tk, .int .i64 tl]) ([.int .i64 how, .string nm, .int .i64 cop] ++ (cl ++ (cr ++ [thn, els]))) [.int .i64 u, .int .i64 v] (by simpa [Zz] using hW) rfl (by simp [e1, e2]) hi (by simp [Value.oneCell']) hgd ho hd hx hy
   fun w' p => h w' ⟨by simpa [Zz] using p.whole, p.keeps⟩
theorem put_cond (T : TypeId) (x y : Operand) (t : TypeId) (g : Nat) {k l c : Int} {sel num : List Value} {sd tk tl how : Int} {nm : ByteArray} {cop : Int} {cl cr : List Value} {thn els : Value} {v : Int} {xs ys : List Value} (hW : Zb w g t (Zz k l c sel num sd tk tl how nm cop cl cr thn els).toArray) (e1 : sel.length = 6) (e2 : num.length = 12) (e3 : cl.length = 12) (e4 : cr.length = 12) (e5 : xs.length = 12) (e6 : ys.length = 12) (hi : (P.info? T).map (·.size) = some 25)
   (h1 : ∀ u ∈ Wg v xs ys, u.oneCell' = true)
   (hgd : o.guard = none) (ho : o.op = .store T x y) (hd : o.dst = none) (hx : a.eval x = .pointer (some ⟨g, 26, none⟩)) (hy : a.eval y = .agg (Wg v xs ys).toArray)
   (h : ∀ w', Put w w' g t (Zz k l c sel num sd tk tl how nm v xs ys thn els) → wpList P ops Q rest a w') : wpList P ops Q (o :: rest) a w :=
 Wh T x y t g 26 ([.int .i64 k, .int .i64 l, .int .i64 c] ++ sel ++ num ++ [.int .i64 sd, .int .i64 tk, .int .i64 tl, .int .i64 how, .string nm]) (Wg cop cl cr) ([thn, els]) (Wg v xs ys) (by simpa [Zz, Wg] using hW) (by simp [Wg, e3, e4, e5, e6]) (by simp [e1, e2]) (by simpa [Wg, e5, e6] using hi) h1 hgd ho hd hx hy
   fun w' p => h w' ⟨by simpa [Zz, Wg] using p.whole, p.keeps⟩
theorem put_thn (T : TypeId) (x y : Operand) (t : TypeId) (g : Nat) {k l c : Int} {sel num : List Value} {sd tk tl how : Int} {nm : ByteArray} {cop : Int} {cl cr : List Value} {thn els : Value} {v : Value} (hW : Zb w g t (Zz k l c sel num sd tk tl how nm cop cl cr thn els).toArray) (e1 : sel.length = 6) (e2 : num.length = 12) (e3 : cl.length = 12) (e4 : cr.length = 12) (hi : (P.info? T).map (·.size) = some 1) (h1 : (v : Value).oneCell' = true)
   (hgd : o.guard = none) (ho : o.op = .store T x y) (hd : o.dst = none) (hx : a.eval x = .pointer (some ⟨g, 51, none⟩)) (hy : a.eval y = v)
   (h : ∀ w', Put w w' g t (Zz k l c sel num sd tk tl how nm cop cl cr v els) → wpList P ops Q rest a w') : wpList P ops Q (o :: rest) a w :=
 Zn T x y t g 51 ([.int .i64 k, .int .i64 l, .int .i64 c] ++ sel ++ num ++ [.int .i64 sd, .int .i64 tk, .int .i64 tl, .int .i64 how, .string nm, .int .i64 cop] ++ cl ++ cr) (thn) (v) ([els]) (by simpa [Zz] using hW) (by simp [e1, e2, e3, e4]) hi h1 hgd ho hd hx hy
   fun w' p => h w' ⟨by simpa [Zz] using p.whole, p.keeps⟩
theorem put_els (T : TypeId) (x y : Operand) (t : TypeId) (g : Nat) {k l c : Int} {sel num : List Value} {sd tk tl how : Int} {nm : ByteArray} {cop : Int} {cl cr : List Value} {thn els : Value} {v : Value} (hW : Zb w g t (Zz k l c sel num sd tk tl how nm cop cl cr thn els).toArray) (e1 : sel.length = 6) (e2 : num.length = 12) (e3 : cl.length = 12) (e4 : cr.length = 12) (hi : (P.info? T).map (·.size) = some 1) (h1 : (v : Value).oneCell' = true)
   (hgd : o.guard = none) (ho : o.op = .store T x y) (hd : o.dst = none) (hx : a.eval x = .pointer (some ⟨g, 52, none⟩)) (hy : a.eval y = v)
   (h : ∀ w', Put w w' g t (Zz k l c sel num sd tk tl how nm cop cl cr thn v) → wpList P ops Q rest a w') : wpList P ops Q (o :: rest) a w :=
 Zn T x y t g 52 ([.int .i64 k, .int .i64 l, .int .i64 c] ++ sel ++ num ++ [.int .i64 sd, .int .i64 tk, .int .i64 tl, .int .i64 how, .string nm, .int .i64 cop] ++ cl ++ cr ++ [thn]) (els) (v) ([]) (by simpa [Zz] using hW) (by simp [e1, e2, e3, e4]) hi h1 hgd ho hd hx hy
   fun w' p => h w' ⟨by simpa [Zz] using p.whole, p.keeps⟩
end
theorem xplainM1 (k : Nat) (hk : k = 1 ∨ k = 2 ∨ k = 12) (w : World) (q c r K : Nat) (L : List TokV) (st : St) (n : Nat) (h : PAt w q c r K L st) (hn : 4 * Zw L st + 3 ≤ n) (hLn : Zw L st ≤ 68719476736) :
   Calls Tryz.prog 270 #[.pointer (some ⟨q, 0, none⟩), .int .i64 (k : Int)] w (Yl w q c r K L (Xh 5 L n (AH.zero 0 0 0) k st).2 ((Xh 5 L n (AH.zero 0 0 0) k st).1.dsr 0 .nil 0 .nil)) := by
 have qin := h.whole.inside
 have cin := h.cin
 have rin := h.rin
 have nb := Za w (.cells Yp.toArray 57)
 have nb2 := Za (w.alloc (.cells Yp.toArray 57)) (.cells Yp.toArray 57)
 have M0 := Hh (((Yo.start h).next nb).next nb2)
 have R0 := Hh (show Zb _ w.heap.size 57 (Yp).toArray from (Zb.made w 57 Yp.toArray).alloc (.cells Yp.toArray 57))
 have T0 := Hh (show Zb _ (w.heap.size + 1) 57 (Yp).toArray from by have e := Zb.made (w.alloc (.cells Yp.toArray 57)) 57 Yp.toArray; rw [World.size_alloc] at e; exact e)
 clear nb nb2
 have hcell := M0.out.at_.cell
 have hpl : Xh 5 L n (AH.zero 0 0 0) k st = ((⟨0, 0, 0, (Wt 5 L n st).1, (Yq 5 L n (Wt 5 L n st).2).1, 0, 0, 0, 0, ⟨#[]⟩, 0, zEx, zEx⟩ : AH), (Yq 5 L n (Wt 5 L n st).2).2) := by rcases hk with rfl | rfl | rfl <;> rfl
 rw [hpl]
 clear hpl
 have hrst := Zak L 5 n st
 have hse : ∀ w, PAt w q c r K L st → Calls Tryz.prog 219 #[.pointer (some ⟨q, 0, none⟩)] w (Yl w q c r K L (Wt 5 L n st).2 (Wt 5 L n st).1.ds) := fun w h => xsel w q c r K L st n h (by omega) (by omega)
 generalize Wt 5 L n st = xs at *
 have hex : ∀ w, PAt w q c r K L (xs.2) → Calls Tryz.prog 97 #[.pointer (some ⟨q, 0, none⟩)] w (Yl w q c r K L (Yq 5 L n (xs.2)).2 (Yq 5 L n (xs.2)).1.ds) := fun w h => xexprs w q c r K L _ n h (by omega) (by omega)
 generalize Yq 5 L n (xs.2) = xn at *
 clear h hn hLn
 rcases hk with rfl | rfl | rfl
 all_goals
   go_enter Tryz.func270, Tryz.ntmps270
   go_wp2_with (first
 | (go_at_call 219; refine (hse _ M0.out.at_).mono ?_; rintro e w1 ⟨sv, rfl, d1, m1⟩
    have R1 := Hh (m1.keeps.whole R0.out (by omega))
    have T1 := Hh (m1.keeps.whole T0.out (by omega))
    have M1 := Hh (M0.out.then m1)
    have hz1 : w.heap.size + 2 ≤ w1.heap.size := by have := m1.keeps.size; (try simp at this); omega
    have hcell := M1.out.at_.cell
    have S1 := Hh (d1.lower (show w.heap.size + 2 ≤ _ by first | omega | (simp; done) | (simp; omega)))
    have SL := Hh d1.len
    clear m1 d1)
 | ((with_reducible refine Zl 13 12 ?_); refine put_sel 46 _ _ 57 (w.heap.size + 1) T1.out rfl S1.out.len6 Vn S1.out.one rfl rfl rfl rfl rfl ?_
    intro w2 p2
    have T2 := Hh (show Zb w2 (w.heap.size + 1) 57 (Zz 0 0 0 sv zexL 0 0 0 0 ⟨#[]⟩ 0 zexL zexL (.slice none 0 0) (.slice none 0 0)).toArray from by first | exact p2.whole | simpa using p2.whole)
    have R2 := Hh (p2.keeps.whole R1.out (by omega))
    have S2 := Hh (S1.out.put p2 (by omega))
    have M2 := Hh (M1.out.put p2 (by omega) qin cin rin)
    have hz2 := Nat.le_trans hz1 p2.keeps.size
    have hcell := M2.out.at_.cell
    clear p2)
 | (go_at_call 97; refine (hex _ M2.out.at_).mono ?_; rintro e w3 ⟨nv, rfl, d3, m3⟩
    have R3 := Hh (m3.keeps.whole R2.out (by omega))
    have T3 := Hh (m3.keeps.whole T2.out (by omega))
    have S3 := Hh (S2.out.move m3 (by omega) (by omega))
    have M3 := Hh (M2.out.then m3)
    have hz3 := Nat.le_trans hz2 m3.keeps.size
    have hcell := M3.out.at_.cell
    have N3 := Hh (d3.lower (show w.heap.size + 2 ≤ _ by first | omega | (simp; done) | (simp; omega)))
    have NL := Hh d3.len
    clear m3 d3)
 | ((with_reducible refine Zl 16 15 ?_); refine put_num 51 _ _ 57 (w.heap.size + 1) T3.out S3.out.len6 rfl N3.out.len12 Xi N3.out.one rfl rfl rfl rfl rfl ?_
    intro w4 p4
    have T4 := Hh (show Zb w4 (w.heap.size + 1) 57 (Zz 0 0 0 sv nv 0 0 0 0 ⟨#[]⟩ 0 zexL zexL (.slice none 0 0) (.slice none 0 0)).toArray from by first | exact p4.whole | simpa using p4.whole)
    have R4 := Hh (p4.keeps.whole R3.out (by omega))
    have S4 := Hh (S3.out.put p4 (by omega))
    have N4 := Hh (N3.out.put p4 (by omega))
    have M4 := Hh (M3.out.put p4 (by omega) qin cin rin)
    have hz4 := Nat.le_trans hz3 p4.keeps.size
    have hcell := M4.out.at_.cell
    clear p4)
 | ((with_reducible refine Ze 78 ?_); refine Zd 57 _ 57 (w.heap.size + 1) _ T4.out Wj (Yi ((show Zh (fun k => w.heap.size + 2 ≤ k) w4 (((⟨0, 0, 0, xs.1, xn.1, 0, 0, 0, 0, ⟨#[]⟩, 0, zEx, zEx⟩ : AH)).dsr 0 .nil 0 .nil) (Zz 0 0 0 sv nv 0 0 0 0 ⟨#[]⟩ 0 zexL zexL (.slice none 0 0) (.slice none 0 0)) from Zv _ _ _ _ _ _ _ _ _ (S4.out) (N4.out) (Zf _ _) (Zf _ _) (Zk _ _) (Zk _ _)).len.trans (AH.dsr_len _ _ _ _ _))) rfl rfl rfl ?_)
 | ((with_reducible refine Zl 4 78 ?_); refine Zc 57 _ _ 57 (w.heap.size) _ (Zz 0 0 0 sv nv 0 0 0 0 ⟨#[]⟩ 0 zexL zexL (.slice none 0 0) (.slice none 0 0)) R4.out ((show Zh (fun k => w.heap.size + 2 ≤ k) w4 (((⟨0, 0, 0, xs.1, xn.1, 0, 0, 0, 0, ⟨#[]⟩, 0, zEx, zEx⟩ : AH)).dsr 0 .nil 0 .nil) (Zz 0 0 0 sv nv 0 0 0 0 ⟨#[]⟩ 0 zexL zexL (.slice none 0 0) (.slice none 0 0)) from Zv _ _ _ _ _ _ _ _ _ (S4.out) (N4.out) (Zf _ _) (Zf _ _) (Zk _ _) (Zk _ _)).len.trans (AH.dsr_len _ _ _ _ _)) (Yi ((show Zh (fun k => w.heap.size + 2 ≤ k) w4 (((⟨0, 0, 0, xs.1, xn.1, 0, 0, 0, 0, ⟨#[]⟩, 0, zEx, zEx⟩ : AH)).dsr 0 .nil 0 .nil) (Zz 0 0 0 sv nv 0 0 0 0 ⟨#[]⟩ 0 zexL zexL (.slice none 0 0) (.slice none 0 0)) from Zv _ _ _ _ _ _ _ _ _ (S4.out) (N4.out) (Zf _ _) (Zf _ _) (Zk _ _) (Zk _ _)).len.trans (AH.dsr_len _ _ _ _ _))) (show Zh (fun k => w.heap.size + 2 ≤ k) w4 (((⟨0, 0, 0, xs.1, xn.1, 0, 0, 0, 0, ⟨#[]⟩, 0, zEx, zEx⟩ : AH)).dsr 0 .nil 0 .nil) (Zz 0 0 0 sv nv 0 0 0 0 ⟨#[]⟩ 0 zexL zexL (.slice none 0 0) (.slice none 0 0)) from Zv _ _ _ _ _ _ _ _ _ (S4.out) (N4.out) (Zf _ _) (Zf _ _) (Zk _ _) (Zk _ _)).one rfl rfl rfl rfl rfl ?_
    intro w5 p5
    have R5 := Hh p5.whole
    have T5 := Hh (p5.keeps.whole T4.out (by omega))
    have S5 := Hh (S4.out.put p5 (by omega))
    have N5 := Hh (N4.out.put p5 (by omega))
    have M5 := Hh (M4.out.put p5 (by omega) qin cin rin)
    have hz5 := Nat.le_trans hz4 p5.keeps.size
    have hcell := M5.out.at_.cell
    clear p5))
   exact Zs 4 57 57 w.heap.size _ rfl R5.out Wj (Yi ((show Zh (fun k => w.heap.size + 2 ≤ k) w5 (((⟨0, 0, 0, xs.1, xn.1, 0, 0, 0, 0, ⟨#[]⟩, 0, zEx, zEx⟩ : AH)).dsr 0 .nil 0 .nil) (Zz 0 0 0 sv nv 0 0 0 0 ⟨#[]⟩ 0 zexL zexL (.slice none 0 0) (.slice none 0 0)) from Zv _ _ _ _ _ _ _ _ _ (S5.out) (N5.out) (Zf _ _) (Zf _ _) (Zk _ _) (Zk _ _)).len.trans (AH.dsr_len _ _ _ _ _))) rfl rfl ⟨_, rfl, Zh.lower (show Zh (fun k => w.heap.size + 2 ≤ k) w5 (((⟨0, 0, 0, xs.1, xn.1, 0, 0, 0, 0, ⟨#[]⟩, 0, zEx, zEx⟩ : AH)).dsr 0 .nil 0 .nil) (Zz 0 0 0 sv nv 0 0 0 0 ⟨#[]⟩ 0 zexL zexL (.slice none 0 0) (.slice none 0 0)) from Zv _ _ _ _ _ _ _ _ _ (S5.out) (N5.out) (Zf _ _) (Zf _ _) (Zk _ _) (Zk _ _)) (by omega), M5.out⟩
theorem xplainM3 (k : Nat) (hk : k = 3 ∨ k = 5 ∨ k = 14) (w : World) (q c r K : Nat) (L : List TokV) (st : St) (n : Nat) (h : PAt w q c r K L st) (hn : 4 * Zw L st + 3 ≤ n) (hLn : Zw L st ≤ 68719476736) :
   Calls Tryz.prog 270 #[.pointer (some ⟨q, 0, none⟩), .int .i64 (k : Int)] w (Yl w q c r K L (Xh 5 L n (AH.zero 0 0 0) k st).2 ((Xh 5 L n (AH.zero 0 0 0) k st).1.dsr 0 .nil 0 .nil)) := by
 have qin := h.whole.inside
 have cin := h.cin
 have rin := h.rin
 have nb := Za w (.cells Yp.toArray 57)
 have nb2 := Za (w.alloc (.cells Yp.toArray 57)) (.cells Yp.toArray 57)
 have M0 := Hh (((Yo.start h).next nb).next nb2)
 have R0 := Hh (show Zb _ w.heap.size 57 (Yp).toArray from (Zb.made w 57 Yp.toArray).alloc (.cells Yp.toArray 57))
 have T0 := Hh (show Zb _ (w.heap.size + 1) 57 (Yp).toArray from by have e := Zb.made (w.alloc (.cells Yp.toArray 57)) 57 Yp.toArray; rw [World.size_alloc] at e; exact e)
 clear nb nb2
 have hcell := M0.out.at_.cell
 have hpl : Xh 5 L n (AH.zero 0 0 0) k st = ((⟨0, 0, 0, (Wt 5 L n st).1, zEx, 0, 0, 0, 0, ⟨#[]⟩, 0, zEx, zEx⟩ : AH), (Wt 5 L n st).2) := by rcases hk with rfl | rfl | rfl <;> rfl
 rw [hpl]
 clear hpl
 have hrst := Zak L 5 n st
 have hse : ∀ w, PAt w q c r K L st → Calls Tryz.prog 219 #[.pointer (some ⟨q, 0, none⟩)] w (Yl w q c r K L (Wt 5 L n st).2 (Wt 5 L n st).1.ds) := fun w h => xsel w q c r K L st n h (by omega) (by omega)
 generalize Wt 5 L n st = xs at *
 clear h hn hLn
 rcases hk with rfl | rfl | rfl
 all_goals
   go_enter Tryz.func270, Tryz.ntmps270
   go_wp2_with (first
 | (go_at_call 219; refine (hse _ M0.out.at_).mono ?_; rintro e w1 ⟨sv, rfl, d1, m1⟩
    have R1 := Hh (m1.keeps.whole R0.out (by omega))
    have T1 := Hh (m1.keeps.whole T0.out (by omega))
    have M1 := Hh (M0.out.then m1)
    have hz1 : w.heap.size + 2 ≤ w1.heap.size := by have := m1.keeps.size; (try simp at this); omega
    have hcell := M1.out.at_.cell
    have S1 := Hh (d1.lower (show w.heap.size + 2 ≤ _ by first | omega | (simp; done) | (simp; omega)))
    have SL := Hh d1.len
    clear m1 d1)
 | ((with_reducible refine Zl 23 22 ?_); refine put_sel 46 _ _ 57 (w.heap.size + 1) T1.out rfl S1.out.len6 Vn S1.out.one rfl rfl rfl rfl rfl ?_
    intro w2 p2
    have T2 := Hh (show Zb w2 (w.heap.size + 1) 57 (Zz 0 0 0 sv zexL 0 0 0 0 ⟨#[]⟩ 0 zexL zexL (.slice none 0 0) (.slice none 0 0)).toArray from by first | exact p2.whole | simpa using p2.whole)
    have R2 := Hh (p2.keeps.whole R1.out (by omega))
    have S2 := Hh (S1.out.put p2 (by omega))
    have M2 := Hh (M1.out.put p2 (by omega) qin cin rin)
    have hz2 := Nat.le_trans hz1 p2.keeps.size
    have hcell := M2.out.at_.cell
    clear p2)
 | ((with_reducible refine Ze 78 ?_); refine Zd 57 _ 57 (w.heap.size + 1) _ T2.out Wj (Yi ((show Zh (fun k => w.heap.size + 2 ≤ k) w2 (((⟨0, 0, 0, xs.1, zEx, 0, 0, 0, 0, ⟨#[]⟩, 0, zEx, zEx⟩ : AH)).dsr 0 .nil 0 .nil) (Zz 0 0 0 sv zexL 0 0 0 0 ⟨#[]⟩ 0 zexL zexL (.slice none 0 0) (.slice none 0 0)) from Zv _ _ _ _ _ _ _ _ _ (S2.out) (Zf _ _) (Zf _ _) (Zf _ _) (Zk _ _) (Zk _ _)).len.trans (AH.dsr_len _ _ _ _ _))) rfl rfl rfl ?_)
 | ((with_reducible refine Zl 4 78 ?_); refine Zc 57 _ _ 57 (w.heap.size) _ (Zz 0 0 0 sv zexL 0 0 0 0 ⟨#[]⟩ 0 zexL zexL (.slice none 0 0) (.slice none 0 0)) R2.out ((show Zh (fun k => w.heap.size + 2 ≤ k) w2 (((⟨0, 0, 0, xs.1, zEx, 0, 0, 0, 0, ⟨#[]⟩, 0, zEx, zEx⟩ : AH)).dsr 0 .nil 0 .nil) (Zz 0 0 0 sv zexL 0 0 0 0 ⟨#[]⟩ 0 zexL zexL (.slice none 0 0) (.slice none 0 0)) from Zv _ _ _ _ _ _ _ _ _ (S2.out) (Zf _ _) (Zf _ _) (Zf _ _) (Zk _ _) (Zk _ _)).len.trans (AH.dsr_len _ _ _ _ _)) (Yi ((show Zh (fun k => w.heap.size + 2 ≤ k) w2 (((⟨0, 0, 0, xs.1, zEx, 0, 0, 0, 0, ⟨#[]⟩, 0, zEx, zEx⟩ : AH)).dsr 0 .nil 0 .nil) (Zz 0 0 0 sv zexL 0 0 0 0 ⟨#[]⟩ 0 zexL zexL (.slice none 0 0) (.slice none 0 0)) from Zv _ _ _ _ _ _ _ _ _ (S2.out) (Zf _ _) (Zf _ _) (Zf _ _) (Zk _ _) (Zk _ _)).len.trans (AH.dsr_len _ _ _ _ _))) (show Zh (fun k => w.heap.size + 2 ≤ k) w2 (((⟨0, 0, 0, xs.1, zEx, 0, 0, 0, 0, ⟨#[]⟩, 0, zEx, zEx⟩ : AH)).dsr 0 .nil 0 .nil) (Zz 0 0 0 sv zexL 0 0 0 0 ⟨#[]⟩ 0 zexL zexL (.slice none 0 0) (.slice none 0 0)) from Zv _ _ _ _ _ _ _ _ _ (S2.out) (Zf _ _) (Zf _ _) (Zf _ _) (Zk _ _) (Zk _ _)).one rfl rfl rfl rfl rfl ?_
    intro w3 p3
    have R3 := Hh p3.whole
    have T3 := Hh (p3.keeps.whole T2.out (by omega))
    have S3 := Hh (S2.out.put p3 (by omega))
    have M3 := Hh (M2.out.put p3 (by omega) qin cin rin)
    have hz3 := Nat.le_trans hz2 p3.keeps.size
    have hcell := M3.out.at_.cell
    clear p3))
   exact Zs 4 57 57 w.heap.size _ rfl R3.out Wj (Yi ((show Zh (fun k => w.heap.size + 2 ≤ k) w3 (((⟨0, 0, 0, xs.1, zEx, 0, 0, 0, 0, ⟨#[]⟩, 0, zEx, zEx⟩ : AH)).dsr 0 .nil 0 .nil) (Zz 0 0 0 sv zexL 0 0 0 0 ⟨#[]⟩ 0 zexL zexL (.slice none 0 0) (.slice none 0 0)) from Zv _ _ _ _ _ _ _ _ _ (S3.out) (Zf _ _) (Zf _ _) (Zf _ _) (Zk _ _) (Zk _ _)).len.trans (AH.dsr_len _ _ _ _ _))) rfl rfl ⟨_, rfl, Zh.lower (show Zh (fun k => w.heap.size + 2 ≤ k) w3 (((⟨0, 0, 0, xs.1, zEx, 0, 0, 0, 0, ⟨#[]⟩, 0, zEx, zEx⟩ : AH)).dsr 0 .nil 0 .nil) (Zz 0 0 0 sv zexL 0 0 0 0 ⟨#[]⟩ 0 zexL zexL (.slice none 0 0) (.slice none 0 0)) from Zv _ _ _ _ _ _ _ _ _ (S3.out) (Zf _ _) (Zf _ _) (Zf _ _) (Zk _ _) (Zk _ _)) (by omega), M3.out⟩
theorem xplain4 (w : World) (q c r K : Nat) (L : List TokV) (st : St) (n : Nat) (h : PAt w q c r K L st) (hn : 4 * Zw L st + 3 ≤ n) (hLn : Zw L st ≤ 68719476736) :
   Calls Tryz.prog 270 #[.pointer (some ⟨q, 0, none⟩), .int .i64 4] w (Yl w q c r K L (Xh 5 L n (AH.zero 0 0 0) 4 st).2 ((Xh 5 L n (AH.zero 0 0 0) 4 st).1.dsr 0 .nil 0 .nil)) := by
 have qin := h.whole.inside
 have cin := h.cin
 have rin := h.rin
 have nb := Za w (.cells Yp.toArray 57)
 have nb2 := Za (w.alloc (.cells Yp.toArray 57)) (.cells Yp.toArray 57)
 have M0 := Hh (((Yo.start h).next nb).next nb2)
 have R0 := Hh (show Zb _ w.heap.size 57 (Yp).toArray from (Zb.made w 57 Yp.toArray).alloc (.cells Yp.toArray 57))
 have T0 := Hh (show Zb _ (w.heap.size + 1) 57 (Yp).toArray from by have e := Zb.made (w.alloc (.cells Yp.toArray 57)) 57 Yp.toArray; rw [World.size_alloc] at e; exact e)
 clear nb nb2
 have hcell := M0.out.at_.cell
 rw [show Xh 5 L n (AH.zero 0 0 0) 4 st = ((⟨0, 0, 0, (Wt 5 L n st).1, zEx, 0, toK L (Wt 5 L n st).2, toL L (Wt 5 L n st).2, 0, ⟨#[]⟩, 0, zEx, zEx⟩ : AH), toS L (Wt 5 L n st).2) from rfl]
 have hrst := Zak L 5 n st
 have hse : ∀ w, PAt w q c r K L st → Calls Tryz.prog 219 #[.pointer (some ⟨q, 0, none⟩)] w (Yl w q c r K L (Wt 5 L n st).2 (Wt 5 L n st).1.ds) := fun w h => xsel w q c r K L st n h (by omega) (by omega)
 generalize Wt 5 L n st = xs at *
 have hr3 := rem_to L (xs.2)
 have hto : ∀ w, PAt w q c r K L (xs.2) → Calls Tryz.prog 221 #[.pointer (some ⟨q, 0, none⟩)] w (Yg w q c r K L (toS L (xs.2)) (.agg #[.int .i64 (toK L (xs.2)), .int .i64 (toL L (xs.2))])) := fun w h => xto w q c r K L _ h
 generalize toK L (xs.2) = tk at *
 generalize toL L (xs.2) = tl at *
 generalize toS L (xs.2) = s3 at *
 clear h hn hLn
 go_enter Tryz.func270, Tryz.ntmps270
 go_wp2_with (first
 | (go_at_call 219; refine (hse _ M0.out.at_).mono ?_; rintro e w1 ⟨sv, rfl, d1, m1⟩
    have R1 := Hh (m1.keeps.whole R0.out (by omega))
    have T1 := Hh (m1.keeps.whole T0.out (by omega))
    have M1 := Hh (M0.out.then m1)
    have hz1 : w.heap.size + 2 ≤ w1.heap.size := by have := m1.keeps.size; (try simp at this); omega
    have hcell := M1.out.at_.cell
    have S1 := Hh (d1.lower (show w.heap.size + 2 ≤ _ by first | omega | (simp; done) | (simp; omega)))
    have SL := Hh d1.len
    clear m1 d1)
 | ((with_reducible refine Zl 28 27 ?_); refine put_sel 46 _ _ 57 (w.heap.size + 1) T1.out rfl S1.out.len6 Vn S1.out.one rfl rfl rfl rfl rfl ?_
    intro w2 p2
    have T2 := Hh (show Zb w2 (w.heap.size + 1) 57 (Zz 0 0 0 sv zexL 0 0 0 0 ⟨#[]⟩ 0 zexL zexL (.slice none 0 0) (.slice none 0 0)).toArray from by first | exact p2.whole | simpa using p2.whole)
    have R2 := Hh (p2.keeps.whole R1.out (by omega))
    have S2 := Hh (S1.out.put p2 (by omega))
    have M2 := Hh (M1.out.put p2 (by omega) qin cin rin)
    have hz2 := Nat.le_trans hz1 p2.keeps.size
    have hcell := M2.out.at_.cell
    clear p2)
 | (go_at_call 221; refine (hto _ M2.out.at_).mono ?_; rintro e w3 ⟨rfl, m3⟩
    have R3 := Hh (m3.keeps.whole R2.out (by omega))
    have T3 := Hh (m3.keeps.whole T2.out (by omega))
    have S3 := Hh (S2.out.move m3 (by omega) (by omega))
    have M3 := Hh (M2.out.then m3)
    have hz3 := Nat.le_trans hz2 m3.keeps.size
    have hcell := M3.out.at_.cell
    clear m3)
 | ((with_reducible refine Zl 31 30 ?_); refine put_to 48 _ _ 57 (w.heap.size + 1) T3.out S3.out.len6 rfl size_to rfl rfl rfl rfl rfl ?_
    intro w4 p4
    have T4 := Hh (show Zb w4 (w.heap.size + 1) 57 (Zz 0 0 0 sv zexL 0 tk tl 0 ⟨#[]⟩ 0 zexL zexL (.slice none 0 0) (.slice none 0 0)).toArray from by first | exact p4.whole | simpa using p4.whole)
    have R4 := Hh (p4.keeps.whole R3.out (by omega))
    have S4 := Hh (S3.out.put p4 (by omega))
    have M4 := Hh (M3.out.put p4 (by omega) qin cin rin)
    have hz4 := Nat.le_trans hz3 p4.keeps.size
    have hcell := M4.out.at_.cell
    clear p4)
 | ((with_reducible refine Ze 78 ?_); refine Zd 57 _ 57 (w.heap.size + 1) _ T4.out Wj (Yi ((show Zh (fun k => w.heap.size + 2 ≤ k) w4 (((⟨0, 0, 0, xs.1, zEx, 0, tk, tl, 0, ⟨#[]⟩, 0, zEx, zEx⟩ : AH)).dsr 0 .nil 0 .nil) (Zz 0 0 0 sv zexL 0 tk tl 0 ⟨#[]⟩ 0 zexL zexL (.slice none 0 0) (.slice none 0 0)) from Zv _ _ _ _ _ _ _ _ _ (S4.out) (Zf _ _) (Zf _ _) (Zf _ _) (Zk _ _) (Zk _ _)).len.trans (AH.dsr_len _ _ _ _ _))) rfl rfl rfl ?_)
 | ((with_reducible refine Zl 4 78 ?_); refine Zc 57 _ _ 57 (w.heap.size) _ (Zz 0 0 0 sv zexL 0 tk tl 0 ⟨#[]⟩ 0 zexL zexL (.slice none 0 0) (.slice none 0 0)) R4.out ((show Zh (fun k => w.heap.size + 2 ≤ k) w4 (((⟨0, 0, 0, xs.1, zEx, 0, tk, tl, 0, ⟨#[]⟩, 0, zEx, zEx⟩ : AH)).dsr 0 .nil 0 .nil) (Zz 0 0 0 sv zexL 0 tk tl 0 ⟨#[]⟩ 0 zexL zexL (.slice none 0 0) (.slice none 0 0)) from Zv _ _ _ _ _ _ _ _ _ (S4.out) (Zf _ _) (Zf _ _) (Zf _ _) (Zk _ _) (Zk _ _)).len.trans (AH.dsr_len _ _ _ _ _)) (Yi ((show Zh (fun k => w.heap.size + 2 ≤ k) w4 (((⟨0, 0, 0, xs.1, zEx, 0, tk, tl, 0, ⟨#[]⟩, 0, zEx, zEx⟩ : AH)).dsr 0 .nil 0 .nil) (Zz 0 0 0 sv zexL 0 tk tl 0 ⟨#[]⟩ 0 zexL zexL (.slice none 0 0) (.slice none 0 0)) from Zv _ _ _ _ _ _ _ _ _ (S4.out) (Zf _ _) (Zf _ _) (Zf _ _) (Zk _ _) (Zk _ _)).len.trans (AH.dsr_len _ _ _ _ _))) (show Zh (fun k => w.heap.size + 2 ≤ k) w4 (((⟨0, 0, 0, xs.1, zEx, 0, tk, tl, 0, ⟨#[]⟩, 0, zEx, zEx⟩ : AH)).dsr 0 .nil 0 .nil) (Zz 0 0 0 sv zexL 0 tk tl 0 ⟨#[]⟩ 0 zexL zexL (.slice none 0 0) (.slice none 0 0)) from Zv _ _ _ _ _ _ _ _ _ (S4.out) (Zf _ _) (Zf _ _) (Zf _ _) (Zk _ _) (Zk _ _)).one rfl rfl rfl rfl rfl ?_
    intro w5 p5
    have R5 := Hh p5.whole
    have T5 := Hh (p5.keeps.whole T4.out (by omega))
    have S5 := Hh (S4.out.put p5 (by omega))
    have M5 := Hh (M4.out.put p5 (by omega) qin cin rin)
    have hz5 := Nat.le_trans hz4 p5.keeps.size
    have hcell := M5.out.at_.cell
    clear p5))
 exact Zs 4 57 57 w.heap.size _ rfl R5.out Wj (Yi ((show Zh (fun k => w.heap.size + 2 ≤ k) w5 (((⟨0, 0, 0, xs.1, zEx, 0, tk, tl, 0, ⟨#[]⟩, 0, zEx, zEx⟩ : AH)).dsr 0 .nil 0 .nil) (Zz 0 0 0 sv zexL 0 tk tl 0 ⟨#[]⟩ 0 zexL zexL (.slice none 0 0) (.slice none 0 0)) from Zv _ _ _ _ _ _ _ _ _ (S5.out) (Zf _ _) (Zf _ _) (Zf _ _) (Zk _ _) (Zk _ _)).len.trans (AH.dsr_len _ _ _ _ _))) rfl rfl ⟨_, rfl, Zh.lower (show Zh (fun k => w.heap.size + 2 ≤ k) w5 (((⟨0, 0, 0, xs.1, zEx, 0, tk, tl, 0, ⟨#[]⟩, 0, zEx, zEx⟩ : AH)).dsr 0 .nil 0 .nil) (Zz 0 0 0 sv zexL 0 tk tl 0 ⟨#[]⟩ 0 zexL zexL (.slice none 0 0) (.slice none 0 0)) from Zv _ _ _ _ _ _ _ _ _ (S5.out) (Zf _ _) (Zf _ _) (Zf _ _) (Zk _ _) (Zk _ _)) (by omega), M5.out⟩
theorem zact_lit : Yp.toArray = #[.int .i64 0, .int .i64 0, .int .i64 0, .int .i64 0, .int .i64 0, .int .i64 0, .int .i64 0, .slice none 0 0, .int .i64 0, .int .i64 0, .int .i64 0, .int .i64 0, .int .i64 0, .int .i64 0, .int .i64 0, .slice none 0 0, .int .i64 0, .int .i64 0, .int .i64 0, .int .i64 0, .slice none 0 0, .int .i64 0, .int .i64 0, .int .i64 0, .int .i64 0, .string ⟨#[]⟩, .int .i64 0, .int .i64 0, .int .i64 0, .int .i64 0, .int .i64 0, .int .i64 0, .int .i64 0, .slice none 0 0, .int .i64 0, .int .i64 0, .int .i64 0, .int .i64 0, .slice none 0 0, .int .i64 0, .int .i64 0, .int .i64 0, .int .i64 0, .int .i64 0, .int .i64 0, .slice none 0 0, .int .i64 0, .int .i64 0, .int .i64 0, .int .i64 0, .slice none 0 0, .slice none 0 0, .slice none 0 0] := rfl
theorem xplain6 (w : World) (q c r K : Nat) (L : List TokV) (st : St) (n : Nat) (h : PAt w q c r K L st) (hn : 4 * Zw L st + 3 ≤ n) (hLn : Zw L st ≤ 68719476736) :
   Calls Tryz.prog 270 #[.pointer (some ⟨q, 0, none⟩), .int .i64 6] w (Yl w q c r K L (Xh 5 L n (AH.zero 0 0 0) 6 st).2 ((Xh 5 L n (AH.zero 0 0 0) 6 st).1.dsr 0 .nil 0 .nil)) := by
 have qin := h.whole.inside
 have cin := h.cin
 have rin := h.rin
 have nb := Za w (.cells Yp.toArray 57)
 have nb2 := Za (w.alloc (.cells Yp.toArray 57)) (.cells Yp.toArray 57)
 have M0 := Hh (((Yo.start h).next nb).next nb2)
 have R0 := Hh (show Zb _ w.heap.size 57 (Yp).toArray from (Zb.made w 57 Yp.toArray).alloc (.cells Yp.toArray 57))
 have T0 := Hh (show Zb _ (w.heap.size + 1) 57 (Yp).toArray from by have e := Zb.made (w.alloc (.cells Yp.toArray 57)) 57 Yp.toArray; rw [World.size_alloc] at e; exact e)
 clear nb nb2
 have hcell := M0.out.at_.cell
 (try rw [zact_lit] at hcell)
 rw [show Xh 5 L n (AH.zero 0 0 0) 6 st = ((⟨0, 0, 0, zSe, (Yq 5 L n (toS L (Yu L Zt (Wm L st)))).1, (Zm L Zt (Wm L st) : Int), toK L (Yu L Zt (Wm L st)), toL L (Yu L Zt (Wm L st)), 0, nameN L st, 0, zEx, zEx⟩ : AH), (Yq 5 L n (toS L (Yu L Zt (Wm L st)))).2) from rfl]
 have hr4 := Jk L (st)
 have hrd : ∀ w, PAt w q c r K L (st) → Calls Tryz.prog 176 #[.pointer (some ⟨q, 0, none⟩), .func (.func 177) #[Xz c (st)] #[]] w (Yg w q c r K L (Wm L (st)) (.string (nameN L (st)))) := fun w h => xreadName w q c r K L _ h
 generalize nameN L (st) = nm at *
 generalize Wm L (st) = s4 at *
 have hr2 := Xk L Zt (s4)
 have hsi : ∀ w, PAt w q c r K L (s4) → Calls Tryz.prog 220 #[.pointer (some ⟨q, 0, none⟩)] w (Yg w q c r K L (Yu L Zt (s4)) (.int .i64 (Zm L Zt (s4) : Int))) := fun w h => xside w q c r K L _ h
 generalize hsd : (Zm L Zt (s4) : Int) = sd at *
 generalize Yu L Zt (s4) = s2 at *
 clear hsd
 have hr3 := rem_to L (s2)
 have hto : ∀ w, PAt w q c r K L (s2) → Calls Tryz.prog 221 #[.pointer (some ⟨q, 0, none⟩)] w (Yg w q c r K L (toS L (s2)) (.agg #[.int .i64 (toK L (s2)), .int .i64 (toL L (s2))])) := fun w h => xto w q c r K L _ h
 generalize toK L (s2) = tk at *
 generalize toL L (s2) = tl at *
 generalize toS L (s2) = s3 at *
 have hex : ∀ w, PAt w q c r K L (s3) → Calls Tryz.prog 97 #[.pointer (some ⟨q, 0, none⟩)] w (Yl w q c r K L (Yq 5 L n (s3)).2 (Yq 5 L n (s3)).1.ds) := fun w h => xexprs w q c r K L _ n h (by omega) (by omega)
 generalize Yq 5 L n (s3) = xn at *
 clear h hn hLn
 go_enter Tryz.func270, Tryz.ntmps270
 go_wp2_with (first
 | (go_at_call 176; refine (hrd _ M0.out.at_).mono ?_; rintro e w1 ⟨rfl, m1⟩
    have R1 := Hh (m1.keeps.whole R0.out (by omega))
    have T1 := Hh (m1.keeps.whole T0.out (by omega))
    have M1 := Hh (M0.out.then m1)
    have hz1 : w.heap.size + 2 ≤ w1.heap.size := by have := m1.keeps.size; (try simp at this); omega
    have hcell := M1.out.at_.cell
    clear m1)
 | ((with_reducible refine Zl 41 40 ?_); refine put_nm 9 _ _ 57 (w.heap.size + 1) T1.out rfl rfl size_str rfl rfl rfl rfl rfl rfl ?_
    intro w2 p2
    have T2 := Hh (show Zb w2 (w.heap.size + 1) 57 (Zz 0 0 0 zseL zexL 0 0 0 0 nm 0 zexL zexL (.slice none 0 0) (.slice none 0 0)).toArray from by first | exact p2.whole | simpa using p2.whole)
    have R2 := Hh (p2.keeps.whole R1.out (by omega))
    have M2 := Hh (M1.out.put p2 (by omega) qin cin rin)
    have hz2 := Nat.le_trans hz1 p2.keeps.size
    have hcell := M2.out.at_.cell
    clear p2)
 | (go_at_call 220; refine (hsi _ M2.out.at_).mono ?_; rintro e w3 ⟨rfl, m3⟩
    have R3 := Hh (m3.keeps.whole R2.out (by omega))
    have T3 := Hh (m3.keeps.whole T2.out (by omega))
    have M3 := Hh (M2.out.then m3)
    have hz3 := Nat.le_trans hz2 m3.keeps.size
    have hcell := M3.out.at_.cell
    clear m3)
 | ((with_reducible refine Zl 44 43 ?_); refine put_sd 3 _ _ 57 (w.heap.size + 1) T3.out rfl rfl Yy rfl rfl rfl rfl rfl rfl ?_
    intro w4 p4
    have T4 := Hh (show Zb w4 (w.heap.size + 1) 57 (Zz 0 0 0 zseL zexL sd 0 0 0 nm 0 zexL zexL (.slice none 0 0) (.slice none 0 0)).toArray from by first | exact p4.whole | simpa using p4.whole)
    have R4 := Hh (p4.keeps.whole R3.out (by omega))
    have M4 := Hh (M3.out.put p4 (by omega) qin cin rin)
    have hz4 := Nat.le_trans hz3 p4.keeps.size
    have hcell := M4.out.at_.cell
    clear p4)
 | (go_at_call 221; refine (hto _ M4.out.at_).mono ?_; rintro e w5 ⟨rfl, m5⟩
    have R5 := Hh (m5.keeps.whole R4.out (by omega))
    have T5 := Hh (m5.keeps.whole T4.out (by omega))
    have M5 := Hh (M4.out.then m5)
    have hz5 := Nat.le_trans hz4 m5.keeps.size
    have hcell := M5.out.at_.cell
    clear m5)
 | ((with_reducible refine Zl 47 46 ?_); refine put_to 48 _ _ 57 (w.heap.size + 1) T5.out rfl rfl size_to rfl rfl rfl rfl rfl ?_
    intro w6 p6
    have T6 := Hh (show Zb w6 (w.heap.size + 1) 57 (Zz 0 0 0 zseL zexL sd tk tl 0 nm 0 zexL zexL (.slice none 0 0) (.slice none 0 0)).toArray from by first | exact p6.whole | simpa using p6.whole)
    have R6 := Hh (p6.keeps.whole R5.out (by omega))
    have M6 := Hh (M5.out.put p6 (by omega) qin cin rin)
    have hz6 := Nat.le_trans hz5 p6.keeps.size
    have hcell := M6.out.at_.cell
    clear p6)
 | (go_at_call 97; refine (hex _ M6.out.at_).mono ?_; rintro e w7 ⟨nv, rfl, d7, m7⟩
    have R7 := Hh (m7.keeps.whole R6.out (by omega))
    have T7 := Hh (m7.keeps.whole T6.out (by omega))
    have M7 := Hh (M6.out.then m7)
    have hz7 := Nat.le_trans hz6 m7.keeps.size
    have hcell := M7.out.at_.cell
    have N7 := Hh (d7.lower (show w.heap.size + 2 ≤ _ by first | omega | (simp; done) | (simp; omega)))
    have NL := Hh d7.len
    clear m7 d7)
 | ((with_reducible refine Zl 50 49 ?_); refine put_num 51 _ _ 57 (w.heap.size + 1) T7.out rfl rfl N7.out.len12 Xi N7.out.one rfl rfl rfl rfl rfl ?_
    intro w8 p8
    have T8 := Hh (show Zb w8 (w.heap.size + 1) 57 (Zz 0 0 0 zseL nv sd tk tl 0 nm 0 zexL zexL (.slice none 0 0) (.slice none 0 0)).toArray from by first | exact p8.whole | simpa using p8.whole)
    have R8 := Hh (p8.keeps.whole R7.out (by omega))
    have N8 := Hh (N7.out.put p8 (by omega))
    have M8 := Hh (M7.out.put p8 (by omega) qin cin rin)
    have hz8 := Nat.le_trans hz7 p8.keeps.size
    have hcell := M8.out.at_.cell
    clear p8)
 | ((with_reducible refine Ze 78 ?_); refine Zd 57 _ 57 (w.heap.size + 1) _ T8.out Wj (Yi ((show Zh (fun k => w.heap.size + 2 ≤ k) w8 (((⟨0, 0, 0, zSe, xn.1, sd, tk, tl, 0, nm, 0, zEx, zEx⟩ : AH)).dsr 0 .nil 0 .nil) (Zz 0 0 0 zseL nv sd tk tl 0 nm 0 zexL zexL (.slice none 0 0) (.slice none 0 0)) from Zv _ _ _ _ _ _ _ _ _ (Ys _ _) (N8.out) (Zf _ _) (Zf _ _) (Zk _ _) (Zk _ _)).len.trans (AH.dsr_len _ _ _ _ _))) rfl rfl rfl ?_)
 | ((with_reducible refine Zl 4 78 ?_); refine Zc 57 _ _ 57 (w.heap.size) _ (Zz 0 0 0 zseL nv sd tk tl 0 nm 0 zexL zexL (.slice none 0 0) (.slice none 0 0)) R8.out ((show Zh (fun k => w.heap.size + 2 ≤ k) w8 (((⟨0, 0, 0, zSe, xn.1, sd, tk, tl, 0, nm, 0, zEx, zEx⟩ : AH)).dsr 0 .nil 0 .nil) (Zz 0 0 0 zseL nv sd tk tl 0 nm 0 zexL zexL (.slice none 0 0) (.slice none 0 0)) from Zv _ _ _ _ _ _ _ _ _ (Ys _ _) (N8.out) (Zf _ _) (Zf _ _) (Zk _ _) (Zk _ _)).len.trans (AH.dsr_len _ _ _ _ _)) (Yi ((show Zh (fun k => w.heap.size + 2 ≤ k) w8 (((⟨0, 0, 0, zSe, xn.1, sd, tk, tl, 0, nm, 0, zEx, zEx⟩ : AH)).dsr 0 .nil 0 .nil) (Zz 0 0 0 zseL nv sd tk tl 0 nm 0 zexL zexL (.slice none 0 0) (.slice none 0 0)) from Zv _ _ _ _ _ _ _ _ _ (Ys _ _) (N8.out) (Zf _ _) (Zf _ _) (Zk _ _) (Zk _ _)).len.trans (AH.dsr_len _ _ _ _ _))) (show Zh (fun k => w.heap.size + 2 ≤ k) w8 (((⟨0, 0, 0, zSe, xn.1, sd, tk, tl, 0, nm, 0, zEx, zEx⟩ : AH)).dsr 0 .nil 0 .nil) (Zz 0 0 0 zseL nv sd tk tl 0 nm 0 zexL zexL (.slice none 0 0) (.slice none 0 0)) from Zv _ _ _ _ _ _ _ _ _ (Ys _ _) (N8.out) (Zf _ _) (Zf _ _) (Zk _ _) (Zk _ _)).one rfl rfl rfl rfl rfl ?_
    intro w9 p9
    have R9 := Hh p9.whole
    have T9 := Hh (p9.keeps.whole T8.out (by omega))
    have N9 := Hh (N8.out.put p9 (by omega))
    have M9 := Hh (M8.out.put p9 (by omega) qin cin rin)
    have hz9 := Nat.le_trans hz8 p9.keeps.size
    have hcell := M9.out.at_.cell
    clear p9))
 exact Zs 4 57 57 w.heap.size _ rfl R9.out Wj (Yi ((show Zh (fun k => w.heap.size + 2 ≤ k) w9 (((⟨0, 0, 0, zSe, xn.1, sd, tk, tl, 0, nm, 0, zEx, zEx⟩ : AH)).dsr 0 .nil 0 .nil) (Zz 0 0 0 zseL nv sd tk tl 0 nm 0 zexL zexL (.slice none 0 0) (.slice none 0 0)) from Zv _ _ _ _ _ _ _ _ _ (Ys _ _) (N9.out) (Zf _ _) (Zf _ _) (Zk _ _) (Zk _ _)).len.trans (AH.dsr_len _ _ _ _ _))) rfl rfl ⟨_, rfl, Zh.lower (show Zh (fun k => w.heap.size + 2 ≤ k) w9 (((⟨0, 0, 0, zSe, xn.1, sd, tk, tl, 0, nm, 0, zEx, zEx⟩ : AH)).dsr 0 .nil 0 .nil) (Zz 0 0 0 zseL nv sd tk tl 0 nm 0 zexL zexL (.slice none 0 0) (.slice none 0 0)) from Zv _ _ _ _ _ _ _ _ _ (Ys _ _) (N9.out) (Zf _ _) (Zf _ _) (Zk _ _) (Zk _ _)) (by omega), M9.out⟩
theorem xplainM7 (k : Nat) (hk : k = 7 ∨ k = 9) (w : World) (q c r K : Nat) (L : List TokV) (st : St) (n : Nat) (h : PAt w q c r K L st) (hn : 4 * Zw L st + 3 ≤ n) (hLn : Zw L st ≤ 68719476736) :
   Calls Tryz.prog 270 #[.pointer (some ⟨q, 0, none⟩), .int .i64 (k : Int)] w (Yl w q c r K L (Xh 5 L n (AH.zero 0 0 0) k st).2 ((Xh 5 L n (AH.zero 0 0 0) k st).1.dsr 0 .nil 0 .nil)) := by
 have qin := h.whole.inside
 have cin := h.cin
 have rin := h.rin
 have nb := Za w (.cells Yp.toArray 57)
 have nb2 := Za (w.alloc (.cells Yp.toArray 57)) (.cells Yp.toArray 57)
 have M0 := Hh (((Yo.start h).next nb).next nb2)
 have R0 := Hh (show Zb _ w.heap.size 57 (Yp).toArray from (Zb.made w 57 Yp.toArray).alloc (.cells Yp.toArray 57))
 have T0 := Hh (show Zb _ (w.heap.size + 1) 57 (Yp).toArray from by have e := Zb.made (w.alloc (.cells Yp.toArray 57)) 57 Yp.toArray; rw [World.size_alloc] at e; exact e)
 clear nb nb2
 have hcell := M0.out.at_.cell
 (try rw [zact_lit] at hcell)
 have hpl : Xh 5 L n (AH.zero 0 0 0) k st = ((⟨0, 0, 0, zSe, (Yq 5 L n (Yu L Zt st)).1, (Zm L Zt st : Int), 0, 0, 0, ⟨#[]⟩, 0, zEx, zEx⟩ : AH), (Yq 5 L n (Yu L Zt st)).2) := by rcases hk with rfl | rfl <;> rfl
 rw [hpl]
 clear hpl
 have hr2 := Xk L Zt (st)
 have hsi : ∀ w, PAt w q c r K L (st) → Calls Tryz.prog 220 #[.pointer (some ⟨q, 0, none⟩)] w (Yg w q c r K L (Yu L Zt (st)) (.int .i64 (Zm L Zt (st) : Int))) := fun w h => xside w q c r K L _ h
 generalize hsd : (Zm L Zt (st) : Int) = sd at *
 generalize Yu L Zt (st) = s2 at *
 clear hsd
 have hex : ∀ w, PAt w q c r K L (s2) → Calls Tryz.prog 97 #[.pointer (some ⟨q, 0, none⟩)] w (Yl w q c r K L (Yq 5 L n (s2)).2 (Yq 5 L n (s2)).1.ds) := fun w h => xexprs w q c r K L _ n h (by omega) (by omega)
 generalize Yq 5 L n (s2) = xn at *
 clear h hn hLn
 rcases hk with rfl | rfl
 all_goals
   go_enter Tryz.func270, Tryz.ntmps270
   go_wp2_with (first
 | (go_at_call 220; refine (hsi _ M0.out.at_).mono ?_; rintro e w1 ⟨rfl, m1⟩
    have R1 := Hh (m1.keeps.whole R0.out (by omega))
    have T1 := Hh (m1.keeps.whole T0.out (by omega))
    have M1 := Hh (M0.out.then m1)
    have hz1 : w.heap.size + 2 ≤ w1.heap.size := by have := m1.keeps.size; (try simp at this); omega
    have hcell := M1.out.at_.cell
    clear m1)
 | ((with_reducible refine Zl 56 55 ?_); refine put_sd 3 _ _ 57 (w.heap.size + 1) T1.out rfl rfl Yy rfl rfl rfl rfl rfl rfl ?_
    intro w2 p2
    have T2 := Hh (show Zb w2 (w.heap.size + 1) 57 (Zz 0 0 0 zseL zexL sd 0 0 0 ⟨#[]⟩ 0 zexL zexL (.slice none 0 0) (.slice none 0 0)).toArray from by first | exact p2.whole | simpa using p2.whole)
    have R2 := Hh (p2.keeps.whole R1.out (by omega))
    have M2 := Hh (M1.out.put p2 (by omega) qin cin rin)
    have hz2 := Nat.le_trans hz1 p2.keeps.size
    have hcell := M2.out.at_.cell
    clear p2)
 | (go_at_call 97; refine (hex _ M2.out.at_).mono ?_; rintro e w3 ⟨nv, rfl, d3, m3⟩
    have R3 := Hh (m3.keeps.whole R2.out (by omega))
    have T3 := Hh (m3.keeps.whole T2.out (by omega))
    have M3 := Hh (M2.out.then m3)
    have hz3 := Nat.le_trans hz2 m3.keeps.size
    have hcell := M3.out.at_.cell
    have N3 := Hh (d3.lower (show w.heap.size + 2 ≤ _ by first | omega | (simp; done) | (simp; omega)))
    have NL := Hh d3.len
    clear m3 d3)
 | ((with_reducible refine Zl 59 58 ?_); refine put_num 51 _ _ 57 (w.heap.size + 1) T3.out rfl rfl N3.out.len12 Xi N3.out.one rfl rfl rfl rfl rfl ?_
    intro w4 p4
    have T4 := Hh (show Zb w4 (w.heap.size + 1) 57 (Zz 0 0 0 zseL nv sd 0 0 0 ⟨#[]⟩ 0 zexL zexL (.slice none 0 0) (.slice none 0 0)).toArray from by first | exact p4.whole | simpa using p4.whole)
    have R4 := Hh (p4.keeps.whole R3.out (by omega))
    have N4 := Hh (N3.out.put p4 (by omega))
    have M4 := Hh (M3.out.put p4 (by omega) qin cin rin)
    have hz4 := Nat.le_trans hz3 p4.keeps.size
    have hcell := M4.out.at_.cell
    clear p4)
 | ((with_reducible refine Ze 78 ?_); refine Zd 57 _ 57 (w.heap.size + 1) _ T4.out Wj (Yi ((show Zh (fun k => w.heap.size + 2 ≤ k) w4 (((⟨0, 0, 0, zSe, xn.1, sd, 0, 0, 0, ⟨#[]⟩, 0, zEx, zEx⟩ : AH)).dsr 0 .nil 0 .nil) (Zz 0 0 0 zseL nv sd 0 0 0 ⟨#[]⟩ 0 zexL zexL (.slice none 0 0) (.slice none 0 0)) from Zv _ _ _ _ _ _ _ _ _ (Ys _ _) (N4.out) (Zf _ _) (Zf _ _) (Zk _ _) (Zk _ _)).len.trans (AH.dsr_len _ _ _ _ _))) rfl rfl rfl ?_)
 | ((with_reducible refine Zl 4 78 ?_); refine Zc 57 _ _ 57 (w.heap.size) _ (Zz 0 0 0 zseL nv sd 0 0 0 ⟨#[]⟩ 0 zexL zexL (.slice none 0 0) (.slice none 0 0)) R4.out ((show Zh (fun k => w.heap.size + 2 ≤ k) w4 (((⟨0, 0, 0, zSe, xn.1, sd, 0, 0, 0, ⟨#[]⟩, 0, zEx, zEx⟩ : AH)).dsr 0 .nil 0 .nil) (Zz 0 0 0 zseL nv sd 0 0 0 ⟨#[]⟩ 0 zexL zexL (.slice none 0 0) (.slice none 0 0)) from Zv _ _ _ _ _ _ _ _ _ (Ys _ _) (N4.out) (Zf _ _) (Zf _ _) (Zk _ _) (Zk _ _)).len.trans (AH.dsr_len _ _ _ _ _)) (Yi ((show Zh (fun k => w.heap.size + 2 ≤ k) w4 (((⟨0, 0, 0, zSe, xn.1, sd, 0, 0, 0, ⟨#[]⟩, 0, zEx, zEx⟩ : AH)).dsr 0 .nil 0 .nil) (Zz 0 0 0 zseL nv sd 0 0 0 ⟨#[]⟩ 0 zexL zexL (.slice none 0 0) (.slice none 0 0)) from Zv _ _ _ _ _ _ _ _ _ (Ys _ _) (N4.out) (Zf _ _) (Zf _ _) (Zk _ _) (Zk _ _)).len.trans (AH.dsr_len _ _ _ _ _))) (show Zh (fun k => w.heap.size + 2 ≤ k) w4 (((⟨0, 0, 0, zSe, xn.1, sd, 0, 0, 0, ⟨#[]⟩, 0, zEx, zEx⟩ : AH)).dsr 0 .nil 0 .nil) (Zz 0 0 0 zseL nv sd 0 0 0 ⟨#[]⟩ 0 zexL zexL (.slice none 0 0) (.slice none 0 0)) from Zv _ _ _ _ _ _ _ _ _ (Ys _ _) (N4.out) (Zf _ _) (Zf _ _) (Zk _ _) (Zk _ _)).one rfl rfl rfl rfl rfl ?_
    intro w5 p5
    have R5 := Hh p5.whole
    have T5 := Hh (p5.keeps.whole T4.out (by omega))
    have N5 := Hh (N4.out.put p5 (by omega))
    have M5 := Hh (M4.out.put p5 (by omega) qin cin rin)
    have hz5 := Nat.le_trans hz4 p5.keeps.size
    have hcell := M5.out.at_.cell
    clear p5))
   exact Zs 4 57 57 w.heap.size _ rfl R5.out Wj (Yi ((show Zh (fun k => w.heap.size + 2 ≤ k) w5 (((⟨0, 0, 0, zSe, xn.1, sd, 0, 0, 0, ⟨#[]⟩, 0, zEx, zEx⟩ : AH)).dsr 0 .nil 0 .nil) (Zz 0 0 0 zseL nv sd 0 0 0 ⟨#[]⟩ 0 zexL zexL (.slice none 0 0) (.slice none 0 0)) from Zv _ _ _ _ _ _ _ _ _ (Ys _ _) (N5.out) (Zf _ _) (Zf _ _) (Zk _ _) (Zk _ _)).len.trans (AH.dsr_len _ _ _ _ _))) rfl rfl ⟨_, rfl, Zh.lower (show Zh (fun k => w.heap.size + 2 ≤ k) w5 (((⟨0, 0, 0, zSe, xn.1, sd, 0, 0, 0, ⟨#[]⟩, 0, zEx, zEx⟩ : AH)).dsr 0 .nil 0 .nil) (Zz 0 0 0 zseL nv sd 0 0 0 ⟨#[]⟩ 0 zexL zexL (.slice none 0 0) (.slice none 0 0)) from Zv _ _ _ _ _ _ _ _ _ (Ys _ _) (N5.out) (Zf _ _) (Zf _ _) (Zk _ _) (Zk _ _)) (by omega), M5.out⟩
theorem xplain8 (w : World) (q c r K : Nat) (L : List TokV) (st : St) (n : Nat) (h : PAt w q c r K L st) (hn : 4 * Zw L st + 3 ≤ n) (hLn : Zw L st ≤ 68719476736) :
   Calls Tryz.prog 270 #[.pointer (some ⟨q, 0, none⟩), .int .i64 8] w (Yl w q c r K L (Xh 5 L n (AH.zero 0 0 0) 8 st).2 ((Xh 5 L n (AH.zero 0 0 0) 8 st).1.dsr 0 .nil 0 .nil)) := by
 have qin := h.whole.inside
 have cin := h.cin
 have rin := h.rin
 have nb := Za w (.cells Yp.toArray 57)
 have nb2 := Za (w.alloc (.cells Yp.toArray 57)) (.cells Yp.toArray 57)
 have M0 := Hh (((Yo.start h).next nb).next nb2)
 have R0 := Hh (show Zb _ w.heap.size 57 (Yp).toArray from (Zb.made w 57 Yp.toArray).alloc (.cells Yp.toArray 57))
 have T0 := Hh (show Zb _ (w.heap.size + 1) 57 (Yp).toArray from by have e := Zb.made (w.alloc (.cells Yp.toArray 57)) 57 Yp.toArray; rw [World.size_alloc] at e; exact e)
 clear nb nb2
 have hcell := M0.out.at_.cell
 (try rw [zact_lit] at hcell)
 rw [show Xh 5 L n (AH.zero 0 0 0) 8 st = ((⟨0, 0, 0, zSe, zEx, (Zm L Zt st : Int), 0, 0, (Zm L wHow (Yu L Zt st) : Int), ⟨#[]⟩, 0, zEx, zEx⟩ : AH), Yu L wHow (Yu L Zt st)) from rfl]
 have hr2 := Xk L Zt (st)
 have hsi : ∀ w, PAt w q c r K L (st) → Calls Tryz.prog 220 #[.pointer (some ⟨q, 0, none⟩)] w (Yg w q c r K L (Yu L Zt (st)) (.int .i64 (Zm L Zt (st) : Int))) := fun w h => xside w q c r K L _ h
 generalize hsd : (Zm L Zt (st) : Int) = sd at *
 generalize Yu L Zt (st) = s2 at *
 clear hsd
 have hho : ∀ W G, G = W.heap.size → PAt W q c r K L (s2) → Calls Tryz.prog 257 #[.pointer (some ⟨q, 0, none⟩), .slice (some ⟨G, 0, none⟩) 4 4] (W.alloc (.cells #[.string ⟨#[102, 105, 114, 115, 116]⟩, .string ⟨#[108, 97, 115, 116]⟩, .string ⟨#[99, 104, 101, 97, 112, 101, 115, 116]⟩, .string ⟨#[99, 111, 115, 116, 108, 105, 101, 115, 116]⟩] 9)) fun e w' => e = .returned (.int .i64 (Zm L wHow (s2) : Int)) ∧ Yo W w' q c r K L (Yu L wHow (s2)) := fun W G h2 h => xoneB W q c r K G L _ wHow 4 4 _ rfl h2 h rfl (by decide)
 generalize hhw : (Zm L wHow (s2) : Int) = how at *
 generalize Yu L wHow (s2) = s5 at *
 clear hhw
 clear h hn hLn
 go_enter Tryz.func270, Tryz.ntmps270
 go_wp2_with (first
 | (go_at_call 220; refine (hsi _ M0.out.at_).mono ?_; rintro e w1 ⟨rfl, m1⟩
    have R1 := Hh (m1.keeps.whole R0.out (by omega))
    have T1 := Hh (m1.keeps.whole T0.out (by omega))
    have M1 := Hh (M0.out.then m1)
    have hz1 : w.heap.size + 2 ≤ w1.heap.size := by have := m1.keeps.size; (try simp at this); omega
    have hcell := M1.out.at_.cell
    clear m1)
 | ((with_reducible refine Zl 64 63 ?_); refine put_sd 3 _ _ 57 (w.heap.size + 1) T1.out rfl rfl Yy rfl rfl rfl rfl rfl rfl ?_
    intro w2 p2
    have T2 := Hh (show Zb w2 (w.heap.size + 1) 57 (Zz 0 0 0 zseL zexL sd 0 0 0 ⟨#[]⟩ 0 zexL zexL (.slice none 0 0) (.slice none 0 0)).toArray from by first | exact p2.whole | simpa using p2.whole)
    have R2 := Hh (p2.keeps.whole R1.out (by omega))
    have M2 := Hh (M1.out.put p2 (by omega) qin cin rin)
    have hz2 := Nat.le_trans hz1 p2.keeps.size
    have hcell := M2.out.at_.cell
    clear p2)
 | (go_at_call 257; (with_reducible refine (hho _ _ ?_ ?_).mono ?_); rfl; exact M2.out.at_; rintro e w3 ⟨rfl, m3⟩
    have R3 := Hh (m3.keeps.whole R2.out (by omega))
    have T3 := Hh (m3.keeps.whole T2.out (by omega))
    have M3 := Hh (M2.out.then m3)
    have hz3 := Nat.le_trans hz2 m3.keeps.size
    have hcell := M3.out.at_.cell
    clear m3)
 | ((with_reducible refine Zl 68 67 ?_); refine put_how 3 _ _ 57 (w.heap.size + 1) T3.out rfl rfl Yy rfl rfl rfl rfl rfl rfl ?_
    intro w4 p4
    have T4 := Hh (show Zb w4 (w.heap.size + 1) 57 (Zz 0 0 0 zseL zexL sd 0 0 how ⟨#[]⟩ 0 zexL zexL (.slice none 0 0) (.slice none 0 0)).toArray from by first | exact p4.whole | simpa using p4.whole)
    have R4 := Hh (p4.keeps.whole R3.out (by omega))
    have M4 := Hh (M3.out.put p4 (by omega) qin cin rin)
    have hz4 := Nat.le_trans hz3 p4.keeps.size
    have hcell := M4.out.at_.cell
    clear p4)
 | ((with_reducible refine Ze 78 ?_); refine Zd 57 _ 57 (w.heap.size + 1) _ T4.out Wj (Yi ((show Zh (fun k => w.heap.size + 2 ≤ k) w4 (((⟨0, 0, 0, zSe, zEx, sd, 0, 0, how, ⟨#[]⟩, 0, zEx, zEx⟩ : AH)).dsr 0 .nil 0 .nil) (Zz 0 0 0 zseL zexL sd 0 0 how ⟨#[]⟩ 0 zexL zexL (.slice none 0 0) (.slice none 0 0)) from Zv _ _ _ _ _ _ _ _ _ (Ys _ _) (Zf _ _) (Zf _ _) (Zf _ _) (Zk _ _) (Zk _ _)).len.trans (AH.dsr_len _ _ _ _ _))) rfl rfl rfl ?_)
 | ((with_reducible refine Zl 4 78 ?_); refine Zc 57 _ _ 57 (w.heap.size) _ (Zz 0 0 0 zseL zexL sd 0 0 how ⟨#[]⟩ 0 zexL zexL (.slice none 0 0) (.slice none 0 0)) R4.out ((show Zh (fun k => w.heap.size + 2 ≤ k) w4 (((⟨0, 0, 0, zSe, zEx, sd, 0, 0, how, ⟨#[]⟩, 0, zEx, zEx⟩ : AH)).dsr 0 .nil 0 .nil) (Zz 0 0 0 zseL zexL sd 0 0 how ⟨#[]⟩ 0 zexL zexL (.slice none 0 0) (.slice none 0 0)) from Zv _ _ _ _ _ _ _ _ _ (Ys _ _) (Zf _ _) (Zf _ _) (Zf _ _) (Zk _ _) (Zk _ _)).len.trans (AH.dsr_len _ _ _ _ _)) (Yi ((show Zh (fun k => w.heap.size + 2 ≤ k) w4 (((⟨0, 0, 0, zSe, zEx, sd, 0, 0, how, ⟨#[]⟩, 0, zEx, zEx⟩ : AH)).dsr 0 .nil 0 .nil) (Zz 0 0 0 zseL zexL sd 0 0 how ⟨#[]⟩ 0 zexL zexL (.slice none 0 0) (.slice none 0 0)) from Zv _ _ _ _ _ _ _ _ _ (Ys _ _) (Zf _ _) (Zf _ _) (Zf _ _) (Zk _ _) (Zk _ _)).len.trans (AH.dsr_len _ _ _ _ _))) (show Zh (fun k => w.heap.size + 2 ≤ k) w4 (((⟨0, 0, 0, zSe, zEx, sd, 0, 0, how, ⟨#[]⟩, 0, zEx, zEx⟩ : AH)).dsr 0 .nil 0 .nil) (Zz 0 0 0 zseL zexL sd 0 0 how ⟨#[]⟩ 0 zexL zexL (.slice none 0 0) (.slice none 0 0)) from Zv _ _ _ _ _ _ _ _ _ (Ys _ _) (Zf _ _) (Zf _ _) (Zf _ _) (Zk _ _) (Zk _ _)).one rfl rfl rfl rfl rfl ?_
    intro w5 p5
    have R5 := Hh p5.whole
    have T5 := Hh (p5.keeps.whole T4.out (by omega))
    have M5 := Hh (M4.out.put p5 (by omega) qin cin rin)
    have hz5 := Nat.le_trans hz4 p5.keeps.size
    have hcell := M5.out.at_.cell
    clear p5))
 exact Zs 4 57 57 w.heap.size _ rfl R5.out Wj (Yi ((show Zh (fun k => w.heap.size + 2 ≤ k) w5 (((⟨0, 0, 0, zSe, zEx, sd, 0, 0, how, ⟨#[]⟩, 0, zEx, zEx⟩ : AH)).dsr 0 .nil 0 .nil) (Zz 0 0 0 zseL zexL sd 0 0 how ⟨#[]⟩ 0 zexL zexL (.slice none 0 0) (.slice none 0 0)) from Zv _ _ _ _ _ _ _ _ _ (Ys _ _) (Zf _ _) (Zf _ _) (Zf _ _) (Zk _ _) (Zk _ _)).len.trans (AH.dsr_len _ _ _ _ _))) rfl rfl ⟨_, rfl, Zh.lower (show Zh (fun k => w.heap.size + 2 ≤ k) w5 (((⟨0, 0, 0, zSe, zEx, sd, 0, 0, how, ⟨#[]⟩, 0, zEx, zEx⟩ : AH)).dsr 0 .nil 0 .nil) (Zz 0 0 0 zseL zexL sd 0 0 how ⟨#[]⟩ 0 zexL zexL (.slice none 0 0) (.slice none 0 0)) from Zv _ _ _ _ _ _ _ _ _ (Ys _ _) (Zf _ _) (Zf _ _) (Zf _ _) (Zk _ _) (Zk _ _)) (by omega), M5.out⟩
theorem xplainM13 (k : Nat) (hk : k = 13 ∨ k = 15) (w : World) (q c r K : Nat) (L : List TokV) (st : St) (n : Nat) (h : PAt w q c r K L st) (hn : 4 * Zw L st + 3 ≤ n) (hLn : Zw L st ≤ 68719476736) :
   Calls Tryz.prog 270 #[.pointer (some ⟨q, 0, none⟩), .int .i64 (k : Int)] w (Yl w q c r K L (Xh 5 L n (AH.zero 0 0 0) k st).2 ((Xh 5 L n (AH.zero 0 0 0) k st).1.dsr 0 .nil 0 .nil)) := by
 have qin := h.whole.inside
 have cin := h.cin
 have rin := h.rin
 have nb := Za w (.cells Yp.toArray 57)
 have nb2 := Za (w.alloc (.cells Yp.toArray 57)) (.cells Yp.toArray 57)
 have M0 := Hh (((Yo.start h).next nb).next nb2)
 have R0 := Hh (show Zb _ w.heap.size 57 (Yp).toArray from (Zb.made w 57 Yp.toArray).alloc (.cells Yp.toArray 57))
 have T0 := Hh (show Zb _ (w.heap.size + 1) 57 (Yp).toArray from by have e := Zb.made (w.alloc (.cells Yp.toArray 57)) 57 Yp.toArray; rw [World.size_alloc] at e; exact e)
 clear nb nb2
 have hcell := M0.out.at_.cell
 (try rw [zact_lit] at hcell)
 have hpl : Xh 5 L n (AH.zero 0 0 0) k st = ((⟨0, 0, 0, zSe, zEx, (Zm L Zt st : Int), toK L (Yu L Zt st), toL L (Yu L Zt st), 0, ⟨#[]⟩, 0, zEx, zEx⟩ : AH), toS L (Yu L Zt st)) := by rcases hk with rfl | rfl <;> rfl
 rw [hpl]
 clear hpl
 have hr2 := Xk L Zt (st)
 have hsi : ∀ w, PAt w q c r K L (st) → Calls Tryz.prog 220 #[.pointer (some ⟨q, 0, none⟩)] w (Yg w q c r K L (Yu L Zt (st)) (.int .i64 (Zm L Zt (st) : Int))) := fun w h => xside w q c r K L _ h
 generalize hsd : (Zm L Zt (st) : Int) = sd at *
 generalize Yu L Zt (st) = s2 at *
 clear hsd
 have hr3 := rem_to L (s2)
 have hto : ∀ w, PAt w q c r K L (s2) → Calls Tryz.prog 221 #[.pointer (some ⟨q, 0, none⟩)] w (Yg w q c r K L (toS L (s2)) (.agg #[.int .i64 (toK L (s2)), .int .i64 (toL L (s2))])) := fun w h => xto w q c r K L _ h
 generalize toK L (s2) = tk at *
 generalize toL L (s2) = tl at *
 generalize toS L (s2) = s3 at *
 clear h hn hLn
 rcases hk with rfl | rfl
 all_goals
   go_enter Tryz.func270, Tryz.ntmps270
   go_wp2_with (first
 | (go_at_call 220; refine (hsi _ M0.out.at_).mono ?_; rintro e w1 ⟨rfl, m1⟩
    have R1 := Hh (m1.keeps.whole R0.out (by omega))
    have T1 := Hh (m1.keeps.whole T0.out (by omega))
    have M1 := Hh (M0.out.then m1)
    have hz1 : w.heap.size + 2 ≤ w1.heap.size := by have := m1.keeps.size; (try simp at this); omega
    have hcell := M1.out.at_.cell
    clear m1)
 | ((with_reducible refine Zl 74 73 ?_); refine put_sd 3 _ _ 57 (w.heap.size + 1) T1.out rfl rfl Yy rfl rfl rfl rfl rfl rfl ?_
    intro w2 p2
    have T2 := Hh (show Zb w2 (w.heap.size + 1) 57 (Zz 0 0 0 zseL zexL sd 0 0 0 ⟨#[]⟩ 0 zexL zexL (.slice none 0 0) (.slice none 0 0)).toArray from by first | exact p2.whole | simpa using p2.whole)
    have R2 := Hh (p2.keeps.whole R1.out (by omega))
    have M2 := Hh (M1.out.put p2 (by omega) qin cin rin)
    have hz2 := Nat.le_trans hz1 p2.keeps.size
    have hcell := M2.out.at_.cell
    clear p2)
 | (go_at_call 221; refine (hto _ M2.out.at_).mono ?_; rintro e w3 ⟨rfl, m3⟩
    have R3 := Hh (m3.keeps.whole R2.out (by omega))
    have T3 := Hh (m3.keeps.whole T2.out (by omega))
    have M3 := Hh (M2.out.then m3)
    have hz3 := Nat.le_trans hz2 m3.keeps.size
    have hcell := M3.out.at_.cell
    clear m3)
 | ((with_reducible refine Zl 77 76 ?_); refine put_to 48 _ _ 57 (w.heap.size + 1) T3.out rfl rfl size_to rfl rfl rfl rfl rfl ?_
    intro w4 p4
    have T4 := Hh (show Zb w4 (w.heap.size + 1) 57 (Zz 0 0 0 zseL zexL sd tk tl 0 ⟨#[]⟩ 0 zexL zexL (.slice none 0 0) (.slice none 0 0)).toArray from by first | exact p4.whole | simpa using p4.whole)
    have R4 := Hh (p4.keeps.whole R3.out (by omega))
    have M4 := Hh (M3.out.put p4 (by omega) qin cin rin)
    have hz4 := Nat.le_trans hz3 p4.keeps.size
    have hcell := M4.out.at_.cell
    clear p4)
 | ((with_reducible refine Ze 78 ?_); refine Zd 57 _ 57 (w.heap.size + 1) _ T4.out Wj (Yi ((show Zh (fun k => w.heap.size + 2 ≤ k) w4 (((⟨0, 0, 0, zSe, zEx, sd, tk, tl, 0, ⟨#[]⟩, 0, zEx, zEx⟩ : AH)).dsr 0 .nil 0 .nil) (Zz 0 0 0 zseL zexL sd tk tl 0 ⟨#[]⟩ 0 zexL zexL (.slice none 0 0) (.slice none 0 0)) from Zv _ _ _ _ _ _ _ _ _ (Ys _ _) (Zf _ _) (Zf _ _) (Zf _ _) (Zk _ _) (Zk _ _)).len.trans (AH.dsr_len _ _ _ _ _))) rfl rfl rfl ?_)
 | ((with_reducible refine Zl 4 78 ?_); refine Zc 57 _ _ 57 (w.heap.size) _ (Zz 0 0 0 zseL zexL sd tk tl 0 ⟨#[]⟩ 0 zexL zexL (.slice none 0 0) (.slice none 0 0)) R4.out ((show Zh (fun k => w.heap.size + 2 ≤ k) w4 (((⟨0, 0, 0, zSe, zEx, sd, tk, tl, 0, ⟨#[]⟩, 0, zEx, zEx⟩ : AH)).dsr 0 .nil 0 .nil) (Zz 0 0 0 zseL zexL sd tk tl 0 ⟨#[]⟩ 0 zexL zexL (.slice none 0 0) (.slice none 0 0)) from Zv _ _ _ _ _ _ _ _ _ (Ys _ _) (Zf _ _) (Zf _ _) (Zf _ _) (Zk _ _) (Zk _ _)).len.trans (AH.dsr_len _ _ _ _ _)) (Yi ((show Zh (fun k => w.heap.size + 2 ≤ k) w4 (((⟨0, 0, 0, zSe, zEx, sd, tk, tl, 0, ⟨#[]⟩, 0, zEx, zEx⟩ : AH)).dsr 0 .nil 0 .nil) (Zz 0 0 0 zseL zexL sd tk tl 0 ⟨#[]⟩ 0 zexL zexL (.slice none 0 0) (.slice none 0 0)) from Zv _ _ _ _ _ _ _ _ _ (Ys _ _) (Zf _ _) (Zf _ _) (Zf _ _) (Zk _ _) (Zk _ _)).len.trans (AH.dsr_len _ _ _ _ _))) (show Zh (fun k => w.heap.size + 2 ≤ k) w4 (((⟨0, 0, 0, zSe, zEx, sd, tk, tl, 0, ⟨#[]⟩, 0, zEx, zEx⟩ : AH)).dsr 0 .nil 0 .nil) (Zz 0 0 0 zseL zexL sd tk tl 0 ⟨#[]⟩ 0 zexL zexL (.slice none 0 0) (.slice none 0 0)) from Zv _ _ _ _ _ _ _ _ _ (Ys _ _) (Zf _ _) (Zf _ _) (Zf _ _) (Zk _ _) (Zk _ _)).one rfl rfl rfl rfl rfl ?_
    intro w5 p5
    have R5 := Hh p5.whole
    have T5 := Hh (p5.keeps.whole T4.out (by omega))
    have M5 := Hh (M4.out.put p5 (by omega) qin cin rin)
    have hz5 := Nat.le_trans hz4 p5.keeps.size
    have hcell := M5.out.at_.cell
    clear p5))
   exact Zs 4 57 57 w.heap.size _ rfl R5.out Wj (Yi ((show Zh (fun k => w.heap.size + 2 ≤ k) w5 (((⟨0, 0, 0, zSe, zEx, sd, tk, tl, 0, ⟨#[]⟩, 0, zEx, zEx⟩ : AH)).dsr 0 .nil 0 .nil) (Zz 0 0 0 zseL zexL sd tk tl 0 ⟨#[]⟩ 0 zexL zexL (.slice none 0 0) (.slice none 0 0)) from Zv _ _ _ _ _ _ _ _ _ (Ys _ _) (Zf _ _) (Zf _ _) (Zf _ _) (Zk _ _) (Zk _ _)).len.trans (AH.dsr_len _ _ _ _ _))) rfl rfl ⟨_, rfl, Zh.lower (show Zh (fun k => w.heap.size + 2 ≤ k) w5 (((⟨0, 0, 0, zSe, zEx, sd, tk, tl, 0, ⟨#[]⟩, 0, zEx, zEx⟩ : AH)).dsr 0 .nil 0 .nil) (Zz 0 0 0 zseL zexL sd tk tl 0 ⟨#[]⟩ 0 zexL zexL (.slice none 0 0) (.slice none 0 0)) from Zv _ _ _ _ _ _ _ _ _ (Ys _ _) (Zf _ _) (Zf _ _) (Zf _ _) (Zk _ _) (Zk _ _)) (by omega), M5.out⟩
theorem fold_fill : ∀ (l : List Value) (k : Nat) (cs : Array Value), cs.size = k + l.length → (l.zipIdx k).foldl (fun cs x => cs.setIfInBounds (0 + x.2) x.1) cs = (cs.toList.take k ++ l).toArray
 | [], k, cs, h => by
   rw [List.length_nil, Nat.add_zero] at h
   have : cs.toList.take k = cs.toList := List.take_of_length_le (by rw [Array.length_toList, h]; exact Nat.le_refl k)
   simp [this]
 | v :: l, k, cs, h => by
   rw [List.length_cons] at h
   rw [List.zipIdx_cons, List.foldl_cons]
   dsimp only
   rw [Nat.zero_add, fold_fill l (k + 1) (cs.setIfInBounds k v) (by simp; omega)]
   congr 1
   rw [show v :: l = [v] ++ l from rfl, ← List.append_assoc]
   congr 1
   rw [Array.toList_setIfInBounds]
   apply List.ext_getElem?
   intro i
   rw [List.getElem?_take, List.getElem?_append, List.getElem?_take, List.getElem?_set, List.length_take, Array.length_toList]
   have hm : min k cs.size = k := by omega
   rw [hm]
   by_cases h1 : i < k
   · rw [if_pos (by omega), if_neg (by omega), if_pos h1, if_pos h1]
   · by_cases h2 : i = k
     · subst h2
       rw [if_pos (by omega), if_pos rfl, if_pos (by omega), if_neg (by omega)]
       simp
     · rw [if_neg (by omega), if_neg h1]
       simp; omega
theorem built_one {P : Program} {e : TypeId} {vs : List Value} {sz : Nat} {z : Value} {bytes : Nat} (hinfo : (P.info? e).map (fun i => (i.zero, i.size, i.bytes)) = some (some z, sz, bytes)) (hl : vs.length = sz) (hp : 0 < sz) (hs : sz ≤ 1000) : P.builtSlice e 1 [(0, .agg vs.toArray)] = some vs.toArray := by
 obtain ⟨i, hi, hz, hsize, hbytes⟩ := info_parts hinfo
 unfold Program.builtSlice
 rw [hi]
 dsimp only
 rw [hz]
 dsimp only
 rw [hsize, if_neg (by omega)]
 unfold Instr.fill
 dsimp only
 have hv : (Value.agg vs.toArray).cells = vs.toArray := rfl
 rw [hv]
 have hc : ((Array.range (1 * sz)).map (z.cells[· % z.cells.size]!)).size = 0 + vs.length := by simp [hl]
 rw [if_neg (by simp [hl])]
 unfold Instr.fill
 have := fold_fill vs 0 _ hc
 simp only [Nat.zero_mul]
 rw [show vs.toArray.zipIdx = (vs.zipIdx 0).toArray from by simp]
 rw [List.foldl_toArray']
 · rw [this]; simp
 · simp
theorem wpList_buildOne {P : Program} {ops : Array Oper} {rest : List Oper} {o : Oper} {a : Act} {w : World} {Q : Exit → Act → World → Prop} (t e : TypeId) (x : Operand) (d : Tmp) (sz bytes : Nat) (z : Value) (vs : List Value)
   (hinfo : (P.info? e).map (fun i => (i.zero, i.size, i.bytes)) = some (some z, sz, bytes)) (hl : vs.length = sz) (hp : 0 < sz) (hs : sz ≤ 1000) (hu : P.underlying t = some (.slice e))
   (hg : o.guard = none) (ho : o.op = .buildSlice t 1 #[(0, x)]) (hd : o.dst = some d) (hx : a.eval x = .agg vs.toArray)
   (h : wpList P ops Q rest (a.put (some d) (.slice (some ⟨w.heap.size, 0, none⟩) 1 1)) (w.alloc (.cells vs.toArray e))) : wpList P ops Q (o :: rest) a w :=
 Great.wpList_buildSliceTo hg t e 1 #[(0, x)] ho w.heap.size rfl (some d) hd hu vs.toArray (by simpa [hx] using built_one hinfo hl hp hs) h
theorem cond_len {cop : Int} {cl cr : List Value} (h1 : cl.length = 12) (h2 : cr.length = 12) : (Wg cop cl cr).length = 25 := by simp [Wg, h1, h2]
section
variable {P : Program} {ops : Array Oper} {rest : List Oper} {o : Oper} {a : Act} {w : World} {Q : Exit → Act → World → Prop}
theorem put_cl (T : TypeId) (x y : Operand) (t : TypeId) (g : Nat) {cop : Int} {cl cr ys : List Value} (hW : Zb w g t (Wg cop cl cr).toArray) (e1 : cl.length = 12) (hy1 : ys.length = 12) (hi : (P.info? T).map (·.size) = some 12) (h1 : ∀ v ∈ ys, v.oneCell' = true)
   (hgd : o.guard = none) (ho : o.op = .store T x y) (hd : o.dst = none) (hx : a.eval x = .pointer (some ⟨g, 1, none⟩)) (hy : a.eval y = .agg ys.toArray)
   (h : ∀ w', Put w w' g t (Wg cop ys cr) → wpList P ops Q rest a w') : wpList P ops Q (o :: rest) a w :=
 Wh T x y t g 1 [.int .i64 cop] cl cr ys (by simpa [Wg] using hW) (by rw [hy1, e1]) rfl (by rw [hy1]; exact hi) h1 hgd ho hd hx hy fun w' p => h w' ⟨by simpa [Wg] using p.whole, p.keeps⟩
theorem put_cr (T : TypeId) (x y : Operand) (t : TypeId) (g : Nat) {cop : Int} {cl cr ys : List Value} (hW : Zb w g t (Wg cop cl cr).toArray) (e1 : cl.length = 12) (e2 : cr.length = 12) (hy1 : ys.length = 12) (hi : (P.info? T).map (·.size) = some 12) (h1 : ∀ v ∈ ys, v.oneCell' = true)
   (hgd : o.guard = none) (ho : o.op = .store T x y) (hd : o.dst = none) (hx : a.eval x = .pointer (some ⟨g, 13, none⟩)) (hy : a.eval y = .agg ys.toArray)
   (h : ∀ w', Put w w' g t (Wg cop cl ys) → wpList P ops Q rest a w') : wpList P ops Q (o :: rest) a w :=
 Wh T x y t g 13 ([.int .i64 cop] ++ cl) cr [] ys (by simpa [Wg] using hW) (by rw [hy1, e2]) (by simp [e1]) (by rw [hy1]; exact hi) h1 hgd ho hd hx hy fun w' p => h w' ⟨by simpa [Wg] using p.whole, p.keeps⟩
end
def CondPost (w : World) (q c r K : Nat) (L : List TokV) (st : St) (cop : Int) (x y : Ex) (e : Ending) (w' : World) : Prop :=
 ∃ cl cr : List Value, e = .returned (.agg (Wg cop cl cr).toArray) ∧ Zh (fun k => w.heap.size ≤ k) w' x.ds cl ∧ Zh (fun k => w.heap.size ≤ k) w' y.ds cr ∧ Yo w w' q c r K L st
theorem xcond (w : World) (q c r K : Nat) (L : List TokV) (st : St) (n : Nat) (h : PAt w q c r K L st) (hn : 4 * Zw L st + 3 ≤ n) (hLn : Zw L st ≤ 68719476736) :
   Calls Tryz.prog 268 #[.pointer (some ⟨q, 0, none⟩)] w (CondPost w q c r K L (Wf 5 L n (AH.zero 0 0 0) st).2 (Wf 5 L n (AH.zero 0 0 0) st).1.cop (Wf 5 L n (AH.zero 0 0 0) st).1.cl (Wf 5 L n (AH.zero 0 0 0) st).1.cr) := by
 have qin := h.whole.inside
 have cin := h.cin
 have rin := h.rin
 have nb := Za w (.cells #[.int .i64 0, .int .i64 0, .int .i64 0, .int .i64 0, .int .i64 0, .int .i64 0, .int .i64 0, .slice none 0 0, .int .i64 0, .int .i64 0, .int .i64 0, .int .i64 0, .slice none 0 0, .int .i64 0, .int .i64 0, .int .i64 0, .int .i64 0, .int .i64 0, .int .i64 0, .slice none 0 0, .int .i64 0, .int .i64 0, .int .i64 0, .int .i64 0, .slice none 0 0] 55)
 have nb2 := Za (w.alloc (.cells #[.int .i64 0, .int .i64 0, .int .i64 0, .int .i64 0, .int .i64 0, .int .i64 0, .int .i64 0, .slice none 0 0, .int .i64 0, .int .i64 0, .int .i64 0, .int .i64 0, .slice none 0 0, .int .i64 0, .int .i64 0, .int .i64 0, .int .i64 0, .int .i64 0, .int .i64 0, .slice none 0 0, .int .i64 0, .int .i64 0, .int .i64 0, .int .i64 0, .slice none 0 0] 55)) (.cells #[.int .i64 0, .int .i64 0, .int .i64 0, .int .i64 0, .int .i64 0, .int .i64 0, .int .i64 0, .slice none 0 0, .int .i64 0, .int .i64 0, .int .i64 0, .int .i64 0, .slice none 0 0, .int .i64 0, .int .i64 0, .int .i64 0, .int .i64 0, .int .i64 0, .int .i64 0, .slice none 0 0, .int .i64 0, .int .i64 0, .int .i64 0, .int .i64 0, .slice none 0 0] 55)
 have M0 := Hh (((Yo.start h).next nb).next nb2)
 have R0 := Hh (show Zb _ w.heap.size 55 (Wg 0 zexL zexL).toArray from (Zb.made w 55 #[.int .i64 0, .int .i64 0, .int .i64 0, .int .i64 0, .int .i64 0, .int .i64 0, .int .i64 0, .slice none 0 0, .int .i64 0, .int .i64 0, .int .i64 0, .int .i64 0, .slice none 0 0, .int .i64 0, .int .i64 0, .int .i64 0, .int .i64 0, .int .i64 0, .int .i64 0, .slice none 0 0, .int .i64 0, .int .i64 0, .int .i64 0, .int .i64 0, .slice none 0 0]).alloc (.cells #[.int .i64 0, .int .i64 0, .int .i64 0, .int .i64 0, .int .i64 0, .int .i64 0, .int .i64 0, .slice none 0 0, .int .i64 0, .int .i64 0, .int .i64 0, .int .i64 0, .slice none 0 0, .int .i64 0, .int .i64 0, .int .i64 0, .int .i64 0, .int .i64 0, .int .i64 0, .slice none 0 0, .int .i64 0, .int .i64 0, .int .i64 0, .int .i64 0, .slice none 0 0] 55))
 have T0 := Hh (show Zb _ (w.heap.size + 1) 55 (Wg 0 zexL zexL).toArray from by have e := Zb.made (w.alloc (.cells #[.int .i64 0, .int .i64 0, .int .i64 0, .int .i64 0, .int .i64 0, .int .i64 0, .int .i64 0, .slice none 0 0, .int .i64 0, .int .i64 0, .int .i64 0, .int .i64 0, .slice none 0 0, .int .i64 0, .int .i64 0, .int .i64 0, .int .i64 0, .int .i64 0, .int .i64 0, .slice none 0 0, .int .i64 0, .int .i64 0, .int .i64 0, .int .i64 0, .slice none 0 0] 55)) 55 #[.int .i64 0, .int .i64 0, .int .i64 0, .int .i64 0, .int .i64 0, .int .i64 0, .int .i64 0, .slice none 0 0, .int .i64 0, .int .i64 0, .int .i64 0, .int .i64 0, .slice none 0 0, .int .i64 0, .int .i64 0, .int .i64 0, .int .i64 0, .int .i64 0, .int .i64 0, .slice none 0 0, .int .i64 0, .int .i64 0, .int .i64 0, .int .i64 0, .slice none 0 0]; rw [World.size_alloc] at e; exact e)
 clear nb nb2
 show Calls _ _ _ _ (CondPost w q c r K L (Yq 5 L n (Yu L wOp (Yq 5 L n st).2)).2 (Zm L wOp (Yq 5 L n st).2 : Int) (Yq 5 L n st).1 (Yq 5 L n (Yu L wOp (Yq 5 L n st).2)).1)
 have hr1 := rem_expr L 5 n st
 have hr2 := Xk L wOp (Yq 5 L n st).2
 have hl : ∀ w, PAt w q c r K L st → Calls Tryz.prog 97 #[.pointer (some ⟨q, 0, none⟩)] w (Yl w q c r K L (Yq 5 L n st).2 (Yq 5 L n st).1.ds) := fun w h => xexprs w q c r K L _ n h (by omega) (by omega)
 generalize Yq 5 L n st = xa at *
 have hop : ∀ w, PAt w q c r K L xa.2 → Calls Tryz.prog 280 #[.pointer (some ⟨q, 0, none⟩)] w (Yg w q c r K L (Yu L wOp xa.2) (.int .i64 (Zm L wOp xa.2 : Int))) := fun w h => xop w q c r K L _ h
 generalize (Zm L wOp xa.2 : Int) = op at *
 generalize Yu L wOp xa.2 = s2 at *
 have hr : ∀ w, PAt w q c r K L s2 → Calls Tryz.prog 97 #[.pointer (some ⟨q, 0, none⟩)] w (Yl w q c r K L (Yq 5 L n s2).2 (Yq 5 L n s2).1.ds) := fun w h => xexprs w q c r K L _ n h (by omega) (by omega)
 generalize Yq 5 L n s2 = xb at *
 clear h hn hLn hr1 hr2
 go_enter Tryz.func268, Tryz.ntmps268
 go_wp2_with (first
 | (go_at_call 97; (with_reducible refine (hl _ ?_).mono ?_); exact M0.out.at_; rintro e w1 ⟨av, rfl, d1, m1⟩
    have R1 := Hh (m1.keeps.whole R0.out (by omega))
    have T1 := Hh (m1.keeps.whole T0.out (by omega))
    have M1 := Hh (M0.out.then m1)
    have hz1 : w.heap.size + 2 ≤ w1.heap.size := by have := m1.keeps.size; (try simp at this); omega
    have hcell := M1.out.at_.cell
    have A1 := Hh (d1.lower (show w.heap.size + 2 ≤ _ by first | omega | (simp; done) | (simp; omega)))
    have AL := Hh d1.len
    clear m1 d1)
 | ((with_reducible refine Zl 6 5 ?_); refine put_cl 51 _ _ 55 (w.heap.size + 1) T1.out rfl A1.out.len12 Xi A1.out.one rfl rfl rfl rfl rfl ?_
    intro w2 p2
    have T2 := Hh (show Zb w2 (w.heap.size + 1) 55 (Wg 0 av zexL).toArray from by first | exact p2.whole | simpa using p2.whole)
    have R2 := Hh (p2.keeps.whole R1.out (by omega))
    have A2 := Hh (A1.out.put p2 (by omega))
    have M2 := Hh (M1.out.put p2 (by omega) qin cin rin)
    have hz2 := Nat.le_trans hz1 p2.keeps.size
    have hcell := M2.out.at_.cell
    clear p2)
 | (go_at_call 280; refine (hop _ M2.out.at_).mono ?_; rintro e w3 ⟨rfl, m3⟩
    have R3 := Hh (m3.keeps.whole R2.out (by omega))
    have T3 := Hh (m3.keeps.whole T2.out (by omega))
    have A3 := Hh (A2.out.move m3 (by omega) (by omega))
    have M3 := Hh (M2.out.then m3)
    have hz3 := Nat.le_trans hz2 m3.keeps.size
    have hcell := M3.out.at_.cell
    clear m3)
 | ((with_reducible refine Zl 9 8 ?_); refine Zn 3 _ _ 55 (w.heap.size + 1) 0 [] (.int .i64 0) (.int .i64 op) (av ++ zexL) T3.out rfl Yy rfl rfl rfl rfl rfl rfl ?_
    intro w4 p4
    have T4 := Hh (show Zb w4 (w.heap.size + 1) 55 (Wg op av zexL).toArray from by first | exact p4.whole | simpa using p4.whole)
    have R4 := Hh (p4.keeps.whole R3.out (by omega))
    have A4 := Hh (A3.out.put p4 (by omega))
    have M4 := Hh (M3.out.put p4 (by omega) qin cin rin)
    have hz4 := Nat.le_trans hz3 p4.keeps.size
    have hcell := M4.out.at_.cell
    clear p4)
 | (go_at_call 97; (with_reducible refine (hr _ ?_).mono ?_); exact M4.out.at_; rintro e w5 ⟨bv, rfl, d5, m5⟩
    have R5 := Hh (m5.keeps.whole R4.out (by omega))
    have T5 := Hh (m5.keeps.whole T4.out (by omega))
    have A5 := Hh (A4.out.move m5 (by omega) (by omega))
    have M5 := Hh (M4.out.then m5)
    have hz5 := Nat.le_trans hz4 m5.keeps.size
    have hcell := M5.out.at_.cell
    have B5 := Hh (d5.lower (show w.heap.size + 2 ≤ _ by first | omega | (simp; done) | (simp; omega)))
    have BL := Hh d5.len
    clear m5 d5)
 | ((with_reducible refine Zl 12 11 ?_); refine put_cr 51 _ _ 55 (w.heap.size + 1) T5.out A5.out.len12 rfl B5.out.len12 Xi B5.out.one rfl rfl rfl rfl rfl ?_
    intro w6 p6
    have T6 := Hh (show Zb w6 (w.heap.size + 1) 55 (Wg op av bv).toArray from by first | exact p6.whole | simpa using p6.whole)
    have R6 := Hh (p6.keeps.whole R5.out (by omega))
    have A6 := Hh (A5.out.put p6 (by omega))
    have B6 := Hh (B5.out.put p6 (by omega))
    have M6 := Hh (M5.out.put p6 (by omega) qin cin rin)
    have hz6 := Nat.le_trans hz5 p6.keeps.size
    have hcell := M6.out.at_.cell
    clear p6)
 | ((with_reducible refine Ze 13 ?_); refine Zd 55 _ 55 (w.heap.size + 1) _ T6.out row_cond (size_cond' (cond_len A6.out.len12 B6.out.len12)) rfl rfl rfl ?_)
 | ((with_reducible refine Zl 2 13 ?_); refine Zc 55 _ _ 55 (w.heap.size) _ (Wg op av bv) R6.out (cond_len A6.out.len12 B6.out.len12) (size_cond' (cond_len A6.out.len12 B6.out.len12)) (cond_deep op A6.out B6.out).one rfl rfl rfl rfl rfl ?_
    intro w7 p7
    have R7 := Hh p7.whole
    have T7 := Hh (p7.keeps.whole T6.out (by omega))
    have A7 := Hh (A6.out.put p7 (by omega))
    have B7 := Hh (B6.out.put p7 (by omega))
    have M7 := Hh (M6.out.put p7 (by omega) qin cin rin)
    have hz7 := Nat.le_trans hz6 p7.keeps.size
    have hcell := M7.out.at_.cell
    clear p7))
 exact Zs 2 55 55 w.heap.size _ rfl R7.out row_cond (size_cond' (cond_len A7.out.len12 B7.out.len12)) rfl rfl ⟨_, _, rfl, A7.out.lower (by omega), B7.out.lower (by omega), M7.out⟩
def Zar (w : World) (q c r K : Nat) (L : List TokV) (st : St) (n : Nat) (ds : Ds) (e : Ending) (w' : World) : Prop :=
 ∃ v, e = .returned v ∧ Zh (fun k => w.heap.size ≤ k) w' (.row n ds .nil) [v] ∧ Yo w w' q c r K L st
def ActsOK (n : Nat) : Prop := ∀ (w : World) (q c r K : Nat) (L : List TokV) (st : St), PAt w q c r K L st → 8 * Zw L st + 8 ≤ n → Zw L st ≤ 68719476736 →
 Calls Tryz.prog 211 #[.pointer (some ⟨q, 0, none⟩)] w (Zar w q c r K L (Xs 5 L n st).2 (Xs 5 L n st).1.len (Xs 5 L n st).1.ds)
def BlockOK (n : Nat) : Prop := ∀ (w : World) (q c r K : Nat) (L : List TokV) (st : St), PAt w q c r K L st → 8 * Zw L st + 9 ≤ n → Zw L st ≤ 68719476736 →
 Calls Tryz.prog 269 #[.pointer (some ⟨q, 0, none⟩)] w (Zar w q c r K L (Yx 5 L n st).2 (Yx 5 L n st).1.len (Yx 5 L n st).1.ds)
def AO.ds (x : AO) : Ds := x.h.dsr x.thn.len x.thn.ds x.els.len x.els.ds
def ActOK (n : Nat) : Prop := ∀ (w : World) (q c r K : Nat) (L : List TokV) (st : St) (k : Nat), PAt w q c r K L st → 1 ≤ k → k ≤ 15 → 8 * Zw L st + 11 ≤ n → Zw L st ≤ 68719476736 →
 Calls Tryz.prog 242 #[.pointer (some ⟨q, 0, none⟩), .int .i64 k] w (Yl w q c r K L (Ud 5 L n (AH.zero 0 0 0) k st).st (Ud 5 L n (AH.zero 0 0 0) k st).ds)
theorem Zh.slice {N : Nat → Prop} {w : World} {n : Nat} {ds : Ds} {v : Value} (h : Zh N w (.row n ds .nil) [v]) : ∃ A c, v = .slice A n c := by
 obtain ⟨A, c, xs, t, e, _⟩ := h
 injection e with e1
 exact ⟨A, c, e1⟩
theorem xblock (n : Nat) (ih : ActsOK n) : BlockOK (n + 1) := by
 intro w q c r K L st h hn hLn
 have qin := h.whole.inside
 have cin := h.cin
 have hr := rem_down L Xt st
 rw [Yx]
 have hde : Calls Tryz.prog 255 #[.pointer (some ⟨q, 0, none⟩), .string ⟨#[123]⟩] w (Yg w q c r K L (Jc L Xt st) (.tuple #[])) := xdescend w q c r K L st Xt h
 generalize Jc L Xt st = s1 at *
 have hac : ∀ w, PAt w q c r K L s1 → Calls Tryz.prog 211 #[.pointer (some ⟨q, 0, none⟩)] w (Zar w q c r K L (Xs 5 L n s1).2 (Xs 5 L n s1).1.len (Xs 5 L n s1).1.ds) := fun w h => ih w q c r K L s1 h (by omega) (by omega)
 generalize Xs 5 L n s1 = x at *
 clear h hn hLn hr
 go_enter Tryz.func269, Tryz.ntmps269
 go_wp2_with (first
 | (go_at_call 255; refine hde.mono ?_; rintro e w1 ⟨rfl, m1⟩
    have hz1 : w.heap.size ≤ w1.heap.size := m1.keeps.size
    have M1 := Hh m1; clear m1)
 | (go_at_call 211; refine (hac _ M1.out.at_).mono ?_; rintro e w2 ⟨v, rfl, d2, m2⟩
    have D2 := Hh (d2.lower hz1)
    have M2 := Hh (M1.out.then m2); clear m2 d2)
 | (go_at_call 256; refine (xascend _ q c r K L _ We M2.out.at_).mono ?_; rintro e w3 ⟨rfl, m3⟩
    have D3 := Hh (D2.out.move m3 qin cin)
    have M3 := Hh (M2.out.then m3); clear m3))
 go_ret
 exact ⟨_, rfl, D3.out, M3.out⟩
theorem xact (n : Nat) (ih : BlockOK n) : ActOK (n + 1) := by
 intro w q c r K L st k h hk1 hk2 hn hLn
 have qin := h.whole.inside
 have cin := h.cin
 have rin := h.rin
 have nb := Za w (.cells Yp.toArray 57)
 have nb2 := Za (w.alloc (.cells Yp.toArray 57)) (.cells Yp.toArray 57)
 have M0 := Hh (((Yo.start h).next nb).next nb2)
 have R0 := Hh (show Zb _ w.heap.size 57 (Yp).toArray from (Zb.made w 57 Yp.toArray).alloc (.cells Yp.toArray 57))
 have T0 := Hh (show Zb _ (w.heap.size + 1) 57 (Yp).toArray from by have e := Zb.made (w.alloc (.cells Yp.toArray 57)) 57 Yp.toArray; rw [World.size_alloc] at e; exact e)
 clear nb nb2
 have hcell := M0.out.at_.cell
 by_cases k10 : k = 10
 · subst k10
   rw [show ((10 : Nat) : Int) = 10 from rfl]
   have hrc := rem_cond L 5 n (AH.zero 0 0 0) st
   have hco : ∀ w, PAt w q c r K L st → Calls Tryz.prog 268 #[.pointer (some ⟨q, 0, none⟩)] w (CondPost w q c r K L (Wf 5 L n (AH.zero 0 0 0) st).2 (Wf 5 L n (AH.zero 0 0 0) st).1.cop (Wf 5 L n (AH.zero 0 0 0) st).1.cl (Wf 5 L n (AH.zero 0 0 0) st).1.cr) := fun w h => xcond w q c r K L st n h (by omega) hLn
   have hch : (Wf 5 L n (AH.zero 0 0 0) st).1 = (⟨0, 0, 0, zSe, zEx, 0, 0, 0, 0, ⟨#[]⟩, (Wf 5 L n (AH.zero 0 0 0) st).1.cop, (Wf 5 L n (AH.zero 0 0 0) st).1.cl, (Wf 5 L n (AH.zero 0 0 0) st).1.cr⟩ : AH) := rfl
   have hst : Ud 5 L (n + 1) (AH.zero 0 0 0) 10 st = if isS L Zah (Yx 5 L n (Wf 5 L n (AH.zero 0 0 0) st).2).2 = true then
       ⟨(Wf 5 L n (AH.zero 0 0 0) st).1, (Yx 5 L n (Wf 5 L n (AH.zero 0 0 0) st).2).1, (Yx 5 L n (Wc L Zah (Yx 5 L n (Wf 5 L n (AH.zero 0 0 0) st).2).2)).1, (Yx 5 L n (Wc L Zah (Yx 5 L n (Wf 5 L n (AH.zero 0 0 0) st).2).2)).2⟩
     else ⟨(Wf 5 L n (AH.zero 0 0 0) st).1, (Yx 5 L n (Wf 5 L n (AH.zero 0 0 0) st).2).1, .nil, (Yx 5 L n (Wf 5 L n (AH.zero 0 0 0) st).2).2⟩ := by rw [Ud, if_pos rfl]
   rw [hst]
   clear hst
   generalize Wf 5 L n (AH.zero 0 0 0) st = xc at *
   obtain ⟨xh, s2⟩ := xc
   dsimp only at *
   obtain ⟨_, _, _, _, _, _, _, _, _, _, cop, cl, cr⟩ := xh
   injection hch with e1 e2 e3 e4 e5 e6 e7 e8 e9 e10 _ _ _
   subst e1 e2 e3 e4 e5 e6 e7 e8 e9 e10
   dsimp only at *
   have hrb := rem_block L 5 n s2
   have hb1 : ∀ w, PAt w q c r K L s2 → Calls Tryz.prog 269 #[.pointer (some ⟨q, 0, none⟩)] w (Zar w q c r K L (Yx 5 L n s2).2 (Yx 5 L n s2).1.len (Yx 5 L n s2).1.ds) := fun w h => ih w q c r K L s2 h (by omega) (by omega)
   generalize Yx 5 L n s2 = xb at *
   obtain ⟨bt, s3⟩ := xb
   dsimp only at *
   by_cases he : isS L Zah s3 = true
   · rw [if_pos he]
     have hrt := rem_take L Zah s3
     have htk : ∀ w, PAt w q c r K L s3 → Calls Tryz.prog 136 #[Xz c s3, .string ⟨#[101, 108, 115, 101]⟩] w (Yg w q c r K L (Wc L Zah s3) (.bool true)) := fun w h => by rw [← he]; exact Vf w q c r K L s3 Zah h
     generalize Wc L Zah s3 = s4 at *
     have hb2 : ∀ w, PAt w q c r K L s4 → Calls Tryz.prog 269 #[.pointer (some ⟨q, 0, none⟩)] w (Zar w q c r K L (Yx 5 L n s4).2 (Yx 5 L n s4).1.len (Yx 5 L n s4).1.ds) := fun w h => ih w q c r K L s4 h (by omega) (by omega)
     generalize Yx 5 L n s4 = xe at *
     obtain ⟨be, s5⟩ := xe
     dsimp only at *
     clear h hn hLn hrc hrb hrt he hk1 hk2
     go_enter Tryz.func242, Tryz.ntmps242
     go_wp2_with (first
 | (go_at_call 268; refine (hco _ M0.out.at_).mono ?_; rintro e w1 ⟨clv, crv, rfl, dx1, dy1, m1⟩
    have R1 := Hh (m1.keeps.whole R0.out (by omega))
    have T1 := Hh (m1.keeps.whole T0.out (by omega))
    have M1 := Hh (M0.out.then m1)
    have hz1 : w.heap.size + 2 ≤ w1.heap.size := by have := m1.keeps.size; (try simp at this); omega
    have hcell := M1.out.at_.cell
    have X1 := Hh (dx1.lower (show w.heap.size + 2 ≤ _ by first | omega | (simp; done) | (simp; omega)))
    have Y1 := Hh (dy1.lower (show w.heap.size + 2 ≤ _ by first | omega | (simp; done) | (simp; omega)))
    clear m1 dx1 dy1)
 | ((with_reducible refine Zl 16 15 ?_); refine put_cond 55 _ _ 57 (w.heap.size + 1) T1.out rfl rfl rfl rfl X1.out.len12 Y1.out.len12 size_cond (cond_deep cop X1.out Y1.out).one rfl rfl rfl rfl rfl ?_
    intro w2 p2
    have T2 := Hh (show Zb w2 (w.heap.size + 1) 57 (Zz 0 0 0 zseL zexL 0 0 0 0 ⟨#[]⟩ cop clv crv (.slice none 0 0) (.slice none 0 0)).toArray from by first | exact p2.whole | simpa using p2.whole)
    have R2 := Hh (p2.keeps.whole R1.out (by omega))
    have X2 := Hh (X1.out.put p2 (by omega))
    have Y2 := Hh (Y1.out.put p2 (by omega))
    have M2 := Hh (M1.out.put p2 (by omega) qin cin rin)
    have hz2 := Nat.le_trans hz1 p2.keeps.size
    have hcell := M2.out.at_.cell
    clear p2)
 | (go_at_call 269; (with_reducible refine (hb1 _ ?_).mono ?_); exact M2.out.at_; rintro e w3 ⟨pv, rfl, d3, m3⟩
    have R3 := Hh (m3.keeps.whole R2.out (by omega))
    have T3 := Hh (m3.keeps.whole T2.out (by omega))
    have X3 := Hh (X2.out.move m3 (by omega) (by omega))
    have Y3 := Hh (Y2.out.move m3 (by omega) (by omega))
    have M3 := Hh (M2.out.then m3)
    have hz3 := Nat.le_trans hz2 m3.keeps.size
    have hcell := M3.out.at_.cell
    have P3 := Hh (d3.lower (show w.heap.size + 2 ≤ _ by first | omega | (simp; done) | (simp; omega)))
    obtain ⟨Pa, Pc, rfl⟩ := P3.out.slice
    clear m3 d3)
 | ((with_reducible refine Zl 19 18 ?_); refine put_thn 41 _ _ 57 (w.heap.size + 1) T3.out rfl rfl X3.out.len12 Y3.out.len12 size_acts rfl rfl rfl rfl rfl rfl ?_
    intro w4 p4
    have T4 := Hh (show Zb w4 (w.heap.size + 1) 57 (Zz 0 0 0 zseL zexL 0 0 0 0 ⟨#[]⟩ cop clv crv (.slice Pa bt.len Pc) (.slice none 0 0)).toArray from by first | exact p4.whole | simpa using p4.whole)
    have R4 := Hh (p4.keeps.whole R3.out (by omega))
    have X4 := Hh (X3.out.put p4 (by omega))
    have Y4 := Hh (Y3.out.put p4 (by omega))
    have P4 := Hh (P3.out.put p4 (by omega))
    have M4 := Hh (M3.out.put p4 (by omega) qin cin rin)
    have hz4 := Nat.le_trans hz3 p4.keeps.size
    have hcell := M4.out.at_.cell
    clear p4)
 | (go_at_call 136; refine (htk _ M4.out.at_).mono ?_; rintro e w5 ⟨rfl, m5⟩
    have R5 := Hh (m5.keeps.whole R4.out (by omega))
    have T5 := Hh (m5.keeps.whole T4.out (by omega))
    have X5 := Hh (X4.out.move m5 (by omega) (by omega))
    have Y5 := Hh (Y4.out.move m5 (by omega) (by omega))
    have P5 := Hh (P4.out.move m5 (by omega) (by omega))
    have M5 := Hh (M4.out.then m5)
    have hz5 := Nat.le_trans hz4 m5.keeps.size
    have hcell := M5.out.at_.cell
    clear m5)
 | (go_at_call 269; (with_reducible refine (hb2 _ ?_).mono ?_); exact M5.out.at_; rintro e w6 ⟨uv, rfl, d6, m6⟩
    have R6 := Hh (m6.keeps.whole R5.out (by omega))
    have T6 := Hh (m6.keeps.whole T5.out (by omega))
    have X6 := Hh (X5.out.move m6 (by omega) (by omega))
    have Y6 := Hh (Y5.out.move m6 (by omega) (by omega))
    have P6 := Hh (P5.out.move m6 (by omega) (by omega))
    have M6 := Hh (M5.out.then m6)
    have hz6 := Nat.le_trans hz5 m6.keeps.size
    have hcell := M6.out.at_.cell
    have U6 := Hh (d6.lower (show w.heap.size + 2 ≤ _ by first | omega | (simp; done) | (simp; omega)))
    obtain ⟨Ua, Uc, rfl⟩ := U6.out.slice
    clear m6 d6)
 | ((with_reducible refine Zl 27 26 ?_); refine put_els 41 _ _ 57 (w.heap.size + 1) T6.out rfl rfl X6.out.len12 Y6.out.len12 size_acts rfl rfl rfl rfl rfl rfl ?_
    intro w7 p7
    have T7 := Hh (show Zb w7 (w.heap.size + 1) 57 (Zz 0 0 0 zseL zexL 0 0 0 0 ⟨#[]⟩ cop clv crv (.slice Pa bt.len Pc) (.slice Ua be.len Uc)).toArray from by first | exact p7.whole | simpa using p7.whole)
    have R7 := Hh (p7.keeps.whole R6.out (by omega))
    have X7 := Hh (X6.out.put p7 (by omega))
    have Y7 := Hh (Y6.out.put p7 (by omega))
    have P7 := Hh (P6.out.put p7 (by omega))
    have U7 := Hh (U6.out.put p7 (by omega))
    have M7 := Hh (M6.out.put p7 (by omega) qin cin rin)
    have hz7 := Nat.le_trans hz6 p7.keeps.size
    have hcell := M7.out.at_.cell
    clear p7)
 | ((with_reducible refine Ze 36 ?_); refine Zd 57 _ 57 (w.heap.size + 1) _ T7.out Wj (Yi ((show Zh (fun k => w.heap.size + 2 ≤ k) w7 ((⟨0, 0, 0, zSe, zEx, 0, 0, 0, 0, ⟨#[]⟩, cop, cl, cr⟩ : AH).dsr bt.len bt.ds be.len be.ds) (Zz 0 0 0 zseL zexL 0 0 0 0 ⟨#[]⟩ cop clv crv (.slice Pa bt.len Pc) (.slice Ua be.len Uc)) from Zv _ _ _ _ _ _ _ _ _ (Ys _ _) (Zf _ _) (X7.out) (Y7.out) (P7.out) (U7.out)).len.trans (AH.dsr_len _ _ _ _ _))) rfl rfl rfl ?_)
 | ((with_reducible refine Zl 4 36 ?_); refine Zc 57 _ _ 57 (w.heap.size) _ (Zz 0 0 0 zseL zexL 0 0 0 0 ⟨#[]⟩ cop clv crv (.slice Pa bt.len Pc) (.slice Ua be.len Uc)) R7.out ((show Zh (fun k => w.heap.size + 2 ≤ k) w7 ((⟨0, 0, 0, zSe, zEx, 0, 0, 0, 0, ⟨#[]⟩, cop, cl, cr⟩ : AH).dsr bt.len bt.ds be.len be.ds) (Zz 0 0 0 zseL zexL 0 0 0 0 ⟨#[]⟩ cop clv crv (.slice Pa bt.len Pc) (.slice Ua be.len Uc)) from Zv _ _ _ _ _ _ _ _ _ (Ys _ _) (Zf _ _) (X7.out) (Y7.out) (P7.out) (U7.out)).len.trans (AH.dsr_len _ _ _ _ _)) (Yi ((show Zh (fun k => w.heap.size + 2 ≤ k) w7 ((⟨0, 0, 0, zSe, zEx, 0, 0, 0, 0, ⟨#[]⟩, cop, cl, cr⟩ : AH).dsr bt.len bt.ds be.len be.ds) (Zz 0 0 0 zseL zexL 0 0 0 0 ⟨#[]⟩ cop clv crv (.slice Pa bt.len Pc) (.slice Ua be.len Uc)) from Zv _ _ _ _ _ _ _ _ _ (Ys _ _) (Zf _ _) (X7.out) (Y7.out) (P7.out) (U7.out)).len.trans (AH.dsr_len _ _ _ _ _))) (show Zh (fun k => w.heap.size + 2 ≤ k) w7 ((⟨0, 0, 0, zSe, zEx, 0, 0, 0, 0, ⟨#[]⟩, cop, cl, cr⟩ : AH).dsr bt.len bt.ds be.len be.ds) (Zz 0 0 0 zseL zexL 0 0 0 0 ⟨#[]⟩ cop clv crv (.slice Pa bt.len Pc) (.slice Ua be.len Uc)) from Zv _ _ _ _ _ _ _ _ _ (Ys _ _) (Zf _ _) (X7.out) (Y7.out) (P7.out) (U7.out)).one rfl rfl rfl rfl rfl ?_
    intro w8 p8
    have R8 := Hh p8.whole
    have T8 := Hh (p8.keeps.whole T7.out (by omega))
    have X8 := Hh (X7.out.put p8 (by omega))
    have Y8 := Hh (Y7.out.put p8 (by omega))
    have P8 := Hh (P7.out.put p8 (by omega))
    have U8 := Hh (U7.out.put p8 (by omega))
    have M8 := Hh (M7.out.put p8 (by omega) qin cin rin)
    have hz8 := Nat.le_trans hz7 p8.keeps.size
    have hcell := M8.out.at_.cell
    clear p8))
     exact Zs 4 57 57 w.heap.size _ rfl R8.out Wj (Yi ((show Zh (fun k => w.heap.size + 2 ≤ k) w8 ((⟨0, 0, 0, zSe, zEx, 0, 0, 0, 0, ⟨#[]⟩, cop, cl, cr⟩ : AH).dsr bt.len bt.ds be.len be.ds) (Zz 0 0 0 zseL zexL 0 0 0 0 ⟨#[]⟩ cop clv crv (.slice Pa bt.len Pc) (.slice Ua be.len Uc)) from Zv _ _ _ _ _ _ _ _ _ (Ys _ _) (Zf _ _) (X8.out) (Y8.out) (P8.out) (U8.out)).len.trans (AH.dsr_len _ _ _ _ _))) rfl rfl ⟨_, rfl, Zh.lower (show Zh (fun k => w.heap.size + 2 ≤ k) w8 ((⟨0, 0, 0, zSe, zEx, 0, 0, 0, 0, ⟨#[]⟩, cop, cl, cr⟩ : AH).dsr bt.len bt.ds be.len be.ds) (Zz 0 0 0 zseL zexL 0 0 0 0 ⟨#[]⟩ cop clv crv (.slice Pa bt.len Pc) (.slice Ua be.len Uc)) from Zv _ _ _ _ _ _ _ _ _ (Ys _ _) (Zf _ _) (X8.out) (Y8.out) (P8.out) (U8.out)) (by omega), M8.out⟩
   · have hne : isS L Zah s3 = false := by simpa using he
     rw [if_neg he]
     have htk : ∀ w, PAt w q c r K L s3 → Calls Tryz.prog 136 #[Xz c s3, .string ⟨#[101, 108, 115, 101]⟩] w (Yg w q c r K L s3 (.bool false)) := fun w h => by have h1 := Vf w q c r K L s3 Zah h; rw [hne, Xq hne] at h1; exact h1
     clear h hn hLn hrc hrb he hne hk1 hk2
     go_enter Tryz.func242, Tryz.ntmps242
     go_wp2_with (first
 | (go_at_call 268; refine (hco _ M0.out.at_).mono ?_; rintro e w1 ⟨clv, crv, rfl, dx1, dy1, m1⟩
    have R1 := Hh (m1.keeps.whole R0.out (by omega))
    have T1 := Hh (m1.keeps.whole T0.out (by omega))
    have M1 := Hh (M0.out.then m1)
    have hz1 : w.heap.size + 2 ≤ w1.heap.size := by have := m1.keeps.size; (try simp at this); omega
    have hcell := M1.out.at_.cell
    have X1 := Hh (dx1.lower (show w.heap.size + 2 ≤ _ by first | omega | (simp; done) | (simp; omega)))
    have Y1 := Hh (dy1.lower (show w.heap.size + 2 ≤ _ by first | omega | (simp; done) | (simp; omega)))
    clear m1 dx1 dy1)
 | ((with_reducible refine Zl 16 15 ?_); refine put_cond 55 _ _ 57 (w.heap.size + 1) T1.out rfl rfl rfl rfl X1.out.len12 Y1.out.len12 size_cond (cond_deep cop X1.out Y1.out).one rfl rfl rfl rfl rfl ?_
    intro w2 p2
    have T2 := Hh (show Zb w2 (w.heap.size + 1) 57 (Zz 0 0 0 zseL zexL 0 0 0 0 ⟨#[]⟩ cop clv crv (.slice none 0 0) (.slice none 0 0)).toArray from by first | exact p2.whole | simpa using p2.whole)
    have R2 := Hh (p2.keeps.whole R1.out (by omega))
    have X2 := Hh (X1.out.put p2 (by omega))
    have Y2 := Hh (Y1.out.put p2 (by omega))
    have M2 := Hh (M1.out.put p2 (by omega) qin cin rin)
    have hz2 := Nat.le_trans hz1 p2.keeps.size
    have hcell := M2.out.at_.cell
    clear p2)
 | (go_at_call 269; (with_reducible refine (hb1 _ ?_).mono ?_); exact M2.out.at_; rintro e w3 ⟨pv, rfl, d3, m3⟩
    have R3 := Hh (m3.keeps.whole R2.out (by omega))
    have T3 := Hh (m3.keeps.whole T2.out (by omega))
    have X3 := Hh (X2.out.move m3 (by omega) (by omega))
    have Y3 := Hh (Y2.out.move m3 (by omega) (by omega))
    have M3 := Hh (M2.out.then m3)
    have hz3 := Nat.le_trans hz2 m3.keeps.size
    have hcell := M3.out.at_.cell
    have P3 := Hh (d3.lower (show w.heap.size + 2 ≤ _ by first | omega | (simp; done) | (simp; omega)))
    obtain ⟨Pa, Pc, rfl⟩ := P3.out.slice
    clear m3 d3)
 | ((with_reducible refine Zl 19 18 ?_); refine put_thn 41 _ _ 57 (w.heap.size + 1) T3.out rfl rfl X3.out.len12 Y3.out.len12 size_acts rfl rfl rfl rfl rfl rfl ?_
    intro w4 p4
    have T4 := Hh (show Zb w4 (w.heap.size + 1) 57 (Zz 0 0 0 zseL zexL 0 0 0 0 ⟨#[]⟩ cop clv crv (.slice Pa bt.len Pc) (.slice none 0 0)).toArray from by first | exact p4.whole | simpa using p4.whole)
    have R4 := Hh (p4.keeps.whole R3.out (by omega))
    have X4 := Hh (X3.out.put p4 (by omega))
    have Y4 := Hh (Y3.out.put p4 (by omega))
    have P4 := Hh (P3.out.put p4 (by omega))
    have M4 := Hh (M3.out.put p4 (by omega) qin cin rin)
    have hz4 := Nat.le_trans hz3 p4.keeps.size
    have hcell := M4.out.at_.cell
    clear p4)
 | (go_at_call 136; refine (htk _ M4.out.at_).mono ?_; rintro e w5 ⟨rfl, m5⟩
    have R5 := Hh (m5.keeps.whole R4.out (by omega))
    have T5 := Hh (m5.keeps.whole T4.out (by omega))
    have X5 := Hh (X4.out.move m5 (by omega) (by omega))
    have Y5 := Hh (Y4.out.move m5 (by omega) (by omega))
    have P5 := Hh (P4.out.move m5 (by omega) (by omega))
    have M5 := Hh (M4.out.then m5)
    have hz5 := Nat.le_trans hz4 m5.keeps.size
    have hcell := M5.out.at_.cell
    clear m5)
 | ((with_reducible refine Ze 36 ?_); refine Zd 57 _ 57 (w.heap.size + 1) _ T5.out Wj (Yi ((show Zh (fun k => w.heap.size + 2 ≤ k) w5 ((⟨0, 0, 0, zSe, zEx, 0, 0, 0, 0, ⟨#[]⟩, cop, cl, cr⟩ : AH).dsr bt.len bt.ds 0 .nil) (Zz 0 0 0 zseL zexL 0 0 0 0 ⟨#[]⟩ cop clv crv (.slice Pa bt.len Pc) (.slice none 0 0)) from Zv _ _ _ _ _ _ _ _ _ (Ys _ _) (Zf _ _) (X5.out) (Y5.out) (P5.out) (Zk _ _)).len.trans (AH.dsr_len _ _ _ _ _))) rfl rfl rfl ?_)
 | ((with_reducible refine Zl 4 36 ?_); refine Zc 57 _ _ 57 (w.heap.size) _ (Zz 0 0 0 zseL zexL 0 0 0 0 ⟨#[]⟩ cop clv crv (.slice Pa bt.len Pc) (.slice none 0 0)) R5.out ((show Zh (fun k => w.heap.size + 2 ≤ k) w5 ((⟨0, 0, 0, zSe, zEx, 0, 0, 0, 0, ⟨#[]⟩, cop, cl, cr⟩ : AH).dsr bt.len bt.ds 0 .nil) (Zz 0 0 0 zseL zexL 0 0 0 0 ⟨#[]⟩ cop clv crv (.slice Pa bt.len Pc) (.slice none 0 0)) from Zv _ _ _ _ _ _ _ _ _ (Ys _ _) (Zf _ _) (X5.out) (Y5.out) (P5.out) (Zk _ _)).len.trans (AH.dsr_len _ _ _ _ _)) (Yi ((show Zh (fun k => w.heap.size + 2 ≤ k) w5 ((⟨0, 0, 0, zSe, zEx, 0, 0, 0, 0, ⟨#[]⟩, cop, cl, cr⟩ : AH).dsr bt.len bt.ds 0 .nil) (Zz 0 0 0 zseL zexL 0 0 0 0 ⟨#[]⟩ cop clv crv (.slice Pa bt.len Pc) (.slice none 0 0)) from Zv _ _ _ _ _ _ _ _ _ (Ys _ _) (Zf _ _) (X5.out) (Y5.out) (P5.out) (Zk _ _)).len.trans (AH.dsr_len _ _ _ _ _))) (show Zh (fun k => w.heap.size + 2 ≤ k) w5 ((⟨0, 0, 0, zSe, zEx, 0, 0, 0, 0, ⟨#[]⟩, cop, cl, cr⟩ : AH).dsr bt.len bt.ds 0 .nil) (Zz 0 0 0 zseL zexL 0 0 0 0 ⟨#[]⟩ cop clv crv (.slice Pa bt.len Pc) (.slice none 0 0)) from Zv _ _ _ _ _ _ _ _ _ (Ys _ _) (Zf _ _) (X5.out) (Y5.out) (P5.out) (Zk _ _)).one rfl rfl rfl rfl rfl ?_
    intro w6 p6
    have R6 := Hh p6.whole
    have T6 := Hh (p6.keeps.whole T5.out (by omega))
    have X6 := Hh (X5.out.put p6 (by omega))
    have Y6 := Hh (Y5.out.put p6 (by omega))
    have P6 := Hh (P5.out.put p6 (by omega))
    have M6 := Hh (M5.out.put p6 (by omega) qin cin rin)
    have hz6 := Nat.le_trans hz5 p6.keeps.size
    have hcell := M6.out.at_.cell
    clear p6))
     exact Zs 4 57 57 w.heap.size _ rfl R6.out Wj (Yi ((show Zh (fun k => w.heap.size + 2 ≤ k) w6 ((⟨0, 0, 0, zSe, zEx, 0, 0, 0, 0, ⟨#[]⟩, cop, cl, cr⟩ : AH).dsr bt.len bt.ds 0 .nil) (Zz 0 0 0 zseL zexL 0 0 0 0 ⟨#[]⟩ cop clv crv (.slice Pa bt.len Pc) (.slice none 0 0)) from Zv _ _ _ _ _ _ _ _ _ (Ys _ _) (Zf _ _) (X6.out) (Y6.out) (P6.out) (Zk _ _)).len.trans (AH.dsr_len _ _ _ _ _))) rfl rfl ⟨_, rfl, Zh.lower (show Zh (fun k => w.heap.size + 2 ≤ k) w6 ((⟨0, 0, 0, zSe, zEx, 0, 0, 0, 0, ⟨#[]⟩, cop, cl, cr⟩ : AH).dsr bt.len bt.ds 0 .nil) (Zz 0 0 0 zseL zexL 0 0 0 0 ⟨#[]⟩ cop clv crv (.slice Pa bt.len Pc) (.slice none 0 0)) from Zv _ _ _ _ _ _ _ _ _ (Ys _ _) (Zf _ _) (X6.out) (Y6.out) (P6.out) (Zk _ _)) (by omega), M6.out⟩
 · by_cases k11 : k = 11
   · subst k11
     rw [show ((11 : Nat) : Int) = 11 from rfl]
     have hrs := Zak L 5 n st
     have hse : ∀ w, PAt w q c r K L st → Calls Tryz.prog 219 #[.pointer (some ⟨q, 0, none⟩)] w (Yl w q c r K L (Wt 5 L n st).2 (Wt 5 L n st).1.ds) := fun w h => xsel w q c r K L st n h (by omega) (by omega)
     have hst : Ud 5 L (n + 1) (AH.zero 0 0 0) 11 st = ⟨(⟨0, 0, 0, (Wt 5 L n st).1, zEx, 0, 0, 0, 0, ⟨#[]⟩, 0, zEx, zEx⟩ : AH), (Yx 5 L n (Wt 5 L n st).2).1, .nil, (Yx 5 L n (Wt 5 L n st).2).2⟩ := by rw [Ud, if_neg (by decide), if_pos rfl]; rfl
     rw [hst]
     clear hst
     generalize Wt 5 L n st = xc at *
     obtain ⟨xs, s2⟩ := xc
     dsimp only at *
     have hb1 : ∀ w, PAt w q c r K L s2 → Calls Tryz.prog 269 #[.pointer (some ⟨q, 0, none⟩)] w (Zar w q c r K L (Yx 5 L n s2).2 (Yx 5 L n s2).1.len (Yx 5 L n s2).1.ds) := fun w h => ih w q c r K L s2 h (by omega) (by omega)
     generalize Yx 5 L n s2 = xb at *
     obtain ⟨bt, s3⟩ := xb
     dsimp only at *
     clear h hn hLn hrs hk1 hk2 k10
     go_enter Tryz.func242, Tryz.ntmps242
     go_wp2_with (first
 | (go_at_call 219; refine (hse _ M0.out.at_).mono ?_; rintro e w1 ⟨sv, rfl, d1, m1⟩
    have R1 := Hh (m1.keeps.whole R0.out (by omega))
    have T1 := Hh (m1.keeps.whole T0.out (by omega))
    have M1 := Hh (M0.out.then m1)
    have hz1 : w.heap.size + 2 ≤ w1.heap.size := by have := m1.keeps.size; (try simp at this); omega
    have hcell := M1.out.at_.cell
    have S1 := Hh (d1.lower (show w.heap.size + 2 ≤ _ by first | omega | (simp; done) | (simp; omega)))
    have SL := Hh d1.len
    clear m1 d1)
 | ((with_reducible refine Zl 32 31 ?_); refine put_sel 46 _ _ 57 (w.heap.size + 1) T1.out rfl S1.out.len6 Vn S1.out.one rfl rfl rfl rfl rfl ?_
    intro w2 p2
    have T2 := Hh (show Zb w2 (w.heap.size + 1) 57 (Zz 0 0 0 sv zexL 0 0 0 0 ⟨#[]⟩ 0 zexL zexL (.slice none 0 0) (.slice none 0 0)).toArray from by first | exact p2.whole | simpa using p2.whole)
    have R2 := Hh (p2.keeps.whole R1.out (by omega))
    have S2 := Hh (S1.out.put p2 (by omega))
    have M2 := Hh (M1.out.put p2 (by omega) qin cin rin)
    have hz2 := Nat.le_trans hz1 p2.keeps.size
    have hcell := M2.out.at_.cell
    clear p2)
 | (go_at_call 269; (with_reducible refine (hb1 _ ?_).mono ?_); exact M2.out.at_; rintro e w3 ⟨pv, rfl, d3, m3⟩
    have R3 := Hh (m3.keeps.whole R2.out (by omega))
    have T3 := Hh (m3.keeps.whole T2.out (by omega))
    have S3 := Hh (S2.out.move m3 (by omega) (by omega))
    have M3 := Hh (M2.out.then m3)
    have hz3 := Nat.le_trans hz2 m3.keeps.size
    have hcell := M3.out.at_.cell
    have P3 := Hh (d3.lower (show w.heap.size + 2 ≤ _ by first | omega | (simp; done) | (simp; omega)))
    obtain ⟨Pa, Pc, rfl⟩ := P3.out.slice
    clear m3 d3)
 | ((with_reducible refine Zl 35 34 ?_); refine put_thn 41 _ _ 57 (w.heap.size + 1) T3.out S3.out.len6 rfl rfl rfl size_acts rfl rfl rfl rfl rfl rfl ?_
    intro w4 p4
    have T4 := Hh (show Zb w4 (w.heap.size + 1) 57 (Zz 0 0 0 sv zexL 0 0 0 0 ⟨#[]⟩ 0 zexL zexL (.slice Pa bt.len Pc) (.slice none 0 0)).toArray from by first | exact p4.whole | simpa using p4.whole)
    have R4 := Hh (p4.keeps.whole R3.out (by omega))
    have S4 := Hh (S3.out.put p4 (by omega))
    have P4 := Hh (P3.out.put p4 (by omega))
    have M4 := Hh (M3.out.put p4 (by omega) qin cin rin)
    have hz4 := Nat.le_trans hz3 p4.keeps.size
    have hcell := M4.out.at_.cell
    clear p4)
 | ((with_reducible refine Ze 36 ?_); refine Zd 57 _ 57 (w.heap.size + 1) _ T4.out Wj (Yi ((show Zh (fun k => w.heap.size + 2 ≤ k) w4 ((⟨0, 0, 0, xs, zEx, 0, 0, 0, 0, ⟨#[]⟩, 0, zEx, zEx⟩ : AH).dsr bt.len bt.ds 0 .nil) (Zz 0 0 0 sv zexL 0 0 0 0 ⟨#[]⟩ 0 zexL zexL (.slice Pa bt.len Pc) (.slice none 0 0)) from Zv _ _ _ _ _ _ _ _ _ (S4.out) (Zf _ _) (Zf _ _) (Zf _ _) (P4.out) (Zk _ _)).len.trans (AH.dsr_len _ _ _ _ _))) rfl rfl rfl ?_)
 | ((with_reducible refine Zl 4 36 ?_); refine Zc 57 _ _ 57 (w.heap.size) _ (Zz 0 0 0 sv zexL 0 0 0 0 ⟨#[]⟩ 0 zexL zexL (.slice Pa bt.len Pc) (.slice none 0 0)) R4.out ((show Zh (fun k => w.heap.size + 2 ≤ k) w4 ((⟨0, 0, 0, xs, zEx, 0, 0, 0, 0, ⟨#[]⟩, 0, zEx, zEx⟩ : AH).dsr bt.len bt.ds 0 .nil) (Zz 0 0 0 sv zexL 0 0 0 0 ⟨#[]⟩ 0 zexL zexL (.slice Pa bt.len Pc) (.slice none 0 0)) from Zv _ _ _ _ _ _ _ _ _ (S4.out) (Zf _ _) (Zf _ _) (Zf _ _) (P4.out) (Zk _ _)).len.trans (AH.dsr_len _ _ _ _ _)) (Yi ((show Zh (fun k => w.heap.size + 2 ≤ k) w4 ((⟨0, 0, 0, xs, zEx, 0, 0, 0, 0, ⟨#[]⟩, 0, zEx, zEx⟩ : AH).dsr bt.len bt.ds 0 .nil) (Zz 0 0 0 sv zexL 0 0 0 0 ⟨#[]⟩ 0 zexL zexL (.slice Pa bt.len Pc) (.slice none 0 0)) from Zv _ _ _ _ _ _ _ _ _ (S4.out) (Zf _ _) (Zf _ _) (Zf _ _) (P4.out) (Zk _ _)).len.trans (AH.dsr_len _ _ _ _ _))) (show Zh (fun k => w.heap.size + 2 ≤ k) w4 ((⟨0, 0, 0, xs, zEx, 0, 0, 0, 0, ⟨#[]⟩, 0, zEx, zEx⟩ : AH).dsr bt.len bt.ds 0 .nil) (Zz 0 0 0 sv zexL 0 0 0 0 ⟨#[]⟩ 0 zexL zexL (.slice Pa bt.len Pc) (.slice none 0 0)) from Zv _ _ _ _ _ _ _ _ _ (S4.out) (Zf _ _) (Zf _ _) (Zf _ _) (P4.out) (Zk _ _)).one rfl rfl rfl rfl rfl ?_
    intro w5 p5
    have R5 := Hh p5.whole
    have T5 := Hh (p5.keeps.whole T4.out (by omega))
    have S5 := Hh (S4.out.put p5 (by omega))
    have P5 := Hh (P4.out.put p5 (by omega))
    have M5 := Hh (M4.out.put p5 (by omega) qin cin rin)
    have hz5 := Nat.le_trans hz4 p5.keeps.size
    have hcell := M5.out.at_.cell
    clear p5))
     exact Zs 4 57 57 w.heap.size _ rfl R5.out Wj (Yi ((show Zh (fun k => w.heap.size + 2 ≤ k) w5 ((⟨0, 0, 0, xs, zEx, 0, 0, 0, 0, ⟨#[]⟩, 0, zEx, zEx⟩ : AH).dsr bt.len bt.ds 0 .nil) (Zz 0 0 0 sv zexL 0 0 0 0 ⟨#[]⟩ 0 zexL zexL (.slice Pa bt.len Pc) (.slice none 0 0)) from Zv _ _ _ _ _ _ _ _ _ (S5.out) (Zf _ _) (Zf _ _) (Zf _ _) (P5.out) (Zk _ _)).len.trans (AH.dsr_len _ _ _ _ _))) rfl rfl ⟨_, rfl, Zh.lower (show Zh (fun k => w.heap.size + 2 ≤ k) w5 ((⟨0, 0, 0, xs, zEx, 0, 0, 0, 0, ⟨#[]⟩, 0, zEx, zEx⟩ : AH).dsr bt.len bt.ds 0 .nil) (Zz 0 0 0 sv zexL 0 0 0 0 ⟨#[]⟩ 0 zexL zexL (.slice Pa bt.len Pc) (.slice none 0 0)) from Zv _ _ _ _ _ _ _ _ _ (S5.out) (Zf _ _) (Zf _ _) (Zf _ _) (P5.out) (Zk _ _)) (by omega), M5.out⟩
   · have hst : Ud 5 L (n + 1) (AH.zero 0 0 0) k st = ⟨(Xh 5 L n (AH.zero 0 0 0) k st).1, .nil, .nil, Yz L sSemi (Xh 5 L n (AH.zero 0 0 0) k st).2⟩ := by rw [Ud, if_neg k10, if_neg k11]
     rw [hst]
     clear hst
     have hpl : ∀ w, PAt w q c r K L st → Calls Tryz.prog 270 #[.pointer (some ⟨q, 0, none⟩), .int .i64 (k : Int)] w (Yl w q c r K L (Xh 5 L n (AH.zero 0 0 0) k st).2 ((Xh 5 L n (AH.zero 0 0 0) k st).1.dsr 0 .nil 0 .nil)) := fun w h => by
       have hk : k = 1 ∨ k = 2 ∨ k = 3 ∨ k = 4 ∨ k = 5 ∨ k = 6 ∨ k = 7 ∨ k = 8 ∨ k = 9 ∨ k = 12 ∨ k = 13 ∨ k = 14 ∨ k = 15 := by omega
       rcases hk with rfl | rfl | rfl | rfl | rfl | rfl | rfl | rfl | rfl | rfl | rfl | rfl | rfl
       · exact xplainM1 1 (by decide) w q c r K L st n h (by omega) hLn
       · exact xplainM1 2 (by decide) w q c r K L st n h (by omega) hLn
       · exact xplainM3 3 (by decide) w q c r K L st n h (by omega) hLn
       · exact xplain4 w q c r K L st n h (by omega) hLn
       · exact xplainM3 5 (by decide) w q c r K L st n h (by omega) hLn
       · exact xplain6 w q c r K L st n h (by omega) hLn
       · exact xplainM7 7 (by decide) w q c r K L st n h (by omega) hLn
       · exact xplain8 w q c r K L st n h (by omega) hLn
       · exact xplainM7 9 (by decide) w q c r K L st n h (by omega) hLn
       · exact xplainM1 12 (by decide) w q c r K L st n h (by omega) hLn
       · exact xplainM13 13 (by decide) w q c r K L st n h (by omega) hLn
       · exact xplainM3 14 (by decide) w q c r K L st n h (by omega) hLn
       · exact xplainM13 15 (by decide) w q c r K L st n h (by omega) hLn
     show Calls _ _ _ _ (Yl w q c r K L (Yz L sSemi (Xh 5 L n (AH.zero 0 0 0) k st).2) ((Xh 5 L n (AH.zero 0 0 0) k st).1.dsr 0 .nil 0 .nil))
     generalize Xh 5 L n (AH.zero 0 0 0) k st = xp at *
     have q10 : ((k : Int) == 10) = false := by rw [beq_eq_false_iff_ne]; omega
     have q11 : ((k : Int) == 11) = false := by rw [beq_eq_false_iff_ne]; omega
     clear h hn hLn hk1 hk2 k10 k11
     go_enter Tryz.func242, Tryz.ntmps242
     go_wp2_with (first
 | (go_at_call 270; refine (hpl _ M0.out.at_).mono ?_; rintro e w1 ⟨av, rfl, d1, m1⟩
    have R1 := Hh (m1.keeps.whole R0.out (by omega))
    have T1 := Hh (m1.keeps.whole T0.out (by omega))
    have M1 := Hh (M0.out.then m1)
    have hz1 : w.heap.size + 2 ≤ w1.heap.size := by have := m1.keeps.size; (try simp at this); omega
    have hcell := M1.out.at_.cell
    have A1 := Hh (d1.lower (show w.heap.size + 2 ≤ _ by first | omega | (simp; done) | (simp; omega)))
    have AL := Hh d1.len
    clear m1 d1)
 | ((with_reducible refine Zl 5 9 ?_); refine Zc 57 _ _ 57 (w.heap.size + 1) _ (av) T1.out (A1.out.len.trans (AH.dsr_len _ _ _ _ _)) (Yi (A1.out.len.trans (AH.dsr_len _ _ _ _ _))) A1.out.one rfl rfl rfl rfl rfl ?_
    intro w2 p2
    have T2 := Hh p2.whole
    have R2 := Hh (p2.keeps.whole R1.out (by omega))
    have A2 := Hh (A1.out.put p2 (by omega))
    have M2 := Hh (M1.out.put p2 (by omega) qin cin rin)
    have hz2 := Nat.le_trans hz1 p2.keeps.size
    have hcell := M2.out.at_.cell
    clear p2)
 | (go_at_call 178; refine (xwant _ q c r K L _ sSemi M2.out.at_).mono ?_; rintro e w3 ⟨rfl, m3⟩
    have R3 := Hh (m3.keeps.whole R2.out (by omega))
    have T3 := Hh (m3.keeps.whole T2.out (by omega))
    have A3 := Hh (A2.out.move m3 (by omega) (by omega))
    have M3 := Hh (M2.out.then m3)
    have hz3 := Nat.le_trans hz2 m3.keeps.size
    have hcell := M3.out.at_.cell
    clear m3)
 | ((with_reducible refine Ze 36 ?_); refine Zd 57 _ 57 (w.heap.size + 1) _ T3.out Wj (Yi (A3.out.len.trans (AH.dsr_len _ _ _ _ _))) rfl rfl rfl ?_)
 | ((with_reducible refine Zl 4 36 ?_); refine Zc 57 _ _ 57 (w.heap.size) _ (av) R3.out (A3.out.len.trans (AH.dsr_len _ _ _ _ _)) (Yi (A3.out.len.trans (AH.dsr_len _ _ _ _ _))) A3.out.one rfl rfl rfl rfl rfl ?_
    intro w4 p4
    have R4 := Hh p4.whole
    have T4 := Hh (p4.keeps.whole T3.out (by omega))
    have A4 := Hh (A3.out.put p4 (by omega))
    have M4 := Hh (M3.out.put p4 (by omega) qin cin rin)
    have hz4 := Nat.le_trans hz3 p4.keeps.size
    have hcell := M4.out.at_.cell
    clear p4))
     exact Zs 4 57 57 w.heap.size _ rfl R4.out Wj (Yi (A4.out.len.trans (AH.dsr_len _ _ _ _ _))) rfl rfl ⟨_, rfl, Zh.lower A4.out (by omega), M4.out⟩
theorem plain_head (nk : Int) (L : List TokV) (n : Nat) (a b c : Int) (k : Nat) (st : St) : (Xh nk L n (AH.zero a b c) k st).1 = { (Xh nk L n (AH.zero 0 0 0) k st).1 with kind := a, line := b, col := c } ∧ (Xh nk L n (AH.zero a b c) k st).2 = (Xh nk L n (AH.zero 0 0 0) k st).2 := by
 unfold Xh
 by_cases h1 : k = 1 ∨ k = 2 ∨ k = 12
 · rw [if_pos h1, if_pos h1]; exact ⟨rfl, rfl⟩
 rw [if_neg h1, if_neg h1]
 by_cases h2 : k = 3 ∨ k = 5 ∨ k = 14
 · rw [if_pos h2, if_pos h2]; exact ⟨rfl, rfl⟩
 rw [if_neg h2, if_neg h2]
 by_cases h3 : k = 4
 · rw [if_pos h3, if_pos h3]; exact ⟨rfl, rfl⟩
 rw [if_neg h3, if_neg h3]
 by_cases h4 : k = 6
 · rw [if_pos h4, if_pos h4]; exact ⟨rfl, rfl⟩
 rw [if_neg h4, if_neg h4]
 by_cases h5 : k = 7 ∨ k = 9
 · rw [if_pos h5, if_pos h5]; exact ⟨rfl, rfl⟩
 rw [if_neg h5, if_neg h5]
 by_cases h6 : k = 8
 · rw [if_pos h6, if_pos h6]; exact ⟨rfl, rfl⟩
 rw [if_neg h6, if_neg h6]
 by_cases h7 : k = 13 ∨ k = 15
 · rw [if_pos h7, if_pos h7]; exact ⟨rfl, rfl⟩
 rw [if_neg h7, if_neg h7]
 exact ⟨rfl, rfl⟩
def AH.tail (h : AH) (tn : Nat) (t : Ds) (en : Nat) (e : Ds) : Ds :=
 h.sel.ds.app (h.num.ds.app (.int h.side (.int h.tk (.int h.tl (.int h.how (.str h.name (.int h.cop (h.cl.ds.app (h.cr.ds.app (.row tn t (.row en e .nil)))))))))))
theorem act_head (nk : Int) (L : List TokV) (n : Nat) (a b c : Int) (k : Nat) (st : St) :
   (Ud nk L n (AH.zero a b c) k st).h = { (Ud nk L n (AH.zero 0 0 0) k st).h with kind := a, line := b, col := c } ∧ (Ud nk L n (AH.zero a b c) k st).thn = (Ud nk L n (AH.zero 0 0 0) k st).thn ∧
   (Ud nk L n (AH.zero a b c) k st).els = (Ud nk L n (AH.zero 0 0 0) k st).els ∧ (Ud nk L n (AH.zero a b c) k st).st = (Ud nk L n (AH.zero 0 0 0) k st).st := by
 cases n with
 | zero => exact ⟨rfl, rfl, rfl, rfl⟩
 | succ n =>
   have e2 : (Wf nk L n (AH.zero a b c) st).2 = (Wf nk L n (AH.zero 0 0 0) st).2 := rfl
   have e1 : (Wf nk L n (AH.zero a b c) st).1 = { (Wf nk L n (AH.zero 0 0 0) st).1 with kind := a, line := b, col := c } := rfl
   obtain ⟨p1, p2⟩ := plain_head nk L n a b c k st
   rw [Ud, Ud, e2, e1, p1, p2]
   by_cases h1 : k = 10
   · rw [if_pos h1, if_pos h1]
     by_cases h2 : isS L Zah (Yx nk L n (Wf nk L n (AH.zero 0 0 0) st).2).2 = true
     · rw [if_pos h2, if_pos h2]; exact ⟨rfl, rfl, rfl, rfl⟩
     · rw [if_neg h2, if_neg h2]; exact ⟨rfl, rfl, rfl, rfl⟩
   · rw [if_neg h1, if_neg h1]
     by_cases h2 : k = 11
     · rw [if_pos h2, if_pos h2]; exact ⟨rfl, rfl, rfl, rfl⟩
     · rw [if_neg h2, if_neg h2]; exact ⟨rfl, rfl, rfl, rfl⟩
theorem act_ds (nk : Int) (L : List TokV) (n : Nat) (a b c : Int) (k : Nat) (st : St) : ∃ k0 l0 c0 tl, (Ud nk L n (AH.zero 0 0 0) k st).ds = .int k0 (.int l0 (.int c0 tl)) ∧ (Ud nk L n (AH.zero a b c) k st).ds = .int a (.int b (.int c tl)) := by
 obtain ⟨h1, h2, h3, h4⟩ := act_head nk L n a b c k st
 refine ⟨_, _, _, _, rfl, ?_⟩
 unfold AO.ds
 rw [h1, h2, h3]
 rfl
theorem Acs.ds_app (y : Acs) : ∀ x : Acs, (x.app y).ds = x.ds.app y.ds
 | .nil => rfl
 | .cons h t e r => by
   show (h.dsr t.len t.ds e.len e.ds).app (r.app y).ds = ((h.dsr t.len t.ds e.len e.ds).app r.ds).app y.ds
   rw [Acs.ds_app y r, Ds.app_assoc]
structure RowD (w : World) (q c r K : Nat) (L : List TokV) (e : TypeId) (sz : Nat) (st : St) (n : Nat) (ds : Ds) (xs : List Value) (v : Value) (wr : World) : Prop where
 row : RowW w q c r K L e sz st n xs v wr
 deep : Zh (fun k => w.heap.size ≤ k ∧ v.ownBlock ≠ some k) wr ds xs
def Vh (q c : Nat) (wr x : World) : Prop := Zo (fun k => (k = q ∨ k = c) ∨ wr.heap.size ≤ k) wr x
theorem Vh.start (q c : Nat) (w : World) : Vh q c w w := Zo.refl _ _
theorem Vh.move {q c r K : Nat} {L : List TokV} {st : St} {wr x y : World} (h : Vh q c wr x) (m : Yo x y q c r K L st) : Vh q c wr y := Zo.trans h (m.keeps.mono fun k hk => .inl hk)
theorem Vh.next {q c : Nat} {wr x y : World} (h : Vh q c wr x) (hb : Below x.heap.size x y) : Vh q c wr y := Zo.trans h (Zo.of_below hb)
theorem Vh.put {q c : Nat} {wr x y : World} (h : Vh q c wr x) {g : Nat} {t : TypeId} {vs : List Value} (p : Put x y g t vs) (hg : wr.heap.size ≤ g) : Vh q c wr y := Zo.trans h (p.keeps.mono fun k hk => .inr (hk ▸ hg))
theorem Vh.drew {q c : Nat} {wr x : World} (h : Vh q c wr x) : Vh q c wr x.drew := Zo.drew h
theorem RowD.round {w x y : World} {q c r K n sz : Nat} {L : List TokV} {e : TypeId} {st st' : St} {ds : Ds} {xs : List Value} {v : Value} (h : RowD w q c r K L e sz st n ds xs v x) (f : Vh q c x y) (m : Yo w y q c r K L st') : RowD w q c r K L e sz st' n ds xs v y :=
 ⟨⟨m, f.owns h.row.row (fun k hk c => by have := h.row.row.lt k hk; have := h.row.qin; have := h.row.cin; omega), h.row.qin, h.row.cin, h.row.rin⟩,
   h.deep.keeps f fun k hk hn => ⟨by have := h.row.qin; have := h.row.cin; omega, hn⟩⟩
theorem RowD.push {w x y : World} {q c r K n sz : Nat} {L : List TokV} {e : TypeId} {st : St} {ds es : Ds} {xs ys : List Value} {v v' : Value} (h : RowD w q c r K L e sz st n ds xs v x) (ho : y.ownsRow w.heap.size e sz v' (n + 1) (xs ++ ys)) (hg : x.grownBy y v.ownBlock) (hat : v'.ownBlock = v.ownBlock ∨ v'.ownBlock = some x.heap.size)
   (d : Zh (fun k => w.heap.size ≤ k ∧ v.ownBlock ≠ some k) x es ys) : RowD w q c r K L e sz st (n + 1) (ds.app es) (xs ++ ys) v' y := by
 have hk : Zo (fun k => v.ownBlock = some k) x y := Zo.grown (Zo.refl _ _) hg fun k hk => hk
 have hs : ∀ k, k < x.heap.size → (w.heap.size ≤ k ∧ v.ownBlock ≠ some k) → ¬ (v.ownBlock = some k) ∧ (w.heap.size ≤ k ∧ v'.ownBlock ≠ some k) := fun k hk hn => by
   refine ⟨hn.2, hn.1, fun c => ?_⟩
   rcases hat with e1 | e1
   · rw [e1] at c; exact hn.2 c
   · rw [e1] at c; injection c with c; omega
 exact ⟨h.row.push ho hg, Zh.app (d.keeps hk hs) (h.deep.keeps hk hs)⟩
theorem Zb.set3L {w : World} {g : Nat} {t : TypeId} {a b c : Value} {l : List Value} (h : Zb w g t (a :: b :: c :: l).toArray) (x y z : Value) :
   Put w (((w.setCell ⟨g, 0, none⟩ x).setCell ⟨g, 1, none⟩ y).setCell ⟨g, 2, none⟩ z) g t (x :: y :: z :: l) := by
 have h1 := Zb.setCells (g := g) (t := t) l [x, y, z] [a, b, c] [] w rfl h
 exact ⟨h1, Zo.setCells (S := fun k => k = g) (g := g) rfl [x, y, z] 0 (Zo.refl _ w)⟩
theorem und_acts : Tryz.prog.underlying 41 = some (.slice 57) := by kernel_rfl
def zact : Value := .agg #[.int .i64 0, .int .i64 0, .int .i64 0, .int .i64 0, .int .i64 0, .int .i64 0, .int .i64 0, .slice none 0 0, .int .i64 0, .int .i64 0, .int .i64 0, .int .i64 0, .int .i64 0, .int .i64 0, .int .i64 0, .slice none 0 0, .int .i64 0, .int .i64 0, .int .i64 0, .int .i64 0, .slice none 0 0, .int .i64 0, .int .i64 0, .int .i64 0, .int .i64 0, .string ⟨#[]⟩, .int .i64 0, .int .i64 0, .int .i64 0, .int .i64 0, .int .i64 0, .int .i64 0, .int .i64 0, .slice none 0 0, .int .i64 0, .int .i64 0, .int .i64 0, .int .i64 0, .slice none 0 0, .int .i64 0, .int .i64 0, .int .i64 0, .int .i64 0, .int .i64 0, .int .i64 0, .slice none 0 0, .int .i64 0, .int .i64 0, .int .i64 0, .int .i64 0, .slice none 0 0, .slice none 0 0, .slice none 0 0]
theorem info_act : (Tryz.prog.info? 57).map (fun i => (i.zero, i.size, i.bytes)) = some (some zact, 53, 576) := by kernel_rfl
theorem acts_step (nk : Int) (L : List TokV) (m : Nat) (st : St) (h : ¬ Zm L Xv st = 0) : Xs nk L (m + 1) st =
   (.cons (Ud nk L m (AH.zero (Zm L Xv st) (st.tok L).line (st.tok L).col) (Zm L Xv st) (Yf L Xv st)).h
         (Ud nk L m (AH.zero (Zm L Xv st) (st.tok L).line (st.tok L).col) (Zm L Xv st) (Yf L Xv st)).thn
         (Ud nk L m (AH.zero (Zm L Xv st) (st.tok L).line (st.tok L).col) (Zm L Xv st) (Yf L Xv st)).els
         (Xs nk L m (Ud nk L m (AH.zero (Zm L Xv st) (st.tok L).line (st.tok L).col) (Zm L Xv st) (Yf L Xv st)).st).1,
       (Xs nk L m (Ud nk L m (AH.zero (Zm L Xv st) (st.tok L).line (st.tok L).col) (Zm L Xv st) (Yf L Xv st)).st).2) := by
 rw [Xs, if_neg h]
theorem acts_stop (nk : Int) (L : List TokV) (m : Nat) (st : St) (h : Zm L Xv st = 0) : Xs nk L (m + 1) st = (.nil, st) := by rw [Xs, if_pos h]
theorem xacts (n : Nat) (ih : ∀ m, m + 1 ≤ n → ActOK m) : ActsOK n := by
 intro w q c r K L st h hn hLn
 have H0 := Hh (show RowD w q c r K L 57 53 st 0 .nil [] (.slice none 0 0) w from ⟨⟨Yo.start h, World.ownsRow_nil _ _ _ _, h.whole.inside, h.cin, h.rin⟩, rfl⟩)
 have qin := h.whole.inside
 have cin := h.cin
 have HN := Hh (And.intro hn hLn)
 clear hn h hLn
 go_enter Tryz.func211, Tryz.ntmps211
 go_wp2
 go_loopw [3] (fun v wr => ∃ (m : Nat) (acc : Acs) (xs : List Value) (s : St), RowD w q c r K L 57 53 s acc.len acc.ds xs v wr ∧ 8 * Zw L s + 8 ≤ m ∧ m ≤ n ∧ acc.len + Zw L s ≤ Zw L st ∧ Xs 5 L n st = (acc.app (Xs 5 L m s).1, (Xs 5 L m s).2)) (fun _ wr => remW q c wr)
 case atStart => exact ⟨n, .nil, [], st, H0.out, HN.out.1, Nat.le_refl _, by simp [Acs.len], rfl⟩
 case round =>
   obtain ⟨m, acc, xs, s, hR, hm, hmn, hacc, heq⟩ := hrel
   obtain ⟨m, rfl⟩ : ∃ m', m = m' + 1 := ⟨m - 1, by omega⟩
   obtain ⟨A, cp, rfl, _, _, _⟩ := Xx hR.row.row
   have hcell := hR.row.mv.at_.cell
   have hrem := hR.row.mv.at_.rem
   have hpk := xPeek wr q c r K L s hR.row.mv.at_
   have hle := findN_le L Xv s
   have hz0 := hR.row.mv.keeps.size
   have hfr := Ul (L := L) (ws := Xv) (st := s)
   have hfn := Jz L (ws := Xv) (st := s)
   have hst := acts_step 5 L m s
   have hsp := acts_stop 5 L m s
   have hfi : ∀ W G, G = W.heap.size → PAt W q c r K L s → Calls Tryz.prog 147 #[.pointer (some ⟨q, 0, none⟩), .slice (some ⟨G, 0, none⟩) 15 15] (W.alloc (.cells #[.string ⟨#[112, 111, 119, 101, 114]⟩, .string ⟨#[115, 101, 116]⟩, .string ⟨#[100, 101, 115, 116, 114, 111, 121]⟩, .string ⟨#[109, 111, 118, 101]⟩, .string ⟨#[114, 101, 116, 117, 114, 110]⟩, .string ⟨#[115, 112, 97, 119, 110]⟩, .string ⟨#[100, 114, 97, 119]⟩, .string ⟨#[100, 105, 115, 99, 97, 114, 100]⟩, .string ⟨#[101, 110, 101, 114, 103, 121]⟩, .string ⟨#[105, 102]⟩, .string ⟨#[101, 97, 99, 104]⟩, .string ⟨#[97, 117, 114, 97]⟩, .string ⟨#[100, 111, 117, 98, 108, 101]⟩, .string ⟨#[115, 104, 105, 101, 108, 100]⟩, .string ⟨#[98, 97, 114]⟩] 9)) fun e w' => e = .returned (.int .i64 (Zm L Xv s : Int)) ∧ Yo W w' q c r K L (Yf L Xv s) := fun W G h2 h => xfindB W q c r K G L s Xv 15 15 _ rfl h2 h rfl (by decide)
   generalize s.tok L = tv at *
   unfold Ub at hpk
   generalize Zm L Xv s = k at *
   generalize Yf L Xv s = s1 at *
   have HR := Hh hR
   have HQ := Hh heq
   have hle15 : k ≤ 15 := hle
   clear hR heq hle
   by_cases hk0 : k = 0
   · have HS := Hh (And.intro (hsp hk0) (hfn hk0))
     subst hk0
     rw [show ((0 : Nat) : Int) = 0 from rfl] at hfi
     clear hst hsp hfn hfr hm hmn hacc hrem
     go_wp2_with (first
 | (go_at_call 133; refine hpk.mono ?_; rintro e w1 ⟨rfl, b1⟩
    have nb := Za w1 (.cells #[.int .i64 tv.k, .string tv.t, .int .i64 tv.n, .int .i64 (tv.line : Int), .int .i64 (tv.col : Int)] 85)
    have M1 := Hh ((HR.out.row.mv.next b1).next nb)
    have F1 := Hh (((Vh.start q c wr).next b1).next nb)
    clear b1 nb)
 | (go_at_call 147; refine (hfi _ _ ?_ M1.out.at_).mono ?_; simp; rintro e w2 ⟨rfl, m2⟩
    have M2 := Hh (M1.out.then m2)
    have F2 := Hh (F1.out.move m2); clear m2))
     go_ret
     obtain ⟨e1, e2⟩ := HS.out
     have R := HR.out.round F2.out M2.out
     rw [e2] at R
     rw [HQ.out, e1]
     dsimp only
     rw [Acs.app_nil]
     exact ⟨_, rfl, Zh.rowOf R.row.row (fun k hk => hk) (R.deep.mono fun k _ hk => hk.1), R.row.mv⟩
   · have hst := hst hk0
     have hfr := hfr hk0
     have hac : ∀ w, PAt w q c r K L s1 → Calls Tryz.prog 242 #[.pointer (some ⟨q, 0, none⟩), .int .i64 (k : Int)] w (Yl w q c r K L (Ud 5 L m (AH.zero 0 0 0) k s1).st (Ud 5 L m (AH.zero 0 0 0) k s1).ds) := fun w h => ih m (by omega) w q c r K L s1 k h (by omega) hle15 (by omega) (by have := HN.out; omega)
     obtain ⟨k0, l0, c0, tl, ha1, ha2⟩ := act_ds 5 L m (k : Int) (tv.line : Int) (tv.col : Int) k s1
     obtain ⟨_, _, _, ha3⟩ := act_head 5 L m (k : Int) (tv.line : Int) (tv.col : Int) k s1
     have hrk := rem_act L 5 m (AH.zero 0 0 0) k s1
     have hlen : (Ds.int k0 (.int l0 (.int c0 tl))).len = 53 := by rw [← ha1]; exact AH.dsr_len _ _ _ _ _
     have HLn := Hh hlen
     rw [ha1] at hac
     clear hlen
     rw [← ha3] at hac hrk
     generalize Ud 5 L m (AH.zero (k : Int) (tv.line : Int) (tv.col : Int)) k s1 = x at *
     have q0 : ((k : Int) == 0) = false := by rw [beq_eq_false_iff_ne]; omega
     have HT := Hh (And.intro hst (And.intro hm (And.intro hmn (And.intro hacc (And.intro hrem (And.intro hfr (And.intro hrk ha2)))))))
     clear hst hsp hfn hm hmn hacc hrem hfr hrk ha1 ha2 ha3 hk0
     go_wp2_with (first
 | (go_at_call 133; refine hpk.mono ?_; rintro e w1 ⟨rfl, b1⟩
    have nb := Za w1 (.cells #[.int .i64 tv.k, .string tv.t, .int .i64 tv.n, .int .i64 (tv.line : Int), .int .i64 (tv.col : Int)] 85)
    have M1 := Hh ((HR.out.row.mv.next b1).next nb)
    have F1 := Hh (((Vh.start q c wr).next b1).next nb)
    have K1 := Hh (Zb.made w1 85 #[.int .i64 tv.k, .string tv.t, .int .i64 tv.n, .int .i64 (tv.line : Int), .int .i64 (tv.col : Int)])
    have hz1 : wr.heap.size ≤ w1.heap.size := b1.size
    clear b1 nb)
 | (go_at_call 147; refine (hfi _ _ ?_ M1.out.at_).mono ?_; simp; rintro e w2 ⟨rfl, m2⟩
    have M2 := Hh (M1.out.then m2)
    have F2 := Hh (F1.out.move m2)
    have K2 := Hh (m2.keeps.whole K1.out (by omega))
    have hz2 : w1.heap.size + 1 ≤ w2.heap.size := by have := m2.keeps.size; simp at this; omega
    clear m2)
 | (go_at_call 242; refine (hac _ M2.out.at_).mono ?_; rintro e w3 ⟨vs, rfl, d3, m3⟩
    have O3 := Hh (d3.len.trans HLn.out)
    have N3 := Hh d3.one
    obtain ⟨u1, rfl, u2, rfl, av, rfl, dt⟩ := d3
    have nb := Za w3 (.cells #[.int .i64 0, .int .i64 0, .int .i64 0, .int .i64 0, .int .i64 0, .int .i64 0, .int .i64 0, .slice none 0 0, .int .i64 0, .int .i64 0, .int .i64 0, .int .i64 0, .int .i64 0, .int .i64 0, .int .i64 0, .slice none 0 0, .int .i64 0, .int .i64 0, .int .i64 0, .int .i64 0, .slice none 0 0, .int .i64 0, .int .i64 0, .int .i64 0, .int .i64 0, .string ⟨#[]⟩, .int .i64 0, .int .i64 0, .int .i64 0, .int .i64 0, .int .i64 0, .int .i64 0, .int .i64 0, .slice none 0 0, .int .i64 0, .int .i64 0, .int .i64 0, .int .i64 0, .slice none 0 0, .int .i64 0, .int .i64 0, .int .i64 0, .int .i64 0, .int .i64 0, .int .i64 0, .slice none 0 0, .int .i64 0, .int .i64 0, .int .i64 0, .int .i64 0, .slice none 0 0, .slice none 0 0, .slice none 0 0] 57)
    have M3 := Hh ((M2.out.then m3).next nb)
    have F3 := Hh ((F2.out.move m3).next nb)
    have K3 := Hh ((m3.keeps.whole K2.out (by omega)).below nb (by have := m3.keeps.size; omega))
    have hz3 : w2.heap.size ≤ w3.heap.size := m3.keeps.size
    have T3 := Hh (show Zb (w3.alloc (.cells #[.int .i64 0, .int .i64 0, .int .i64 0, .int .i64 0, .int .i64 0, .int .i64 0, .int .i64 0, .slice none 0 0, .int .i64 0, .int .i64 0, .int .i64 0, .int .i64 0, .int .i64 0, .int .i64 0, .int .i64 0, .slice none 0 0, .int .i64 0, .int .i64 0, .int .i64 0, .int .i64 0, .slice none 0 0, .int .i64 0, .int .i64 0, .int .i64 0, .int .i64 0, .string ⟨#[]⟩, .int .i64 0, .int .i64 0, .int .i64 0, .int .i64 0, .int .i64 0, .int .i64 0, .int .i64 0, .slice none 0 0, .int .i64 0, .int .i64 0, .int .i64 0, .int .i64 0, .slice none 0 0, .int .i64 0, .int .i64 0, .int .i64 0, .int .i64 0, .int .i64 0, .int .i64 0, .slice none 0 0, .int .i64 0, .int .i64 0, .int .i64 0, .int .i64 0, .slice none 0 0, .slice none 0 0, .slice none 0 0] 57)) w3.heap.size 57 Yp.toArray from Zb.made w3 57 #[.int .i64 0, .int .i64 0, .int .i64 0, .int .i64 0, .int .i64 0, .int .i64 0, .int .i64 0, .slice none 0 0, .int .i64 0, .int .i64 0, .int .i64 0, .int .i64 0, .int .i64 0, .int .i64 0, .int .i64 0, .slice none 0 0, .int .i64 0, .int .i64 0, .int .i64 0, .int .i64 0, .slice none 0 0, .int .i64 0, .int .i64 0, .int .i64 0, .int .i64 0, .string ⟨#[]⟩, .int .i64 0, .int .i64 0, .int .i64 0, .int .i64 0, .int .i64 0, .int .i64 0, .int .i64 0, .slice none 0 0, .int .i64 0, .int .i64 0, .int .i64 0, .int .i64 0, .slice none 0 0, .int .i64 0, .int .i64 0, .int .i64 0, .int .i64 0, .int .i64 0, .int .i64 0, .slice none 0 0, .int .i64 0, .int .i64 0, .int .i64 0, .int .i64 0, .slice none 0 0, .slice none 0 0, .slice none 0 0])
    have D3 := Hh dt
    clear m3 nb dt)
 | ((with_reducible refine Zl 6 20 ?_); refine Zc 57 _ _ 57 w3.heap.size Yp (.int .i64 k0 :: .int .i64 l0 :: .int .i64 c0 :: av) T3.out O3.out (Yi O3.out) N3.out rfl rfl rfl rfl rfl ?_
    intro w4 p4
    have M4 := Hh (M3.out.put p4 (by omega) qin cin HR.out.row.rin)
    have F4 := Hh (F3.out.put p4 (by omega))
    have K4 := Hh (p4.keeps.whole K3.out (by omega))
    have D4 := Hh (D3.out.keeps ((Zo.of_below (S := fun k => k = w3.heap.size) (Za w3 _)).trans p4.keeps) (M := fun k => w2.heap.size ≤ k ∧ k ≠ w3.heap.size) fun k hk hn => ⟨by omega, hn, by omega⟩)
    have T4 := Hh p4.whole
    have y0 : w4.cell? ⟨w3.heap.size, 0, none⟩ = some (.int .i64 k0) := T4.out.read 0
    have y1 : w4.cell? ⟨w3.heap.size, 1, none⟩ = some (.int .i64 l0) := T4.out.read 1
    have y2 : w4.cell? ⟨w3.heap.size, 2, none⟩ = some (.int .i64 c0) := T4.out.read 2
    have z0 := T4.out.thawed 0
    have z1 := T4.out.thawed 1
    have z2 := T4.out.thawed 2
    have y3 : w4.cell? ⟨w1.heap.size, 3, none⟩ = some (.int .i64 (tv.line : Int)) := K4.out.read 3
    have y4 : w4.cell? ⟨w1.heap.size, 4, none⟩ = some (.int .i64 (tv.col : Int)) := K4.out.read 4
    have hne : ¬ (w3.heap.size = w1.heap.size) := by omega
    clear p4))
     go_region
     have p5 := T4.out.set3L (.int .i64 (k : Int)) (.int .i64 (tv.line : Int)) (.int .i64 (tv.col : Int))
     generalize h5 : ((w4.setCell ⟨w3.heap.size, 0, none⟩ (.int .i64 (k : Int))).setCell ⟨w3.heap.size, 1, none⟩ (.int .i64 (tv.line : Int))).setCell ⟨w3.heap.size, 2, none⟩ (.int .i64 (tv.col : Int)) = w5 at *
     have M5 := Hh (M4.out.put p5 (by omega) qin cin HR.out.row.rin).drew
     have F5 := Hh ((F4.out.put p5 (by omega)).drew)
     have D5 := Hh (D4.out.keeps (p5.keeps.drew) (M := fun k => w2.heap.size ≤ k) fun k hk hn => ⟨by omega, hn.1⟩)
     have T5 := Hh p5.whole.drew
     have D6 := Hh (show Zh (fun k => w2.heap.size ≤ k) w5.drew x.ds (.int .i64 (k : Int) :: .int .i64 (tv.line : Int) :: .int .i64 (tv.col : Int) :: av) from by rw [HT.out.2.2.2.2.2.2.2]; exact ⟨_, rfl, _, rfl, _, rfl, D5.out⟩)
     have L5 : (Value.int .i64 (k : Int) :: .int .i64 (tv.line : Int) :: .int .i64 (tv.col : Int) :: av).length = 53 := by have := O3.out; simpa using this
     have O5 := Hh L5
     have hz5 : w3.heap.size + 1 ≤ w5.drew.heap.size := T5.out.inside
     clear h5 p5 L5
     generalize w5.drew = w6 at *
     go_wp2_with (first
 | ((with_reducible refine Ze 30 ?_); refine Zd 57 _ 57 w3.heap.size _ T5.out Wj (Yi O5.out) rfl rfl rfl ?_)
 | ((with_reducible refine Ze 31 ?_); refine wpList_buildOne 41 57 (.tmp 30) 31 53 576 zact (.int .i64 (k : Int) :: .int .i64 (tv.line : Int) :: .int .i64 (tv.col : Int) :: av) info_act O5.out (by decide) (by decide) und_acts rfl rfl rfl rfl ?_
    have nb := Za w6 (.cells (Value.int .i64 (k : Int) :: .int .i64 (tv.line : Int) :: .int .i64 (tv.col : Int) :: av).toArray 57)
    have R6 := Hh (HR.out.round (F5.out.next nb) (M5.out.next nb))
    have W6 := Hh (Zb.made w6 57 (Value.int .i64 (k : Int) :: .int .i64 (tv.line : Int) :: .int .i64 (tv.col : Int) :: av).toArray)
    have D7 := Hh (D6.out.below nb)
    clear nb)
 | (at_builtin; refine Xm (.tmp 29) (.tmp 31) 41 57 53 576 _ und_acts info_act rfl (by decide) (by decide) w.heap.size (.slice A acc.len cp) acc.len xs (.int .i64 (k : Int) :: .int .i64 (tv.line : Int) :: .int .i64 (tv.col : Int) :: av) R6.out.row.row w6.heap.size W6.out O5.out D7.out.one (by have := HT.out.2.2.2.1; have := HN.out.2; omega) (by simp; omega) rfl rfl rfl rfl ?_
    intro v9 w9 o9 g9 at9
    have R9 := Hh (R6.out.push o9 g9 at9 (D7.out.mono fun k _ hk => ⟨by omega, fun c => by have := HR.out.row.row.lt _ c; omega⟩)); clear o9 g9 at9))
     go_roundw
     case rel =>
       obtain ⟨h1, h2, h3, h4, h5, h6, h7, h8⟩ := HT.out
       refine ⟨m, acc.app (.cons x.h x.thn x.els .nil), xs ++ (.int .i64 (k : Int) :: .int .i64 (tv.line : Int) :: .int .i64 (tv.col : Int) :: av), x.st, ?_, ?_, ?_, ?_, ?_⟩
       · have R := R9.out
         have e1 : (acc.app (.cons x.h x.thn x.els .nil)).ds = acc.ds.app x.ds := by rw [Acs.ds_app]; congr 1; exact Ds.app_nil _
         have e2 : (acc.app (.cons x.h x.thn x.els .nil)).len = acc.len + 1 := by rw [Acs.len_app]; rfl
         rw [e1, e2]; exact R
       · omega
       · omega
       · rw [Acs.len_app]; simp only [Acs.len]; omega
       · rw [HQ.out, h1, Acs.app_assoc]; rfl
     case measure =>
       obtain ⟨h1, h2, h3, h4, h5, h6, h7, h8⟩ := HT.out
       have := R9.out.row.mv.at_.rem
       rw [this, h5]; omega
theorem acts_all : ∀ n m : Nat, m ≤ n → ActsOK m ∧ BlockOK m ∧ ActOK m := by
 intro n
 induction n with
 | zero =>
   intro m hm
   obtain rfl : m = 0 := by omega
   exact ⟨fun w q c r K L st h hn _ => absurd hn (by omega), fun w q c r K L st h hn _ => absurd hn (by omega), fun w q c r K L st k h _ _ hn _ => absurd hn (by omega)⟩
 | succ n ih =>
   intro m hm
   by_cases e : m ≤ n
   · exact ih m e
   · obtain rfl : m = n + 1 := by omega
     exact ⟨xacts (n + 1) fun k hk => (ih k (by omega)).2.2, xblock n (ih n (Nat.le_refl _)).1, xact n (ih n (Nat.le_refl _)).2.1⟩
theorem xactss (w : World) (q c r K : Nat) (L : List TokV) (st : St) (n : Nat) (h : PAt w q c r K L st) (hn : 8 * Zw L st + 8 ≤ n) (hLn : Zw L st ≤ 68719476736) :
   Calls Tryz.prog 211 #[.pointer (some ⟨q, 0, none⟩)] w (Zar w q c r K L (Xs 5 L n st).2 (Xs 5 L n st).1.len (Xs 5 L n st).1.ds) := (acts_all n n (Nat.le_refl _)).1 w q c r K L st h hn hLn
def Ru.ds (x : Ru) : Ds := .int x.when_ (.int x.stratum (.int x.line (.int x.col (.row x.acts.len x.acts.ds .nil))))
def Zai : List Ru → Ds
 | [] => .nil
 | x :: r => x.ds.app (Zai r)
theorem rusDs_snoc (x : Ru) : ∀ l : List Ru, Zai (l ++ [x]) = (Zai l).app x.ds
 | [] => Ds.app_nil _
 | y :: l => by show y.ds.app (Zai (l ++ [x])) = (y.ds.app (Zai l)).app x.ds; rw [rusDs_snoc x l, Ds.app_assoc]
theorem und_rus : Tryz.prog.underlying 33 = some (.slice 66) := by kernel_rfl
theorem info_ru : (Tryz.prog.info? 66).map (fun i => (i.zero, i.size, i.bytes)) = some (some (.agg #[.int .i64 0, .int .i64 0, .int .i64 0, .int .i64 0, .slice none 0 0]), 5, 56) := by kernel_rfl
theorem row_ru : (Tryz.prog.underlying 66).map TypeDesc.isRow = some true := by kernel_rfl
theorem size_ru : (Tryz.prog.info? 66).map (·.size) = some 5 := by kernel_rfl
theorem size_rus : (Tryz.prog.info? 33).map (·.size) = some 1 := by kernel_rfl
theorem row_ca : (Tryz.prog.underlying 35).map TypeDesc.isRow = some true := by kernel_rfl
theorem size_ca : (Tryz.prog.info? 35).map (·.size) = some 6 := by kernel_rfl
theorem row_pl : (Tryz.prog.underlying 38).map TypeDesc.isRow = some true := by kernel_rfl
theorem size_pl : (Tryz.prog.info? 38).map (·.size) = some 4 := by kernel_rfl
theorem rules_step (nk : Int) (L : List TokV) (m : Nat) (st : St) (h : ¬ Zm L Xf st = 0) : Vw nk L (m + 1) st =
     (⟨Zm L Xf st, strN L (Zm L Xf st) (Yf L Xf st), (st.tok L).line, (st.tok L).col, (Xs nk L m (Yz L Xt (strS L (Zm L Xf st) (Yf L Xf st)))).1⟩ ::
         (Vw nk L m (Yz L We (Xs nk L m (Yz L Xt (strS L (Zm L Xf st) (Yf L Xf st)))).2)).1,
       (Vw nk L m (Yz L We (Xs nk L m (Yz L Xt (strS L (Zm L Xf st) (Yf L Xf st)))).2)).2) := by rw [Vw, if_neg h]
theorem rules_stop (nk : Int) (L : List TokV) (m : Nat) (st : St) (h : Zm L Xf st = 0) : Vw nk L (m + 1) st = ([], st) := by rw [Vw, if_pos h]
theorem xrules (n : Nat) (w : World) (q c r K : Nat) (L : List TokV) (st : St) (h : PAt w q c r K L st) (hn : 8 * Zw L st + 9 ≤ n) (hLn : Zw L st ≤ 68719476736) :
   Calls Tryz.prog 182 #[.pointer (some ⟨q, 0, none⟩)] w (Zar w q c r K L (Jg 5 L n st).2 (Jg 5 L n st).1.length (Zai (Jg 5 L n st).1)) := by
 have qin := h.whole.inside
 have cin := h.cin
 have rin := h.rin
 have hrw := Xw L Xt st
 have hw0 : Calls Tryz.prog 178 #[.pointer (some ⟨q, 0, none⟩), .string ⟨#[123]⟩] w (Yg w q c r K L (Yz L Xt st) (.tuple #[])) := xwant w q c r K L st Xt h
 unfold Jg
 generalize Yz L Xt st = st1 at *
 have HN := Hh (And.intro (show 8 * Zw L st1 + 9 ≤ n by omega) (show Zw L st1 ≤ 68719476736 by omega))
 clear hn h hLn hrw
 go_enter Tryz.func182, Tryz.ntmps182
 go_wp2_with (go_at_call 178; refine hw0.mono ?_; rintro e w0 ⟨rfl, m0⟩
              have H0 := Hh (show RowD w q c r K L 66 5 st1 0 .nil [] (.slice none 0 0) w0 from ⟨⟨m0, World.ownsRow_nil _ _ _ _, qin, cin, rin⟩, rfl⟩)
              clear m0)
 go_loopw [3] (fun v wr => ∃ (m : Nat) (acc : List Ru) (xs : List Value) (s : St), RowD w q c r K L 66 5 s acc.length (Zai acc) xs v wr ∧ 8 * Zw L s + 9 ≤ m ∧ m ≤ n ∧ acc.length + Zw L s ≤ Zw L st1 ∧ Vw 5 L n st1 = (acc ++ (Vw 5 L m s).1, (Vw 5 L m s).2)) (fun _ wr => remW q c wr)
 case atStart => exact ⟨n, [], [], st1, H0.out, HN.out.1, Nat.le_refl _, by simp, by simp⟩
 case round =>
   obtain ⟨m, acc, xs, s, hR, hm, hmn, hacc, heq⟩ := hrel
   obtain ⟨m, rfl⟩ : ∃ m', m = m' + 1 := ⟨m - 1, by omega⟩
   obtain ⟨A, cp, rfl, _, _, _⟩ := Xx hR.row.row
   have hcell := hR.row.mv.at_.cell
   have hrem := hR.row.mv.at_.rem
   have hpk := xPeek wr q c r K L s hR.row.mv.at_
   have hz0 := hR.row.mv.keeps.size
   have hfr := Ul (L := L) (ws := Xf) (st := s)
   have hfn := Jz L (ws := Xf) (st := s)
   have hst := rules_step 5 L m s
   have hsp := rules_stop 5 L m s
   have hfi : ∀ W G, G = W.heap.size → PAt W q c r K L s → Calls Tryz.prog 147 #[.pointer (some ⟨q, 0, none⟩), .slice (some ⟨G, 0, none⟩) 6 6] (W.alloc (.cells #[.string ⟨#[114, 101, 118, 101, 97, 108]⟩, .string ⟨#[100, 101, 97, 116, 104]⟩, .string ⟨#[109, 111, 118, 101, 100]⟩, .string ⟨#[101, 110, 100]⟩, .string ⟨#[97, 108, 119, 97, 121, 115]⟩, .string ⟨#[101, 110, 116, 101, 114]⟩] 9)) fun e w' => e = .returned (.int .i64 (Zm L Xf s : Int)) ∧ Yo W w' q c r K L (Yf L Xf s) := fun W G h2 h => xfindB W q c r K G L s Xf 6 6 _ rfl h2 h rfl (by decide)
   generalize s.tok L = tv at *
   unfold Ub at hpk
   generalize Zm L Xf s = k at *
   generalize Yf L Xf s = s1 at *
   have HR := Hh hR
   have HQ := Hh heq
   clear hR heq
   by_cases hk0 : k = 0
   · have HS := Hh (And.intro (hsp hk0) (hfn hk0))
     subst hk0
     rw [show ((0 : Nat) : Int) = 0 from rfl] at hfi
     have hw1 : ∀ w, PAt w q c r K L s1 → Calls Tryz.prog 178 #[.pointer (some ⟨q, 0, none⟩), .string ⟨#[125]⟩] w (Yg w q c r K L (Yz L We s1) (.tuple #[])) := fun w h => xwant w q c r K L s1 We h
     clear hst hsp hfn hfr hm hmn hacc hrem
     go_wp2_with (first
 | (go_at_call 133; refine hpk.mono ?_; rintro e w1 ⟨rfl, b1⟩
    have nb := Za w1 (.cells #[.int .i64 tv.k, .string tv.t, .int .i64 tv.n, .int .i64 (tv.line : Int), .int .i64 (tv.col : Int)] 85)
    have M1 := Hh ((HR.out.row.mv.next b1).next nb)
    have F1 := Hh (((Vh.start q c wr).next b1).next nb)
    have K1 := Hh (Zb.made w1 85 #[.int .i64 tv.k, .string tv.t, .int .i64 tv.n, .int .i64 (tv.line : Int), .int .i64 (tv.col : Int)])
    have hz1 : wr.heap.size ≤ w1.heap.size := b1.size
    clear b1 nb)
 | (go_at_call 147; refine (hfi _ _ ?_ M1.out.at_).mono ?_; simp; rintro e w2 ⟨rfl, m2⟩
    have M2 := Hh (M1.out.then m2)
    have F2 := Hh (F1.out.move m2); clear m2)
 | (go_at_call 178; refine (hw1 _ M2.out.at_).mono ?_; rintro e w3 ⟨rfl, m3⟩
    have M3 := Hh (M2.out.then m3)
    have F3 := Hh (F2.out.move m3); clear m3))
     go_ret
     obtain ⟨e1, e2⟩ := HS.out
     have R := HR.out.round F3.out M3.out
     rw [e2] at R
     rw [HQ.out, e1]
     dsimp only
     rw [List.append_nil]
     exact ⟨_, rfl, Zh.rowOf R.row.row (fun k hk => hk) (R.deep.mono fun k _ hk => hk.1), R.row.mv⟩
   · have hst := hst hk0
     have hfr := hfr hk0
     have q0 : ((k : Int) == 0) = false := by rw [beq_eq_false_iff_ne]; omega
     have hrs := rem_str L k s1
     have hra := Xw L Xt (strS L k s1)
     have hw1 : ∀ w, PAt w q c r K L (strS L k s1) → Calls Tryz.prog 178 #[.pointer (some ⟨q, 0, none⟩), .string ⟨#[123]⟩] w (Yg w q c r K L (Yz L Xt (strS L k s1)) (.tuple #[])) := fun w h => xwant w q c r K L _ Xt h
     generalize Yz L Xt (strS L k s1) = s3 at *
     have hac : ∀ w, PAt w q c r K L s3 → Calls Tryz.prog 211 #[.pointer (some ⟨q, 0, none⟩)] w (Zar w q c r K L (Xs 5 L m s3).2 (Xs 5 L m s3).1.len (Xs 5 L m s3).1.ds) := fun w h => xactss w q c r K L s3 m h (by omega) (by have := HN.out; omega)
     have hrx := rem_acts L 5 m s3
     generalize Xs 5 L m s3 = xa at *
     have hru := Xw L We xa.2
     have hw2 : ∀ w, PAt w q c r K L xa.2 → Calls Tryz.prog 178 #[.pointer (some ⟨q, 0, none⟩), .string ⟨#[125]⟩] w (Yg w q c r K L (Yz L We xa.2) (.tuple #[])) := fun w h => xwant w q c r K L _ We h
     generalize Yz L We xa.2 = s4 at *
     have hle4 : Zw L s4 ≤ Zw L s1 := by omega
     by_cases h5 : k = 5
     · have q5 : ((k : Int) == 5) = true := by rw [h5]; rfl
       have e1 : strS L k s1 = intS L s1 := if_pos h5
       have e2 : strN L k s1 = intN L s1 := if_pos h5
       rw [e1] at hw1
       rw [e2] at hst
       have hrd : ∀ w, PAt w q c r K L s1 → Calls Tryz.prog 179 #[.pointer (some ⟨q, 0, none⟩), .func (.func 180) #[Xz c s1] #[]] w (Yg w q c r K L (intS L s1) (.int .i64 (intN L s1))) := fun w h => xreadInt w q c r K L s1 h
       generalize intN L s1 = sm at *
       generalize intS L s1 = s2 at *
       have HT := Hh (And.intro hst (And.intro hm (And.intro hmn (And.intro hacc (And.intro hrem (And.intro hfr hle4))))))
       clear hst hsp hfn hm hmn hacc hrem hfr hrs hra hrx hru e1 e2 h5 hk0 hle4
       go_wp2_with (first
 | (go_at_call 133; refine hpk.mono ?_; rintro e w1 ⟨rfl, b1⟩
    have nb := Za w1 (.cells #[.int .i64 tv.k, .string tv.t, .int .i64 tv.n, .int .i64 (tv.line : Int), .int .i64 (tv.col : Int)] 85)
    have M1 := Hh ((HR.out.row.mv.next b1).next nb)
    have F1 := Hh (((Vh.start q c wr).next b1).next nb)
    have K1 := Hh (Zb.made w1 85 #[.int .i64 tv.k, .string tv.t, .int .i64 tv.n, .int .i64 (tv.line : Int), .int .i64 (tv.col : Int)])
    have hz1 : wr.heap.size ≤ w1.heap.size := b1.size
    clear b1 nb)
 | (go_at_call 147; refine (hfi _ _ ?_ M1.out.at_).mono ?_; simp; rintro e w2 ⟨rfl, m2⟩
    have K2 := m2.keeps.whole K1.out (by omega)
    have y3 : w2.cell? ⟨w1.heap.size, 3, none⟩ = some (.int .i64 (tv.line : Int)) := K2.read 3
    have y4 : w2.cell? ⟨w1.heap.size, 4, none⟩ = some (.int .i64 (tv.col : Int)) := K2.read 4
    have hz2 : w1.heap.size + 1 ≤ w2.heap.size := by have := m2.keeps.size; simp at this; omega
    have nb := Za w2 (.cells #[.int .i64 (k : Int), .int .i64 0, .int .i64 (tv.line : Int), .int .i64 (tv.col : Int), .slice none 0 0] 66)
    have M2 := Hh ((M1.out.then m2).next nb)
    have hcell := M2.out.at_.cell
    have F2 := Hh ((F1.out.move m2).next nb)
    have T2 := Hh (show Zb _ _ _ ([.int .i64 (k : Int), .int .i64 0, .int .i64 (tv.line : Int), .int .i64 (tv.col : Int), .slice none 0 0] : List Value).toArray from Zb.made w2 66 #[.int .i64 (k : Int), .int .i64 0, .int .i64 (tv.line : Int), .int .i64 (tv.col : Int), .slice none 0 0])
    clear m2 nb K2)
 | (go_at_call 179; refine (hrd _ M2.out.at_).mono ?_; rintro e w3 ⟨rfl, m3⟩
    have T3 := Hh (m3.keeps.whole T2.out (by omega))
    have F3 := Hh (F2.out.move m3)
    have M3 := Hh (M2.out.then m3)
    have hz3 : w2.heap.size + 1 ≤ w3.heap.size := by have := m3.keeps.size; (try simp at this); omega
    have hcell := M3.out.at_.cell
    clear m3)
 | ((with_reducible refine Zl 37 36 ?_); refine Zn 3 _ _ 66 (w2.heap.size) 1 [.int .i64 (k : Int)] (.int .i64 0) (.int .i64 sm) ([.int .i64 (tv.line : Int), .int .i64 (tv.col : Int), .slice none 0 0]) (show Zb _ _ _ _ from T3.out) rfl Yy rfl rfl rfl rfl rfl rfl ?_
    intro w4 p4
    have T4 := Hh (show Zb w4 (w2.heap.size) 66 ([.int .i64 (k : Int), .int .i64 sm, .int .i64 (tv.line : Int), .int .i64 (tv.col : Int), .slice none 0 0]).toArray from by first | exact p4.whole | simpa using p4.whole)
    have F4 := Hh (F3.out.put p4 (by omega))
    have M4 := Hh (M3.out.put p4 (by omega) qin cin rin)
    have hz4 := Nat.le_trans hz3 p4.keeps.size
    have hcell := M4.out.at_.cell
    clear p4)
 | (go_at_call 178; (with_reducible refine (hw1 _ ?_).mono ?_); exact M4.out.at_; rintro e w5 ⟨rfl, m5⟩
    have T5 := Hh (m5.keeps.whole T4.out (by omega))
    have F5 := Hh (F4.out.move m5)
    have M5 := Hh (M4.out.then m5)
    have hz5 := Nat.le_trans hz4 m5.keeps.size
    have hcell := M5.out.at_.cell
    clear m5)
 | (go_at_call 211; refine (hac _ M5.out.at_).mono ?_; rintro e w6 ⟨av, rfl, d6, m6⟩
    have T6 := Hh (m6.keeps.whole T5.out (by omega))
    have F6 := Hh (F5.out.move m6)
    have M6 := Hh (M5.out.then m6)
    have hz6 := Nat.le_trans hz5 m6.keeps.size
    have hcell := M6.out.at_.cell
    have A6 := Hh (d6.lower (show w2.heap.size + 1 ≤ _ by first | omega | (simp; done) | (simp; omega)))
    obtain ⟨Aa, Ac, rfl⟩ := A6.out.slice
    clear m6 d6)
 | ((with_reducible refine Zl 42 41 ?_); refine Zn 41 _ _ 66 (w2.heap.size) 4 [.int .i64 (k : Int), .int .i64 sm, .int .i64 (tv.line : Int), .int .i64 (tv.col : Int)] (.slice none 0 0) (.slice Aa xa.1.len Ac) ([]) (show Zb _ _ _ _ from T6.out) rfl size_acts rfl rfl rfl rfl rfl rfl ?_
    intro w7 p7
    have T7 := Hh (show Zb w7 (w2.heap.size) 66 ([.int .i64 (k : Int), .int .i64 sm, .int .i64 (tv.line : Int), .int .i64 (tv.col : Int), .slice Aa xa.1.len Ac]).toArray from by first | exact p7.whole | simpa using p7.whole)
    have F7 := Hh (F6.out.put p7 (by omega))
    have A7 := Hh (A6.out.put p7 (by omega))
    have M7 := Hh (M6.out.put p7 (by omega) qin cin rin)
    have hz7 := Nat.le_trans hz6 p7.keeps.size
    have hcell := M7.out.at_.cell
    clear p7)
 | (go_at_call 178; (with_reducible refine (hw2 _ ?_).mono ?_); exact M7.out.at_; rintro e w8 ⟨rfl, m8⟩
    have T8 := Hh (m8.keeps.whole T7.out (by omega))
    have F8 := Hh (F7.out.move m8)
    have A8 := Hh (A7.out.move m8 (by omega) (by omega))
    have M8 := Hh (M7.out.then m8)
    have hz8 := Nat.le_trans hz7 m8.keeps.size
    have hcell := M8.out.at_.cell
    clear m8)
 | ((with_reducible refine Ze 46 ?_); refine Zd 66 _ 66 (w2.heap.size) _ T8.out row_ru size_ru rfl rfl rfl ?_)
 | (at_builtin; refine Xm (.tmp 45) (.tmp 47) 33 66 5 56 _ und_rus info_ru rfl (by decide) (by decide) w.heap.size (.slice A acc.length cp) acc.length xs [.int .i64 (k : Int), .int .i64 sm, .int .i64 (tv.line : Int), .int .i64 (tv.col : Int), .slice Aa xa.1.len Ac] (HR.out.round (F8.out.next (Za _ (.cells [.int .i64 (k : Int), .int .i64 sm, .int .i64 (tv.line : Int), .int .i64 (tv.col : Int), .slice Aa xa.1.len Ac].toArray 66))) (M8.out.next (Za _ (.cells [.int .i64 (k : Int), .int .i64 sm, .int .i64 (tv.line : Int), .int .i64 (tv.col : Int), .slice Aa xa.1.len Ac].toArray 66)))).row.row w8.heap.size (Zb.made _ _ _) rfl (by simp [Value.oneCell']) (by have := HT.out.2.2.2.1; have := HN.out.2; omega) (by simp; omega) rfl rfl rfl rfl ?_
    intro v9 w9 o9 g9 at9
    have R9 := Hh ((HR.out.round (F8.out.next (Za _ (.cells [.int .i64 (k : Int), .int .i64 sm, .int .i64 (tv.line : Int), .int .i64 (tv.col : Int), .slice Aa xa.1.len Ac].toArray 66))) (M8.out.next (Za _ (.cells [.int .i64 (k : Int), .int .i64 sm, .int .i64 (tv.line : Int), .int .i64 (tv.col : Int), .slice Aa xa.1.len Ac].toArray 66)))).push o9 g9 at9 (((show Zh (fun k => w2.heap.size + 1 ≤ k) w8 (Ru.ds ⟨(k : Int), sm, (tv.line : Int), (tv.col : Int), xa.1⟩) [.int .i64 (k : Int), .int .i64 sm, .int .i64 (tv.line : Int), .int .i64 (tv.col : Int), .slice Aa xa.1.len Ac] from ⟨_, rfl, _, rfl, _, rfl, _, rfl, A8.out⟩).below (Za _ _)).mono fun k _ hk => ⟨by omega, fun c => by have := HR.out.row.row.lt _ c; omega⟩)); clear o9 g9 at9))
       go_roundw
       case rel =>
         obtain ⟨h1, h2, h3, h4, h5, h6, h7⟩ := HT.out
         refine ⟨m, acc ++ [⟨(k : Int), sm, (tv.line : Int), (tv.col : Int), xa.1⟩], xs ++ [.int .i64 (k : Int), .int .i64 sm, .int .i64 (tv.line : Int), .int .i64 (tv.col : Int), .slice Aa xa.1.len Ac], s4, ?_, ?_, ?_, ?_, ?_⟩
         · have R := R9.out
           rw [rusDs_snoc, List.length_append]; exact R
         · omega
         · omega
         · rw [List.length_append]; simp only [List.length_cons, List.length_nil]; omega
         · rw [HQ.out, h1]; simp
       case measure =>
         obtain ⟨h1, h2, h3, h4, h5, h6, h7⟩ := HT.out
         have := R9.out.row.mv.at_.rem
         rw [this, h5]; omega
     · have q5 : ((k : Int) == 5) = false := by rw [beq_eq_false_iff_ne]; omega
       have e1 : strS L k s1 = s1 := if_neg h5
       have e2 : strN L k s1 = 0 := if_neg h5
       rw [e1] at hw1
       rw [e2] at hst
       have HT := Hh (And.intro hst (And.intro hm (And.intro hmn (And.intro hacc (And.intro hrem (And.intro hfr hle4))))))
       clear hst hsp hfn hm hmn hacc hrem hfr hrs hra hrx hru e1 e2 h5 hk0 hle4
       go_wp2_with (first
 | (go_at_call 133; refine hpk.mono ?_; rintro e w1 ⟨rfl, b1⟩
    have nb := Za w1 (.cells #[.int .i64 tv.k, .string tv.t, .int .i64 tv.n, .int .i64 (tv.line : Int), .int .i64 (tv.col : Int)] 85)
    have M1 := Hh ((HR.out.row.mv.next b1).next nb)
    have F1 := Hh (((Vh.start q c wr).next b1).next nb)
    have K1 := Hh (Zb.made w1 85 #[.int .i64 tv.k, .string tv.t, .int .i64 tv.n, .int .i64 (tv.line : Int), .int .i64 (tv.col : Int)])
    have hz1 : wr.heap.size ≤ w1.heap.size := b1.size
    clear b1 nb)
 | (go_at_call 147; refine (hfi _ _ ?_ M1.out.at_).mono ?_; simp; rintro e w2 ⟨rfl, m2⟩
    have K2 := m2.keeps.whole K1.out (by omega)
    have y3 : w2.cell? ⟨w1.heap.size, 3, none⟩ = some (.int .i64 (tv.line : Int)) := K2.read 3
    have y4 : w2.cell? ⟨w1.heap.size, 4, none⟩ = some (.int .i64 (tv.col : Int)) := K2.read 4
    have hz2 : w1.heap.size + 1 ≤ w2.heap.size := by have := m2.keeps.size; simp at this; omega
    have nb := Za w2 (.cells #[.int .i64 (k : Int), .int .i64 0, .int .i64 (tv.line : Int), .int .i64 (tv.col : Int), .slice none 0 0] 66)
    have M2 := Hh ((M1.out.then m2).next nb)
    have hcell := M2.out.at_.cell
    have F2 := Hh ((F1.out.move m2).next nb)
    have T2 := Hh (show Zb _ _ _ ([.int .i64 (k : Int), .int .i64 0, .int .i64 (tv.line : Int), .int .i64 (tv.col : Int), .slice none 0 0] : List Value).toArray from Zb.made w2 66 #[.int .i64 (k : Int), .int .i64 0, .int .i64 (tv.line : Int), .int .i64 (tv.col : Int), .slice none 0 0])
    clear m2 nb K2)
 | (go_at_call 178; (with_reducible refine (hw1 _ ?_).mono ?_); exact M2.out.at_; rintro e w3 ⟨rfl, m3⟩
    have T3 := Hh (m3.keeps.whole T2.out (by omega))
    have F3 := Hh (F2.out.move m3)
    have M3 := Hh (M2.out.then m3)
    have hz3 : w2.heap.size + 1 ≤ w3.heap.size := by have := m3.keeps.size; (try simp at this); omega
    have hcell := M3.out.at_.cell
    clear m3)
 | (go_at_call 211; refine (hac _ M3.out.at_).mono ?_; rintro e w4 ⟨av, rfl, d4, m4⟩
    have T4 := Hh (m4.keeps.whole T3.out (by omega))
    have F4 := Hh (F3.out.move m4)
    have M4 := Hh (M3.out.then m4)
    have hz4 := Nat.le_trans hz3 m4.keeps.size
    have hcell := M4.out.at_.cell
    have A4 := Hh (d4.lower (show w2.heap.size + 1 ≤ _ by first | omega | (simp; done) | (simp; omega)))
    obtain ⟨Aa, Ac, rfl⟩ := A4.out.slice
    clear m4 d4)
 | ((with_reducible refine Zl 42 41 ?_); refine Zn 41 _ _ 66 (w2.heap.size) 4 [.int .i64 (k : Int), .int .i64 0, .int .i64 (tv.line : Int), .int .i64 (tv.col : Int)] (.slice none 0 0) (.slice Aa xa.1.len Ac) ([]) (show Zb _ _ _ _ from T4.out) rfl size_acts rfl rfl rfl rfl rfl rfl ?_
    intro w5 p5
    have T5 := Hh (show Zb w5 (w2.heap.size) 66 ([.int .i64 (k : Int), .int .i64 0, .int .i64 (tv.line : Int), .int .i64 (tv.col : Int), .slice Aa xa.1.len Ac]).toArray from by first | exact p5.whole | simpa using p5.whole)
    have F5 := Hh (F4.out.put p5 (by omega))
    have A5 := Hh (A4.out.put p5 (by omega))
    have M5 := Hh (M4.out.put p5 (by omega) qin cin rin)
    have hz5 := Nat.le_trans hz4 p5.keeps.size
    have hcell := M5.out.at_.cell
    clear p5)
 | (go_at_call 178; (with_reducible refine (hw2 _ ?_).mono ?_); exact M5.out.at_; rintro e w6 ⟨rfl, m6⟩
    have T6 := Hh (m6.keeps.whole T5.out (by omega))
    have F6 := Hh (F5.out.move m6)
    have A6 := Hh (A5.out.move m6 (by omega) (by omega))
    have M6 := Hh (M5.out.then m6)
    have hz6 := Nat.le_trans hz5 m6.keeps.size
    have hcell := M6.out.at_.cell
    clear m6)
 | ((with_reducible refine Ze 46 ?_); refine Zd 66 _ 66 (w2.heap.size) _ T6.out row_ru size_ru rfl rfl rfl ?_)
 | (at_builtin; refine Xm (.tmp 45) (.tmp 47) 33 66 5 56 _ und_rus info_ru rfl (by decide) (by decide) w.heap.size (.slice A acc.length cp) acc.length xs [.int .i64 (k : Int), .int .i64 0, .int .i64 (tv.line : Int), .int .i64 (tv.col : Int), .slice Aa xa.1.len Ac] (HR.out.round (F6.out.next (Za _ (.cells [.int .i64 (k : Int), .int .i64 0, .int .i64 (tv.line : Int), .int .i64 (tv.col : Int), .slice Aa xa.1.len Ac].toArray 66))) (M6.out.next (Za _ (.cells [.int .i64 (k : Int), .int .i64 0, .int .i64 (tv.line : Int), .int .i64 (tv.col : Int), .slice Aa xa.1.len Ac].toArray 66)))).row.row w6.heap.size (Zb.made _ _ _) rfl (by simp [Value.oneCell']) (by have := HT.out.2.2.2.1; have := HN.out.2; omega) (by simp; omega) rfl rfl rfl rfl ?_
    intro v9 w9 o9 g9 at9
    have R9 := Hh ((HR.out.round (F6.out.next (Za _ (.cells [.int .i64 (k : Int), .int .i64 0, .int .i64 (tv.line : Int), .int .i64 (tv.col : Int), .slice Aa xa.1.len Ac].toArray 66))) (M6.out.next (Za _ (.cells [.int .i64 (k : Int), .int .i64 0, .int .i64 (tv.line : Int), .int .i64 (tv.col : Int), .slice Aa xa.1.len Ac].toArray 66)))).push o9 g9 at9 (((show Zh (fun k => w2.heap.size + 1 ≤ k) w6 (Ru.ds ⟨(k : Int), 0, (tv.line : Int), (tv.col : Int), xa.1⟩) [.int .i64 (k : Int), .int .i64 0, .int .i64 (tv.line : Int), .int .i64 (tv.col : Int), .slice Aa xa.1.len Ac] from ⟨_, rfl, _, rfl, _, rfl, _, rfl, A6.out⟩).below (Za _ _)).mono fun k _ hk => ⟨by omega, fun c => by have := HR.out.row.row.lt _ c; omega⟩)); clear o9 g9 at9))
       go_roundw
       case rel =>
         obtain ⟨h1, h2, h3, h4, h5, h6, h7⟩ := HT.out
         refine ⟨m, acc ++ [⟨(k : Int), 0, (tv.line : Int), (tv.col : Int), xa.1⟩], xs ++ [.int .i64 (k : Int), .int .i64 0, .int .i64 (tv.line : Int), .int .i64 (tv.col : Int), .slice Aa xa.1.len Ac], s4, ?_, ?_, ?_, ?_, ?_⟩
         · have R := R9.out
           rw [rusDs_snoc, List.length_append]; exact R
         · omega
         · omega
         · rw [List.length_append]; simp only [List.length_cons, List.length_nil]; omega
         · rw [HQ.out, h1]; simp
       case measure =>
         obtain ⟨h1, h2, h3, h4, h5, h6, h7⟩ := HT.out
         have := R9.out.row.mv.at_.rem
         rw [this, h5]; omega
def Ca.ds (x : Ca) : Ds := .str x.name (.int x.cost (.int x.power (.int x.line (.int x.col (.row x.rules.length (Zai x.rules) .nil)))))
def Pl.ds (x : Pl) : Ds := .str x.name (.int x.line (.int x.col (.row x.rules.length (Zai x.rules) .nil)))
def casDs : List Ca → Ds
 | [] => .nil
 | x :: r => x.ds.app (casDs r)
def plsDs : List Pl → Ds
 | [] => .nil
 | x :: r => x.ds.app (plsDs r)
theorem casDs_snoc (x : Ca) : ∀ l : List Ca, casDs (l ++ [x]) = (casDs l).app x.ds
 | [] => Ds.app_nil _
 | y :: l => by show y.ds.app (casDs (l ++ [x])) = (y.ds.app (casDs l)).app x.ds; rw [casDs_snoc x l, Ds.app_assoc]
theorem plsDs_snoc (x : Pl) : ∀ l : List Pl, plsDs (l ++ [x]) = (plsDs l).app x.ds
 | [] => Ds.app_nil _
 | y :: l => by show y.ds.app (plsDs (l ++ [x])) = (y.ds.app (plsDs l)).app x.ds; rw [plsDs_snoc x l, Ds.app_assoc]
def Fi.ds (x : Fi) : Ds := .row x.cards.length (casDs x.cards) (.row x.places.length (plsDs x.places) .nil)
theorem und_cas : Tryz.prog.underlying 23 = some (.slice 35) := by kernel_rfl
theorem und_pls : Tryz.prog.underlying 24 = some (.slice 38) := by kernel_rfl
theorem info_ca : (Tryz.prog.info? 35).map (fun i => (i.zero, i.size, i.bytes)) = some (some (.agg #[.string ⟨#[]⟩, .int .i64 0, .int .i64 0, .int .i64 0, .int .i64 0, .slice none 0 0]), 6, 72) := by kernel_rfl
theorem info_pl : (Tryz.prog.info? 38).map (fun i => (i.zero, i.size, i.bytes)) = some (some (.agg #[.string ⟨#[]⟩, .int .i64 0, .int .i64 0, .slice none 0 0]), 4, 56) := by kernel_rfl
theorem size_cas : (Tryz.prog.info? 23).map (·.size) = some 1 := by kernel_rfl
theorem size_pls : (Tryz.prog.info? 24).map (·.size) = some 1 := by kernel_rfl
theorem row_fi : (Tryz.prog.underlying 26).map TypeDesc.isRow = some true := by kernel_rfl
theorem Jq : (Tryz.prog.info? 26).map (·.size) = some 2 := by kernel_rfl
theorem xcard (w : World) (q c r K : Nat) (L : List TokV) (st : St) (n : Nat) (h : PAt w q c r K L st) (hn : 8 * Zw L st + 9 ≤ n) (hLn : Zw L st ≤ 68719476736) :
   Calls Tryz.prog 137 #[.pointer (some ⟨q, 0, none⟩)] w (Yl w q c r K L (Uj 5 L n 0 0 st).2 (Uj 5 L n 0 0 st).1.ds) := by
 have qin := h.whole.inside
 have cin := h.cin
 have rin := h.rin
 have nb := Za w (.cells #[.string ⟨#[]⟩, .int .i64 0, .int .i64 0, .int .i64 0, .int .i64 0, .slice none 0 0] 35)
 have nb2 := Za (w.alloc (.cells #[.string ⟨#[]⟩, .int .i64 0, .int .i64 0, .int .i64 0, .int .i64 0, .slice none 0 0] 35)) (.cells #[.string ⟨#[]⟩, .int .i64 0, .int .i64 0, .int .i64 0, .int .i64 0, .slice none 0 0] 35)
 have M0 := Hh (((Yo.start h).next nb).next nb2)
 have R0 := Hh (show Zb _ w.heap.size 35 ([.string ⟨#[]⟩, .int .i64 0, .int .i64 0, .int .i64 0, .int .i64 0, .slice none 0 0]).toArray from (Zb.made w 35 #[.string ⟨#[]⟩, .int .i64 0, .int .i64 0, .int .i64 0, .int .i64 0, .slice none 0 0]).alloc (.cells #[.string ⟨#[]⟩, .int .i64 0, .int .i64 0, .int .i64 0, .int .i64 0, .slice none 0 0] 35))
 have T0 := Hh (show Zb _ (w.heap.size + 1) 35 ([.string ⟨#[]⟩, .int .i64 0, .int .i64 0, .int .i64 0, .int .i64 0, .slice none 0 0]).toArray from by have e := Zb.made (w.alloc (.cells #[.string ⟨#[]⟩, .int .i64 0, .int .i64 0, .int .i64 0, .int .i64 0, .slice none 0 0] 35)) 35 #[.string ⟨#[]⟩, .int .i64 0, .int .i64 0, .int .i64 0, .int .i64 0, .slice none 0 0]; rw [World.size_alloc] at e; exact e)
 clear nb nb2
 have hcell := M0.out.at_.cell
 unfold Uj
 have r1 := Jk L st
 have h1 : ∀ w, PAt w q c r K L st → Calls Tryz.prog 176 #[.pointer (some ⟨q, 0, none⟩), .func (.func 177) #[Xz c st] #[]] w (Yg w q c r K L (Wm L st) (.string (nameN L st))) := fun w h => xreadName w q c r K L st h
 generalize nameN L st = nm at *
 generalize Wm L st = s1 at *
 have r2 := Xw L sCost s1
 have h2 : ∀ w, PAt w q c r K L s1 → Calls Tryz.prog 178 #[.pointer (some ⟨q, 0, none⟩), .string ⟨#[99, 111, 115, 116]⟩] w (Yg w q c r K L (Yz L sCost s1) (.tuple #[])) := fun w h => xwant w q c r K L _ sCost h
 generalize Yz L sCost s1 = s2 at *
 have r3 := rem_int L s2
 have h3 : ∀ w, PAt w q c r K L s2 → Calls Tryz.prog 179 #[.pointer (some ⟨q, 0, none⟩), .func (.func 180) #[Xz c s2] #[]] w (Yg w q c r K L (intS L s2) (.int .i64 (intN L s2))) := fun w h => xreadInt w q c r K L s2 h
 generalize intN L s2 = co at *
 generalize intS L s2 = s3 at *
 have r4 := Xw L sPower s3
 have h4 : ∀ w, PAt w q c r K L s3 → Calls Tryz.prog 178 #[.pointer (some ⟨q, 0, none⟩), .string ⟨#[112, 111, 119, 101, 114]⟩] w (Yg w q c r K L (Yz L sPower s3) (.tuple #[])) := fun w h => xwant w q c r K L _ sPower h
 generalize Yz L sPower s3 = s4 at *
 have r5 := rem_sign L s4
 have h5 : ∀ w, PAt w q c r K L s4 → Calls Tryz.prog 179 #[.pointer (some ⟨q, 0, none⟩), .func (.func 181) #[Xz c s4] #[]] w (Yg w q c r K L (Jx L s4) (.int .i64 (signN L s4))) := fun w h => xreadSigned w q c r K L s4 h
 generalize signN L s4 = pw at *
 generalize Jx L s4 = s5 at *
 have h6 : ∀ w, PAt w q c r K L s5 → Calls Tryz.prog 182 #[.pointer (some ⟨q, 0, none⟩)] w (Zar w q c r K L (Jg 5 L n s5).2 (Jg 5 L n s5).1.length (Zai (Jg 5 L n s5).1)) := fun w h => xrules n w q c r K L s5 h (by omega) (by omega)
 generalize Jg 5 L n s5 = x6 at *
 clear h hn hLn r1 r2 r3 r4 r5
 go_enter Tryz.func137, Tryz.ntmps137
 go_wp2_with (first
 | (go_at_call 176; refine (h1 _ M0.out.at_).mono ?_; rintro e w1 ⟨rfl, m1⟩
    have R1 := Hh (m1.keeps.whole R0.out (by omega))
    have T1 := Hh (m1.keeps.whole T0.out (by omega))
    have M1 := Hh (M0.out.then m1)
    have hz1 : w.heap.size + 2 ≤ w1.heap.size := by have := m1.keeps.size; (try simp at this); omega
    have hcell := M1.out.at_.cell
    clear m1)
 | ((with_reducible refine Zl 11 10 ?_); refine Zn 9 _ _ 35 (w.heap.size + 1) 0 [] (.string ⟨#[]⟩) (.string nm) ([.int .i64 0, .int .i64 0, .int .i64 0, .int .i64 0, .slice none 0 0]) (show Zb _ _ _ _ from T1.out) rfl size_str rfl rfl rfl rfl rfl rfl ?_
    intro w2 p2
    have T2 := Hh (show Zb w2 (w.heap.size + 1) 35 ([.string nm, .int .i64 0, .int .i64 0, .int .i64 0, .int .i64 0, .slice none 0 0]).toArray from by first | exact p2.whole | simpa using p2.whole)
    have R2 := Hh (p2.keeps.whole R1.out (by omega))
    have M2 := Hh (M1.out.put p2 (by omega) qin cin rin)
    have hz2 := Nat.le_trans hz1 p2.keeps.size
    have hcell := M2.out.at_.cell
    clear p2)
 | (go_at_call 178; (with_reducible refine (h2 _ ?_).mono ?_); exact M2.out.at_; rintro e w3 ⟨rfl, m3⟩
    have R3 := Hh (m3.keeps.whole R2.out (by omega))
    have T3 := Hh (m3.keeps.whole T2.out (by omega))
    have M3 := Hh (M2.out.then m3)
    have hz3 := Nat.le_trans hz2 m3.keeps.size
    have hcell := M3.out.at_.cell
    clear m3)
 | (go_at_call 179; (with_reducible refine (h3 _ ?_).mono ?_); exact M3.out.at_; rintro e w4 ⟨rfl, m4⟩
    have R4 := Hh (m4.keeps.whole R3.out (by omega))
    have T4 := Hh (m4.keeps.whole T3.out (by omega))
    have M4 := Hh (M3.out.then m4)
    have hz4 := Nat.le_trans hz3 m4.keeps.size
    have hcell := M4.out.at_.cell
    clear m4)
 | ((with_reducible refine Zl 21 20 ?_); refine Zn 3 _ _ 35 (w.heap.size + 1) 1 [.string nm] (.int .i64 0) (.int .i64 co) ([.int .i64 0, .int .i64 0, .int .i64 0, .slice none 0 0]) (show Zb _ _ _ _ from T4.out) rfl Yy rfl rfl rfl rfl rfl rfl ?_
    intro w5 p5
    have T5 := Hh (show Zb w5 (w.heap.size + 1) 35 ([.string nm, .int .i64 co, .int .i64 0, .int .i64 0, .int .i64 0, .slice none 0 0]).toArray from by first | exact p5.whole | simpa using p5.whole)
    have R5 := Hh (p5.keeps.whole R4.out (by omega))
    have M5 := Hh (M4.out.put p5 (by omega) qin cin rin)
    have hz5 := Nat.le_trans hz4 p5.keeps.size
    have hcell := M5.out.at_.cell
    clear p5)
 | (go_at_call 178; (with_reducible refine (h4 _ ?_).mono ?_); exact M5.out.at_; rintro e w6 ⟨rfl, m6⟩
    have R6 := Hh (m6.keeps.whole R5.out (by omega))
    have T6 := Hh (m6.keeps.whole T5.out (by omega))
    have M6 := Hh (M5.out.then m6)
    have hz6 := Nat.le_trans hz5 m6.keeps.size
    have hcell := M6.out.at_.cell
    clear m6)
 | (go_at_call 179; (with_reducible refine (h5 _ ?_).mono ?_); exact M6.out.at_; rintro e w7 ⟨rfl, m7⟩
    have R7 := Hh (m7.keeps.whole R6.out (by omega))
    have T7 := Hh (m7.keeps.whole T6.out (by omega))
    have M7 := Hh (M6.out.then m7)
    have hz7 := Nat.le_trans hz6 m7.keeps.size
    have hcell := M7.out.at_.cell
    clear m7)
 | ((with_reducible refine Zl 31 30 ?_); refine Zn 3 _ _ 35 (w.heap.size + 1) 2 [.string nm, .int .i64 co] (.int .i64 0) (.int .i64 pw) ([.int .i64 0, .int .i64 0, .slice none 0 0]) (show Zb _ _ _ _ from T7.out) rfl Yy rfl rfl rfl rfl rfl rfl ?_
    intro w8 p8
    have T8 := Hh (show Zb w8 (w.heap.size + 1) 35 ([.string nm, .int .i64 co, .int .i64 pw, .int .i64 0, .int .i64 0, .slice none 0 0]).toArray from by first | exact p8.whole | simpa using p8.whole)
    have R8 := Hh (p8.keeps.whole R7.out (by omega))
    have M8 := Hh (M7.out.put p8 (by omega) qin cin rin)
    have hz8 := Nat.le_trans hz7 p8.keeps.size
    have hcell := M8.out.at_.cell
    clear p8)
 | (go_at_call 182; refine (h6 _ M8.out.at_).mono ?_; rintro e w9 ⟨av, rfl, d9, m9⟩
    have R9 := Hh (m9.keeps.whole R8.out (by omega))
    have T9 := Hh (m9.keeps.whole T8.out (by omega))
    have M9 := Hh (M8.out.then m9)
    have hz9 := Nat.le_trans hz8 m9.keeps.size
    have hcell := M9.out.at_.cell
    have A9 := Hh (d9.lower (show w.heap.size + 2 ≤ _ by first | omega | (simp; done) | (simp; omega)))
    obtain ⟨Aa, Ac, rfl⟩ := A9.out.slice
    clear m9 d9)
 | ((with_reducible refine Zl 34 33 ?_); refine Zn 33 _ _ 35 (w.heap.size + 1) 5 [.string nm, .int .i64 co, .int .i64 pw, .int .i64 0, .int .i64 0] (.slice none 0 0) (.slice Aa x6.1.length Ac) ([]) (show Zb _ _ _ _ from T9.out) rfl size_rus rfl rfl rfl rfl rfl rfl ?_
    intro w10 p10
    have T10 := Hh (show Zb w10 (w.heap.size + 1) 35 ([.string nm, .int .i64 co, .int .i64 pw, .int .i64 0, .int .i64 0, .slice Aa x6.1.length Ac]).toArray from by first | exact p10.whole | simpa using p10.whole)
    have R10 := Hh (p10.keeps.whole R9.out (by omega))
    have A10 := Hh (A9.out.put p10 (by omega))
    have M10 := Hh (M9.out.put p10 (by omega) qin cin rin)
    have hz10 := Nat.le_trans hz9 p10.keeps.size
    have hcell := M10.out.at_.cell
    clear p10)
 | ((with_reducible refine Ze 35 ?_); refine Zd 35 _ 35 (w.heap.size + 1) _ T10.out row_ca size_ca rfl rfl rfl ?_)
 | ((with_reducible refine Zl 2 35 ?_); refine Zc 35 _ _ 35 (w.heap.size) _ ([.string nm, .int .i64 co, .int .i64 pw, .int .i64 0, .int .i64 0, .slice Aa x6.1.length Ac]) R10.out rfl size_ca (by simp [Value.oneCell']) rfl rfl rfl rfl rfl ?_
    intro w11 p11
    have R11 := Hh p11.whole
    have T11 := Hh (p11.keeps.whole T10.out (by omega))
    have A11 := Hh (A10.out.put p11 (by omega))
    have M11 := Hh (M10.out.put p11 (by omega) qin cin rin)
    have hz11 := Nat.le_trans hz10 p11.keeps.size
    have hcell := M11.out.at_.cell
    clear p11))
 exact Zs 2 35 35 w.heap.size _ rfl R11.out row_ca size_ca rfl rfl ⟨_, rfl, ⟨_, rfl, _, rfl, _, rfl, _, rfl, _, rfl, A11.out.lower (by omega)⟩, M11.out⟩
theorem xplace (w : World) (q c r K : Nat) (L : List TokV) (st : St) (n : Nat) (h : PAt w q c r K L st) (hn : 8 * Zw L st + 9 ≤ n) (hLn : Zw L st ≤ 68719476736) :
   Calls Tryz.prog 138 #[.pointer (some ⟨q, 0, none⟩)] w (Yl w q c r K L (Vj 5 L n 0 0 st).2 (Vj 5 L n 0 0 st).1.ds) := by
 have qin := h.whole.inside
 have cin := h.cin
 have rin := h.rin
 have nb := Za w (.cells #[.string ⟨#[]⟩, .int .i64 0, .int .i64 0, .slice none 0 0] 38)
 have nb2 := Za (w.alloc (.cells #[.string ⟨#[]⟩, .int .i64 0, .int .i64 0, .slice none 0 0] 38)) (.cells #[.string ⟨#[]⟩, .int .i64 0, .int .i64 0, .slice none 0 0] 38)
 have M0 := Hh (((Yo.start h).next nb).next nb2)
 have R0 := Hh (show Zb _ w.heap.size 38 ([.string ⟨#[]⟩, .int .i64 0, .int .i64 0, .slice none 0 0]).toArray from (Zb.made w 38 #[.string ⟨#[]⟩, .int .i64 0, .int .i64 0, .slice none 0 0]).alloc (.cells #[.string ⟨#[]⟩, .int .i64 0, .int .i64 0, .slice none 0 0] 38))
 have T0 := Hh (show Zb _ (w.heap.size + 1) 38 ([.string ⟨#[]⟩, .int .i64 0, .int .i64 0, .slice none 0 0]).toArray from by have e := Zb.made (w.alloc (.cells #[.string ⟨#[]⟩, .int .i64 0, .int .i64 0, .slice none 0 0] 38)) 38 #[.string ⟨#[]⟩, .int .i64 0, .int .i64 0, .slice none 0 0]; rw [World.size_alloc] at e; exact e)
 clear nb nb2
 have hcell := M0.out.at_.cell
 unfold Vj
 have r1 := Jk L st
 have h1 : ∀ w, PAt w q c r K L st → Calls Tryz.prog 176 #[.pointer (some ⟨q, 0, none⟩), .func (.func 177) #[Xz c st] #[]] w (Yg w q c r K L (Wm L st) (.string (nameN L st))) := fun w h => xreadName w q c r K L st h
 generalize nameN L st = nm at *
 generalize Wm L st = s1 at *
 have h6 : ∀ w, PAt w q c r K L s1 → Calls Tryz.prog 182 #[.pointer (some ⟨q, 0, none⟩)] w (Zar w q c r K L (Jg 5 L n s1).2 (Jg 5 L n s1).1.length (Zai (Jg 5 L n s1).1)) := fun w h => xrules n w q c r K L s1 h (by omega) (by omega)
 generalize Jg 5 L n s1 = x6 at *
 clear h hn hLn r1
 go_enter Tryz.func138, Tryz.ntmps138
 go_wp2_with (first
 | (go_at_call 176; refine (h1 _ M0.out.at_).mono ?_; rintro e w1 ⟨rfl, m1⟩
    have R1 := Hh (m1.keeps.whole R0.out (by omega))
    have T1 := Hh (m1.keeps.whole T0.out (by omega))
    have M1 := Hh (M0.out.then m1)
    have hz1 : w.heap.size + 2 ≤ w1.heap.size := by have := m1.keeps.size; (try simp at this); omega
    have hcell := M1.out.at_.cell
    clear m1)
 | ((with_reducible refine Zl 11 10 ?_); refine Zn 9 _ _ 38 (w.heap.size + 1) 0 [] (.string ⟨#[]⟩) (.string nm) ([.int .i64 0, .int .i64 0, .slice none 0 0]) (show Zb _ _ _ _ from T1.out) rfl size_str rfl rfl rfl rfl rfl rfl ?_
    intro w2 p2
    have T2 := Hh (show Zb w2 (w.heap.size + 1) 38 ([.string nm, .int .i64 0, .int .i64 0, .slice none 0 0]).toArray from by first | exact p2.whole | simpa using p2.whole)
    have R2 := Hh (p2.keeps.whole R1.out (by omega))
    have M2 := Hh (M1.out.put p2 (by omega) qin cin rin)
    have hz2 := Nat.le_trans hz1 p2.keeps.size
    have hcell := M2.out.at_.cell
    clear p2)
 | (go_at_call 182; refine (h6 _ M2.out.at_).mono ?_; rintro e w3 ⟨av, rfl, d3, m3⟩
    have R3 := Hh (m3.keeps.whole R2.out (by omega))
    have T3 := Hh (m3.keeps.whole T2.out (by omega))
    have M3 := Hh (M2.out.then m3)
    have hz3 := Nat.le_trans hz2 m3.keeps.size
    have hcell := M3.out.at_.cell
    have A3 := Hh (d3.lower (show w.heap.size + 2 ≤ _ by first | omega | (simp; done) | (simp; omega)))
    obtain ⟨Aa, Ac, rfl⟩ := A3.out.slice
    clear m3 d3)
 | ((with_reducible refine Zl 14 13 ?_); refine Zn 33 _ _ 38 (w.heap.size + 1) 3 [.string nm, .int .i64 0, .int .i64 0] (.slice none 0 0) (.slice Aa x6.1.length Ac) ([]) (show Zb _ _ _ _ from T3.out) rfl size_rus rfl rfl rfl rfl rfl rfl ?_
    intro w4 p4
    have T4 := Hh (show Zb w4 (w.heap.size + 1) 38 ([.string nm, .int .i64 0, .int .i64 0, .slice Aa x6.1.length Ac]).toArray from by first | exact p4.whole | simpa using p4.whole)
    have R4 := Hh (p4.keeps.whole R3.out (by omega))
    have A4 := Hh (A3.out.put p4 (by omega))
    have M4 := Hh (M3.out.put p4 (by omega) qin cin rin)
    have hz4 := Nat.le_trans hz3 p4.keeps.size
    have hcell := M4.out.at_.cell
    clear p4)
 | ((with_reducible refine Ze 15 ?_); refine Zd 38 _ 38 (w.heap.size + 1) _ T4.out row_pl size_pl rfl rfl rfl ?_)
 | ((with_reducible refine Zl 2 15 ?_); refine Zc 38 _ _ 38 (w.heap.size) _ ([.string nm, .int .i64 0, .int .i64 0, .slice Aa x6.1.length Ac]) R4.out rfl size_pl (by simp [Value.oneCell']) rfl rfl rfl rfl rfl ?_
    intro w5 p5
    have R5 := Hh p5.whole
    have T5 := Hh (p5.keeps.whole T4.out (by omega))
    have A5 := Hh (A4.out.put p5 (by omega))
    have M5 := Hh (M4.out.put p5 (by omega) qin cin rin)
    have hz5 := Nat.le_trans hz4 p5.keeps.size
    have hcell := M5.out.at_.cell
    clear p5))
 exact Zs 2 38 38 w.heap.size _ rfl R5.out row_pl size_pl rfl rfl ⟨_, rfl, ⟨_, rfl, _, rfl, _, rfl, A5.out.lower (by omega)⟩, M5.out⟩
end Go.Proofs.YtljdgdphldckhaaGreat
