/-
  Texts SynA1. No conditions but those that each theorem names.
-/
import Derived.Test.YtdhmklnfiaahhaaGreatQP14
namespace Go.Proofs.YtdhmklnfiaahhaaGreat
open Go.ChangeShapes Go.WideShapes Go.ChangeAt Go.RowKit
set_option maxRecDepth 20000
set_option maxHeartbeats 12800000
set_option linter.unusedVariables false
set_option linter.unusedSimpArgs false
theorem exprs_all : ∀ n m : Nat, m ≤ n → ExprOK m ∧ ProdOK m ∧ FactOK m := by
 intro n
 induction n with
 | zero =>
   intro m hm
   obtain rfl : m = 0 := by omega
   exact ⟨fun w q c r K L st h hn _ => absurd hn (by omega), fun w q c r K L st h hn _ => absurd hn (by omega), fun w q c r K L st h hn _ => absurd hn (by omega)⟩
 | succ n ih =>
   intro m hm
   by_cases e : m ≤ n
   · exact ih m e
   · obtain rfl : m = n + 1 := by omega
     exact ⟨xexpr n fun k hk => (ih k hk).2.1, xproduct n fun k hk => (ih k hk).2.2, xfact n (ih n (Nat.le_refl _)).1⟩
theorem xexprs (w : World) (q c r K : Nat) (L : List TokV) (st : St) (n : Nat) (h : PAt w q c r K L st) (hn : 4 * Zw L st + 3 ≤ n) (hLn : Zw L st ≤ 68719476736) :
   Calls Tryz.prog 88 #[.pointer (some ⟨q, 0, none⟩)] w (Yl w q c r K L (Yq 5 L n st).2 (Yq 5 L n st).1.ds) := (exprs_all n n (Nat.le_refl _)).1 w q c r K L st h hn hLn
def Wh (cop : Int) (cl cr : List Value) : List Value := .int .i64 cop :: (cl ++ cr)
def Zz (k l c : Int) (sel num : List Value) (sd tk tl how : Int) (nm : ByteArray) (cop : Int) (cl cr : List Value) (thn els : Value) : List Value :=
 .int .i64 k :: .int .i64 l :: .int .i64 c :: (sel ++ (num ++ (.int .i64 sd :: .int .i64 tk :: .int .i64 tl :: .int .i64 how :: .string nm :: .int .i64 cop :: (cl ++ (cr ++ [thn, els])))))
def AH.dsr (h : AH) (tn : Nat) (t : Ds) (en : Nat) (e : Ds) : Ds :=
 .int h.kind (.int h.line (.int h.col (h.sel.ds.app (h.num.ds.app (.int h.side (.int h.tk (.int h.tl (.int h.how (.str h.name (.int h.cop (h.cl.ds.app (h.cr.ds.app (.row tn t (.row en e .nil))))))))))))))
def Acs.ds : Acs → Ds
 | .nil => .nil
 | .cons h t e r => (h.dsr t.len t.ds e.len e.ds).app r.ds
theorem AH.dsr_len (h : AH) (tn : Nat) (t : Ds) (en : Nat) (e : Ds) : (h.dsr tn t en e).len = 53 := by
 simp only [AH.dsr, Ds.len, Ds.len_app, Ex.ds_len, Se.ds_len]
theorem Zv {N : Nat → Prop} {w : World} (k l c sd tk tl how cop : Int) (nm : ByteArray) {s : Se} {e x y : Ex} {sel num cl cr : List Value} (h1 : Zi N w s.ds sel) (h2 : Zi N w e.ds num) (h3 : Zi N w x.ds cl) (h4 : Zi N w y.ds cr)
   {tn en : Nat} {t u : Ds} {thn els : Value} (h5 : Zi N w (.row tn t .nil) [thn]) (h6 : Zi N w (.row en u .nil) [els]) :
   Zi N w ((⟨k, l, c, s, e, sd, tk, tl, how, nm, cop, x, y⟩ : AH).dsr tn t en u) (Zz k l c sel num sd tk tl how nm cop cl cr thn els) := by
 have h7 : Zi N w (.row tn t (.row en u .nil)) [thn, els] := Zi.app (x := .row tn t .nil) h6 h5
 have a2 := Zi.app (Zi.app h7 h4) h3
 have a3 : Zi N w (.int sd (.int tk (.int tl (.int how (.str nm (.int cop (x.ds.app (y.ds.app (.row tn t (.row en u .nil)))))))))) (.int .i64 sd :: .int .i64 tk :: .int .i64 tl :: .int .i64 how :: .string nm :: .int .i64 cop :: (cl ++ (cr ++ [thn, els]))) := ⟨_, rfl, _, rfl, _, rfl, _, rfl, _, rfl, _, rfl, a2⟩
 exact ⟨_, rfl, _, rfl, _, rfl, Zi.app (Zi.app a3 h2) h1⟩
theorem Zl (N : Nat → Prop) (w : World) : Zi N w (.row 0 .nil .nil) [.slice none 0 0] := ⟨none, 0, [], [], rfl, Nat.zero_le _, .inl rfl, rfl, rfl⟩
theorem cond_deep {N : Nat → Prop} {w : World} (cop : Int) {x y : Ex} {cl cr : List Value} (h3 : Zi N w x.ds cl) (h4 : Zi N w y.ds cr) : Zi N w (.int cop (x.ds.app y.ds)) (Wh cop cl cr) := ⟨_, rfl, Zi.app h4 h3⟩
theorem Wk : (Tryz.prog.underlying 57).map TypeDesc.isRow = some true := by kernel_rfl
theorem size_act : (Tryz.prog.info? 57).map (·.size) = some 53 := by kernel_rfl
theorem Yi {vs : List Value} (h : vs.length = 53) : (Tryz.prog.info? 57).map (·.size) = some vs.length := by rw [h]; exact size_act
theorem row_cond : (Tryz.prog.underlying 55).map TypeDesc.isRow = some true := by kernel_rfl
theorem size_cond : (Tryz.prog.info? 55).map (·.size) = some 25 := by kernel_rfl
theorem size_cond' {vs : List Value} (h : vs.length = 25) : (Tryz.prog.info? 55).map (·.size) = some vs.length := by rw [h]; exact size_cond
theorem size_acts : (Tryz.prog.info? 41).map (·.size) = some 1 := by kernel_rfl
def zexL : List Value := [.int .i64 0, .int .i64 0, .int .i64 0, .int .i64 0, .int .i64 0, .int .i64 0, .slice none 0 0, .int .i64 0, .int .i64 0, .int .i64 0, .int .i64 0, .slice none 0 0]
def zseL : List Value := [.int .i64 0, .int .i64 0, .int .i64 0, .int .i64 0, .slice none 0 0, .int .i64 0]
def Yp : List Value := Zz 0 0 0 zseL zexL 0 0 0 0 ⟨#[]⟩ 0 zexL zexL (.slice none 0 0) (.slice none 0 0)
theorem Zf (N : Nat → Prop) (w : World) : Zi N w zEx.ds zexL := zEx_deep N w
theorem Ys (N : Nat → Prop) (w : World) : Zi N w zSe.ds zseL := Xj N w
section
variable {P : Program} {ops : Array Oper} {rest : List Oper} {o : Oper} {a : Act} {w : World} {Q : Exit → Act → World → Prop}
theorem put_sel (T : TypeId) (x y : Operand) (t : TypeId) (g : Nat) {k l c : Int} {sel num : List Value} {sd tk tl how : Int} {nm : ByteArray} {cop : Int} {cl cr : List Value} {thn els : Value} {ys : List Value} (hW : Zb w g t (Zz k l c sel num sd tk tl how nm cop cl cr thn els).toArray) (e1 : sel.length = 6) (hy1 : ys.length = 6) (hi : (P.info? T).map (·.size) = some 6) (h1 : ∀ v ∈ ys, v.oneCell' = true)
   (hgd : o.guard = none) (ho : o.op = .store T x y) (hd : o.dst = none) (hx : a.eval x = .pointer (some ⟨g, 3, none⟩)) (hy : a.eval y = .agg ys.toArray)
   (h : ∀ w', Put w w' g t (Zz k l c ys num sd tk tl how nm cop cl cr thn els) → wpList P ops Q rest a w') : wpList P ops Q (o :: rest) a w :=
 Wi T x y t g 3 ([.int .i64 k, .int .i64 l, .int .i64 c]) (sel) (num ++ ([.int .i64 sd, .int .i64 tk, .int .i64 tl, .int .i64 how, .string nm, .int .i64 cop] ++ (cl ++ (cr ++ [thn, els])))) ys (by simpa [Zz, Wh] using hW) (by simp [hy1, e1]) (by simp [e1]) (by rw [hy1]; exact hi) h1 hgd ho hd hx hy
   fun w' p => h w' ⟨by simpa [Zz, Wh] using p.whole, p.keeps⟩
theorem put_num (T : TypeId) (x y : Operand) (t : TypeId) (g : Nat) {k l c : Int} {sel num : List Value} {sd tk tl how : Int} {nm : ByteArray} {cop : Int} {cl cr : List Value} {thn els : Value} {ys : List Value} (hW : Zb w g t (Zz k l c sel num sd tk tl how nm cop cl cr thn els).toArray) (e1 : sel.length = 6) (e2 : num.length = 12) (hy1 : ys.length = 12) (hi : (P.info? T).map (·.size) = some 12) (h1 : ∀ v ∈ ys, v.oneCell' = true)
   (hgd : o.guard = none) (ho : o.op = .store T x y) (hd : o.dst = none) (hx : a.eval x = .pointer (some ⟨g, 9, none⟩)) (hy : a.eval y = .agg ys.toArray)
   (h : ∀ w', Put w w' g t (Zz k l c sel ys sd tk tl how nm cop cl cr thn els) → wpList P ops Q rest a w') : wpList P ops Q (o :: rest) a w :=
 Wi T x y t g 9 ([.int .i64 k, .int .i64 l, .int .i64 c] ++ sel) (num) ([.int .i64 sd, .int .i64 tk, .int .i64 tl, .int .i64 how, .string nm, .int .i64 cop] ++ (cl ++ (cr ++ [thn, els]))) ys (by simpa [Zz, Wh] using hW) (by simp [hy1, e1, e2]) (by simp [e1, e2]) (by rw [hy1]; exact hi) h1 hgd ho hd hx hy
   fun w' p => h w' ⟨by simpa [Zz, Wh] using p.whole, p.keeps⟩
theorem put_sd (T : TypeId) (x y : Operand) (t : TypeId) (g : Nat) {k l c : Int} {sel num : List Value} {sd tk tl how : Int} {nm : ByteArray} {cop : Int} {cl cr : List Value} {thn els : Value} {v : Int} (hW : Zb w g t (Zz k l c sel num sd tk tl how nm cop cl cr thn els).toArray) (e1 : sel.length = 6) (e2 : num.length = 12) (hi : (P.info? T).map (·.size) = some 1) (h1 : (.int .i64 v : Value).oneCell' = true)
   (hgd : o.guard = none) (ho : o.op = .store T x y) (hd : o.dst = none) (hx : a.eval x = .pointer (some ⟨g, 21, none⟩)) (hy : a.eval y = .int .i64 v)
   (h : ∀ w', Put w w' g t (Zz k l c sel num v tk tl how nm cop cl cr thn els) → wpList P ops Q rest a w') : wpList P ops Q (o :: rest) a w :=
 Zn T x y t g 21 ([.int .i64 k, .int .i64 l, .int .i64 c] ++ sel ++ num) (.int .i64 sd) (.int .i64 v) ([.int .i64 tk, .int .i64 tl, .int .i64 how, .string nm, .int .i64 cop] ++ (cl ++ (cr ++ [thn, els]))) (by simpa [Zz] using hW) (by simp [e1, e2]) hi h1 hgd ho hd hx hy
   fun w' p => h w' ⟨by simpa [Zz] using p.whole, p.keeps⟩
theorem put_how (T : TypeId) (x y : Operand) (t : TypeId) (g : Nat) {k l c : Int} {sel num : List Value} {sd tk tl how : Int} {nm : ByteArray} {cop : Int} {cl cr : List Value} {thn els : Value} {v : Int} (hW : Zb w g t (Zz k l c sel num sd tk tl how nm cop cl cr thn els).toArray) (e1 : sel.length = 6) (e2 : num.length = 12) (hi : (P.info? T).map (·.size) = some 1) (h1 : (.int .i64 v : Value).oneCell' = true)
   (hgd : o.guard = none) (ho : o.op = .store T x y) (hd : o.dst = none) (hx : a.eval x = .pointer (some ⟨g, 24, none⟩)) (hy : a.eval y = .int .i64 v)
   (h : ∀ w', Put w w' g t (Zz k l c sel num sd tk tl v nm cop cl cr thn els) → wpList P ops Q rest a w') : wpList P ops Q (o :: rest) a w :=
 Zn T x y t g 24 ([.int .i64 k, .int .i64 l, .int .i64 c] ++ sel ++ num ++ [.int .i64 sd, .int .i64 tk, .int .i64 tl]) (.int .i64 how) (.int .i64 v) ([.string nm, .int .i64 cop] ++ (cl ++ (cr ++ [thn, els]))) (by simpa [Zz] using hW) (by simp [e1, e2]) hi h1 hgd ho hd hx hy
   fun w' p => h w' ⟨by simpa [Zz] using p.whole, p.keeps⟩
theorem put_nm (T : TypeId) (x y : Operand) (t : TypeId) (g : Nat) {k l c : Int} {sel num : List Value} {sd tk tl how : Int} {nm : ByteArray} {cop : Int} {cl cr : List Value} {thn els : Value} {v : ByteArray} (hW : Zb w g t (Zz k l c sel num sd tk tl how nm cop cl cr thn els).toArray) (e1 : sel.length = 6) (e2 : num.length = 12) (hi : (P.info? T).map (·.size) = some 1) (h1 : (.string v : Value).oneCell' = true)
   (hgd : o.guard = none) (ho : o.op = .store T x y) (hd : o.dst = none) (hx : a.eval x = .pointer (some ⟨g, 25, none⟩)) (hy : a.eval y = .string v)
   (h : ∀ w', Put w w' g t (Zz k l c sel num sd tk tl how v cop cl cr thn els) → wpList P ops Q rest a w') : wpList P ops Q (o :: rest) a w :=
 Zn T x y t g 25 ([.int .i64 k, .int .i64 l, .int .i64 c] ++ sel ++ num ++ [.int .i64 sd, .int .i64 tk, .int .i64 tl, .int .i64 how]) (.string nm) (.string v) ([.int .i64 cop] ++ (cl ++ (cr ++ [thn, els]))) (by simpa [Zz] using hW) (by simp [e1, e2]) hi h1 hgd ho hd hx hy
   fun w' p => h w' ⟨by simpa [Zz] using p.whole, p.keeps⟩
theorem put_to (T : TypeId) (x y : Operand) (t : TypeId) (g : Nat) {k l c : Int} {sel num : List Value} {sd tk tl how : Int} {nm : ByteArray} {cop : Int} {cl cr : List Value} {thn els : Value} {u v : Int} (hW : Zb w g t (Zz k l c sel num sd tk tl how nm cop cl cr thn els).toArray) (e1 : sel.length = 6) (e2 : num.length = 12) (hi : (P.info? T).map (·.size) = some 2)
   (hgd : o.guard = none) (ho : o.op = .store T x y) (hd : o.dst = none) (hx : a.eval x = .pointer (some ⟨g, 22, none⟩)) (hy : a.eval y = .agg #[.int .i64 u, .int .i64 v])
   (h : ∀ w', Put w w' g t (Zz k l c sel num sd u v how nm cop cl cr thn els) → wpList P ops Q rest a w') : wpList P ops Q (o :: rest) a w :=
 Wi T x y t g 22 ([.int .i64 k, .int .i64 l, .int .i64 c] ++ sel ++ num ++ [.int .i64 sd]) ([.int .i64 tk, .int .i64 tl]) ([.int .i64 how, .string nm, .int .i64 cop] ++ (cl ++ (cr ++ [thn, els]))) [.int .i64 u, .int .i64 v] (by simpa [Zz] using hW) rfl (by simp [e1, e2]) hi (by simp [Value.oneCell']) hgd ho hd hx hy
   fun w' p => h w' ⟨by simpa [Zz] using p.whole, p.keeps⟩
theorem put_cond (T : TypeId) (x y : Operand) (t : TypeId) (g : Nat) {k l c : Int} {sel num : List Value} {sd tk tl how : Int} {nm : ByteArray} {cop : Int} {cl cr : List Value} {thn els : Value} {v : Int} {xs ys : List Value} (hW : Zb w g t (Zz k l c sel num sd tk tl how nm cop cl cr thn els).toArray) (e1 : sel.length = 6) (e2 : num.length = 12) (e3 : cl.length = 12) (e4 : cr.length = 12) (e5 : xs.length = 12) (e6 : ys.length = 12) (hi : (P.info? T).map (·.size) = some 25)
   (h1 : ∀ u ∈ Wh v xs ys, u.oneCell' = true)
   (hgd : o.guard = none) (ho : o.op = .store T x y) (hd : o.dst = none) (hx : a.eval x = .pointer (some ⟨g, 26, none⟩)) (hy : a.eval y = .agg (Wh v xs ys).toArray)
   (h : ∀ w', Put w w' g t (Zz k l c sel num sd tk tl how nm v xs ys thn els) → wpList P ops Q rest a w') : wpList P ops Q (o :: rest) a w :=
 Wi T x y t g 26 ([.int .i64 k, .int .i64 l, .int .i64 c] ++ sel ++ num ++ [.int .i64 sd, .int .i64 tk, .int .i64 tl, .int .i64 how, .string nm]) (Wh cop cl cr) ([thn, els]) (Wh v xs ys) (by simpa [Zz, Wh] using hW) (by simp [Wh, e3, e4, e5, e6]) (by simp [e1, e2]) (by simpa [Wh, e5, e6] using hi) h1 hgd ho hd hx hy
   fun w' p => h w' ⟨by simpa [Zz, Wh] using p.whole, p.keeps⟩
theorem put_thn (T : TypeId) (x y : Operand) (t : TypeId) (g : Nat) {k l c : Int} {sel num : List Value} {sd tk tl how : Int} {nm : ByteArray} {cop : Int} {cl cr : List Value} {thn els : Value} {v : Value} (hW : Zb w g t (Zz k l c sel num sd tk tl how nm cop cl cr thn els).toArray) (e1 : sel.length = 6) (e2 : num.length = 12) (e3 : cl.length = 12) (e4 : cr.length = 12) (hi : (P.info? T).map (·.size) = some 1) (h1 : (v : Value).oneCell' = true)
   (hgd : o.guard = none) (ho : o.op = .store T x y) (hd : o.dst = none) (hx : a.eval x = .pointer (some ⟨g, 51, none⟩)) (hy : a.eval y = v)
   (h : ∀ w', Put w w' g t (Zz k l c sel num sd tk tl how nm cop cl cr v els) → wpList P ops Q rest a w') : wpList P ops Q (o :: rest) a w :=
 Zn T x y t g 51 ([.int .i64 k, .int .i64 l, .int .i64 c] ++ sel ++ num ++ [.int .i64 sd, .int .i64 tk, .int .i64 tl, .int .i64 how, .string nm, .int .i64 cop] ++ cl ++ cr) (thn) (v) ([els]) (by simpa [Zz] using hW) (by simp [e1, e2, e3, e4]) hi h1 hgd ho hd hx hy
   fun w' p => h w' ⟨by simpa [Zz] using p.whole, p.keeps⟩
theorem put_els (T : TypeId) (x y : Operand) (t : TypeId) (g : Nat) {k l c : Int} {sel num : List Value} {sd tk tl how : Int} {nm : ByteArray} {cop : Int} {cl cr : List Value} {thn els : Value} {v : Value} (hW : Zb w g t (Zz k l c sel num sd tk tl how nm cop cl cr thn els).toArray) (e1 : sel.length = 6) (e2 : num.length = 12) (e3 : cl.length = 12) (e4 : cr.length = 12) (hi : (P.info? T).map (·.size) = some 1) (h1 : (v : Value).oneCell' = true)
   (hgd : o.guard = none) (ho : o.op = .store T x y) (hd : o.dst = none) (hx : a.eval x = .pointer (some ⟨g, 52, none⟩)) (hy : a.eval y = v)
   (h : ∀ w', Put w w' g t (Zz k l c sel num sd tk tl how nm cop cl cr thn v) → wpList P ops Q rest a w') : wpList P ops Q (o :: rest) a w :=
 Zn T x y t g 52 ([.int .i64 k, .int .i64 l, .int .i64 c] ++ sel ++ num ++ [.int .i64 sd, .int .i64 tk, .int .i64 tl, .int .i64 how, .string nm, .int .i64 cop] ++ cl ++ cr ++ [thn]) (els) (v) ([]) (by simpa [Zz] using hW) (by simp [e1, e2, e3, e4]) hi h1 hgd ho hd hx hy
   fun w' p => h w' ⟨by simpa [Zz] using p.whole, p.keeps⟩
end
end Go.Proofs.YtdhmklnfiaahhaaGreat
