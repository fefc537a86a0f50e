/-
  Texts Q5. No conditions but those that each theorem names.
-/
import Derived.Test.YtljdgdphldckhaaGreatQA28
import Derived.Test.YtljdgdphldckhaaGreatQA29
set_option maxRecDepth 20000
set_option maxHeartbeats 12800000
namespace Go.Proofs.YtljdgdphldckhaaGreat
open Go.Great Go.ChangeShapes Go.WideShapes Go.ChangeAt Go.RowKit
set_option linter.unusedVariables false
set_option linter.unusedSimpArgs false
def kArgs (h : AH) : List ByteArray :=
 if h.kind = 1 ∨ h.kind = 2 ∨ h.kind = 12 then kSel h.sel ++ kEx h.num
 else if h.kind = 3 ∨ h.kind = 5 ∨ h.kind = 14 then kSel h.sel
 else if h.kind = 4 then kSel h.sel ++ kTo h.tk h.tl
 else if h.kind = 6 then [qN h.name, wd Zt h.side] ++ (kTo h.tk h.tl ++ kEx h.num)
 else if h.kind = 7 ∨ h.kind = 9 then [wd Zt h.side] ++ kEx h.num
 else if h.kind = 8 then [wd Zt h.side, wd wHow h.how]
 else [wd Zt h.side] ++ kTo h.tk h.tl
def kBlk (X : List ByteArray) : List ByteArray := [Xt] ++ (X ++ [We])
def kElse (no : Bool) (e : List ByteArray) : List ByteArray := if no = true then [] else [Zah] ++ kBlk e
def kCond (h : AH) : List ByteArray := kEx h.cl ++ ([wd wOp h.cop] ++ kEx h.cr)
def kAct (h : AH) (t e : List ByteArray) (no : Bool) : List ByteArray :=
 [wd Xv h.kind] ++ (if h.kind = 10 then kCond h ++ (kBlk t ++ kElse no e) else if h.kind = 11 then kSel h.sel ++ kBlk t else kArgs h ++ [sSemi])
def kActs : Acs → List ByteArray
 | .nil => []
 | .cons h t e r => kAct h (kActs t) (kActs e) e.isNil ++ kActs r
structure ActR (ys sv nv pv : List Value) (k sd tk tl how : Int) (nm : ByteArray) (thn els : Value) : Prop where
 len : ys.length = 53
 slen : sv.length = 6
 nlen : nv.length = 12
 plen : pv.length = 25
 c0 : ys[0]? = some (.int .i64 k)
 c21 : ys[21]? = some (.int .i64 sd)
 c24 : ys[24]? = some (.int .i64 how)
 c25 : ys[25]? = some (.string nm)
 c51 : ys[51]? = some thn
 c52 : ys[52]? = some els
 rs : ∀ (x : World) (g : Nat) (t : TypeId), Zb x g t ys.toArray → x.rangeAt g 3 sv
 rn : ∀ (x : World) (g : Nat) (t : TypeId), Zb x g t ys.toArray → x.rangeAt g 9 nv
 rt : ∀ (x : World) (g : Nat) (t : TypeId), Zb x g t ys.toArray → x.rangeAt g 22 [.int .i64 tk, .int .i64 tl]
 rc : ∀ (x : World) (g : Nat) (t : TypeId), Zb x g t ys.toArray → x.rangeAt g 26 pv
theorem range_mid {x : World} {g n : Nat} {t : TypeId} {pre vs post ys : List Value} (e : ys = pre ++ vs ++ post) (hn : pre.length = n) (hw : Zb x g t ys.toArray) : x.rangeAt g n vs := by
 subst e hn
 exact hw.range
theorem actR {k l c sd tk tl how cop : Int} {nm : ByteArray} {sel num cl cr : List Value} {thn els : Value} (e1 : sel.length = 6) (e2 : num.length = 12) (e3 : cl.length = 12) (e4 : cr.length = 12) :
   ActR (Zz k l c sel num sd tk tl how nm cop cl cr thn els) sel num (Wg cop cl cr) k sd tk tl how nm thn els := by
 obtain ⟨c0, _, _, c21, _, _, c24, c25, _, c51, c52⟩ := actV_at (k := k) (l := l) (c := c) (sd := sd) (tk := tk) (tl := tl) (how := how) (nm := nm) (cop := cop) (thn := thn) (els := els) e1 e2 e3 e4
 refine ⟨by simp [Zz, e1, e2, e3, e4], e1, e2, by simp [Wg, e3, e4], c0, c21, c24, c25, c51, c52, fun x g t hw => ?_, fun x g t hw => ?_, fun x g t hw => ?_, fun x g t hw => ?_⟩
 · exact range_mid (pre := [.int .i64 k, .int .i64 l, .int .i64 c]) (post := num ++ (.int .i64 sd :: .int .i64 tk :: .int .i64 tl :: .int .i64 how :: .string nm :: .int .i64 cop :: (cl ++ (cr ++ [thn, els])))) (by simp [Zz]) (by simp) hw
 · exact range_mid (pre := [.int .i64 k, .int .i64 l, .int .i64 c] ++ sel) (post := .int .i64 sd :: .int .i64 tk :: .int .i64 tl :: .int .i64 how :: .string nm :: .int .i64 cop :: (cl ++ (cr ++ [thn, els]))) (by simp [Zz]) (by simp [e1]) hw
 · exact range_mid (pre := [.int .i64 k, .int .i64 l, .int .i64 c] ++ sel ++ num ++ [.int .i64 sd]) (post := .int .i64 how :: .string nm :: .int .i64 cop :: (cl ++ (cr ++ [thn, els]))) (by simp [Zz]) (by simp [e1, e2]) hw
 · exact range_mid (pre := [.int .i64 k, .int .i64 l, .int .i64 c] ++ sel ++ num ++ [.int .i64 sd, .int .i64 tk, .int .i64 tl, .int .i64 how, .string nm]) (post := [thn, els]) (by simp [Zz, Wg]) (by simp [e1, e2]) hw
theorem pPlain_1 (w0 : World) (ys sv nv pv : List Value) (sd tk tl how : Int) (nm : ByteArray) (thn els : Value) (ha : ActR ys sv nv pv 1 sd tk tl how nm thn els) (KS : List ByteArray) (hsel : Xa w0 65 (.agg sv.toArray) KS) (KN : List ByteArray) (hnum : Xa w0 74 (.agg nv.toArray) KN) : Xa w0 163 (.agg ys.toArray) (KS ++ (KN)) := by
 intro b st own x h hr
 obtain ⟨s1, E1⟩ : ∃ s, s = Zp st (KS) := ⟨_, rfl⟩
 have R1 := Hh (Yk.first hr)
 replace hr := Yk.next hr
 rw [← E1] at hr
 obtain ⟨s2, E2⟩ : ∃ s, s = Zp s1 (KN) := ⟨_, rfl⟩
 have R2 := Hh hr
 clear hr
 have EK : Zp st ((KS) ++ ((KN))) = s2 := by simp only [Yd, E1, E2]
 rw [EK]
 clear EK
 have P1 := Hh (hsel.at_ (b := b) E1 R1.out)
 have P2 := Hh (hnum.at_ (b := b) E2 R2.out)
 have HE1 := Hh E1
 clear E1
 have HE2 := Hh E2
 clear E2
 have HA := Hh ha
 clear ha hsel hnum
 have T := Hh h
 clear h
 go_enter Tryz.func163, Tryz.ntmps163
 go_wp2_with (first
 | ((with_reducible refine Ze 3 ?_); refine Ya T.out 57 _ (ys) rfl rfl rfl ?_; intro wn g0 tn; have T := Hh tn; clear tn; have c0_0 : wn.cell? ⟨g0, 0, none⟩ = some (.int .i64 1) := (T.out.get 0 rfl).nthQ 0 HA.out.c0)
 | ((with_reducible refine Ze 12 ?_); refine Zy 46 _ g0 (3) (sv) (HA.out.rs _ _ _ (T.out.get 0 rfl)) Jl (by rw [HA.out.slen]; exact Um) rfl rfl rfl ?_)
 | (go_at_call 65; refine (P1.out _ _ T.out).mono ?_; rintro e wn ⟨rfl, tn⟩; have T := Hh tn; clear tn; have c0_0 : wn.cell? ⟨g0, 0, none⟩ = some (.int .i64 1) := (T.out.get 0 rfl).nthQ 0 HA.out.c0)
 | ((with_reducible refine Ze 16 ?_); refine Zy 51 _ g0 (9) (nv) (HA.out.rn _ _ _ (T.out.get 0 rfl)) Xu (by rw [HA.out.nlen]; exact Xb) rfl rfl rfl ?_)
 | (go_at_call 74; refine (P2.out _ _ T.out).mono ?_; rintro e wn ⟨rfl, tn⟩; have T := Hh tn; clear tn; have c0_0 : wn.cell? ⟨g0, 0, none⟩ = some (.int .i64 1) := (T.out.get 0 rfl).nthQ 0 HA.out.c0))
 go_end0
 exact ⟨rfl, T.out.tail⟩
theorem pPlain_2 (w0 : World) (ys sv nv pv : List Value) (sd tk tl how : Int) (nm : ByteArray) (thn els : Value) (ha : ActR ys sv nv pv 2 sd tk tl how nm thn els) (KS : List ByteArray) (hsel : Xa w0 65 (.agg sv.toArray) KS) (KN : List ByteArray) (hnum : Xa w0 74 (.agg nv.toArray) KN) : Xa w0 163 (.agg ys.toArray) (KS ++ (KN)) := by
 intro b st own x h hr
 obtain ⟨s1, E1⟩ : ∃ s, s = Zp st (KS) := ⟨_, rfl⟩
 have R1 := Hh (Yk.first hr)
 replace hr := Yk.next hr
 rw [← E1] at hr
 obtain ⟨s2, E2⟩ : ∃ s, s = Zp s1 (KN) := ⟨_, rfl⟩
 have R2 := Hh hr
 clear hr
 have EK : Zp st ((KS) ++ ((KN))) = s2 := by simp only [Yd, E1, E2]
 rw [EK]
 clear EK
 have P1 := Hh (hsel.at_ (b := b) E1 R1.out)
 have P2 := Hh (hnum.at_ (b := b) E2 R2.out)
 have HE1 := Hh E1
 clear E1
 have HE2 := Hh E2
 clear E2
 have HA := Hh ha
 clear ha hsel hnum
 have T := Hh h
 clear h
 go_enter Tryz.func163, Tryz.ntmps163
 go_wp2_with (first
 | ((with_reducible refine Ze 3 ?_); refine Ya T.out 57 _ (ys) rfl rfl rfl ?_; intro wn g0 tn; have T := Hh tn; clear tn; have c0_0 : wn.cell? ⟨g0, 0, none⟩ = some (.int .i64 2) := (T.out.get 0 rfl).nthQ 0 HA.out.c0)
 | ((with_reducible refine Ze 12 ?_); refine Zy 46 _ g0 (3) (sv) (HA.out.rs _ _ _ (T.out.get 0 rfl)) Jl (by rw [HA.out.slen]; exact Um) rfl rfl rfl ?_)
 | (go_at_call 65; refine (P1.out _ _ T.out).mono ?_; rintro e wn ⟨rfl, tn⟩; have T := Hh tn; clear tn; have c0_0 : wn.cell? ⟨g0, 0, none⟩ = some (.int .i64 2) := (T.out.get 0 rfl).nthQ 0 HA.out.c0)
 | ((with_reducible refine Ze 16 ?_); refine Zy 51 _ g0 (9) (nv) (HA.out.rn _ _ _ (T.out.get 0 rfl)) Xu (by rw [HA.out.nlen]; exact Xb) rfl rfl rfl ?_)
 | (go_at_call 74; refine (P2.out _ _ T.out).mono ?_; rintro e wn ⟨rfl, tn⟩; have T := Hh tn; clear tn; have c0_0 : wn.cell? ⟨g0, 0, none⟩ = some (.int .i64 2) := (T.out.get 0 rfl).nthQ 0 HA.out.c0))
 go_end0
 exact ⟨rfl, T.out.tail⟩
theorem pPlain_12 (w0 : World) (ys sv nv pv : List Value) (sd tk tl how : Int) (nm : ByteArray) (thn els : Value) (ha : ActR ys sv nv pv 12 sd tk tl how nm thn els) (KS : List ByteArray) (hsel : Xa w0 65 (.agg sv.toArray) KS) (KN : List ByteArray) (hnum : Xa w0 74 (.agg nv.toArray) KN) : Xa w0 163 (.agg ys.toArray) (KS ++ (KN)) := by
 intro b st own x h hr
 obtain ⟨s1, E1⟩ : ∃ s, s = Zp st (KS) := ⟨_, rfl⟩
 have R1 := Hh (Yk.first hr)
 replace hr := Yk.next hr
 rw [← E1] at hr
 obtain ⟨s2, E2⟩ : ∃ s, s = Zp s1 (KN) := ⟨_, rfl⟩
 have R2 := Hh hr
 clear hr
 have EK : Zp st ((KS) ++ ((KN))) = s2 := by simp only [Yd, E1, E2]
 rw [EK]
 clear EK
 have P1 := Hh (hsel.at_ (b := b) E1 R1.out)
 have P2 := Hh (hnum.at_ (b := b) E2 R2.out)
 have HE1 := Hh E1
 clear E1
 have HE2 := Hh E2
 clear E2
 have HA := Hh ha
 clear ha hsel hnum
 have T := Hh h
 clear h
 go_enter Tryz.func163, Tryz.ntmps163
 go_wp2_with (first
 | ((with_reducible refine Ze 3 ?_); refine Ya T.out 57 _ (ys) rfl rfl rfl ?_; intro wn g0 tn; have T := Hh tn; clear tn; have c0_0 : wn.cell? ⟨g0, 0, none⟩ = some (.int .i64 12) := (T.out.get 0 rfl).nthQ 0 HA.out.c0)
 | ((with_reducible refine Ze 12 ?_); refine Zy 46 _ g0 (3) (sv) (HA.out.rs _ _ _ (T.out.get 0 rfl)) Jl (by rw [HA.out.slen]; exact Um) rfl rfl rfl ?_)
 | (go_at_call 65; refine (P1.out _ _ T.out).mono ?_; rintro e wn ⟨rfl, tn⟩; have T := Hh tn; clear tn; have c0_0 : wn.cell? ⟨g0, 0, none⟩ = some (.int .i64 12) := (T.out.get 0 rfl).nthQ 0 HA.out.c0)
 | ((with_reducible refine Ze 16 ?_); refine Zy 51 _ g0 (9) (nv) (HA.out.rn _ _ _ (T.out.get 0 rfl)) Xu (by rw [HA.out.nlen]; exact Xb) rfl rfl rfl ?_)
 | (go_at_call 74; refine (P2.out _ _ T.out).mono ?_; rintro e wn ⟨rfl, tn⟩; have T := Hh tn; clear tn; have c0_0 : wn.cell? ⟨g0, 0, none⟩ = some (.int .i64 12) := (T.out.get 0 rfl).nthQ 0 HA.out.c0))
 go_end0
 exact ⟨rfl, T.out.tail⟩
theorem pPlain_3 (w0 : World) (ys sv nv pv : List Value) (sd tk tl how : Int) (nm : ByteArray) (thn els : Value) (ha : ActR ys sv nv pv 3 sd tk tl how nm thn els) (KS : List ByteArray) (hsel : Xa w0 65 (.agg sv.toArray) KS) : Xa w0 163 (.agg ys.toArray) (KS) := by
 intro b st own x h hr
 obtain ⟨s1, E1⟩ : ∃ s, s = Zp st (KS) := ⟨_, rfl⟩
 have R1 := Hh hr
 clear hr
 have EK : Zp st ((KS)) = s1 := by simp only [Yd, E1]
 rw [EK]
 clear EK
 have P1 := Hh (hsel.at_ (b := b) E1 R1.out)
 have HE1 := Hh E1
 clear E1
 have HA := Hh ha
 clear ha hsel
 have T := Hh h
 clear h
 go_enter Tryz.func163, Tryz.ntmps163
 go_wp2_with (first
 | ((with_reducible refine Ze 3 ?_); refine Ya T.out 57 _ (ys) rfl rfl rfl ?_; intro wn g0 tn; have T := Hh tn; clear tn; have c0_0 : wn.cell? ⟨g0, 0, none⟩ = some (.int .i64 3) := (T.out.get 0 rfl).nthQ 0 HA.out.c0)
 | ((with_reducible refine Ze 24 ?_); refine Zy 46 _ g0 (3) (sv) (HA.out.rs _ _ _ (T.out.get 0 rfl)) Jl (by rw [HA.out.slen]; exact Um) rfl rfl rfl ?_)
 | (go_at_call 65; refine (P1.out _ _ T.out).mono ?_; rintro e wn ⟨rfl, tn⟩; have T := Hh tn; clear tn; have c0_0 : wn.cell? ⟨g0, 0, none⟩ = some (.int .i64 3) := (T.out.get 0 rfl).nthQ 0 HA.out.c0))
 go_end0
 exact ⟨rfl, T.out.tail⟩
theorem pPlain_5 (w0 : World) (ys sv nv pv : List Value) (sd tk tl how : Int) (nm : ByteArray) (thn els : Value) (ha : ActR ys sv nv pv 5 sd tk tl how nm thn els) (KS : List ByteArray) (hsel : Xa w0 65 (.agg sv.toArray) KS) : Xa w0 163 (.agg ys.toArray) (KS) := by
 intro b st own x h hr
 obtain ⟨s1, E1⟩ : ∃ s, s = Zp st (KS) := ⟨_, rfl⟩
 have R1 := Hh hr
 clear hr
 have EK : Zp st ((KS)) = s1 := by simp only [Yd, E1]
 rw [EK]
 clear EK
 have P1 := Hh (hsel.at_ (b := b) E1 R1.out)
 have HE1 := Hh E1
 clear E1
 have HA := Hh ha
 clear ha hsel
 have T := Hh h
 clear h
 go_enter Tryz.func163, Tryz.ntmps163
 go_wp2_with (first
 | ((with_reducible refine Ze 3 ?_); refine Ya T.out 57 _ (ys) rfl rfl rfl ?_; intro wn g0 tn; have T := Hh tn; clear tn; have c0_0 : wn.cell? ⟨g0, 0, none⟩ = some (.int .i64 5) := (T.out.get 0 rfl).nthQ 0 HA.out.c0)
 | ((with_reducible refine Ze 24 ?_); refine Zy 46 _ g0 (3) (sv) (HA.out.rs _ _ _ (T.out.get 0 rfl)) Jl (by rw [HA.out.slen]; exact Um) rfl rfl rfl ?_)
 | (go_at_call 65; refine (P1.out _ _ T.out).mono ?_; rintro e wn ⟨rfl, tn⟩; have T := Hh tn; clear tn; have c0_0 : wn.cell? ⟨g0, 0, none⟩ = some (.int .i64 5) := (T.out.get 0 rfl).nthQ 0 HA.out.c0))
 go_end0
 exact ⟨rfl, T.out.tail⟩
theorem pPlain_14 (w0 : World) (ys sv nv pv : List Value) (sd tk tl how : Int) (nm : ByteArray) (thn els : Value) (ha : ActR ys sv nv pv 14 sd tk tl how nm thn els) (KS : List ByteArray) (hsel : Xa w0 65 (.agg sv.toArray) KS) : Xa w0 163 (.agg ys.toArray) (KS) := by
 intro b st own x h hr
 obtain ⟨s1, E1⟩ : ∃ s, s = Zp st (KS) := ⟨_, rfl⟩
 have R1 := Hh hr
 clear hr
 have EK : Zp st ((KS)) = s1 := by simp only [Yd, E1]
 rw [EK]
 clear EK
 have P1 := Hh (hsel.at_ (b := b) E1 R1.out)
 have HE1 := Hh E1
 clear E1
 have HA := Hh ha
 clear ha hsel
 have T := Hh h
 clear h
 go_enter Tryz.func163, Tryz.ntmps163
 go_wp2_with (first
 | ((with_reducible refine Ze 3 ?_); refine Ya T.out 57 _ (ys) rfl rfl rfl ?_; intro wn g0 tn; have T := Hh tn; clear tn; have c0_0 : wn.cell? ⟨g0, 0, none⟩ = some (.int .i64 14) := (T.out.get 0 rfl).nthQ 0 HA.out.c0)
 | ((with_reducible refine Ze 24 ?_); refine Zy 46 _ g0 (3) (sv) (HA.out.rs _ _ _ (T.out.get 0 rfl)) Jl (by rw [HA.out.slen]; exact Um) rfl rfl rfl ?_)
 | (go_at_call 65; refine (P1.out _ _ T.out).mono ?_; rintro e wn ⟨rfl, tn⟩; have T := Hh tn; clear tn; have c0_0 : wn.cell? ⟨g0, 0, none⟩ = some (.int .i64 14) := (T.out.get 0 rfl).nthQ 0 HA.out.c0))
 go_end0
 exact ⟨rfl, T.out.tail⟩
theorem pPlain_4 (w0 : World) (ys sv nv pv : List Value) (sd tk tl how : Int) (nm : ByteArray) (thn els : Value) (ha : ActR ys sv nv pv 4 sd tk tl how nm thn els) (KS : List ByteArray) (hsel : Xa w0 65 (.agg sv.toArray) KS) (KT : List ByteArray) (hto : Xa w0 123 (.agg ([.int .i64 tk, .int .i64 tl] : List Value).toArray) KT) : Xa w0 163 (.agg ys.toArray) (KS ++ (KT)) := by
 intro b st own x h hr
 obtain ⟨s1, E1⟩ : ∃ s, s = Zp st (KS) := ⟨_, rfl⟩
 have R1 := Hh (Yk.first hr)
 replace hr := Yk.next hr
 rw [← E1] at hr
 obtain ⟨s2, E2⟩ : ∃ s, s = Zp s1 (KT) := ⟨_, rfl⟩
 have R2 := Hh hr
 clear hr
 have EK : Zp st ((KS) ++ ((KT))) = s2 := by simp only [Yd, E1, E2]
 rw [EK]
 clear EK
 have P1 := Hh (hsel.at_ (b := b) E1 R1.out)
 have P2 := Hh (hto.at_ (b := b) E2 R2.out)
 have HE1 := Hh E1
 clear E1
 have HE2 := Hh E2
 clear E2
 have HA := Hh ha
 clear ha hsel hto
 have T := Hh h
 clear h
 go_enter Tryz.func163, Tryz.ntmps163
 go_wp2_with (first
 | ((with_reducible refine Ze 3 ?_); refine Ya T.out 57 _ (ys) rfl rfl rfl ?_; intro wn g0 tn; have T := Hh tn; clear tn; have c0_0 : wn.cell? ⟨g0, 0, none⟩ = some (.int .i64 4) := (T.out.get 0 rfl).nthQ 0 HA.out.c0)
 | ((with_reducible refine Ze 30 ?_); refine Zy 46 _ g0 (3) (sv) (HA.out.rs _ _ _ (T.out.get 0 rfl)) Jl (by rw [HA.out.slen]; exact Um) rfl rfl rfl ?_)
 | (go_at_call 65; refine (P1.out _ _ T.out).mono ?_; rintro e wn ⟨rfl, tn⟩; have T := Hh tn; clear tn; have c0_0 : wn.cell? ⟨g0, 0, none⟩ = some (.int .i64 4) := (T.out.get 0 rfl).nthQ 0 HA.out.c0)
 | ((with_reducible refine Ze 34 ?_); refine Zy 48 _ g0 (22) ([.int .i64 tk, .int .i64 tl]) (HA.out.rt _ _ _ (T.out.get 0 rfl)) qrow_to qsize_to rfl rfl rfl ?_)
 | (go_at_call 123; refine (P2.out _ _ T.out).mono ?_; rintro e wn ⟨rfl, tn⟩; have T := Hh tn; clear tn; have c0_0 : wn.cell? ⟨g0, 0, none⟩ = some (.int .i64 4) := (T.out.get 0 rfl).nthQ 0 HA.out.c0))
 go_end0
 exact ⟨rfl, T.out.tail⟩
theorem pPlain_6 (w0 : World) (ys sv nv pv : List Value) (sd tk tl how : Int) (nm : ByteArray) (thn els : Value) (ha : ActR ys sv nv pv 6 sd tk tl how nm thn els) (h1 : 1 ≤ sd) (h2 : sd ≤ 3) (KT : List ByteArray) (hto : Xa w0 123 (.agg ([.int .i64 tk, .int .i64 tl] : List Value).toArray) KT) (KN : List ByteArray) (hnum : Xa w0 74 (.agg nv.toArray) KN) : Xa w0 163 (.agg ys.toArray) ([qN nm, wd Zt sd] ++ (KT ++ (KN))) := by
 intro b st own x h hr
 have hnm : nm.size ≤ 10000000000 := by have h2 := hr.first; unfold Yk at h2; simp [lenB, qN_size] at h2; omega
 obtain ⟨s1, E1⟩ : ∃ s, s = Zp st ([qN nm, wd Zt sd]) := ⟨_, rfl⟩
 have R1 := Hh (Yk.first hr)
 replace hr := Yk.next hr
 rw [← E1] at hr
 obtain ⟨s2, E2⟩ : ∃ s, s = Zp s1 (KT) := ⟨_, rfl⟩
 have R2 := Hh (Yk.first hr)
 replace hr := Yk.next hr
 rw [← E2] at hr
 obtain ⟨s3, E3⟩ : ∃ s, s = Zp s2 (KN) := ⟨_, rfl⟩
 have R3 := Hh hr
 clear hr
 have EK : Zp st (([qN nm, wd Zt sd]) ++ ((KT) ++ ((KN)))) = s3 := by simp only [Yd, E1, E2, E3]
 rw [EK]
 clear EK
 have P1 := Hh (fun own x => Xd (w0 := w0) (b := b) E1 R1.out (by simp) own x)
 have P2 := Hh (hto.at_ (b := b) E2 R2.out)
 have P3 := Hh (hnum.at_ (b := b) E3 R3.out)
 have HE1 := Hh E1
 clear E1
 have HE2 := Hh E2
 clear E2
 have HE3 := Hh E3
 clear E3
 have HA := Hh ha
 clear ha hnum hto
 have T := Hh h
 clear h
 go_enter Tryz.func163, Tryz.ntmps163
 go_upto_region 15 with (first
 | ((with_reducible refine Ze 3 ?_); refine Ya T.out 57 _ (ys) rfl rfl rfl ?_; intro wn g0 tn; have T := Hh tn; clear tn; have c0_0 : wn.cell? ⟨g0, 0, none⟩ = some (.int .i64 6) := (T.out.get 0 rfl).nthQ 0 HA.out.c0; have c0_21 : wn.cell? ⟨g0, 21, none⟩ = some (.int .i64 sd) := (T.out.get 0 rfl).nthQ 21 HA.out.c21; have c0_25 : wn.cell? ⟨g0, 25, none⟩ = some (.string nm) := (T.out.get 0 rfl).nthQ 25 HA.out.c25))
 go_cut [] from 38 to 46 (fun wx => PE w0 b s1 ((g0, 57, ys) :: own) wx)
 case first =>
   refine wp_region_held_drew (S := fun x => ∃ s, PE w0 b s ((g0, 57, ys) :: own) x) (by kernel_rfl) ⟨_, T.out.drew⟩ (fun hS => ?_)
   have hP := T.out.drew
   generalize wn.drew = wf at *
   refine Xg (i := 0) (v := .pointer (some ⟨b, 0, none⟩)) rfl rfl (by kernel_rfl) (by kernel_rfl) (by kernel_rfl) (fun _ _ _ h => h) (qyMove rfl rfl rfl) hS ?_
   try simp only [Qy1, Qx1]
   refine Xg (i := 1) (v := .pointer (some ⟨g0, 25, none⟩)) rfl rfl (by kernel_rfl) (by kernel_rfl) (by kernel_rfl) (fun _ _ _ h => h) (Or.inl ⟨by rfl, fun y hy => by go_simp⟩) hS ?_
   try simp only [Qy1, Qx1]
   refine Xg (i := 2) (v := .string nm) rfl rfl (by kernel_rfl) (by kernel_rfl) (by kernel_rfl) (fun _ _ _ h => h) (Or.inl ⟨by rfl, fun y hy => by obtain ⟨_, hy⟩ := hy; have c0 := (PE.get hy 0 rfl).nthQ 25 HA.out.c25; go_simp⟩) hS ?_
   try simp only [Qy1, Qx1]
   refine Xg (i := 4) (v := .pointer (some ⟨g0, 21, none⟩)) rfl rfl (by kernel_rfl) (by kernel_rfl) (by kernel_rfl) (fun _ _ _ h => h) (Or.inl ⟨by rfl, fun y hy => by go_simp⟩) hS ?_
   try simp only [Qy1, Qx1]
   refine Xg (i := 5) (v := .int .i64 sd) rfl rfl (by kernel_rfl) (by kernel_rfl) (by kernel_rfl) (fun _ _ _ h => h) (Or.inl ⟨by rfl, fun y hy => by obtain ⟨_, hy⟩ := hy; have c0 := (PE.get hy 0 rfl).nthQ 21 HA.out.c21; go_simp⟩) hS ?_
   try simp only [Qy1, Qx1]
   refine wpAnyH_ready (rs := [3]) (by kernel_rfl) (by simp) (AllReadyH.cons rfl (fun K hK => ?_) AllReadyH.nil)
   clear hS
   go_simp
   go_at_call 108
   refine (vqName hP nm hnm).mono ?_
   rintro e wf ⟨rfl, hP2⟩
   clear hP
   have hP := hP2
   clear hP2
   refine hK.out _ _ ⟨_, hP⟩ (fun hS => ?_)
   clear hK K
   try simp only [Act.put, Qz1, Qy1, Qx1]
   refine wpAnyH_ready (rs := [6]) (by kernel_rfl) (by simp) (AllReadyH.cons rfl (fun K hK => ?_) AllReadyH.nil)
   clear hS
   go_simp
   go_at_call 118
   refine (vqSide hP sd h1 h2).mono ?_
   rintro e wf ⟨rfl, hP2⟩
   clear hP
   have hP := hP2
   clear hP2
   refine hK.out _ _ ⟨_, hP⟩ (fun hS => ?_)
   clear hK K
   try simp only [Act.put, Qz1, Qy1, Qx1]
   refine wpAnyH_ready (rs := [7]) (by kernel_rfl) (by simp) (AllReadyH.cons rfl (fun K hK => ?_) AllReadyH.nil)
   clear hS
   go_simp
   refine hK.out _ _ ⟨_, hP.call (Za wf (.cells #[.string (qN nm), .string (wd Zt sd)] 9))⟩ (fun hS => ?_)
   clear hK K
   try simp only [Act.put, Qz1, Qy1, Qx1]
   refine wpAnyH_ready (rs := [8]) (by kernel_rfl) (by simp) (AllReadyH.cons rfl (fun K hK => ?_) AllReadyH.nil)
   clear hS
   go_simp
   go_at_call 107
   refine (P1.out _ _ _ _ _ hP rfl rfl).mono ?_
   rintro e wf ⟨rfl, hP2⟩
   clear hP
   have hP := hP2
   clear hP2
   refine hK.out _ _ ⟨_, hP⟩ (fun hS => ?_)
   clear hK K
   try simp only [Act.put, Qz1, Qy1, Qx1]
   refine wpAnyH_done (by kernel_rfl) ?_ _
   have T := Hh hP
   clear hP hS
   go_wp2_with fail
   go_meet
   case rel => exact T.out
 case rest =>
   have T := Hh hcut
   clear hcut
   go_wp2_with (first
 | ((with_reducible refine Ze 49 ?_); refine Zy 48 _ g0 (22) ([.int .i64 tk, .int .i64 tl]) (HA.out.rt _ _ _ (T.out.get 0 rfl)) qrow_to qsize_to rfl rfl rfl ?_)
 | (go_at_call 123; refine (P2.out _ _ T.out).mono ?_; rintro e wn ⟨rfl, tn⟩; have T := Hh tn; clear tn)
 | ((with_reducible refine Ze 53 ?_); refine Zy 51 _ g0 (9) (nv) (HA.out.rn _ _ _ (T.out.get 0 rfl)) Xu (by rw [HA.out.nlen]; exact Xb) rfl rfl rfl ?_)
 | (go_at_call 74; refine (P3.out _ _ T.out).mono ?_; rintro e wn ⟨rfl, tn⟩; have T := Hh tn; clear tn))
   go_end0
   exact ⟨rfl, T.out.tail⟩
theorem pPlain_7 (w0 : World) (ys sv nv pv : List Value) (sd tk tl how : Int) (nm : ByteArray) (thn els : Value) (ha : ActR ys sv nv pv 7 sd tk tl how nm thn els) (h1 : 1 ≤ sd) (h2 : sd ≤ 3) (KN : List ByteArray) (hnum : Xa w0 74 (.agg nv.toArray) KN) : Xa w0 163 (.agg ys.toArray) ([wd Zt sd] ++ (KN)) := by
 intro b st own x h hr
 obtain ⟨s1, E1⟩ : ∃ s, s = Zp st ([wd Zt sd]) := ⟨_, rfl⟩
 have R1 := Hh (Yk.first hr)
 replace hr := Yk.next hr
 rw [← E1] at hr
 obtain ⟨s2, E2⟩ : ∃ s, s = Zp s1 (KN) := ⟨_, rfl⟩
 have R2 := Hh hr
 clear hr
 have EK : Zp st (([wd Zt sd]) ++ ((KN))) = s2 := by simp only [Yd, E1, E2]
 rw [EK]
 clear EK
 have P1 := Hh (fun own x => Xd (w0 := w0) (b := b) E1 R1.out (by simp) own x)
 have P2 := Hh (hnum.at_ (b := b) E2 R2.out)
 have HE1 := Hh E1
 clear E1
 have HE2 := Hh E2
 clear E2
 have HA := Hh ha
 clear ha hnum
 have T := Hh h
 clear h
 go_enter Tryz.func163, Tryz.ntmps163
 go_wp2_with (first
 | ((with_reducible refine Ze 3 ?_); refine Ya T.out 57 _ (ys) rfl rfl rfl ?_; intro wn g0 tn; have T := Hh tn; clear tn; have c0_0 : wn.cell? ⟨g0, 0, none⟩ = some (.int .i64 7) := (T.out.get 0 rfl).nthQ 0 HA.out.c0; have c0_21 : wn.cell? ⟨g0, 21, none⟩ = some (.int .i64 sd) := (T.out.get 0 rfl).nthQ 21 HA.out.c21)
 | (go_at_call 118; (with_reducible refine (vqSide T.out (sd) (h1) (h2)).mono ?_); rintro e wn ⟨rfl, tn⟩; have T := Hh tn; clear tn; have c0_0 : wn.cell? ⟨g0, 0, none⟩ = some (.int .i64 7) := (T.out.get 0 rfl).nthQ 0 HA.out.c0; have c0_21 : wn.cell? ⟨g0, 21, none⟩ = some (.int .i64 sd) := (T.out.get 0 rfl).nthQ 21 HA.out.c21)
 | (go_at_call 107; refine (P1.out _ _ _ _ _ T.out rfl rfl).mono ?_; rintro e wn ⟨rfl, tn⟩; have T := Hh tn; clear tn; have c0_0 : wn.cell? ⟨g0, 0, none⟩ = some (.int .i64 7) := (T.out.get 0 rfl).nthQ 0 HA.out.c0; have c0_21 : wn.cell? ⟨g0, 21, none⟩ = some (.int .i64 sd) := (T.out.get 0 rfl).nthQ 21 HA.out.c21)
 | ((with_reducible refine Ze 66 ?_); refine Zy 51 _ g0 (9) (nv) (HA.out.rn _ _ _ (T.out.get 0 rfl)) Xu (by rw [HA.out.nlen]; exact Xb) rfl rfl rfl ?_)
 | (go_at_call 74; refine (P2.out _ _ T.out).mono ?_; rintro e wn ⟨rfl, tn⟩; have T := Hh tn; clear tn; have c0_0 : wn.cell? ⟨g0, 0, none⟩ = some (.int .i64 7) := (T.out.get 0 rfl).nthQ 0 HA.out.c0; have c0_21 : wn.cell? ⟨g0, 21, none⟩ = some (.int .i64 sd) := (T.out.get 0 rfl).nthQ 21 HA.out.c21))
 go_end0
 exact ⟨rfl, T.out.tail⟩
theorem pPlain_9 (w0 : World) (ys sv nv pv : List Value) (sd tk tl how : Int) (nm : ByteArray) (thn els : Value) (ha : ActR ys sv nv pv 9 sd tk tl how nm thn els) (h1 : 1 ≤ sd) (h2 : sd ≤ 3) (KN : List ByteArray) (hnum : Xa w0 74 (.agg nv.toArray) KN) : Xa w0 163 (.agg ys.toArray) ([wd Zt sd] ++ (KN)) := by
 intro b st own x h hr
 obtain ⟨s1, E1⟩ : ∃ s, s = Zp st ([wd Zt sd]) := ⟨_, rfl⟩
 have R1 := Hh (Yk.first hr)
 replace hr := Yk.next hr
 rw [← E1] at hr
 obtain ⟨s2, E2⟩ : ∃ s, s = Zp s1 (KN) := ⟨_, rfl⟩
 have R2 := Hh hr
 clear hr
 have EK : Zp st (([wd Zt sd]) ++ ((KN))) = s2 := by simp only [Yd, E1, E2]
 rw [EK]
 clear EK
 have P1 := Hh (fun own x => Xd (w0 := w0) (b := b) E1 R1.out (by simp) own x)
 have P2 := Hh (hnum.at_ (b := b) E2 R2.out)
 have HE1 := Hh E1
 clear E1
 have HE2 := Hh E2
 clear E2
 have HA := Hh ha
 clear ha hnum
 have T := Hh h
 clear h
 go_enter Tryz.func163, Tryz.ntmps163
 go_wp2_with (first
 | ((with_reducible refine Ze 3 ?_); refine Ya T.out 57 _ (ys) rfl rfl rfl ?_; intro wn g0 tn; have T := Hh tn; clear tn; have c0_0 : wn.cell? ⟨g0, 0, none⟩ = some (.int .i64 9) := (T.out.get 0 rfl).nthQ 0 HA.out.c0; have c0_21 : wn.cell? ⟨g0, 21, none⟩ = some (.int .i64 sd) := (T.out.get 0 rfl).nthQ 21 HA.out.c21)
 | (go_at_call 118; (with_reducible refine (vqSide T.out (sd) (h1) (h2)).mono ?_); rintro e wn ⟨rfl, tn⟩; have T := Hh tn; clear tn; have c0_0 : wn.cell? ⟨g0, 0, none⟩ = some (.int .i64 9) := (T.out.get 0 rfl).nthQ 0 HA.out.c0; have c0_21 : wn.cell? ⟨g0, 21, none⟩ = some (.int .i64 sd) := (T.out.get 0 rfl).nthQ 21 HA.out.c21)
 | (go_at_call 107; refine (P1.out _ _ _ _ _ T.out rfl rfl).mono ?_; rintro e wn ⟨rfl, tn⟩; have T := Hh tn; clear tn; have c0_0 : wn.cell? ⟨g0, 0, none⟩ = some (.int .i64 9) := (T.out.get 0 rfl).nthQ 0 HA.out.c0; have c0_21 : wn.cell? ⟨g0, 21, none⟩ = some (.int .i64 sd) := (T.out.get 0 rfl).nthQ 21 HA.out.c21)
 | ((with_reducible refine Ze 66 ?_); refine Zy 51 _ g0 (9) (nv) (HA.out.rn _ _ _ (T.out.get 0 rfl)) Xu (by rw [HA.out.nlen]; exact Xb) rfl rfl rfl ?_)
 | (go_at_call 74; refine (P2.out _ _ T.out).mono ?_; rintro e wn ⟨rfl, tn⟩; have T := Hh tn; clear tn; have c0_0 : wn.cell? ⟨g0, 0, none⟩ = some (.int .i64 9) := (T.out.get 0 rfl).nthQ 0 HA.out.c0; have c0_21 : wn.cell? ⟨g0, 21, none⟩ = some (.int .i64 sd) := (T.out.get 0 rfl).nthQ 21 HA.out.c21))
 go_end0
 exact ⟨rfl, T.out.tail⟩
theorem pPlain_8 (w0 : World) (ys sv nv pv : List Value) (sd tk tl how : Int) (nm : ByteArray) (thn els : Value) (ha : ActR ys sv nv pv 8 sd tk tl how nm thn els) (h1 : 1 ≤ sd) (h2 : sd ≤ 3) (h3 : 1 ≤ how) (h4 : how ≤ 4) : Xa w0 163 (.agg ys.toArray) ([wd Zt sd, wd wHow how]) := by
 intro b st own x h hr
 obtain ⟨s1, E1⟩ : ∃ s, s = Zp st ([wd Zt sd, wd wHow how]) := ⟨_, rfl⟩
 have R1 := Hh hr
 clear hr
 have EK : Zp st (([wd Zt sd, wd wHow how])) = s1 := by simp only [Yd, E1]
 rw [EK]
 clear EK
 have P1 := Hh (fun own x => Xd (w0 := w0) (b := b) E1 R1.out (by simp) own x)
 have HE1 := Hh E1
 clear E1
 have HA := Hh ha
 clear ha
 have T := Hh h
 clear h
 go_enter Tryz.func163, Tryz.ntmps163
 go_upto_region 23 with (first
 | ((with_reducible refine Ze 3 ?_); refine Ya T.out 57 _ (ys) rfl rfl rfl ?_; intro wn g0 tn; have T := Hh tn; clear tn; have c0_0 : wn.cell? ⟨g0, 0, none⟩ = some (.int .i64 8) := (T.out.get 0 rfl).nthQ 0 HA.out.c0; have c0_21 : wn.cell? ⟨g0, 21, none⟩ = some (.int .i64 sd) := (T.out.get 0 rfl).nthQ 21 HA.out.c21; have c0_24 : wn.cell? ⟨g0, 24, none⟩ = some (.int .i64 how) := (T.out.get 0 rfl).nthQ 24 HA.out.c24))
 refine wp_region_held_drew (S := fun x => ∃ s, PE w0 b s ((g0, 57, ys) :: own) x) (by kernel_rfl) ⟨_, T.out.drew⟩ (fun hS => ?_)
 have hP := T.out.drew
 generalize wn.drew = wf at *
 refine Xg (i := 0) (v := .pointer (some ⟨b, 0, none⟩)) rfl rfl (by kernel_rfl) (by kernel_rfl) (by kernel_rfl) (fun _ _ _ h => h) (qyMove rfl rfl rfl) hS ?_
 try simp only [Qy1, Qx1]
 refine Xg (i := 1) (v := .pointer (some ⟨g0, 21, none⟩)) rfl rfl (by kernel_rfl) (by kernel_rfl) (by kernel_rfl) (fun _ _ _ h => h) (Or.inl ⟨by rfl, fun y hy => by go_simp⟩) hS ?_
 try simp only [Qy1, Qx1]
 refine Xg (i := 2) (v := .int .i64 sd) rfl rfl (by kernel_rfl) (by kernel_rfl) (by kernel_rfl) (fun _ _ _ h => h) (Or.inl ⟨by rfl, fun y hy => by obtain ⟨_, hy⟩ := hy; have c0 := (PE.get hy 0 rfl).nthQ 21 HA.out.c21; go_simp⟩) hS ?_
 try simp only [Qy1, Qx1]
 refine Xg (i := 4) (v := .pointer (some ⟨g0, 24, none⟩)) rfl rfl (by kernel_rfl) (by kernel_rfl) (by kernel_rfl) (fun _ _ _ h => h) (Or.inl ⟨by rfl, fun y hy => by go_simp⟩) hS ?_
 try simp only [Qy1, Qx1]
 refine Xg (i := 5) (v := .int .i64 how) rfl rfl (by kernel_rfl) (by kernel_rfl) (by kernel_rfl) (fun _ _ _ h => h) (Or.inl ⟨by rfl, fun y hy => by obtain ⟨_, hy⟩ := hy; have c0 := (PE.get hy 0 rfl).nthQ 24 HA.out.c24; go_simp⟩) hS ?_
 try simp only [Qy1, Qx1]
 refine wpAnyH_ready (rs := [3, 6]) (by kernel_rfl) (by simp) (AllReadyH.cons rfl (fun K hK => ?_) (AllReadyH.cons rfl (fun K hK => ?_) AllReadyH.nil))
 · clear hS
   go_simp
   go_at_call 118
   refine (vqSide hP sd h1 h2).mono ?_
   rintro e wf ⟨rfl, hP2⟩
   clear hP
   have hP := hP2
   clear hP2
   refine hK.out _ _ ⟨_, hP⟩ (fun hS => ?_)
   clear hK K
   try simp only [Act.put, Qz1, Qy1, Qx1]
   refine wpAnyH_ready (rs := [6]) (by kernel_rfl) (by simp) (AllReadyH.cons rfl (fun K hK => ?_) AllReadyH.nil)
   clear hS
   go_simp
   have hP2 := hP.call (Za wf (.cells #[.string ⟨#[102, 105, 114, 115, 116]⟩, .string ⟨#[108, 97, 115, 116]⟩, .string ⟨#[99, 104, 101, 97, 112, 101, 115, 116]⟩, .string ⟨#[99, 111, 115, 116, 108, 105, 101, 115, 116]⟩] 9))
   have hW : Zb (World.alloc wf (.cells #[.string ⟨#[102, 105, 114, 115, 116]⟩, .string ⟨#[108, 97, 115, 116]⟩, .string ⟨#[99, 104, 101, 97, 112, 101, 115, 116]⟩, .string ⟨#[99, 111, 115, 116, 108, 105, 101, 115, 116]⟩] 9)) wf.heap.size 9 (Zaf wHow) := Zb.made _ _ _
   obtain ⟨q, hq⟩ : ∃ q, q = wf.heap.size := ⟨_, rfl⟩
   rw [← hq] at hW ⊢
   clear hq hP
   generalize World.alloc wf (.cells #[.string ⟨#[102, 105, 114, 115, 116]⟩, .string ⟨#[108, 97, 115, 116]⟩, .string ⟨#[99, 104, 101, 97, 112, 101, 115, 116]⟩, .string ⟨#[99, 111, 115, 116, 108, 105, 101, 115, 116]⟩] 9) = wf at *
   have hP := hP2
   clear hP2
   refine hK.out _ _ ⟨_, hP⟩ (fun hS => ?_)
   clear hK K
   try simp only [Act.put, Qz1, Qy1, Qx1]
   refine wpAnyH_ready (rs := [7]) (by kernel_rfl) (by simp) (AllReadyH.cons rfl (fun K hK => ?_) AllReadyH.nil)
   clear hS
   go_simp
   go_at_call 117
   refine (vqWordW hP hW how 4 4 rfl h3 (by show _ ≤ ((4 : Nat) : Int); omega) (by decide)).mono ?_
   rintro e wf ⟨rfl, hP2⟩
   clear hW
   clear hP
   have hP := hP2
   clear hP2
   refine hK.out _ _ ⟨_, hP⟩ (fun hS => ?_)
   clear hK K
   try simp only [Act.put, Qz1, Qy1, Qx1]
   refine wpAnyH_ready (rs := [8]) (by kernel_rfl) (by simp) (AllReadyH.cons rfl (fun K hK => ?_) AllReadyH.nil)
   clear hS
   go_simp
   refine hK.out _ _ ⟨_, hP.call (Za wf (.cells #[.string (wd Zt sd), .string (wd wHow how)] 9))⟩ (fun hS => ?_)
   clear hK K
   try simp only [Act.put, Qz1, Qy1, Qx1]
   refine wpAnyH_ready (rs := [9]) (by kernel_rfl) (by simp) (AllReadyH.cons rfl (fun K hK => ?_) AllReadyH.nil)
   clear hS
   go_simp
   go_at_call 107
   refine (P1.out _ _ _ _ _ hP rfl rfl).mono ?_
   rintro e wf ⟨rfl, hP2⟩
   clear hP
   have hP := hP2
   clear hP2
   refine hK.out _ _ ⟨_, hP⟩ (fun hS => ?_)
   clear hK K
   try simp only [Act.put, Qz1, Qy1, Qx1]
   refine wpAnyH_done (by kernel_rfl) ?_ _
   have T := Hh hP
   clear hP hS
   go_wp2
   go_end0
   exact ⟨rfl, T.out.tail⟩
 · clear hS
   go_simp
   have hP2 := hP.call (Za wf (.cells #[.string ⟨#[102, 105, 114, 115, 116]⟩, .string ⟨#[108, 97, 115, 116]⟩, .string ⟨#[99, 104, 101, 97, 112, 101, 115, 116]⟩, .string ⟨#[99, 111, 115, 116, 108, 105, 101, 115, 116]⟩] 9))
   have hW : Zb (World.alloc wf (.cells #[.string ⟨#[102, 105, 114, 115, 116]⟩, .string ⟨#[108, 97, 115, 116]⟩, .string ⟨#[99, 104, 101, 97, 112, 101, 115, 116]⟩, .string ⟨#[99, 111, 115, 116, 108, 105, 101, 115, 116]⟩] 9)) wf.heap.size 9 (Zaf wHow) := Zb.made _ _ _
   obtain ⟨q, hq⟩ : ∃ q, q = wf.heap.size := ⟨_, rfl⟩
   rw [← hq] at hW ⊢
   clear hq hP
   generalize World.alloc wf (.cells #[.string ⟨#[102, 105, 114, 115, 116]⟩, .string ⟨#[108, 97, 115, 116]⟩, .string ⟨#[99, 104, 101, 97, 112, 101, 115, 116]⟩, .string ⟨#[99, 111, 115, 116, 108, 105, 101, 115, 116]⟩] 9) = wf at *
   have hP := hP2
   clear hP2
   refine hK.out _ _ ⟨_, hP⟩ (fun hS => ?_)
   clear hK K
   try simp only [Act.put, Qz1, Qy1, Qx1]
   refine wpAnyH_ready (rs := [3]) (by kernel_rfl) (by simp) (AllReadyH.cons rfl (fun K hK => ?_) AllReadyH.nil)
   clear hS
   go_simp
   go_at_call 118
   refine (vqSideW hP hW sd h1 h2).mono ?_
   rintro e wf ⟨rfl, hP2, hW2⟩
   clear hW
   have hW := hW2
   clear hW2
   clear hP
   have hP := hP2
   clear hP2
   refine hK.out _ _ ⟨_, hP⟩ (fun hS => ?_)
   clear hK K
   try simp only [Act.put, Qz1, Qy1, Qx1]
   refine wpAnyH_ready (rs := [7]) (by kernel_rfl) (by simp) (AllReadyH.cons rfl (fun K hK => ?_) AllReadyH.nil)
   clear hS
   go_simp
   go_at_call 117
   refine (vqWordW hP hW how 4 4 rfl h3 (by show _ ≤ ((4 : Nat) : Int); omega) (by decide)).mono ?_
   rintro e wf ⟨rfl, hP2⟩
   clear hW
   clear hP
   have hP := hP2
   clear hP2
   refine hK.out _ _ ⟨_, hP⟩ (fun hS => ?_)
   clear hK K
   try simp only [Act.put, Qz1, Qy1, Qx1]
   refine wpAnyH_ready (rs := [8]) (by kernel_rfl) (by simp) (AllReadyH.cons rfl (fun K hK => ?_) AllReadyH.nil)
   clear hS
   go_simp
   refine hK.out _ _ ⟨_, hP.call (Za wf (.cells #[.string (wd Zt sd), .string (wd wHow how)] 9))⟩ (fun hS => ?_)
   clear hK K
   try simp only [Act.put, Qz1, Qy1, Qx1]
   refine wpAnyH_ready (rs := [9]) (by kernel_rfl) (by simp) (AllReadyH.cons rfl (fun K hK => ?_) AllReadyH.nil)
   clear hS
   go_simp
   go_at_call 107
   refine (P1.out _ _ _ _ _ hP rfl rfl).mono ?_
   rintro e wf ⟨rfl, hP2⟩
   clear hP
   have hP := hP2
   clear hP2
   refine hK.out _ _ ⟨_, hP⟩ (fun hS => ?_)
   clear hK K
   try simp only [Act.put, Qz1, Qy1, Qx1]
   refine wpAnyH_done (by kernel_rfl) ?_ _
   have T := Hh hP
   clear hP hS
   go_wp2
   go_end0
   exact ⟨rfl, T.out.tail⟩
theorem pPlain_13 (w0 : World) (ys sv nv pv : List Value) (sd tk tl how : Int) (nm : ByteArray) (thn els : Value) (ha : ActR ys sv nv pv 13 sd tk tl how nm thn els) (h1 : 1 ≤ sd) (h2 : sd ≤ 3) (KT : List ByteArray) (hto : Xa w0 123 (.agg ([.int .i64 tk, .int .i64 tl] : List Value).toArray) KT) : Xa w0 163 (.agg ys.toArray) ([wd Zt sd] ++ (KT)) := by
 intro b st own x h hr
 obtain ⟨s1, E1⟩ : ∃ s, s = Zp st ([wd Zt sd]) := ⟨_, rfl⟩
 have R1 := Hh (Yk.first hr)
 replace hr := Yk.next hr
 rw [← E1] at hr
 obtain ⟨s2, E2⟩ : ∃ s, s = Zp s1 (KT) := ⟨_, rfl⟩
 have R2 := Hh hr
 clear hr
 have EK : Zp st (([wd Zt sd]) ++ ((KT))) = s2 := by simp only [Yd, E1, E2]
 rw [EK]
 clear EK
 have P1 := Hh (fun own x => Xd (w0 := w0) (b := b) E1 R1.out (by simp) own x)
 have P2 := Hh (hto.at_ (b := b) E2 R2.out)
 have HE1 := Hh E1
 clear E1
 have HE2 := Hh E2
 clear E2
 have HA := Hh ha
 clear ha hto
 have T := Hh h
 clear h
 go_enter Tryz.func163, Tryz.ntmps163
 go_wp2_with (first
 | ((with_reducible refine Ze 3 ?_); refine Ya T.out 57 _ (ys) rfl rfl rfl ?_; intro wn g0 tn; have T := Hh tn; clear tn; have c0_0 : wn.cell? ⟨g0, 0, none⟩ = some (.int .i64 13) := (T.out.get 0 rfl).nthQ 0 HA.out.c0; have c0_21 : wn.cell? ⟨g0, 21, none⟩ = some (.int .i64 sd) := (T.out.get 0 rfl).nthQ 21 HA.out.c21)
 | (go_at_call 118; (with_reducible refine (vqSide T.out (sd) (h1) (h2)).mono ?_); rintro e wn ⟨rfl, tn⟩; have T := Hh tn; clear tn; have c0_0 : wn.cell? ⟨g0, 0, none⟩ = some (.int .i64 13) := (T.out.get 0 rfl).nthQ 0 HA.out.c0; have c0_21 : wn.cell? ⟨g0, 21, none⟩ = some (.int .i64 sd) := (T.out.get 0 rfl).nthQ 21 HA.out.c21)
 | (go_at_call 107; refine (P1.out _ _ _ _ _ T.out rfl rfl).mono ?_; rintro e wn ⟨rfl, tn⟩; have T := Hh tn; clear tn; have c0_0 : wn.cell? ⟨g0, 0, none⟩ = some (.int .i64 13) := (T.out.get 0 rfl).nthQ 0 HA.out.c0; have c0_21 : wn.cell? ⟨g0, 21, none⟩ = some (.int .i64 sd) := (T.out.get 0 rfl).nthQ 21 HA.out.c21)
 | ((with_reducible refine Ze 91 ?_); refine Zy 48 _ g0 (22) ([.int .i64 tk, .int .i64 tl]) (HA.out.rt _ _ _ (T.out.get 0 rfl)) qrow_to qsize_to rfl rfl rfl ?_)
 | (go_at_call 123; refine (P2.out _ _ T.out).mono ?_; rintro e wn ⟨rfl, tn⟩; have T := Hh tn; clear tn; have c0_0 : wn.cell? ⟨g0, 0, none⟩ = some (.int .i64 13) := (T.out.get 0 rfl).nthQ 0 HA.out.c0; have c0_21 : wn.cell? ⟨g0, 21, none⟩ = some (.int .i64 sd) := (T.out.get 0 rfl).nthQ 21 HA.out.c21))
 go_end0
 exact ⟨rfl, T.out.tail⟩
theorem pPlain_15 (w0 : World) (ys sv nv pv : List Value) (sd tk tl how : Int) (nm : ByteArray) (thn els : Value) (ha : ActR ys sv nv pv 15 sd tk tl how nm thn els) (h1 : 1 ≤ sd) (h2 : sd ≤ 3) (KT : List ByteArray) (hto : Xa w0 123 (.agg ([.int .i64 tk, .int .i64 tl] : List Value).toArray) KT) : Xa w0 163 (.agg ys.toArray) ([wd Zt sd] ++ (KT)) := by
 intro b st own x h hr
 obtain ⟨s1, E1⟩ : ∃ s, s = Zp st ([wd Zt sd]) := ⟨_, rfl⟩
 have R1 := Hh (Yk.first hr)
 replace hr := Yk.next hr
 rw [← E1] at hr
 obtain ⟨s2, E2⟩ : ∃ s, s = Zp s1 (KT) := ⟨_, rfl⟩
 have R2 := Hh hr
 clear hr
 have EK : Zp st (([wd Zt sd]) ++ ((KT))) = s2 := by simp only [Yd, E1, E2]
 rw [EK]
 clear EK
 have P1 := Hh (fun own x => Xd (w0 := w0) (b := b) E1 R1.out (by simp) own x)
 have P2 := Hh (hto.at_ (b := b) E2 R2.out)
 have HE1 := Hh E1
 clear E1
 have HE2 := Hh E2
 clear E2
 have HA := Hh ha
 clear ha hto
 have T := Hh h
 clear h
 go_enter Tryz.func163, Tryz.ntmps163
 go_wp2_with (first
 | ((with_reducible refine Ze 3 ?_); refine Ya T.out 57 _ (ys) rfl rfl rfl ?_; intro wn g0 tn; have T := Hh tn; clear tn; have c0_0 : wn.cell? ⟨g0, 0, none⟩ = some (.int .i64 15) := (T.out.get 0 rfl).nthQ 0 HA.out.c0; have c0_21 : wn.cell? ⟨g0, 21, none⟩ = some (.int .i64 sd) := (T.out.get 0 rfl).nthQ 21 HA.out.c21)
 | (go_at_call 118; (with_reducible refine (vqSide T.out (sd) (h1) (h2)).mono ?_); rintro e wn ⟨rfl, tn⟩; have T := Hh tn; clear tn; have c0_0 : wn.cell? ⟨g0, 0, none⟩ = some (.int .i64 15) := (T.out.get 0 rfl).nthQ 0 HA.out.c0; have c0_21 : wn.cell? ⟨g0, 21, none⟩ = some (.int .i64 sd) := (T.out.get 0 rfl).nthQ 21 HA.out.c21)
 | (go_at_call 107; refine (P1.out _ _ _ _ _ T.out rfl rfl).mono ?_; rintro e wn ⟨rfl, tn⟩; have T := Hh tn; clear tn; have c0_0 : wn.cell? ⟨g0, 0, none⟩ = some (.int .i64 15) := (T.out.get 0 rfl).nthQ 0 HA.out.c0; have c0_21 : wn.cell? ⟨g0, 21, none⟩ = some (.int .i64 sd) := (T.out.get 0 rfl).nthQ 21 HA.out.c21)
 | ((with_reducible refine Ze 91 ?_); refine Zy 48 _ g0 (22) ([.int .i64 tk, .int .i64 tl]) (HA.out.rt _ _ _ (T.out.get 0 rfl)) qrow_to qsize_to rfl rfl rfl ?_)
 | (go_at_call 123; refine (P2.out _ _ T.out).mono ?_; rintro e wn ⟨rfl, tn⟩; have T := Hh tn; clear tn; have c0_0 : wn.cell? ⟨g0, 0, none⟩ = some (.int .i64 15) := (T.out.get 0 rfl).nthQ 0 HA.out.c0; have c0_21 : wn.cell? ⟨g0, 21, none⟩ = some (.int .i64 sd) := (T.out.get 0 rfl).nthQ 21 HA.out.c21))
 go_end0
 exact ⟨rfl, T.out.tail⟩
theorem pCond (w0 : World) (cop : Int) (cl cr : List Value) (e3 : cl.length = 12) (e4 : cr.length = 12) (h1 : 1 ≤ cop) (h2 : cop ≤ 6) (K1 K2 : List ByteArray) (hl : Xa w0 74 (.agg cl.toArray) K1) (hrr : Xa w0 74 (.agg cr.toArray) K2) :
   Xa w0 162 (.agg (Wg cop cl cr).toArray) (K1 ++ ([wd wOp cop] ++ K2)) := by
 intro b st own x h hr
 obtain ⟨s1, E1⟩ : ∃ s, s = Zp st (K1) := ⟨_, rfl⟩
 have R1 := Hh (Yk.first hr)
 replace hr := Yk.next hr
 rw [← E1] at hr
 obtain ⟨s2, E2⟩ : ∃ s, s = Zp s1 ([wd wOp cop]) := ⟨_, rfl⟩
 have R2 := Hh (Yk.first hr)
 replace hr := Yk.next hr
 rw [← E2] at hr
 obtain ⟨s3, E3⟩ : ∃ s, s = Zp s2 (K2) := ⟨_, rfl⟩
 have R3 := Hh hr
 clear hr
 have EK : Zp st ((K1) ++ (([wd wOp cop]) ++ ((K2)))) = s3 := by simp only [Yd, E1, E2, E3]
 rw [EK]
 clear EK
 have P1 := Hh (hl.at_ (b := b) E1 R1.out)
 have P2 := Hh (fun own x => Xd (w0 := w0) (b := b) E2 R2.out (by simp) own x)
 have P3 := Hh (hrr.at_ (b := b) E3 R3.out)
 have HE1 := Hh E1
 clear E1
 have HE2 := Hh E2
 clear E2
 have HE3 := Hh E3
 clear E3
 have rl : ∀ (x : World) (g : Nat) (t : TypeId), Zb x g t (Wg cop cl cr).toArray → x.rangeAt g 1 cl := fun x g t hw => range_mid (pre := [.int .i64 cop]) (post := cr) (by simp [Wg]) rfl hw
 have rr : ∀ (x : World) (g : Nat) (t : TypeId), Zb x g t (Wg cop cl cr).toArray → x.rangeAt g 13 cr := fun x g t hw => range_mid (pre := .int .i64 cop :: cl) (post := []) (by simp [Wg]) (by simp [e3]) hw
 have c0 : (Wg cop cl cr)[0]? = some (.int .i64 cop) := rfl
 generalize Wg cop cl cr = vs at *
 have HL := Hh rl
 have HR := Hh rr
 have H0 := Hh c0
 have H3 := Hh e3
 have H4 := Hh e4
 clear hl hrr rl rr c0 e3 e4
 have T := Hh h
 clear h
 go_enter Tryz.func162, Tryz.ntmps162
 go_wp2_with (first
 | ((with_reducible refine Ze 3 ?_); refine Ya T.out 55 _ (vs) rfl rfl rfl ?_; intro wn g0 tn; have T := Hh tn; clear tn; have c0_0 : wn.cell? ⟨g0, 0, none⟩ = some (.int .i64 cop) := (T.out.get 0 rfl).nthQ 0 H0.out)
 | ((with_reducible refine Ze 6 ?_); refine Zy 51 _ g0 (1) (cl) (HL.out _ _ _ (T.out.get 0 rfl)) Xu (by rw [H3.out]; exact Xb) rfl rfl rfl ?_)
 | (go_at_call 74; (with_reducible refine (P1.out _ _ T.out).mono ?_); rintro e wn ⟨rfl, tn⟩; have T := Hh tn; clear tn; have c0_0 : wn.cell? ⟨g0, 0, none⟩ = some (.int .i64 cop) := (T.out.get 0 rfl).nthQ 0 H0.out)
 | (go_at_call 161; (with_reducible refine (vqOp T.out (cop) (h1) (h2)).mono ?_); rintro e wn ⟨rfl, tn⟩; have T := Hh tn; clear tn; have c0_0 : wn.cell? ⟨g0, 0, none⟩ = some (.int .i64 cop) := (T.out.get 0 rfl).nthQ 0 H0.out)
 | (go_at_call 107; refine (P2.out _ _ _ _ _ T.out rfl rfl).mono ?_; rintro e wn ⟨rfl, tn⟩; have T := Hh tn; clear tn; have c0_0 : wn.cell? ⟨g0, 0, none⟩ = some (.int .i64 cop) := (T.out.get 0 rfl).nthQ 0 H0.out)
 | ((with_reducible refine Ze 16 ?_); refine Zy 51 _ g0 (13) (cr) (HR.out _ _ _ (T.out.get 0 rfl)) Xu (by rw [H4.out]; exact Xb) rfl rfl rfl ?_)
 | (go_at_call 74; (with_reducible refine (P3.out _ _ T.out).mono ?_); rintro e wn ⟨rfl, tn⟩; have T := Hh tn; clear tn; have c0_0 : wn.cell? ⟨g0, 0, none⟩ = some (.int .i64 cop) := (T.out.get 0 rfl).nthQ 0 H0.out))
 go_end0
 exact ⟨rfl, T.out.tail⟩
end Go.Proofs.YtljdgdphldckhaaGreat
