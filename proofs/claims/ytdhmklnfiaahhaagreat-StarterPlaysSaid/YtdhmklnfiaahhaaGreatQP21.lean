/-
  Texts Q3, Q4, UnpAct. No conditions but those that each theorem names.
-/
import Derived.Test.YtdhmklnfiaahhaaGreatQP20
namespace Go.Proofs.YtdhmklnfiaahhaaGreat
open Go.Great Go.ChangeShapes Go.WideShapes Go.ChangeAt Go.RowKit
set_option maxRecDepth 20000
set_option maxHeartbeats 12800000
set_option linter.unusedVariables false
set_option linter.unusedSimpArgs false
def wSign : List ByteArray := [⟨#[43]⟩, ⟨#[45]⟩, ⟨#[42]⟩]
def kB (b : Bool) (X : List ByteArray) : List ByteArray := if b = true then [Vp] ++ (X ++ [Jc]) else X
def kLeaf (kind n : Int) (sel : Se) (side tk tl : Int) : List ByteArray :=
 if kind = 1 then [Ui n] else if kind = 2 ∨ kind = 3 then [wd Vc (kind - 1)] ++ kSel sel else if kind = 4 then [wd Vc 3] else if kind = 5 then [wd Vc 4, wd Zt side] else [wd Vc 5, wd Zt side] ++ kTo tk tl
def kEx : Ex → List ByteArray
 | .leaf kind n sel side tk tl => kLeaf kind n sel side tk tl
 | .bin op l r => kB (must false op l) (kEx l) ++ ([wd wSign op] ++ kB (must true op r) (kEx r))
def tightE : Ex → Int
 | .leaf .. => 3
 | .bin op _ _ => if op = 3 then 2 else 1
def brB (whole tight : Int) (first : Bool) : Bool := !(decide (whole < tight) || (first && (tight == whole)))
theorem br_must {op : Int} (h1 : 1 ≤ op) (h3 : op ≤ 3) (first : Bool) : ∀ x : Ex, VEx x → brB (tightE (.bin op x x)) (tightE x) first = must (!first) op x
 | .leaf .., _ => by
   unfold brB must tightE Ex.isSum Ex.isBin
   by_cases h : op = 3 <;> cases first <;> simp [h]
 | .bin o l r, hv => by
   have h : o = 1 ∨ o = 2 ∨ o = 3 := by have := hv.1; omega
   have h' : op = 1 ∨ op = 2 ∨ op = 3 := by omega
   rcases h with rfl | rfl | rfl <;> rcases h' with rfl | rfl | rfl <;> cases first <;> rfl
theorem tight_raw (k n : Int) (vs : List Value) (hvl : vs.length = 12) (h0 : vs[0]? = some (.int .i64 k)) (h1 : vs[1]? = some (.int .i64 n)) (w : World) :
   Calls Tryz.prog 151 #[.agg vs.toArray] w fun e w' => e = .returned (.int .i64 (if k = 7 then (if n = 3 then 2 else 1) else 3)) ∧ Below w.heap.size w w' := by
 have T := Hh (Env.start w)
 have H0 := Hh h0
 have H1 := Hh h1
 clear h0 h1 hvl
 by_cases hk : k = 7
 · rw [if_pos hk]
   subst hk
   by_cases hn : n = 3
   · rw [if_pos hn]
     subst hn
     go_enter Tryz.func151, Tryz.ntmps151
     go_wp2_with ((with_reducible refine Ze 1 ?_); refine Zg T.out 51 _ vs rfl rfl rfl ?_; intro wn g tn; have T := Hh tn; clear tn; have c0 : wn.cell? ⟨g, 0, none⟩ = some (.int .i64 7) := (T.out.get 0 rfl).nthQ 0 H0.out; have c1 : wn.cell? ⟨g, 1, none⟩ = some (.int .i64 3) := (T.out.get 0 rfl).nthQ 1 H1.out)
     go_ret
     exact ⟨rfl, T.out.below⟩
   · rw [if_neg hn]
     have hb : (n == 3) = false := by rw [beq_eq_false_iff_ne]; exact hn
     go_enter Tryz.func151, Tryz.ntmps151
     go_wp2_with ((with_reducible refine Ze 1 ?_); refine Zg T.out 51 _ vs rfl rfl rfl ?_; intro wn g tn; have T := Hh tn; clear tn; have c0 : wn.cell? ⟨g, 0, none⟩ = some (.int .i64 7) := (T.out.get 0 rfl).nthQ 0 H0.out; have c1 : wn.cell? ⟨g, 1, none⟩ = some (.int .i64 n) := (T.out.get 0 rfl).nthQ 1 H1.out)
     go_ret
     exact ⟨rfl, T.out.below⟩
 · rw [if_neg hk]
   have hb : (k != 7) = true := by simpa using hk
   have hb2 : (k == 7) = false := by rw [beq_eq_false_iff_ne]; exact hk
   go_enter Tryz.func151, Tryz.ntmps151
   go_wp2_with ((with_reducible refine Ze 1 ?_); refine Zg T.out 51 _ vs rfl rfl rfl ?_; intro wn g tn; have T := Hh tn; clear tn; have c0 : wn.cell? ⟨g, 0, none⟩ = some (.int .i64 k) := (T.out.get 0 rfl).nthQ 0 H0.out; have c1 : wn.cell? ⟨g, 1, none⟩ = some (.int .i64 n) := (T.out.get 0 rfl).nthQ 1 H1.out)
   go_ret
   exact ⟨rfl, T.out.below⟩
theorem ex_vals {N : Nat → Prop} {w : World} : ∀ {x : Ex} {vs : List Value}, Zi N w x.ds vs → vs.length = 12 ∧ ∃ k n, vs[0]? = some (.int .i64 k) ∧ vs[1]? = some (.int .i64 n) ∧ ((∃ a b c d e, x = .leaf k a b c d e) ∨ (k = 7 ∧ ∃ l r, x = .bin n l r))
 | .leaf k n s sd tk tl, vs, h => by
   have hl := h.len
   rw [Ex.ds_len] at hl
   obtain ⟨_, rfl, _, rfl, h⟩ := h
   exact ⟨hl, k, n, rfl, rfl, .inl ⟨n, s, sd, tk, tl, rfl⟩⟩
 | .bin op l r, vs, h => by
   have hl := h.len
   rw [Ex.ds_len] at hl
   obtain ⟨_, rfl, _, rfl, h⟩ := h
   exact ⟨hl, 7, op, rfl, rfl, .inr ⟨rfl, l, r, rfl⟩⟩
theorem leaf_kind {k n : Int} {s : Se} {sd tk tl : Int} (hv : VLeaf k n s sd tk tl) : k ≠ 7 := by rcases hv with h | h | h | h | h <;> omega
theorem tight_any {N : Nat → Prop} {w0 : World} (x : Ex) (hv : VEx x) (vs : List Value) (hd : Zi N w0 x.ds vs) (w : World) :
   Calls Tryz.prog 151 #[.agg vs.toArray] w fun e w' => e = .returned (.int .i64 (tightE x)) ∧ Below w.heap.size w w' := by
 obtain ⟨hl, k, n, h0, h1, hx⟩ := ex_vals hd
 have h := tight_raw k n vs hl h0 h1 w
 rcases hx with ⟨a, s, c, d, e, rfl⟩ | ⟨rfl, l, r, rfl⟩
 · rw [if_neg (leaf_kind hv)] at h; exact h
 · rw [if_pos rfl] at h; exact h
theorem PE.boxed {w0 x : World} {b : Nat} {st : List Int × Bool} {own : List Bk} (h : PE w0 b st own x) (t : TypeId) (u : Value) : PE w0 b st ((x.heap.size, t, [u]) :: own) (x.alloc (.cells #[u] t)) := h.box t [u]
section
variable {w0 x : World} {b : Nat} {st : List Int × Bool} {own : List Bk} {P : Program} {ops : Array Oper} {rest : List Oper} {o : Oper} {a : Act} {Q : Exit → Act → World → Prop}
theorem wpList_boxP1 (h : PE w0 b st own x) (t : TypeId) (v : Operand) (u : Value) (hg : o.guard = none) (ho : o.op = .box t v) (hv : a.eval v = u) (hu : u.cells = #[u])
   (hn : ∀ y g, PE w0 b st ((g, t, [u]) :: own) y → wpList P ops Q rest (a.put o.dst (.pointer (some ⟨g, 0, none⟩))) y) : wpList P ops Q (o :: rest) a x :=
 wpList_boxTo hg t v ho o.dst rfl x.heap.size rfl #[u] (by rw [hv]; exact hu) (hn _ _ (h.boxed t u))
theorem wpList_storeP1 (h : PE w0 b st own x) (i : Nat) (T : TypeId) (p v : Operand) (t : TypeId) (g : Nat) (old u : Value) (hi0 : own[i]? = some (g, t, [old])) (hi : (P.info? T).map (·.size) = some 1) (h1 : u.oneCell' = true)
   (hgd : o.guard = none) (ho : o.op = .store T p v) (hd : o.dst = none) (hx : a.eval p = .pointer (some ⟨g, 0, none⟩)) (hy : a.eval v = u)
   (hn : ∀ y, PE w0 b st (own.set i (g, t, [u])) y → wpList P ops Q rest a y) : wpList P ops Q (o :: rest) a x :=
 Zn T p v t g 0 [] old u [] (by simpa using h.get i hi0) rfl hi h1 hgd ho hd hx hy fun w' p => hn w' (h.put i hi0 (by simpa using p))
end
theorem qsize_int : (Tryz.prog.info? 3).map (·.size) = some 1 := by kernel_rfl
theorem qz_int : (Tryz.prog.info? 3).map (fun i => i.zero.map Value.cells) = some (some ([.int .i64 0] : List Value).toArray) := by kernel_rfl
theorem qz_ex : (Tryz.prog.info? 51).map (fun i => i.zero.map Value.cells) = some (some ([.int .i64 0, .int .i64 0, .int .i64 0, .int .i64 0, .int .i64 0, .int .i64 0, .slice none 0 0, .int .i64 0, .int .i64 0, .int .i64 0, .int .i64 0, .slice none 0 0] : List Value).toArray) := by kernel_rfl
theorem pOpd_A (w0 : World) (vs : List Value) (hvl : vs.length = 12) (whole tau : Int) (first : Bool) (h1 : whole < tau) (K : List ByteArray) (hx : Xb w0 68 (.agg vs.toArray) K)
   (ht : ∀ x, Calls Tryz.prog 151 #[.agg vs.toArray] x fun e w' => e = .returned (.int .i64 tau) ∧ Below x.heap.size x w') (b : Nat) (st : List Int × Bool) (own : List Bk) (x : World) (h : PE w0 b st own x) (gw gp iw ip : Nat) (t1 t2 : TypeId)
   (hw : own[iw]? = some (gw, t1, [.int .i64 whole])) (hp : own[ip]? = some (gp, t2, [.pointer (some ⟨b, 0, none⟩)])) (hr : Yk st (K)) :
   Calls Tryz.prog 152 #[.agg vs.toArray, .bool first, .pointer (some ⟨gw, 0, none⟩), .pointer (some ⟨gp, 0, none⟩)] x (QPost w0 b (Zp st (K)) own) := by
 obtain ⟨s1, E1⟩ : ∃ s, s = Zp st (K) := ⟨_, rfl⟩
 have R1 := Hh hr
 clear hr
 have EK : Zp st ((K)) = s1 := by simp only [Yd, E1]
 rw [EK]
 clear EK
 have P2 := Hh (hx.at_ (b := b) E1 R1.out)
 have HE1 := Hh E1
 clear E1
 have T := Hh h
 have HT := Hh ht
 have HVL := Hh hvl
 have HWi := Hh hw
 have HPi := Hh hp
 clear h hx ht hvl hw hp
 have d1 : decide (whole < tau) = true := decide_eq_true h1
 cases first
 all_goals
   go_enter Tryz.func152, Tryz.ntmps152
   go_wp2_with (first
 | ((with_reducible refine Ze 4 ?_); refine Ya T.out 51 _ vs rfl rfl rfl ?_; intro wn g tn; have T := Hh tn; clear tn; have cw : wn.cell? ⟨gw, 0, none⟩ = some (.int .i64 whole) := (T.out.get (iw + 1) (by simpa using HWi.out)).read 0; have cp : wn.cell? ⟨gp, 0, none⟩ = some (.pointer (some ⟨b, 0, none⟩)) := (T.out.get (ip + 1) (by simpa using HPi.out)).read 0)
 | ((with_reducible refine Ze 7 ?_); refine Zd 51 _ 51 g vs (T.out.get 0 rfl) Xv (by rw [HVL.out]; exact Xc) rfl rfl rfl ?_)
 | ((with_reducible refine Ze 21 ?_); refine Zd 51 _ 51 g vs (T.out.get 0 rfl) Xv (by rw [HVL.out]; exact Xc) rfl rfl rfl ?_)
 | ((with_reducible refine Ze 27 ?_); refine Zd 51 _ 51 g vs (T.out.get 0 rfl) Xv (by rw [HVL.out]; exact Xc) rfl rfl rfl ?_)
 | (go_at_call 151; refine (HT.out _).mono ?_; rintro e wn ⟨rfl, bn⟩; have T := Hh (T.out.call bn); clear bn; have cw : wn.cell? ⟨gw, 0, none⟩ = some (.int .i64 whole) := (T.out.get (iw + 1) (by simpa using HWi.out)).read 0; have cp : wn.cell? ⟨gp, 0, none⟩ = some (.pointer (some ⟨b, 0, none⟩)) := (T.out.get (ip + 1) (by simpa using HPi.out)).read 0)
 | (go_at_call 68; refine (P2.out _ _ T.out).mono ?_; rintro e wn ⟨rfl, tn⟩; have T := Hh tn; clear tn; have cw : wn.cell? ⟨gw, 0, none⟩ = some (.int .i64 whole) := (T.out.get (iw + 1) (by simpa using HWi.out)).read 0; have cp : wn.cell? ⟨gp, 0, none⟩ = some (.pointer (some ⟨b, 0, none⟩)) := (T.out.get (ip + 1) (by simpa using HPi.out)).read 0))
   go_end0
   exact ⟨rfl, T.out.tail⟩
theorem pOpd_B (w0 : World) (vs : List Value) (hvl : vs.length = 12) (whole tau : Int) (h1 : ¬ whole < tau) (h2 : tau = whole) (K : List ByteArray) (hx : Xb w0 68 (.agg vs.toArray) K)
   (ht : ∀ x, Calls Tryz.prog 151 #[.agg vs.toArray] x fun e w' => e = .returned (.int .i64 tau) ∧ Below x.heap.size x w') (b : Nat) (st : List Int × Bool) (own : List Bk) (x : World) (h : PE w0 b st own x) (gw gp iw ip : Nat) (t1 t2 : TypeId)
   (hw : own[iw]? = some (gw, t1, [.int .i64 whole])) (hp : own[ip]? = some (gp, t2, [.pointer (some ⟨b, 0, none⟩)])) (hr : Yk st (K)) :
   Calls Tryz.prog 152 #[.agg vs.toArray, .bool true, .pointer (some ⟨gw, 0, none⟩), .pointer (some ⟨gp, 0, none⟩)] x (QPost w0 b (Zp st (K)) own) := by
 obtain ⟨s1, E1⟩ : ∃ s, s = Zp st (K) := ⟨_, rfl⟩
 have R1 := Hh hr
 clear hr
 have EK : Zp st ((K)) = s1 := by simp only [Yd, E1]
 rw [EK]
 clear EK
 have P2 := Hh (hx.at_ (b := b) E1 R1.out)
 have HE1 := Hh E1
 clear E1
 have T := Hh h
 have HT := Hh ht
 have HVL := Hh hvl
 have HWi := Hh hw
 have HPi := Hh hp
 clear h hx ht hvl hw hp
 have d1 : decide (whole < tau) = false := decide_eq_false h1
 have d2 : (tau == whole) = true := by simpa using h2
 subst h2
 go_enter Tryz.func152, Tryz.ntmps152
 go_wp2_with (first
 | ((with_reducible refine Ze 4 ?_); refine Ya T.out 51 _ vs rfl rfl rfl ?_; intro wn g tn; have T := Hh tn; clear tn; have cw : wn.cell? ⟨gw, 0, none⟩ = some (.int .i64 tau) := (T.out.get (iw + 1) (by simpa using HWi.out)).read 0; have cp : wn.cell? ⟨gp, 0, none⟩ = some (.pointer (some ⟨b, 0, none⟩)) := (T.out.get (ip + 1) (by simpa using HPi.out)).read 0)
 | ((with_reducible refine Ze 7 ?_); refine Zd 51 _ 51 g vs (T.out.get 0 rfl) Xv (by rw [HVL.out]; exact Xc) rfl rfl rfl ?_)
 | ((with_reducible refine Ze 21 ?_); refine Zd 51 _ 51 g vs (T.out.get 0 rfl) Xv (by rw [HVL.out]; exact Xc) rfl rfl rfl ?_)
 | ((with_reducible refine Ze 27 ?_); refine Zd 51 _ 51 g vs (T.out.get 0 rfl) Xv (by rw [HVL.out]; exact Xc) rfl rfl rfl ?_)
 | (go_at_call 151; refine (HT.out _).mono ?_; rintro e wn ⟨rfl, bn⟩; have T := Hh (T.out.call bn); clear bn; have cw : wn.cell? ⟨gw, 0, none⟩ = some (.int .i64 tau) := (T.out.get (iw + 1) (by simpa using HWi.out)).read 0; have cp : wn.cell? ⟨gp, 0, none⟩ = some (.pointer (some ⟨b, 0, none⟩)) := (T.out.get (ip + 1) (by simpa using HPi.out)).read 0)
 | (go_at_call 68; refine (P2.out _ _ T.out).mono ?_; rintro e wn ⟨rfl, tn⟩; have T := Hh tn; clear tn; have cw : wn.cell? ⟨gw, 0, none⟩ = some (.int .i64 tau) := (T.out.get (iw + 1) (by simpa using HWi.out)).read 0; have cp : wn.cell? ⟨gp, 0, none⟩ = some (.pointer (some ⟨b, 0, none⟩)) := (T.out.get (ip + 1) (by simpa using HPi.out)).read 0))
 go_end0
 exact ⟨rfl, T.out.tail⟩
theorem pOpd_C (w0 : World) (vs : List Value) (hvl : vs.length = 12) (whole tau : Int) (h1 : ¬ whole < tau) (h2 : tau ≠ whole) (K : List ByteArray) (hx : Xb w0 68 (.agg vs.toArray) K)
   (ht : ∀ x, Calls Tryz.prog 151 #[.agg vs.toArray] x fun e w' => e = .returned (.int .i64 tau) ∧ Below x.heap.size x w') (b : Nat) (st : List Int × Bool) (own : List Bk) (x : World) (h : PE w0 b st own x) (gw gp iw ip : Nat) (t1 t2 : TypeId)
   (hw : own[iw]? = some (gw, t1, [.int .i64 whole])) (hp : own[ip]? = some (gp, t2, [.pointer (some ⟨b, 0, none⟩)])) (hr : Yk st ([Vp] ++ (K ++ [Jc]))) :
   Calls Tryz.prog 152 #[.agg vs.toArray, .bool true, .pointer (some ⟨gw, 0, none⟩), .pointer (some ⟨gp, 0, none⟩)] x (QPost w0 b (Zp st ([Vp] ++ (K ++ [Jc]))) own) := by
 obtain ⟨s1, E1⟩ : ∃ s, s = Zp st ([Vp]) := ⟨_, rfl⟩
 have R1 := Hh (Yk.first hr)
 replace hr := Yk.next hr
 rw [← E1] at hr
 obtain ⟨s2, E2⟩ : ∃ s, s = Zp s1 (K) := ⟨_, rfl⟩
 have R2 := Hh (Yk.first hr)
 replace hr := Yk.next hr
 rw [← E2] at hr
 obtain ⟨s3, E3⟩ : ∃ s, s = Zp s2 ([Jc]) := ⟨_, rfl⟩
 have R3 := Hh hr
 clear hr
 have EK : Zp st (([Vp]) ++ ((K) ++ (([Jc])))) = s3 := by simp only [Yd, E1, E2, E3]
 rw [EK]
 clear EK
 have P1 := Hh (fun own x => Xe (w0 := w0) (b := b) E1 R1.out (by simp) own x)
 have P2 := Hh (hx.at_ (b := b) E2 R2.out)
 have P3 := Hh (fun own x => Xe (w0 := w0) (b := b) E3 R3.out (by simp) own x)
 have HE1 := Hh E1
 clear E1
 have HE2 := Hh E2
 clear E2
 have HE3 := Hh E3
 clear E3
 have T := Hh h
 have HT := Hh ht
 have HVL := Hh hvl
 have HWi := Hh hw
 have HPi := Hh hp
 clear h hx ht hvl hw hp
 have d1 : decide (whole < tau) = false := decide_eq_false h1
 have d2 : (tau == whole) = false := by simpa using h2
 go_enter Tryz.func152, Tryz.ntmps152
 go_wp2_with (first
 | ((with_reducible refine Ze 4 ?_); refine Ya T.out 51 _ vs rfl rfl rfl ?_; intro wn g tn; have T := Hh tn; clear tn; have cw : wn.cell? ⟨gw, 0, none⟩ = some (.int .i64 whole) := (T.out.get (iw + 1) (by simpa using HWi.out)).read 0; have cp : wn.cell? ⟨gp, 0, none⟩ = some (.pointer (some ⟨b, 0, none⟩)) := (T.out.get (ip + 1) (by simpa using HPi.out)).read 0)
 | ((with_reducible refine Ze 7 ?_); refine Zd 51 _ 51 g vs (T.out.get 0 rfl) Xv (by rw [HVL.out]; exact Xc) rfl rfl rfl ?_)
 | ((with_reducible refine Ze 21 ?_); refine Zd 51 _ 51 g vs (T.out.get 0 rfl) Xv (by rw [HVL.out]; exact Xc) rfl rfl rfl ?_)
 | ((with_reducible refine Ze 27 ?_); refine Zd 51 _ 51 g vs (T.out.get 0 rfl) Xv (by rw [HVL.out]; exact Xc) rfl rfl rfl ?_)
 | (go_at_call 151; refine (HT.out _).mono ?_; rintro e wn ⟨rfl, bn⟩; have T := Hh (T.out.call bn); clear bn; have cw : wn.cell? ⟨gw, 0, none⟩ = some (.int .i64 whole) := (T.out.get (iw + 1) (by simpa using HWi.out)).read 0; have cp : wn.cell? ⟨gp, 0, none⟩ = some (.pointer (some ⟨b, 0, none⟩)) := (T.out.get (ip + 1) (by simpa using HPi.out)).read 0)
 | (go_at_call 98; refine (P1.out _ _ _ _ _ T.out rfl rfl).mono ?_; rintro e wn ⟨rfl, tn⟩; have T := Hh tn; clear tn; have cw : wn.cell? ⟨gw, 0, none⟩ = some (.int .i64 whole) := (T.out.get (iw + 1) (by simpa using HWi.out)).read 0; have cp : wn.cell? ⟨gp, 0, none⟩ = some (.pointer (some ⟨b, 0, none⟩)) := (T.out.get (ip + 1) (by simpa using HPi.out)).read 0)
 | (go_at_call 98; refine (P3.out _ _ _ _ _ T.out rfl rfl).mono ?_; rintro e wn ⟨rfl, tn⟩; have T := Hh tn; clear tn; have cw : wn.cell? ⟨gw, 0, none⟩ = some (.int .i64 whole) := (T.out.get (iw + 1) (by simpa using HWi.out)).read 0; have cp : wn.cell? ⟨gp, 0, none⟩ = some (.pointer (some ⟨b, 0, none⟩)) := (T.out.get (ip + 1) (by simpa using HPi.out)).read 0)
 | (go_at_call 68; refine (P2.out _ _ T.out).mono ?_; rintro e wn ⟨rfl, tn⟩; have T := Hh tn; clear tn; have cw : wn.cell? ⟨gw, 0, none⟩ = some (.int .i64 whole) := (T.out.get (iw + 1) (by simpa using HWi.out)).read 0; have cp : wn.cell? ⟨gp, 0, none⟩ = some (.pointer (some ⟨b, 0, none⟩)) := (T.out.get (ip + 1) (by simpa using HPi.out)).read 0))
 go_end0
 exact ⟨rfl, T.out.tail⟩
theorem pOpd_D (w0 : World) (vs : List Value) (hvl : vs.length = 12) (whole tau : Int) (h1 : ¬ whole < tau) (K : List ByteArray) (hx : Xb w0 68 (.agg vs.toArray) K)
   (ht : ∀ x, Calls Tryz.prog 151 #[.agg vs.toArray] x fun e w' => e = .returned (.int .i64 tau) ∧ Below x.heap.size x w') (b : Nat) (st : List Int × Bool) (own : List Bk) (x : World) (h : PE w0 b st own x) (gw gp iw ip : Nat) (t1 t2 : TypeId)
   (hw : own[iw]? = some (gw, t1, [.int .i64 whole])) (hp : own[ip]? = some (gp, t2, [.pointer (some ⟨b, 0, none⟩)])) (hr : Yk st ([Vp] ++ (K ++ [Jc]))) :
   Calls Tryz.prog 152 #[.agg vs.toArray, .bool false, .pointer (some ⟨gw, 0, none⟩), .pointer (some ⟨gp, 0, none⟩)] x (QPost w0 b (Zp st ([Vp] ++ (K ++ [Jc]))) own) := by
 obtain ⟨s1, E1⟩ : ∃ s, s = Zp st ([Vp]) := ⟨_, rfl⟩
 have R1 := Hh (Yk.first hr)
 replace hr := Yk.next hr
 rw [← E1] at hr
 obtain ⟨s2, E2⟩ : ∃ s, s = Zp s1 (K) := ⟨_, rfl⟩
 have R2 := Hh (Yk.first hr)
 replace hr := Yk.next hr
 rw [← E2] at hr
 obtain ⟨s3, E3⟩ : ∃ s, s = Zp s2 ([Jc]) := ⟨_, rfl⟩
 have R3 := Hh hr
 clear hr
 have EK : Zp st (([Vp]) ++ ((K) ++ (([Jc])))) = s3 := by simp only [Yd, E1, E2, E3]
 rw [EK]
 clear EK
 have P1 := Hh (fun own x => Xe (w0 := w0) (b := b) E1 R1.out (by simp) own x)
 have P2 := Hh (hx.at_ (b := b) E2 R2.out)
 have P3 := Hh (fun own x => Xe (w0 := w0) (b := b) E3 R3.out (by simp) own x)
 have HE1 := Hh E1
 clear E1
 have HE2 := Hh E2
 clear E2
 have HE3 := Hh E3
 clear E3
 have T := Hh h
 have HT := Hh ht
 have HVL := Hh hvl
 have HWi := Hh hw
 have HPi := Hh hp
 clear h hx ht hvl hw hp
 have d1 : decide (whole < tau) = false := decide_eq_false h1
 go_enter Tryz.func152, Tryz.ntmps152
 go_wp2_with (first
 | ((with_reducible refine Ze 4 ?_); refine Ya T.out 51 _ vs rfl rfl rfl ?_; intro wn g tn; have T := Hh tn; clear tn; have cw : wn.cell? ⟨gw, 0, none⟩ = some (.int .i64 whole) := (T.out.get (iw + 1) (by simpa using HWi.out)).read 0; have cp : wn.cell? ⟨gp, 0, none⟩ = some (.pointer (some ⟨b, 0, none⟩)) := (T.out.get (ip + 1) (by simpa using HPi.out)).read 0)
 | ((with_reducible refine Ze 7 ?_); refine Zd 51 _ 51 g vs (T.out.get 0 rfl) Xv (by rw [HVL.out]; exact Xc) rfl rfl rfl ?_)
 | ((with_reducible refine Ze 21 ?_); refine Zd 51 _ 51 g vs (T.out.get 0 rfl) Xv (by rw [HVL.out]; exact Xc) rfl rfl rfl ?_)
 | ((with_reducible refine Ze 27 ?_); refine Zd 51 _ 51 g vs (T.out.get 0 rfl) Xv (by rw [HVL.out]; exact Xc) rfl rfl rfl ?_)
 | (go_at_call 151; refine (HT.out _).mono ?_; rintro e wn ⟨rfl, bn⟩; have T := Hh (T.out.call bn); clear bn; have cw : wn.cell? ⟨gw, 0, none⟩ = some (.int .i64 whole) := (T.out.get (iw + 1) (by simpa using HWi.out)).read 0; have cp : wn.cell? ⟨gp, 0, none⟩ = some (.pointer (some ⟨b, 0, none⟩)) := (T.out.get (ip + 1) (by simpa using HPi.out)).read 0)
 | (go_at_call 98; refine (P1.out _ _ _ _ _ T.out rfl rfl).mono ?_; rintro e wn ⟨rfl, tn⟩; have T := Hh tn; clear tn; have cw : wn.cell? ⟨gw, 0, none⟩ = some (.int .i64 whole) := (T.out.get (iw + 1) (by simpa using HWi.out)).read 0; have cp : wn.cell? ⟨gp, 0, none⟩ = some (.pointer (some ⟨b, 0, none⟩)) := (T.out.get (ip + 1) (by simpa using HPi.out)).read 0)
 | (go_at_call 98; refine (P3.out _ _ _ _ _ T.out rfl rfl).mono ?_; rintro e wn ⟨rfl, tn⟩; have T := Hh tn; clear tn; have cw : wn.cell? ⟨gw, 0, none⟩ = some (.int .i64 whole) := (T.out.get (iw + 1) (by simpa using HWi.out)).read 0; have cp : wn.cell? ⟨gp, 0, none⟩ = some (.pointer (some ⟨b, 0, none⟩)) := (T.out.get (ip + 1) (by simpa using HPi.out)).read 0)
 | (go_at_call 68; refine (P2.out _ _ T.out).mono ?_; rintro e wn ⟨rfl, tn⟩; have T := Hh tn; clear tn; have cw : wn.cell? ⟨gw, 0, none⟩ = some (.int .i64 whole) := (T.out.get (iw + 1) (by simpa using HWi.out)).read 0; have cp : wn.cell? ⟨gp, 0, none⟩ = some (.pointer (some ⟨b, 0, none⟩)) := (T.out.get (ip + 1) (by simpa using HPi.out)).read 0))
 go_end0
 exact ⟨rfl, T.out.tail⟩
theorem pOpd (w0 : World) (vs : List Value) (hvl : vs.length = 12) (whole tau : Int) (first : Bool) (K : List ByteArray) (hx : Xb w0 68 (.agg vs.toArray) K)
   (ht : ∀ x, Calls Tryz.prog 151 #[.agg vs.toArray] x fun e w' => e = .returned (.int .i64 tau) ∧ Below x.heap.size x w') (b : Nat) {s1 s2 : List Int × Bool} (he : s2 = Zp s1 (kB (brB whole tau first) K)) (hr : Yk s1 (kB (brB whole tau first) K)) (own : List Bk) (x : World) (h : PE w0 b s1 own x) (gw gp iw ip : Nat) (t1 t2 : TypeId)
   (hw : own[iw]? = some (gw, t1, [.int .i64 whole])) (hp : own[ip]? = some (gp, t2, [.pointer (some ⟨b, 0, none⟩)])) :
   Calls Tryz.prog 152 #[.agg vs.toArray, .bool first, .pointer (some ⟨gw, 0, none⟩), .pointer (some ⟨gp, 0, none⟩)] x (QPost w0 b s2 own) := by
 subst he
 unfold kB brB at hr ⊢
 by_cases h1 : whole < tau
 · rw [if_neg (by simp [h1])] at hr ⊢
   exact pOpd_A w0 vs hvl whole tau first h1 K hx ht b s1 own x h gw gp iw ip t1 t2 hw hp hr
 · cases first
   · rw [if_pos (by simp [h1])] at hr ⊢
     exact pOpd_D w0 vs hvl whole tau h1 K hx ht b s1 own x h gw gp iw ip t1 t2 hw hp hr
   · by_cases h2 : tau = whole
     · rw [if_neg (by simp [h2])] at hr ⊢
       exact pOpd_B w0 vs hvl whole tau h1 h2 K hx ht b s1 own x h gw gp iw ip t1 t2 hw hp hr
     · rw [if_pos (by simp [h1, h2])] at hr ⊢
       exact pOpd_C w0 vs hvl whole tau h1 h2 K hx ht b s1 own x h gw gp iw ip t1 t2 hw hp hr
theorem bin_vals {N : Nat → Prop} {w : World} {op : Int} {l r : Ex} {vs : List Value} (hd : Zi N w (Ex.bin op l r).ds vs) :
   vs.length = 12 ∧ vs[0]? = some (.int .i64 7) ∧ vs[1]? = some (.int .i64 op) ∧ ∃ g kc ys us, vs[11]? = some (.slice (some ⟨g, 0, none⟩) 2 kc) ∧ g < w.heap.size ∧ w.rangeAt g 0 ys ∧ w.rangeAt g 12 us ∧ Zi N w l.ds ys ∧ Zi N w r.ds us ∧ ys.length = 12 ∧ us.length = 12 := by
 have hl := hd.len
 rw [Ex.ds_len] at hl
 obtain ⟨_, rfl, _, rfl, h⟩ := hd
 obtain ⟨sv, _, rfl, hs, h⟩ := Zi.split (x := zSe.ds) h
 obtain ⟨_, rfl, _, rfl, _, rfl, C, kc, xs, _, rfl, _, hw, hk, rfl⟩ := h
 have e : sv.length = 6 := by rw [hs.len, Se.ds_len]
 obtain ⟨ys, us, rfl, h1, h2⟩ := Zi.split (x := l.ds) hk
 have l1 : ys.length = 12 := by rw [h1.len, Ex.ds_len]
 have l2 : us.length = 12 := by rw [h2.len, Ex.ds_len]
 obtain ⟨g, rfl, hg, hc⟩ := hw.reads (by rw [List.length_append, l1, l2]; omega)
 refine ⟨hl, rfl, rfl, g, kc, ys, us, by simp [List.getElem?_append, e], hg, fun j v hv => ?_, fun j v hv => ?_, h1, h2, l1, l2⟩
 · have hj : j < ys.length := (List.getElem?_eq_some_iff.1 hv).1
   rw [Nat.zero_add, hc _ (by rw [List.length_append]; omega), List.getElem?_append_left hj, hv]
 · have hj : j < us.length := (List.getElem?_eq_some_iff.1 hv).1
   rw [hc _ (by rw [List.length_append]; omega), List.getElem?_append_right (by omega), show 12 + j - ys.length = j from by omega, hv]
theorem pBinary (w0 : World) (N : Nat → Prop) (op : Int) (l r : Ex) (h1 : 1 ≤ op) (h3 : op ≤ 3) (hvl : VEx l) (hvr : VEx r) (IL : ∀ ys, Zi N w0 l.ds ys → Xb w0 68 (.agg ys.toArray) (kEx l)) (IR : ∀ ys, Zi N w0 r.ds ys → Xb w0 68 (.agg ys.toArray) (kEx r))
   (vs : List Value) (hd : Zi N w0 (Ex.bin op l r).ds vs) : Xb w0 115 (.agg vs.toArray) (kEx (.bin op l r)) := by
 intro b st own x h hr
 have htw := fun w => tight_any (.bin op l r) ⟨⟨h1, h3⟩, hvl, hvr⟩ vs hd w
 obtain ⟨hl, v0, v1, g, kc, ys, us, v11, hg, hy, hu, dy, du, ly, lu⟩ := bin_vals hd
 have e1 : brB (tightE (.bin op l r)) (tightE l) true = must false op l := br_must h1 h3 true l hvl
 have e2 : brB (tightE (.bin op l r)) (tightE r) false = must true op r := br_must h1 h3 false r hvr
 have ke : kEx (.bin op l r) = kB (must false op l) (kEx l) ++ ([wd wSign op] ++ kB (must true op r) (kEx r)) := rfl
 rw [ke] at hr ⊢
 obtain ⟨s1, E1⟩ : ∃ s, s = Zp st (kB (must false op l) (kEx l)) := ⟨_, rfl⟩
 have R1 := Hh (Yk.first hr)
 replace hr := Yk.next hr
 rw [← E1] at hr
 obtain ⟨s2, E2⟩ : ∃ s, s = Zp s1 ([wd wSign op]) := ⟨_, rfl⟩
 have R2 := Hh (Yk.first hr)
 replace hr := Yk.next hr
 rw [← E2] at hr
 obtain ⟨s3, E3⟩ : ∃ s, s = Zp s2 (kB (must true op r) (kEx r)) := ⟨_, rfl⟩
 have R3 := Hh hr
 clear hr
 have EK : Zp st ((kB (must false op l) (kEx l)) ++ (([wd wSign op]) ++ ((kB (must true op r) (kEx r))))) = s3 := by simp only [Yd, E1, E2, E3]
 rw [EK]
 clear EK
 have O1 := Hh (pOpd w0 ys ly (tightE (.bin op l r)) (tightE l) true (kEx l) (IL ys dy) (fun w => tight_any l hvl ys dy w) b (s1 := st) (s2 := s1) (by rw [e1]; exact E1) (by rw [e1]; exact R1.out))
 have P2 := Hh (fun own x => Xe (w0 := w0) (b := b) E2 R2.out (by simp) own x)
 have O3 := Hh (pOpd w0 us lu (tightE (.bin op l r)) (tightE r) false (kEx r) (IR us du) (fun w => tight_any r hvr us du w) b (s1 := s2) (s2 := s3) (by rw [e2]; exact E3) (by rw [e2]; exact R3.out))
 generalize tightE (.bin op l r) = whole at *
 have HT := Hh htw
 have HVL := Hh hl
 have HLY := Hh ly
 have HLU := Hh lu
 have H1 := Hh v1
 have H11 := Hh v11
 have HY := Hh hy
 have HU := Hh hu
 have HDY := Hh dy.one
 have HDU := Hh du.one
 clear hd htw hl v0 v1 v11 hy hu dy du ly lu e1 e2 ke IL IR hvl hvr
 have HE1 := Hh E1
 clear E1
 have HE2 := Hh E2
 clear E2
 have HE3 := Hh E3
 clear E3
 have T := Hh h
 clear h
 go_enter Tryz.func115, Tryz.ntmps115
 go_wp2_with (first
 | ((with_reducible refine Ze 2 ?_); refine wpList_boxP1 T.out 94 _ (.pointer (some ⟨b, 0, none⟩)) rfl rfl rfl rfl ?_; intro wn g2 tn; have T := Hh tn; clear tn)
 | ((with_reducible refine Ze 3 ?_); refine Ya T.out 51 _ (vs) rfl rfl rfl ?_; intro wn g3 tn; have T := Hh tn; clear tn; have c0_1 : wn.cell? ⟨g3, 1, none⟩ = some (.int .i64 op) := (T.out.get 0 rfl).nthQ 1 H1.out; have c0_11 : wn.cell? ⟨g3, 11, none⟩ = some (.slice (some ⟨g, 0, none⟩) 2 kc) := (T.out.get 0 rfl).nthQ 11 H11.out; have c1_0 : wn.cell? ⟨g2, 0, none⟩ = some (.pointer (some ⟨b, 0, none⟩)) := (T.out.get 1 rfl).read 0)
 | ((with_reducible refine Ze 8 ?_); refine Zd 51 _ 51 g3 (vs) (T.out.get 0 rfl) Xv (by rw [HVL.out]; exact Xc) rfl rfl rfl ?_)
 | (go_at_call 151; refine (HT.out _).mono ?_; rintro e wn ⟨rfl, bn⟩; have T := Hh (T.out.call bn); clear bn; have c0_1 : wn.cell? ⟨g3, 1, none⟩ = some (.int .i64 op) := (T.out.get 0 rfl).nthQ 1 H1.out; have c0_11 : wn.cell? ⟨g3, 11, none⟩ = some (.slice (some ⟨g, 0, none⟩) 2 kc) := (T.out.get 0 rfl).nthQ 11 H11.out; have c1_0 : wn.cell? ⟨g2, 0, none⟩ = some (.pointer (some ⟨b, 0, none⟩)) := (T.out.get 1 rfl).read 0)
 | ((with_reducible refine Ze 4 ?_); refine Vh T.out 3 ([.int .i64 0]) rfl rfl qz_int ?_; intro wn g4 tn; have T := Hh tn; clear tn; have c1_1 : wn.cell? ⟨g3, 1, none⟩ = some (.int .i64 op) := (T.out.get 1 rfl).nthQ 1 H1.out; have c1_11 : wn.cell? ⟨g3, 11, none⟩ = some (.slice (some ⟨g, 0, none⟩) 2 kc) := (T.out.get 1 rfl).nthQ 11 H11.out; have c2_0 : wn.cell? ⟨g2, 0, none⟩ = some (.pointer (some ⟨b, 0, none⟩)) := (T.out.get 2 rfl).read 0)
 | ((with_reducible refine Zk 4 9 ?_); refine wpList_storeP1 T.out 0 3 _ _ 3 g4 _ (.int .i64 whole) rfl qsize_int rfl rfl rfl rfl rfl rfl ?_; intro wn tn; have T : Hid (PE w0 b st ((g4, 3, [.int .i64 whole]) :: (g3, 51, vs) :: (g2, 94, [.pointer (some ⟨b, 0, none⟩)]) :: own) wn) := Hh tn; clear tn; have c1_1 : wn.cell? ⟨g3, 1, none⟩ = some (.int .i64 op) := (T.out.get 1 rfl).nthQ 1 H1.out; have c1_11 : wn.cell? ⟨g3, 11, none⟩ = some (.slice (some ⟨g, 0, none⟩) 2 kc) := (T.out.get 1 rfl).nthQ 11 H11.out; have c2_0 : wn.cell? ⟨g2, 0, none⟩ = some (.pointer (some ⟨b, 0, none⟩)) := (T.out.get 2 rfl).read 0))
 go_loopw [14] (fun i wr => ∃ m : Nat, i = .int .i64 m ∧ m ≤ 2 ∧ PE w0 b (if m = 0 then st else if m = 1 then s1 else s3) ((g4, 3, [.int .i64 whole]) :: (g3, 51, vs) :: (g2, 94, [.pointer (some ⟨b, 0, none⟩)]) :: own) wr) (fun i _ => 2 - (intOf i).toNat)
 case atStart => exact ⟨0, by go_num, by omega, T.out⟩
 case round =>
   obtain ⟨m, rfl, hm2, hT⟩ := hrel
   obtain rfl | rfl | rfl : m = 0 ∨ m = 1 ∨ m = 2 := by omega
   · have T : Hid (PE w0 b st ((g4, 3, [.int .i64 whole]) :: (g3, 51, vs) :: (g2, 94, [.pointer (some ⟨b, 0, none⟩)]) :: own) wr) := Hh hT
     clear hT
     go_wp2_with (first
 | ((with_reducible refine Ze 18 ?_); refine Zy 51 _ g (0) (ys) (T.out.ranges HY.out hg) Xv (by rw [HLY.out]; exact Xc) rfl rfl rfl ?_)
 | ((with_reducible refine Ze 7 ?_); refine Vh T.out 51 ([.int .i64 0, .int .i64 0, .int .i64 0, .int .i64 0, .int .i64 0, .int .i64 0, .slice none 0 0, .int .i64 0, .int .i64 0, .int .i64 0, .int .i64 0, .slice none 0 0]) rfl rfl qz_ex ?_; intro wn g7 tn; have T := Hh tn; clear tn)
 | ((with_reducible refine Zk 7 18 ?_); refine Zc 51 _ _ 51 g7 _ (ys) (T.out.get 0 rfl) HLY.out (by rw [HLY.out]; exact Xc) HDY.out rfl rfl rfl rfl rfl ?_; intro wn p; have T := Hh (T.out.put 0 rfl p); clear p)
 | ((with_reducible refine Ze 29 ?_); refine Zd 51 _ 51 g7 (ys) (T.out.get 0 rfl) Xv (by rw [HLY.out]; exact Xc) rfl rfl rfl ?_)
 | (go_at_call 152; refine (O1.out _ _ T.out g4 g2 1 3 _ _ rfl rfl).mono ?_; rintro e wn ⟨rfl, tn⟩; have T := Hh tn; clear tn))
     go_roundw
     case rel => exact ⟨1, by go_num, by omega, T.out.tail⟩
     case measure => simp [intOf]
   · have T : Hid (PE w0 b s1 ((g4, 3, [.int .i64 whole]) :: (g3, 51, vs) :: (g2, 94, [.pointer (some ⟨b, 0, none⟩)]) :: own) wr) := Hh hT
     clear hT
     go_upto_region 7 with (first
 | ((with_reducible refine Ze 18 ?_); refine Zy 51 _ g (12) (us) (T.out.ranges HU.out hg) Xv (by rw [HLU.out]; exact Xc) rfl rfl rfl ?_)
 | ((with_reducible refine Ze 7 ?_); refine Vh T.out 51 ([.int .i64 0, .int .i64 0, .int .i64 0, .int .i64 0, .int .i64 0, .int .i64 0, .slice none 0 0, .int .i64 0, .int .i64 0, .int .i64 0, .int .i64 0, .slice none 0 0]) rfl rfl qz_ex ?_; intro wn g7 tn; have T := Hh tn; clear tn)
 | ((with_reducible refine Zk 7 18 ?_); refine Zc 51 _ _ 51 g7 _ (us) (T.out.get 0 rfl) HLU.out (by rw [HLU.out]; exact Xc) HDU.out rfl rfl rfl rfl rfl ?_; intro wn p; have T := Hh (T.out.put 0 rfl p); clear p; have c2_1 : wn.cell? ⟨g3, 1, none⟩ = some (.int .i64 op) := (T.out.get 2 rfl).nthQ 1 H1.out; have c3_0 : wn.cell? ⟨g2, 0, none⟩ = some (.pointer (some ⟨b, 0, none⟩)) := (T.out.get 3 rfl).read 0))
     go_cut [] from 21 to 27 (fun wx => PE w0 b s2 ((g7, 51, us) :: (g4, 3, [.int .i64 whole]) :: (g3, 51, vs) :: (g2, 94, [.pointer (some ⟨b, 0, none⟩)]) :: own) wx)
     case first =>
       refine wp_region_held_drew (S := fun x => ∃ s, PE w0 b s ((g7, 51, us) :: (g4, 3, [.int .i64 whole]) :: (g3, 51, vs) :: (g2, 94, [.pointer (some ⟨b, 0, none⟩)]) :: own) x) (by kernel_rfl) ⟨_, T.out.drew⟩ (fun hS => ?_)
       have hP := T.out.drew
       generalize wn.drew = wf at *
       refine Yu (i := 0) (v := .pointer (some ⟨b, 0, none⟩)) rfl rfl (by kernel_rfl) (by kernel_rfl) (by kernel_rfl) (fun _ _ _ h => h) (Or.inl ⟨by rfl, fun y hy => by obtain ⟨_, hy⟩ := hy; have c0 := (PE.get hy 3 rfl).read 0; go_simp⟩) hS ?_
       try simp only [Qy1, Qx1]
       refine Yu (i := 1) (v := .pointer (some ⟨g3, 1, none⟩)) rfl rfl (by kernel_rfl) (by kernel_rfl) (by kernel_rfl) (fun _ _ _ h => h) (Or.inl ⟨by rfl, fun y hy => by go_simp⟩) hS ?_
       try simp only [Qy1, Qx1]
       refine Yu (i := 2) (v := .int .i64 op) rfl rfl (by kernel_rfl) (by kernel_rfl) (by kernel_rfl) (fun _ _ _ h => h) (Or.inl ⟨by rfl, fun y hy => by obtain ⟨_, hy⟩ := hy; have c0 := (PE.get hy 2 rfl).nthQ 1 H1.out; go_simp⟩) hS ?_
       try simp only [Qy1, Qx1]
       refine wpAnyH_ready (rs := [3]) (by kernel_rfl) (by simp) (AllReadyH.cons rfl (fun K hK => ?_) AllReadyH.nil)
       clear hS
       go_simp
       have hP2 := hP.call (Za wf (.cells #[.string ⟨#[43]⟩, .string ⟨#[45]⟩, .string ⟨#[42]⟩] 9))
       have hW : Zb (World.alloc wf (.cells #[.string ⟨#[43]⟩, .string ⟨#[45]⟩, .string ⟨#[42]⟩] 9)) wf.heap.size 9 (Zai wSign) := Zb.made _ _ _
       obtain ⟨q, hq⟩ : ∃ q, q = wf.heap.size := ⟨_, rfl⟩
       rw [← hq] at hW ⊢
       clear hq hP
       generalize World.alloc wf (.cells #[.string ⟨#[43]⟩, .string ⟨#[45]⟩, .string ⟨#[42]⟩] 9) = wf at *
       have hP := hP2
       clear hP2
       refine hK.out _ _ ⟨_, hP⟩ (fun hS => ?_)
       clear hK K
       try simp only [Act.put, Qz1, Qy1, Qx1]
       refine wpAnyH_ready (rs := [4]) (by kernel_rfl) (by simp) (AllReadyH.cons rfl (fun K hK => ?_) AllReadyH.nil)
       clear hS
       go_simp
       go_at_call 108
       refine (vqWordW hP hW op 3 3 rfl h1 (by show _ ≤ ((3 : Nat) : Int); omega) (by decide)).mono ?_
       rintro e wf ⟨rfl, hP2⟩
       clear hW
       clear hP
       have hP := hP2
       clear hP2
       refine hK.out _ _ ⟨_, hP⟩ (fun hS => ?_)
       clear hK K
       try simp only [Act.put, Qz1, Qy1, Qx1]
       refine wpAnyH_ready (rs := [5]) (by kernel_rfl) (by simp) (AllReadyH.cons rfl (fun K hK => ?_) AllReadyH.nil)
       clear hS
       go_simp
       refine hK.out _ _ ⟨_, hP.call (Za wf (.cells #[.string (wd wSign op)] 9))⟩ (fun hS => ?_)
       clear hK K
       try simp only [Act.put, Qz1, Qy1, Qx1]
       refine wpAnyH_ready (rs := [6]) (by kernel_rfl) (by simp) (AllReadyH.cons rfl (fun K hK => ?_) AllReadyH.nil)
       clear hS
       go_simp
       go_at_call 98
       refine (P2.out _ _ _ _ _ hP rfl rfl).mono ?_
       rintro e wf ⟨rfl, hP2⟩
       clear hP
       have hP := hP2
       clear hP2
       refine hK.out _ _ ⟨_, hP⟩ (fun hS => ?_)
       clear hK K
       try simp only [Act.put, Qz1, Qy1, Qx1]
       refine wpAnyH_done (by kernel_rfl) ?_ _
       have T := Hh hP
       clear hP hS
       go_wp2_with fail
       go_meet
       case rel => exact T.out
     case rest =>
       have T := Hh hcut
       clear hcut
       go_wp2_with (first
 | ((with_reducible refine Ze 29 ?_); refine Zd 51 _ 51 g7 (us) (T.out.get 0 rfl) Xv (by rw [HLU.out]; exact Xc) rfl rfl rfl ?_)
 | (go_at_call 152; refine (O3.out _ _ T.out g4 g2 1 3 _ _ rfl rfl).mono ?_; rintro e wn ⟨rfl, tn⟩; have T := Hh tn; clear tn))
       go_roundw
       case rel => exact ⟨2, by go_num, by omega, T.out.tail⟩
       case measure => simp [intOf]
   · have T : Hid (PE w0 b s3 ((g4, 3, [.int .i64 whole]) :: (g3, 51, vs) :: (g2, 94, [.pointer (some ⟨b, 0, none⟩)]) :: own) wr) := Hh hT
     clear hT
     go_wp2
     go_end0
     exact ⟨rfl, T.out.tail.tail.tail⟩
def Uw (k n : Int) (sv : List Value) (sd tk tl : Int) (z : Value) : List Value := .int .i64 k :: .int .i64 n :: (sv ++ [.int .i64 sd, .int .i64 tk, .int .i64 tl, z])
theorem leafV_at {k n sd tk tl : Int} {sv : List Value} {z : Value} (h : sv.length = 6) : (Uw k n sv sd tk tl z).length = 12 ∧ (Uw k n sv sd tk tl z)[0]? = some (.int .i64 k) ∧ (Uw k n sv sd tk tl z)[1]? = some (.int .i64 n) ∧ (Uw k n sv sd tk tl z)[8]? = some (.int .i64 sd) ∧
   (∀ (x : World) (g : Nat) (t : TypeId), Zb x g t (Uw k n sv sd tk tl z).toArray → x.rangeAt g 2 sv) ∧ (∀ (x : World) (g : Nat) (t : TypeId), Zb x g t (Uw k n sv sd tk tl z).toArray → x.rangeAt g 9 [.int .i64 tk, .int .i64 tl]) := by
 refine ⟨by simp [Uw, h], rfl, rfl, by simp [Uw, List.getElem?_append, h], fun x g t hw => ?_, fun x g t hw => ?_⟩
 · have e : Uw k n sv sd tk tl z = [.int .i64 k, .int .i64 n] ++ sv ++ [.int .i64 sd, .int .i64 tk, .int .i64 tl, z] := by simp [Uw]
   rw [e] at hw
   exact hw.range
 · have e : Uw k n sv sd tk tl z = (.int .i64 k :: .int .i64 n :: (sv ++ [.int .i64 sd])) ++ [.int .i64 tk, .int .i64 tl] ++ [z] := by simp [Uw]
   rw [e] at hw
   have := hw.range
   simpa [h] using this
theorem pEx_1 (w0 : World) (n sd tk tl : Int) (sv : List Value) (z : Value) (hsv : sv.length = 6) (h1 : -99 ≤ n) (h2 : n ≤ 99) : Xb w0 68 (.agg (Uw 1 n sv sd tk tl z).toArray) ([Ui n]) := by
 intro b st own x h hr
 obtain ⟨s1, E1⟩ : ∃ s, s = Zp st ([Ui n]) := ⟨_, rfl⟩
 have R1 := Hh hr
 clear hr
 have EK : Zp st (([Ui n])) = s1 := by simp only [Yd, E1]
 rw [EK]
 clear EK
 have P1 := Hh (fun own x => Xe (w0 := w0) (b := b) E1 R1.out (by simp) own x)
 have HE1 := Hh E1
 clear E1
 obtain ⟨l12, a0, a1, a8, rs, rt⟩ := leafV_at (k := 1) (n := n) (sd := sd) (tk := tk) (tl := tl) (z := z) hsv
 have HSV := Hh hsv
 have H0 := Hh a0
 have H1 := Hh a1
 have H8 := Hh a8
 have RS := Hh rs
 have RT := Hh rt
 generalize Uw 1 n sv sd tk tl z = vs at *
 clear l12 a0 a1 a8 rs rt hsv
 have T := Hh h
 clear h
 go_enter Tryz.func68, Tryz.ntmps68
 go_wp2_with (first
 | ((with_reducible refine Ze 3 ?_); refine Ya T.out 51 _ (vs) rfl rfl rfl ?_; intro wn g0 tn; have T := Hh tn; clear tn; have c0_0 : wn.cell? ⟨g0, 0, none⟩ = some (.int .i64 1) := (T.out.get 0 rfl).nthQ 0 H0.out; have c0_1 : wn.cell? ⟨g0, 1, none⟩ = some (.int .i64 n) := (T.out.get 0 rfl).nthQ 1 H1.out; have c0_8 : wn.cell? ⟨g0, 8, none⟩ = some (.int .i64 sd) := (T.out.get 0 rfl).nthQ 8 H8.out)
 | (go_at_call 100; (with_reducible refine (vqNum T.out (n) (h1) (h2)).mono ?_); rintro e wn ⟨rfl, tn⟩; have T := Hh tn; clear tn; have c0_0 : wn.cell? ⟨g0, 0, none⟩ = some (.int .i64 1) := (T.out.get 0 rfl).nthQ 0 H0.out; have c0_1 : wn.cell? ⟨g0, 1, none⟩ = some (.int .i64 n) := (T.out.get 0 rfl).nthQ 1 H1.out; have c0_8 : wn.cell? ⟨g0, 8, none⟩ = some (.int .i64 sd) := (T.out.get 0 rfl).nthQ 8 H8.out)
 | (go_at_call 98; refine (P1.out _ _ _ _ _ T.out rfl rfl).mono ?_; rintro e wn ⟨rfl, tn⟩; have T := Hh tn; clear tn; have c0_0 : wn.cell? ⟨g0, 0, none⟩ = some (.int .i64 1) := (T.out.get 0 rfl).nthQ 0 H0.out; have c0_1 : wn.cell? ⟨g0, 1, none⟩ = some (.int .i64 n) := (T.out.get 0 rfl).nthQ 1 H1.out; have c0_8 : wn.cell? ⟨g0, 8, none⟩ = some (.int .i64 sd) := (T.out.get 0 rfl).nthQ 8 H8.out))
 go_end0
 exact ⟨rfl, T.out.tail⟩
theorem pEx_2 (w0 : World) (n sd tk tl : Int) (sv : List Value) (z : Value) (hsv : sv.length = 6) (KS : List ByteArray) (hsel : Xb w0 59 (.agg sv.toArray) KS) : Xb w0 68 (.agg (Uw 2 n sv sd tk tl z).toArray) ([⟨#[99, 111, 117, 110, 116]⟩] ++ KS) := by
 intro b st own x h hr
 obtain ⟨s1, E1⟩ : ∃ s, s = Zp st ([⟨#[99, 111, 117, 110, 116]⟩]) := ⟨_, rfl⟩
 have R1 := Hh (Yk.first hr)
 replace hr := Yk.next hr
 rw [← E1] at hr
 obtain ⟨s2, E2⟩ : ∃ s, s = Zp s1 (KS) := ⟨_, rfl⟩
 have R2 := Hh hr
 clear hr
 have EK : Zp st (([⟨#[99, 111, 117, 110, 116]⟩]) ++ ((KS))) = s2 := by simp only [Yd, E1, E2]
 rw [EK]
 clear EK
 have P1 := Hh (fun own x => Xe (w0 := w0) (b := b) E1 R1.out (by simp) own x)
 have P2 := Hh (hsel.at_ (b := b) E2 R2.out)
 have HE1 := Hh E1
 clear E1
 have HE2 := Hh E2
 clear E2
 obtain ⟨l12, a0, a1, a8, rs, rt⟩ := leafV_at (k := 2) (n := n) (sd := sd) (tk := tk) (tl := tl) (z := z) hsv
 have HSV := Hh hsv
 have H0 := Hh a0
 have H1 := Hh a1
 have H8 := Hh a8
 have RS := Hh rs
 have RT := Hh rt
 generalize Uw 2 n sv sd tk tl z = vs at *
 clear l12 a0 a1 a8 rs rt hsv
 have T := Hh h
 clear h
 clear hsel
 go_enter Tryz.func68, Tryz.ntmps68
 go_wp2_with (first
 | ((with_reducible refine Ze 3 ?_); refine Ya T.out 51 _ (vs) rfl rfl rfl ?_; intro wn g0 tn; have T := Hh tn; clear tn; have c0_0 : wn.cell? ⟨g0, 0, none⟩ = some (.int .i64 2) := (T.out.get 0 rfl).nthQ 0 H0.out; have c0_1 : wn.cell? ⟨g0, 1, none⟩ = some (.int .i64 n) := (T.out.get 0 rfl).nthQ 1 H1.out; have c0_8 : wn.cell? ⟨g0, 8, none⟩ = some (.int .i64 sd) := (T.out.get 0 rfl).nthQ 8 H8.out)
 | (go_at_call 98; refine (P1.out _ _ _ _ _ T.out rfl rfl).mono ?_; rintro e wn ⟨rfl, tn⟩; have T := Hh tn; clear tn; have c0_0 : wn.cell? ⟨g0, 0, none⟩ = some (.int .i64 2) := (T.out.get 0 rfl).nthQ 0 H0.out; have c0_1 : wn.cell? ⟨g0, 1, none⟩ = some (.int .i64 n) := (T.out.get 0 rfl).nthQ 1 H1.out; have c0_8 : wn.cell? ⟨g0, 8, none⟩ = some (.int .i64 sd) := (T.out.get 0 rfl).nthQ 8 H8.out)
 | ((with_reducible refine Ze 21 ?_); refine Zy 46 _ g0 (2) (sv) (RS.out _ _ _ (T.out.get 0 rfl)) Jo (by rw [HSV.out]; exact Up) rfl rfl rfl ?_)
 | (go_at_call 59; refine (P2.out _ _ T.out).mono ?_; rintro e wn ⟨rfl, tn⟩; have T := Hh tn; clear tn; have c0_0 : wn.cell? ⟨g0, 0, none⟩ = some (.int .i64 2) := (T.out.get 0 rfl).nthQ 0 H0.out; have c0_1 : wn.cell? ⟨g0, 1, none⟩ = some (.int .i64 n) := (T.out.get 0 rfl).nthQ 1 H1.out; have c0_8 : wn.cell? ⟨g0, 8, none⟩ = some (.int .i64 sd) := (T.out.get 0 rfl).nthQ 8 H8.out))
 go_end0
 exact ⟨rfl, T.out.tail⟩
theorem pEx_3 (w0 : World) (n sd tk tl : Int) (sv : List Value) (z : Value) (hsv : sv.length = 6) (KS : List ByteArray) (hsel : Xb w0 59 (.agg sv.toArray) KS) : Xb w0 68 (.agg (Uw 3 n sv sd tk tl z).toArray) ([⟨#[115, 117, 109]⟩] ++ KS) := by
 intro b st own x h hr
 obtain ⟨s1, E1⟩ : ∃ s, s = Zp st ([⟨#[115, 117, 109]⟩]) := ⟨_, rfl⟩
 have R1 := Hh (Yk.first hr)
 replace hr := Yk.next hr
 rw [← E1] at hr
 obtain ⟨s2, E2⟩ : ∃ s, s = Zp s1 (KS) := ⟨_, rfl⟩
 have R2 := Hh hr
 clear hr
 have EK : Zp st (([⟨#[115, 117, 109]⟩]) ++ ((KS))) = s2 := by simp only [Yd, E1, E2]
 rw [EK]
 clear EK
 have P1 := Hh (fun own x => Xe (w0 := w0) (b := b) E1 R1.out (by simp) own x)
 have P2 := Hh (hsel.at_ (b := b) E2 R2.out)
 have HE1 := Hh E1
 clear E1
 have HE2 := Hh E2
 clear E2
 obtain ⟨l12, a0, a1, a8, rs, rt⟩ := leafV_at (k := 3) (n := n) (sd := sd) (tk := tk) (tl := tl) (z := z) hsv
 have HSV := Hh hsv
 have H0 := Hh a0
 have H1 := Hh a1
 have H8 := Hh a8
 have RS := Hh rs
 have RT := Hh rt
 generalize Uw 3 n sv sd tk tl z = vs at *
 clear l12 a0 a1 a8 rs rt hsv
 have T := Hh h
 clear h
 clear hsel
 go_enter Tryz.func68, Tryz.ntmps68
 go_wp2_with (first
 | ((with_reducible refine Ze 3 ?_); refine Ya T.out 51 _ (vs) rfl rfl rfl ?_; intro wn g0 tn; have T := Hh tn; clear tn; have c0_0 : wn.cell? ⟨g0, 0, none⟩ = some (.int .i64 3) := (T.out.get 0 rfl).nthQ 0 H0.out; have c0_1 : wn.cell? ⟨g0, 1, none⟩ = some (.int .i64 n) := (T.out.get 0 rfl).nthQ 1 H1.out; have c0_8 : wn.cell? ⟨g0, 8, none⟩ = some (.int .i64 sd) := (T.out.get 0 rfl).nthQ 8 H8.out)
 | (go_at_call 98; refine (P1.out _ _ _ _ _ T.out rfl rfl).mono ?_; rintro e wn ⟨rfl, tn⟩; have T := Hh tn; clear tn; have c0_0 : wn.cell? ⟨g0, 0, none⟩ = some (.int .i64 3) := (T.out.get 0 rfl).nthQ 0 H0.out; have c0_1 : wn.cell? ⟨g0, 1, none⟩ = some (.int .i64 n) := (T.out.get 0 rfl).nthQ 1 H1.out; have c0_8 : wn.cell? ⟨g0, 8, none⟩ = some (.int .i64 sd) := (T.out.get 0 rfl).nthQ 8 H8.out)
 | ((with_reducible refine Ze 30 ?_); refine Zy 46 _ g0 (2) (sv) (RS.out _ _ _ (T.out.get 0 rfl)) Jo (by rw [HSV.out]; exact Up) rfl rfl rfl ?_)
 | (go_at_call 59; refine (P2.out _ _ T.out).mono ?_; rintro e wn ⟨rfl, tn⟩; have T := Hh tn; clear tn; have c0_0 : wn.cell? ⟨g0, 0, none⟩ = some (.int .i64 3) := (T.out.get 0 rfl).nthQ 0 H0.out; have c0_1 : wn.cell? ⟨g0, 1, none⟩ = some (.int .i64 n) := (T.out.get 0 rfl).nthQ 1 H1.out; have c0_8 : wn.cell? ⟨g0, 8, none⟩ = some (.int .i64 sd) := (T.out.get 0 rfl).nthQ 8 H8.out))
 go_end0
 exact ⟨rfl, T.out.tail⟩
theorem pEx_4 (w0 : World) (n sd tk tl : Int) (sv : List Value) (z : Value) (hsv : sv.length = 6)  : Xb w0 68 (.agg (Uw 4 n sv sd tk tl z).toArray) ([⟨#[114, 111, 117, 110, 100]⟩]) := by
 intro b st own x h hr
 obtain ⟨s1, E1⟩ : ∃ s, s = Zp st ([⟨#[114, 111, 117, 110, 100]⟩]) := ⟨_, rfl⟩
 have R1 := Hh hr
 clear hr
 have EK : Zp st (([⟨#[114, 111, 117, 110, 100]⟩])) = s1 := by simp only [Yd, E1]
 rw [EK]
 clear EK
 have P1 := Hh (fun own x => Xe (w0 := w0) (b := b) E1 R1.out (by simp) own x)
 have HE1 := Hh E1
 clear E1
 obtain ⟨l12, a0, a1, a8, rs, rt⟩ := leafV_at (k := 4) (n := n) (sd := sd) (tk := tk) (tl := tl) (z := z) hsv
 have HSV := Hh hsv
 have H0 := Hh a0
 have H1 := Hh a1
 have H8 := Hh a8
 have RS := Hh rs
 have RT := Hh rt
 generalize Uw 4 n sv sd tk tl z = vs at *
 clear l12 a0 a1 a8 rs rt hsv
 have T := Hh h
 clear h
 go_enter Tryz.func68, Tryz.ntmps68
 go_wp2_with (first
 | ((with_reducible refine Ze 3 ?_); refine Ya T.out 51 _ (vs) rfl rfl rfl ?_; intro wn g0 tn; have T := Hh tn; clear tn; have c0_0 : wn.cell? ⟨g0, 0, none⟩ = some (.int .i64 4) := (T.out.get 0 rfl).nthQ 0 H0.out; have c0_1 : wn.cell? ⟨g0, 1, none⟩ = some (.int .i64 n) := (T.out.get 0 rfl).nthQ 1 H1.out; have c0_8 : wn.cell? ⟨g0, 8, none⟩ = some (.int .i64 sd) := (T.out.get 0 rfl).nthQ 8 H8.out)
 | (go_at_call 98; refine (P1.out _ _ _ _ _ T.out rfl rfl).mono ?_; rintro e wn ⟨rfl, tn⟩; have T := Hh tn; clear tn; have c0_0 : wn.cell? ⟨g0, 0, none⟩ = some (.int .i64 4) := (T.out.get 0 rfl).nthQ 0 H0.out; have c0_1 : wn.cell? ⟨g0, 1, none⟩ = some (.int .i64 n) := (T.out.get 0 rfl).nthQ 1 H1.out; have c0_8 : wn.cell? ⟨g0, 8, none⟩ = some (.int .i64 sd) := (T.out.get 0 rfl).nthQ 8 H8.out))
 go_end0
 exact ⟨rfl, T.out.tail⟩
theorem pEx_5 (w0 : World) (n sd tk tl : Int) (sv : List Value) (z : Value) (hsv : sv.length = 6) (h1 : 1 ≤ sd) (h2 : sd ≤ 3) : Xb w0 68 (.agg (Uw 5 n sv sd tk tl z).toArray) ([⟨#[104, 97, 110, 100]⟩, wd Zt sd]) := by
 intro b st own x h hr
 obtain ⟨s1, E1⟩ : ∃ s, s = Zp st ([⟨#[104, 97, 110, 100]⟩, wd Zt sd]) := ⟨_, rfl⟩
 have R1 := Hh hr
 clear hr
 have EK : Zp st (([⟨#[104, 97, 110, 100]⟩, wd Zt sd])) = s1 := by simp only [Yd, E1]
 rw [EK]
 clear EK
 have P1 := Hh (fun own x => Xe (w0 := w0) (b := b) E1 R1.out (by simp) own x)
 have HE1 := Hh E1
 clear E1
 obtain ⟨l12, a0, a1, a8, rs, rt⟩ := leafV_at (k := 5) (n := n) (sd := sd) (tk := tk) (tl := tl) (z := z) hsv
 have HSV := Hh hsv
 have H0 := Hh a0
 have H1 := Hh a1
 have H8 := Hh a8
 have RS := Hh rs
 have RT := Hh rt
 generalize Uw 5 n sv sd tk tl z = vs at *
 clear l12 a0 a1 a8 rs rt hsv
 have T := Hh h
 clear h
 go_enter Tryz.func68, Tryz.ntmps68
 go_wp2_with (first
 | ((with_reducible refine Ze 3 ?_); refine Ya T.out 51 _ (vs) rfl rfl rfl ?_; intro wn g0 tn; have T := Hh tn; clear tn; have c0_0 : wn.cell? ⟨g0, 0, none⟩ = some (.int .i64 5) := (T.out.get 0 rfl).nthQ 0 H0.out; have c0_1 : wn.cell? ⟨g0, 1, none⟩ = some (.int .i64 n) := (T.out.get 0 rfl).nthQ 1 H1.out; have c0_8 : wn.cell? ⟨g0, 8, none⟩ = some (.int .i64 sd) := (T.out.get 0 rfl).nthQ 8 H8.out)
 | (go_at_call 109; (with_reducible refine (vqSide T.out (sd) (h1) (h2)).mono ?_); rintro e wn ⟨rfl, tn⟩; have T := Hh tn; clear tn; have c0_0 : wn.cell? ⟨g0, 0, none⟩ = some (.int .i64 5) := (T.out.get 0 rfl).nthQ 0 H0.out; have c0_1 : wn.cell? ⟨g0, 1, none⟩ = some (.int .i64 n) := (T.out.get 0 rfl).nthQ 1 H1.out; have c0_8 : wn.cell? ⟨g0, 8, none⟩ = some (.int .i64 sd) := (T.out.get 0 rfl).nthQ 8 H8.out)
 | (go_at_call 98; refine (P1.out _ _ _ _ _ T.out rfl rfl).mono ?_; rintro e wn ⟨rfl, tn⟩; have T := Hh tn; clear tn; have c0_0 : wn.cell? ⟨g0, 0, none⟩ = some (.int .i64 5) := (T.out.get 0 rfl).nthQ 0 H0.out; have c0_1 : wn.cell? ⟨g0, 1, none⟩ = some (.int .i64 n) := (T.out.get 0 rfl).nthQ 1 H1.out; have c0_8 : wn.cell? ⟨g0, 8, none⟩ = some (.int .i64 sd) := (T.out.get 0 rfl).nthQ 8 H8.out))
 go_end0
 exact ⟨rfl, T.out.tail⟩
theorem pEx_6 (w0 : World) (n sd tk tl : Int) (sv : List Value) (z : Value) (hsv : sv.length = 6) (KT : List ByteArray) (h1 : 1 ≤ sd) (h2 : sd ≤ 3) (hto : Xb w0 114 (.agg ([.int .i64 tk, .int .i64 tl] : List Value).toArray) KT) : Xb w0 68 (.agg (Uw 6 n sv sd tk tl z).toArray) ([⟨#[102, 114, 101, 101]⟩, wd Zt sd] ++ KT) := by
 intro b st own x h hr
 obtain ⟨s1, E1⟩ : ∃ s, s = Zp st ([⟨#[102, 114, 101, 101]⟩, wd Zt sd]) := ⟨_, rfl⟩
 have R1 := Hh (Yk.first hr)
 replace hr := Yk.next hr
 rw [← E1] at hr
 obtain ⟨s2, E2⟩ : ∃ s, s = Zp s1 (KT) := ⟨_, rfl⟩
 have R2 := Hh hr
 clear hr
 have EK : Zp st (([⟨#[102, 114, 101, 101]⟩, wd Zt sd]) ++ ((KT))) = s2 := by simp only [Yd, E1, E2]
 rw [EK]
 clear EK
 have P1 := Hh (fun own x => Xe (w0 := w0) (b := b) E1 R1.out (by simp) own x)
 have P2 := Hh (hto.at_ (b := b) E2 R2.out)
 have HE1 := Hh E1
 clear E1
 have HE2 := Hh E2
 clear E2
 obtain ⟨l12, a0, a1, a8, rs, rt⟩ := leafV_at (k := 6) (n := n) (sd := sd) (tk := tk) (tl := tl) (z := z) hsv
 have HSV := Hh hsv
 have H0 := Hh a0
 have H1 := Hh a1
 have H8 := Hh a8
 have RS := Hh rs
 have RT := Hh rt
 generalize Uw 6 n sv sd tk tl z = vs at *
 clear l12 a0 a1 a8 rs rt hsv
 have T := Hh h
 clear h
 clear hto
 go_enter Tryz.func68, Tryz.ntmps68
 go_wp2_with (first
 | ((with_reducible refine Ze 3 ?_); refine Ya T.out 51 _ (vs) rfl rfl rfl ?_; intro wn g0 tn; have T := Hh tn; clear tn; have c0_0 : wn.cell? ⟨g0, 0, none⟩ = some (.int .i64 6) := (T.out.get 0 rfl).nthQ 0 H0.out; have c0_1 : wn.cell? ⟨g0, 1, none⟩ = some (.int .i64 n) := (T.out.get 0 rfl).nthQ 1 H1.out; have c0_8 : wn.cell? ⟨g0, 8, none⟩ = some (.int .i64 sd) := (T.out.get 0 rfl).nthQ 8 H8.out)
 | (go_at_call 109; (with_reducible refine (vqSide T.out (sd) (h1) (h2)).mono ?_); rintro e wn ⟨rfl, tn⟩; have T := Hh tn; clear tn; have c0_0 : wn.cell? ⟨g0, 0, none⟩ = some (.int .i64 6) := (T.out.get 0 rfl).nthQ 0 H0.out; have c0_1 : wn.cell? ⟨g0, 1, none⟩ = some (.int .i64 n) := (T.out.get 0 rfl).nthQ 1 H1.out; have c0_8 : wn.cell? ⟨g0, 8, none⟩ = some (.int .i64 sd) := (T.out.get 0 rfl).nthQ 8 H8.out)
 | (go_at_call 98; refine (P1.out _ _ _ _ _ T.out rfl rfl).mono ?_; rintro e wn ⟨rfl, tn⟩; have T := Hh tn; clear tn; have c0_0 : wn.cell? ⟨g0, 0, none⟩ = some (.int .i64 6) := (T.out.get 0 rfl).nthQ 0 H0.out; have c0_1 : wn.cell? ⟨g0, 1, none⟩ = some (.int .i64 n) := (T.out.get 0 rfl).nthQ 1 H1.out; have c0_8 : wn.cell? ⟨g0, 8, none⟩ = some (.int .i64 sd) := (T.out.get 0 rfl).nthQ 8 H8.out)
 | ((with_reducible refine Ze 55 ?_); refine Zy 48 _ g0 (9) ([.int .i64 tk, .int .i64 tl]) (RT.out _ _ _ (T.out.get 0 rfl)) qrow_to qsize_to rfl rfl rfl ?_)
 | (go_at_call 114; refine (P2.out _ _ T.out).mono ?_; rintro e wn ⟨rfl, tn⟩; have T := Hh tn; clear tn; have c0_0 : wn.cell? ⟨g0, 0, none⟩ = some (.int .i64 6) := (T.out.get 0 rfl).nthQ 0 H0.out; have c0_1 : wn.cell? ⟨g0, 1, none⟩ = some (.int .i64 n) := (T.out.get 0 rfl).nthQ 1 H1.out; have c0_8 : wn.cell? ⟨g0, 8, none⟩ = some (.int .i64 sd) := (T.out.get 0 rfl).nthQ 8 H8.out))
 go_end0
 exact ⟨rfl, T.out.tail⟩
theorem pEx_7 (w0 : World) (vs : List Value) (hvl : vs.length = 12) (h0 : vs[0]? = some (.int .i64 7)) (KB : List ByteArray) (hb : Xb w0 115 (.agg vs.toArray) KB) : Xb w0 68 (.agg vs.toArray) KB := by
 intro b st own x h hr
 obtain ⟨s1, E1⟩ : ∃ s, s = Zp st (KB) := ⟨_, rfl⟩
 have R1 := Hh hr
 clear hr
 have EK : Zp st ((KB)) = s1 := by simp only [Yd, E1]
 rw [EK]
 clear EK
 have P1 := Hh (hb.at_ (b := b) E1 R1.out)
 have HE1 := Hh E1
 clear E1
 have HVL := Hh hvl
 have H0 := Hh h0
 clear hb hvl h0
 have T := Hh h
 clear h
 go_enter Tryz.func68, Tryz.ntmps68
 go_wp2_with (first
 | ((with_reducible refine Ze 3 ?_); refine Ya T.out 51 _ (vs) rfl rfl rfl ?_; intro wn g0 tn; have T := Hh tn; clear tn; have c0_0 : wn.cell? ⟨g0, 0, none⟩ = some (.int .i64 7) := (T.out.get 0 rfl).nthQ 0 H0.out)
 | ((with_reducible refine Ze 60 ?_); refine Zd 51 _ 51 g0 (vs) (T.out.get 0 rfl) Xv (by rw [HVL.out]; exact Xc) rfl rfl rfl ?_)
 | (go_at_call 115; refine (P1.out _ _ T.out).mono ?_; rintro e wn ⟨rfl, tn⟩; have T := Hh tn; clear tn; have c0_0 : wn.cell? ⟨g0, 0, none⟩ = some (.int .i64 7) := (T.out.get 0 rfl).nthQ 0 H0.out))
 go_end0
 exact ⟨rfl, T.out.tail⟩
theorem pEx (w0 : World) (N : Nat → Prop) : ∀ (x : Ex), VEx x → ∀ vs, Zi N w0 x.ds vs → Xb w0 68 (.agg vs.toArray) (kEx x)
 | .leaf k n s sd tk tl, hv, vs, hd => by
   obtain ⟨_, rfl, _, rfl, h⟩ := hd
   obtain ⟨sv, _, rfl, hs, h⟩ := Zi.split (x := s.ds) h
   obtain ⟨_, rfl, _, rfl, _, rfl, C, kc, xs, _, rfl, _, _, _, rfl⟩ := h
   have e : sv.length = 6 := by rw [hs.len, Se.ds_len]
   show Xb w0 _ _ (kLeaf k n s sd tk tl)
   unfold kLeaf
   rcases hv with ⟨rfl, hn, _⟩ | ⟨hk, _, vs, _⟩ | ⟨rfl, _⟩ | ⟨rfl, _, _, hsd, _⟩ | ⟨rfl, _, _, hsd, ht⟩
   · rw [if_pos rfl]
     exact pEx_1 w0 n sd tk tl sv _ e hn.1 hn.2
   · rcases hk with rfl | rfl
     · rw [if_neg (by decide), if_pos (.inl rfl)]
       exact pEx_2 w0 n sd tk tl sv _ e _ (pSel w0 N s vs sv hs)
     · rw [if_neg (by decide), if_pos (.inr rfl)]
       exact pEx_3 w0 n sd tk tl sv _ e _ (pSel w0 N s vs sv hs)
   · rw [if_neg (by decide), if_neg (by decide), if_pos rfl]
     exact pEx_4 w0 n sd tk tl sv _ e
   · rw [if_neg (by decide), if_neg (by decide), if_neg (by decide), if_pos rfl]
     exact pEx_5 w0 n sd tk tl sv _ e hsd.1 hsd.2
   · rw [if_neg (by decide), if_neg (by decide), if_neg (by decide), if_neg (by decide)]
     exact pEx_6 w0 n sd tk tl sv _ e _ hsd.1 hsd.2 (pTo w0 tk tl ht)
 | .bin op l r, hv, vs, hd => by
   obtain ⟨hl, v0, v1, _⟩ := bin_vals hd
   exact pEx_7 w0 vs hl v0 _ (pBinary w0 N op l r hv.1.1 hv.1.2 hv.2.1 hv.2.2 (pEx w0 N l hv.2.1) (pEx w0 N r hv.2.2) vs hd)
end Go.Proofs.YtdhmklnfiaahhaaGreat
namespace Go.Proofs.YtdhmklnfiaahhaaGreat
open Go
set_option linter.unusedSimpArgs false
set_option linter.unusedVariables false
def VPlain (d : Nat) (h : AH) : Prop :=
 ((h.kind = 1 ∨ h.kind = 2 ∨ h.kind = 12) ∧ h = { AH.zero h.kind h.line h.col with sel := h.sel, num := h.num } ∧ VSe h.sel ∧ VEx h.num ∧ pD h.num + d ≤ 8) ∨
 ((h.kind = 3 ∨ h.kind = 5 ∨ h.kind = 14) ∧ h = { AH.zero h.kind h.line h.col with sel := h.sel } ∧ VSe h.sel) ∨
 (h.kind = 4 ∧ h = { AH.zero h.kind h.line h.col with sel := h.sel, tk := h.tk, tl := h.tl } ∧ VSe h.sel ∧ VTo h.tk h.tl) ∨
 (h.kind = 6 ∧ h = { AH.zero h.kind h.line h.col with name := h.name, side := h.side, tk := h.tk, tl := h.tl, num := h.num } ∧ NameOK h.name ∧ (1 ≤ h.side ∧ h.side ≤ 3) ∧ VTo h.tk h.tl ∧ VEx h.num ∧ pD h.num + d ≤ 8) ∨
 ((h.kind = 7 ∨ h.kind = 9) ∧ h = { AH.zero h.kind h.line h.col with side := h.side, num := h.num } ∧ (1 ≤ h.side ∧ h.side ≤ 3) ∧ VEx h.num ∧ pD h.num + d ≤ 8) ∨
 (h.kind = 8 ∧ h = { AH.zero h.kind h.line h.col with side := h.side, how := h.how } ∧ (1 ≤ h.side ∧ h.side ≤ 3) ∧ (1 ≤ h.how ∧ h.how ≤ 4)) ∨
 ((h.kind = 13 ∨ h.kind = 15) ∧ h = { AH.zero h.kind h.line h.col with side := h.side, tk := h.tk, tl := h.tl } ∧ (1 ≤ h.side ∧ h.side ≤ 3) ∧ VTo h.tk h.tl)
def VCond (d : Nat) (h : AH) : Prop := h = { AH.zero 10 h.line h.col with cop := h.cop, cl := h.cl, cr := h.cr } ∧ (1 ≤ h.cop ∧ h.cop ≤ 6) ∧ (VEx h.cl ∧ pD h.cl + d ≤ 8) ∧ (VEx h.cr ∧ pD h.cr + d ≤ 8)
def VEach (h : AH) : Prop := h = { AH.zero 11 h.line h.col with sel := h.sel } ∧ VSe h.sel
def VActs : Nat → Acs → Prop
 | _, .nil => True
 | d, .cons h t e r => ((d < 8 ∧ VCond d h ∧ VActs (d + 1) t ∧ VActs (d + 1) e) ∨ (d < 8 ∧ VEach h ∧ VActs (d + 1) t ∧ e = .nil) ∨ (VPlain d h ∧ t = .nil ∧ e = .nil)) ∧ VActs d r
def Acs.isNil : Acs → Bool
 | .nil => true
 | .cons .. => false
theorem VCond.kind {d : Nat} {h : AH} (v : VCond d h) : h.kind = 10 := (congrArg AH.kind v.1 :)
theorem VEach.kind {h : AH} (v : VEach h) : h.kind = 11 := (congrArg AH.kind v.1 :)
theorem VPlain.kind {d : Nat} {h : AH} (v : VPlain d h) : 1 ≤ h.kind ∧ h.kind ≤ 15 ∧ h.kind ≠ 10 ∧ h.kind ≠ 11 := by
 rcases v with ⟨k, _⟩ | ⟨k, _⟩ | ⟨k, _⟩ | ⟨k, _⟩ | ⟨k, _⟩ | ⟨k, _⟩ | ⟨k, _⟩ <;> omega
theorem acts_kind {d : Nat} {h : AH} {t e r : Acs} (v : VActs d (.cons h t e r)) : 1 ≤ h.kind ∧ h.kind ≤ 15 := by
 rcases v.1 with ⟨_, v, _⟩ | ⟨_, v, _⟩ | ⟨v, _⟩
 · rw [v.kind]; exact ⟨by decide, by decide⟩
 · rw [v.kind]; exact ⟨by decide, by decide⟩
 · exact ⟨v.kind.1, v.kind.2.1⟩
section
variable {L : List TokV} {nk : Int}
theorem AHSim.any (h : AH) (l c : Int) : AHSim false h { h with line := l, col := c } := ⟨rfl, fun hh => by cases hh⟩
theorem AcsSim.isNil {pl : Bool} {x y : Acs} (h : AcsSim pl x y) : x.isNil = y.isNil := by
 cases x with
 | nil => cases y with
   | nil => rfl
   | cons h' t' e' r' => exact h.elim
 | cons h' t' e' r' => cases y with
   | nil => exact h.elim
   | cons h' t' e' r' => rfl
end
def VRu (r : Ru) : Prop := (1 ≤ r.when_ ∧ r.when_ ≤ 6) ∧ (0 ≤ r.stratum ∧ r.stratum ≤ 99) ∧ (r.when_ ≠ 5 → r.stratum = 0) ∧ VActs 0 r.acts
def VCa (c : Ca) : Prop := NameOK c.name ∧ (0 ≤ c.cost ∧ c.cost ≤ 99) ∧ (-99 ≤ c.power ∧ c.power ≤ 99) ∧ ∀ r ∈ c.rules, VRu r
def VPl (p : Pl) : Prop := NameOK p.name ∧ ∀ r ∈ p.rules, VRu r
def VFi (f : Fi) : Prop := (∀ c ∈ f.cards, VCa c) ∧ ∀ p ∈ f.places, VPl p
section
variable {L : List TokV} {nk : Int}
end
end Go.Proofs.YtdhmklnfiaahhaaGreat
