/-
  Texts Q3. No conditions but those that each theorem names.
-/
import Derived.Test.YtljdgdphldckhaaGreatQA25
import Derived.Test.YtljdgdphldckhaaGreatQA26
set_option maxRecDepth 20000
set_option maxHeartbeats 12800000
namespace Go.Proofs.YtljdgdphldckhaaGreat
open Go.Great Go.ChangeShapes Go.WideShapes Go.ChangeAt Go.RowKit
set_option linter.unusedVariables false
set_option linter.unusedSimpArgs false
def wSign : List ByteArray := [⟨#[43]⟩, ⟨#[45]⟩, ⟨#[42]⟩]
def kB (b : Bool) (X : List ByteArray) : List ByteArray := if b = true then [Vo] ++ (X ++ [Uz]) else X
def kLeaf (kind n : Int) (sel : Se) (side tk tl : Int) : List ByteArray :=
 if kind = 1 then [putS n] else if kind = 2 ∨ kind = 3 then [wd Vb (kind - 1)] ++ kSel sel else if kind = 4 then [wd Vb 3] else if kind = 5 then [wd Vb 4, wd Zt side] else [wd Vb 5, wd Zt side] ++ kTo tk tl
def kEx : Ex → List ByteArray
 | .leaf kind n sel side tk tl => kLeaf kind n sel side tk tl
 | .bin op l r => kB (must false op l) (kEx l) ++ ([wd wSign op] ++ kB (must true op r) (kEx r))
def tightE : Ex → Int
 | .leaf .. => 3
 | .bin op _ _ => if op = 3 then 2 else 1
def brB (whole tight : Int) (first : Bool) : Bool := !(decide (whole < tight) || (first && (tight == whole)))
theorem br_must {op : Int} (h1 : 1 ≤ op) (h3 : op ≤ 3) (first : Bool) : ∀ x : Ex, VEx x → brB (tightE (.bin op x x)) (tightE x) first = must (!first) op x
 | .leaf .., _ => by
   unfold brB must tightE Ex.isSum Ex.isBin
   by_cases h : op = 3 <;> cases first <;> simp [h]
 | .bin o l r, hv => by
   have h : o = 1 ∨ o = 2 ∨ o = 3 := by have := hv.1; omega
   have h' : op = 1 ∨ op = 2 ∨ op = 3 := by omega
   rcases h with rfl | rfl | rfl <;> rcases h' with rfl | rfl | rfl <;> cases first <;> rfl
theorem tight_raw (k n : Int) (vs : List Value) (hvl : vs.length = 12) (h0 : vs[0]? = some (.int .i64 k)) (h1 : vs[1]? = some (.int .i64 n)) (w : World) :
   Calls Tryz.prog 164 #[.agg vs.toArray] w fun e w' => e = .returned (.int .i64 (if k = 7 then (if n = 3 then 2 else 1) else 3)) ∧ Below w.heap.size w w' := by
 have T := Hh (Env.start w)
 have H0 := Hh h0
 have H1 := Hh h1
 clear h0 h1 hvl
 by_cases hk : k = 7
 · rw [if_pos hk]
   subst hk
   by_cases hn : n = 3
   · rw [if_pos hn]
     subst hn
     go_enter Tryz.func164, Tryz.ntmps164
     go_wp2_with ((with_reducible refine Ze 1 ?_); refine Zg T.out 51 _ vs rfl rfl rfl ?_; intro wn g tn; have T := Hh tn; clear tn; have c0 : wn.cell? ⟨g, 0, none⟩ = some (.int .i64 7) := (T.out.get 0 rfl).nthQ 0 H0.out; have c1 : wn.cell? ⟨g, 1, none⟩ = some (.int .i64 3) := (T.out.get 0 rfl).nthQ 1 H1.out)
     go_ret
     exact ⟨rfl, T.out.below⟩
   · rw [if_neg hn]
     have hb : (n == 3) = false := by rw [beq_eq_false_iff_ne]; exact hn
     go_enter Tryz.func164, Tryz.ntmps164
     go_wp2_with ((with_reducible refine Ze 1 ?_); refine Zg T.out 51 _ vs rfl rfl rfl ?_; intro wn g tn; have T := Hh tn; clear tn; have c0 : wn.cell? ⟨g, 0, none⟩ = some (.int .i64 7) := (T.out.get 0 rfl).nthQ 0 H0.out; have c1 : wn.cell? ⟨g, 1, none⟩ = some (.int .i64 n) := (T.out.get 0 rfl).nthQ 1 H1.out)
     go_ret
     exact ⟨rfl, T.out.below⟩
 · rw [if_neg hk]
   have hb : (k != 7) = true := by simpa using hk
   have hb2 : (k == 7) = false := by rw [beq_eq_false_iff_ne]; exact hk
   go_enter Tryz.func164, Tryz.ntmps164
   go_wp2_with ((with_reducible refine Ze 1 ?_); refine Zg T.out 51 _ vs rfl rfl rfl ?_; intro wn g tn; have T := Hh tn; clear tn; have c0 : wn.cell? ⟨g, 0, none⟩ = some (.int .i64 k) := (T.out.get 0 rfl).nthQ 0 H0.out; have c1 : wn.cell? ⟨g, 1, none⟩ = some (.int .i64 n) := (T.out.get 0 rfl).nthQ 1 H1.out)
   go_ret
   exact ⟨rfl, T.out.below⟩
theorem ex_vals {N : Nat → Prop} {w : World} : ∀ {x : Ex} {vs : List Value}, Zh N w x.ds vs → vs.length = 12 ∧ ∃ k n, vs[0]? = some (.int .i64 k) ∧ vs[1]? = some (.int .i64 n) ∧ ((∃ a b c d e, x = .leaf k a b c d e) ∨ (k = 7 ∧ ∃ l r, x = .bin n l r))
 | .leaf k n s sd tk tl, vs, h => by
   have hl := h.len
   rw [Ex.ds_len] at hl
   obtain ⟨_, rfl, _, rfl, h⟩ := h
   exact ⟨hl, k, n, rfl, rfl, .inl ⟨n, s, sd, tk, tl, rfl⟩⟩
 | .bin op l r, vs, h => by
   have hl := h.len
   rw [Ex.ds_len] at hl
   obtain ⟨_, rfl, _, rfl, h⟩ := h
   exact ⟨hl, 7, op, rfl, rfl, .inr ⟨rfl, l, r, rfl⟩⟩
theorem leaf_kind {k n : Int} {s : Se} {sd tk tl : Int} (hv : VLeaf k n s sd tk tl) : k ≠ 7 := by rcases hv with h | h | h | h | h <;> omega
theorem tight_any {N : Nat → Prop} {w0 : World} (x : Ex) (hv : VEx x) (vs : List Value) (hd : Zh N w0 x.ds vs) (w : World) :
   Calls Tryz.prog 164 #[.agg vs.toArray] w fun e w' => e = .returned (.int .i64 (tightE x)) ∧ Below w.heap.size w w' := by
 obtain ⟨hl, k, n, h0, h1, hx⟩ := ex_vals hd
 have h := tight_raw k n vs hl h0 h1 w
 rcases hx with ⟨a, s, c, d, e, rfl⟩ | ⟨rfl, l, r, rfl⟩
 · rw [if_neg (leaf_kind hv)] at h; exact h
 · rw [if_pos rfl] at h; exact h
theorem PE.boxed {w0 x : World} {b : Nat} {st : List Int × Bool} {own : List Bk} (h : PE w0 b st own x) (t : TypeId) (u : Value) : PE w0 b st ((x.heap.size, t, [u]) :: own) (x.alloc (.cells #[u] t)) := h.box t [u]
section
variable {w0 x : World} {b : Nat} {st : List Int × Bool} {own : List Bk} {P : Program} {ops : Array Oper} {rest : List Oper} {o : Oper} {a : Act} {Q : Exit → Act → World → Prop}
theorem wpList_boxP1 (h : PE w0 b st own x) (t : TypeId) (v : Operand) (u : Value) (hg : o.guard = none) (ho : o.op = .box t v) (hv : a.eval v = u) (hu : u.cells = #[u])
   (hn : ∀ y g, PE w0 b st ((g, t, [u]) :: own) y → wpList P ops Q rest (a.put o.dst (.pointer (some ⟨g, 0, none⟩))) y) : wpList P ops Q (o :: rest) a x :=
 wpList_boxTo hg t v ho o.dst rfl x.heap.size rfl #[u] (by rw [hv]; exact hu) (hn _ _ (h.boxed t u))
theorem wpList_storeP1 (h : PE w0 b st own x) (i : Nat) (T : TypeId) (p v : Operand) (t : TypeId) (g : Nat) (old u : Value) (hi0 : own[i]? = some (g, t, [old])) (hi : (P.info? T).map (·.size) = some 1) (h1 : u.oneCell' = true)
   (hgd : o.guard = none) (ho : o.op = .store T p v) (hd : o.dst = none) (hx : a.eval p = .pointer (some ⟨g, 0, none⟩)) (hy : a.eval v = u)
   (hn : ∀ y, PE w0 b st (own.set i (g, t, [u])) y → wpList P ops Q rest a y) : wpList P ops Q (o :: rest) a x :=
 Zn T p v t g 0 [] old u [] (by simpa using h.get i hi0) rfl hi h1 hgd ho hd hx hy fun w' p => hn w' (h.put i hi0 (by simpa using p))
end
theorem qsize_int : (Tryz.prog.info? 3).map (·.size) = some 1 := by kernel_rfl
theorem qz_int : (Tryz.prog.info? 3).map (fun i => i.zero.map Value.cells) = some (some ([.int .i64 0] : List Value).toArray) := by kernel_rfl
theorem qz_ex : (Tryz.prog.info? 51).map (fun i => i.zero.map Value.cells) = some (some ([.int .i64 0, .int .i64 0, .int .i64 0, .int .i64 0, .int .i64 0, .int .i64 0, .slice none 0 0, .int .i64 0, .int .i64 0, .int .i64 0, .int .i64 0, .slice none 0 0] : List Value).toArray) := by kernel_rfl
theorem pOpd_A (w0 : World) (vs : List Value) (hvl : vs.length = 12) (whole tau : Int) (first : Bool) (h1 : whole < tau) (K : List ByteArray) (hx : Xa w0 74 (.agg vs.toArray) K)
   (ht : ∀ x, Calls Tryz.prog 164 #[.agg vs.toArray] x fun e w' => e = .returned (.int .i64 tau) ∧ Below x.heap.size x w') (b : Nat) (st : List Int × Bool) (own : List Bk) (x : World) (h : PE w0 b st own x) (gw gp iw ip : Nat) (t1 t2 : TypeId)
   (hw : own[iw]? = some (gw, t1, [.int .i64 whole])) (hp : own[ip]? = some (gp, t2, [.pointer (some ⟨b, 0, none⟩)])) (hr : Yk st (K)) :
   Calls Tryz.prog 165 #[.agg vs.toArray, .bool first, .pointer (some ⟨gw, 0, none⟩), .pointer (some ⟨gp, 0, none⟩)] x (QPost w0 b (Zp st (K)) own) := by
 obtain ⟨s1, E1⟩ : ∃ s, s = Zp st (K) := ⟨_, rfl⟩
 have R1 := Hh hr
 clear hr
 have EK : Zp st ((K)) = s1 := by simp only [Yd, E1]
 rw [EK]
 clear EK
 have P2 := Hh (hx.at_ (b := b) E1 R1.out)
 have HE1 := Hh E1
 clear E1
 have T := Hh h
 have HT := Hh ht
 have HVL := Hh hvl
 have HWi := Hh hw
 have HPi := Hh hp
 clear h hx ht hvl hw hp
 have d1 : decide (whole < tau) = true := decide_eq_true h1
 cases first
 all_goals
   go_enter Tryz.func165, Tryz.ntmps165
   go_wp2_with (first
 | ((with_reducible refine Ze 4 ?_); refine Ya T.out 51 _ vs rfl rfl rfl ?_; intro wn g tn; have T := Hh tn; clear tn; have cw : wn.cell? ⟨gw, 0, none⟩ = some (.int .i64 whole) := (T.out.get (iw + 1) (by simpa using HWi.out)).read 0; have cp : wn.cell? ⟨gp, 0, none⟩ = some (.pointer (some ⟨b, 0, none⟩)) := (T.out.get (ip + 1) (by simpa using HPi.out)).read 0)
 | ((with_reducible refine Ze 7 ?_); refine Zd 51 _ 51 g vs (T.out.get 0 rfl) Xu (by rw [HVL.out]; exact Xb) rfl rfl rfl ?_)
 | ((with_reducible refine Ze 21 ?_); refine Zd 51 _ 51 g vs (T.out.get 0 rfl) Xu (by rw [HVL.out]; exact Xb) rfl rfl rfl ?_)
 | ((with_reducible refine Ze 27 ?_); refine Zd 51 _ 51 g vs (T.out.get 0 rfl) Xu (by rw [HVL.out]; exact Xb) rfl rfl rfl ?_)
 | (go_at_call 164; refine (HT.out _).mono ?_; rintro e wn ⟨rfl, bn⟩; have T := Hh (T.out.call bn); clear bn; have cw : wn.cell? ⟨gw, 0, none⟩ = some (.int .i64 whole) := (T.out.get (iw + 1) (by simpa using HWi.out)).read 0; have cp : wn.cell? ⟨gp, 0, none⟩ = some (.pointer (some ⟨b, 0, none⟩)) := (T.out.get (ip + 1) (by simpa using HPi.out)).read 0)
 | (go_at_call 74; refine (P2.out _ _ T.out).mono ?_; rintro e wn ⟨rfl, tn⟩; have T := Hh tn; clear tn; have cw : wn.cell? ⟨gw, 0, none⟩ = some (.int .i64 whole) := (T.out.get (iw + 1) (by simpa using HWi.out)).read 0; have cp : wn.cell? ⟨gp, 0, none⟩ = some (.pointer (some ⟨b, 0, none⟩)) := (T.out.get (ip + 1) (by simpa using HPi.out)).read 0))
   go_end0
   exact ⟨rfl, T.out.tail⟩
theorem pOpd_B (w0 : World) (vs : List Value) (hvl : vs.length = 12) (whole tau : Int) (h1 : ¬ whole < tau) (h2 : tau = whole) (K : List ByteArray) (hx : Xa w0 74 (.agg vs.toArray) K)
   (ht : ∀ x, Calls Tryz.prog 164 #[.agg vs.toArray] x fun e w' => e = .returned (.int .i64 tau) ∧ Below x.heap.size x w') (b : Nat) (st : List Int × Bool) (own : List Bk) (x : World) (h : PE w0 b st own x) (gw gp iw ip : Nat) (t1 t2 : TypeId)
   (hw : own[iw]? = some (gw, t1, [.int .i64 whole])) (hp : own[ip]? = some (gp, t2, [.pointer (some ⟨b, 0, none⟩)])) (hr : Yk st (K)) :
   Calls Tryz.prog 165 #[.agg vs.toArray, .bool true, .pointer (some ⟨gw, 0, none⟩), .pointer (some ⟨gp, 0, none⟩)] x (QPost w0 b (Zp st (K)) own) := by
 obtain ⟨s1, E1⟩ : ∃ s, s = Zp st (K) := ⟨_, rfl⟩
 have R1 := Hh hr
 clear hr
 have EK : Zp st ((K)) = s1 := by simp only [Yd, E1]
 rw [EK]
 clear EK
 have P2 := Hh (hx.at_ (b := b) E1 R1.out)
 have HE1 := Hh E1
 clear E1
 have T := Hh h
 have HT := Hh ht
 have HVL := Hh hvl
 have HWi := Hh hw
 have HPi := Hh hp
 clear h hx ht hvl hw hp
 have d1 : decide (whole < tau) = false := decide_eq_false h1
 have d2 : (tau == whole) = true := by simpa using h2
 subst h2
 go_enter Tryz.func165, Tryz.ntmps165
 go_wp2_with (first
 | ((with_reducible refine Ze 4 ?_); refine Ya T.out 51 _ vs rfl rfl rfl ?_; intro wn g tn; have T := Hh tn; clear tn; have cw : wn.cell? ⟨gw, 0, none⟩ = some (.int .i64 tau) := (T.out.get (iw + 1) (by simpa using HWi.out)).read 0; have cp : wn.cell? ⟨gp, 0, none⟩ = some (.pointer (some ⟨b, 0, none⟩)) := (T.out.get (ip + 1) (by simpa using HPi.out)).read 0)
 | ((with_reducible refine Ze 7 ?_); refine Zd 51 _ 51 g vs (T.out.get 0 rfl) Xu (by rw [HVL.out]; exact Xb) rfl rfl rfl ?_)
 | ((with_reducible refine Ze 21 ?_); refine Zd 51 _ 51 g vs (T.out.get 0 rfl) Xu (by rw [HVL.out]; exact Xb) rfl rfl rfl ?_)
 | ((with_reducible refine Ze 27 ?_); refine Zd 51 _ 51 g vs (T.out.get 0 rfl) Xu (by rw [HVL.out]; exact Xb) rfl rfl rfl ?_)
 | (go_at_call 164; refine (HT.out _).mono ?_; rintro e wn ⟨rfl, bn⟩; have T := Hh (T.out.call bn); clear bn; have cw : wn.cell? ⟨gw, 0, none⟩ = some (.int .i64 tau) := (T.out.get (iw + 1) (by simpa using HWi.out)).read 0; have cp : wn.cell? ⟨gp, 0, none⟩ = some (.pointer (some ⟨b, 0, none⟩)) := (T.out.get (ip + 1) (by simpa using HPi.out)).read 0)
 | (go_at_call 74; refine (P2.out _ _ T.out).mono ?_; rintro e wn ⟨rfl, tn⟩; have T := Hh tn; clear tn; have cw : wn.cell? ⟨gw, 0, none⟩ = some (.int .i64 tau) := (T.out.get (iw + 1) (by simpa using HWi.out)).read 0; have cp : wn.cell? ⟨gp, 0, none⟩ = some (.pointer (some ⟨b, 0, none⟩)) := (T.out.get (ip + 1) (by simpa using HPi.out)).read 0))
 go_end0
 exact ⟨rfl, T.out.tail⟩
theorem pOpd_C (w0 : World) (vs : List Value) (hvl : vs.length = 12) (whole tau : Int) (h1 : ¬ whole < tau) (h2 : tau ≠ whole) (K : List ByteArray) (hx : Xa w0 74 (.agg vs.toArray) K)
   (ht : ∀ x, Calls Tryz.prog 164 #[.agg vs.toArray] x fun e w' => e = .returned (.int .i64 tau) ∧ Below x.heap.size x w') (b : Nat) (st : List Int × Bool) (own : List Bk) (x : World) (h : PE w0 b st own x) (gw gp iw ip : Nat) (t1 t2 : TypeId)
   (hw : own[iw]? = some (gw, t1, [.int .i64 whole])) (hp : own[ip]? = some (gp, t2, [.pointer (some ⟨b, 0, none⟩)])) (hr : Yk st ([Vo] ++ (K ++ [Uz]))) :
   Calls Tryz.prog 165 #[.agg vs.toArray, .bool true, .pointer (some ⟨gw, 0, none⟩), .pointer (some ⟨gp, 0, none⟩)] x (QPost w0 b (Zp st ([Vo] ++ (K ++ [Uz]))) own) := by
 obtain ⟨s1, E1⟩ : ∃ s, s = Zp st ([Vo]) := ⟨_, rfl⟩
 have R1 := Hh (Yk.first hr)
 replace hr := Yk.next hr
 rw [← E1] at hr
 obtain ⟨s2, E2⟩ : ∃ s, s = Zp s1 (K) := ⟨_, rfl⟩
 have R2 := Hh (Yk.first hr)
 replace hr := Yk.next hr
 rw [← E2] at hr
 obtain ⟨s3, E3⟩ : ∃ s, s = Zp s2 ([Uz]) := ⟨_, rfl⟩
 have R3 := Hh hr
 clear hr
 have EK : Zp st (([Vo]) ++ ((K) ++ (([Uz])))) = s3 := by simp only [Yd, E1, E2, E3]
 rw [EK]
 clear EK
 have P1 := Hh (fun own x => Xd (w0 := w0) (b := b) E1 R1.out (by simp) own x)
 have P2 := Hh (hx.at_ (b := b) E2 R2.out)
 have P3 := Hh (fun own x => Xd (w0 := w0) (b := b) E3 R3.out (by simp) own x)
 have HE1 := Hh E1
 clear E1
 have HE2 := Hh E2
 clear E2
 have HE3 := Hh E3
 clear E3
 have T := Hh h
 have HT := Hh ht
 have HVL := Hh hvl
 have HWi := Hh hw
 have HPi := Hh hp
 clear h hx ht hvl hw hp
 have d1 : decide (whole < tau) = false := decide_eq_false h1
 have d2 : (tau == whole) = false := by simpa using h2
 go_enter Tryz.func165, Tryz.ntmps165
 go_wp2_with (first
 | ((with_reducible refine Ze 4 ?_); refine Ya T.out 51 _ vs rfl rfl rfl ?_; intro wn g tn; have T := Hh tn; clear tn; have cw : wn.cell? ⟨gw, 0, none⟩ = some (.int .i64 whole) := (T.out.get (iw + 1) (by simpa using HWi.out)).read 0; have cp : wn.cell? ⟨gp, 0, none⟩ = some (.pointer (some ⟨b, 0, none⟩)) := (T.out.get (ip + 1) (by simpa using HPi.out)).read 0)
 | ((with_reducible refine Ze 7 ?_); refine Zd 51 _ 51 g vs (T.out.get 0 rfl) Xu (by rw [HVL.out]; exact Xb) rfl rfl rfl ?_)
 | ((with_reducible refine Ze 21 ?_); refine Zd 51 _ 51 g vs (T.out.get 0 rfl) Xu (by rw [HVL.out]; exact Xb) rfl rfl rfl ?_)
 | ((with_reducible refine Ze 27 ?_); refine Zd 51 _ 51 g vs (T.out.get 0 rfl) Xu (by rw [HVL.out]; exact Xb) rfl rfl rfl ?_)
 | (go_at_call 164; refine (HT.out _).mono ?_; rintro e wn ⟨rfl, bn⟩; have T := Hh (T.out.call bn); clear bn; have cw : wn.cell? ⟨gw, 0, none⟩ = some (.int .i64 whole) := (T.out.get (iw + 1) (by simpa using HWi.out)).read 0; have cp : wn.cell? ⟨gp, 0, none⟩ = some (.pointer (some ⟨b, 0, none⟩)) := (T.out.get (ip + 1) (by simpa using HPi.out)).read 0)
 | (go_at_call 107; refine (P1.out _ _ _ _ _ T.out rfl rfl).mono ?_; rintro e wn ⟨rfl, tn⟩; have T := Hh tn; clear tn; have cw : wn.cell? ⟨gw, 0, none⟩ = some (.int .i64 whole) := (T.out.get (iw + 1) (by simpa using HWi.out)).read 0; have cp : wn.cell? ⟨gp, 0, none⟩ = some (.pointer (some ⟨b, 0, none⟩)) := (T.out.get (ip + 1) (by simpa using HPi.out)).read 0)
 | (go_at_call 107; refine (P3.out _ _ _ _ _ T.out rfl rfl).mono ?_; rintro e wn ⟨rfl, tn⟩; have T := Hh tn; clear tn; have cw : wn.cell? ⟨gw, 0, none⟩ = some (.int .i64 whole) := (T.out.get (iw + 1) (by simpa using HWi.out)).read 0; have cp : wn.cell? ⟨gp, 0, none⟩ = some (.pointer (some ⟨b, 0, none⟩)) := (T.out.get (ip + 1) (by simpa using HPi.out)).read 0)
 | (go_at_call 74; refine (P2.out _ _ T.out).mono ?_; rintro e wn ⟨rfl, tn⟩; have T := Hh tn; clear tn; have cw : wn.cell? ⟨gw, 0, none⟩ = some (.int .i64 whole) := (T.out.get (iw + 1) (by simpa using HWi.out)).read 0; have cp : wn.cell? ⟨gp, 0, none⟩ = some (.pointer (some ⟨b, 0, none⟩)) := (T.out.get (ip + 1) (by simpa using HPi.out)).read 0))
 go_end0
 exact ⟨rfl, T.out.tail⟩
theorem pOpd_D (w0 : World) (vs : List Value) (hvl : vs.length = 12) (whole tau : Int) (h1 : ¬ whole < tau) (K : List ByteArray) (hx : Xa w0 74 (.agg vs.toArray) K)
   (ht : ∀ x, Calls Tryz.prog 164 #[.agg vs.toArray] x fun e w' => e = .returned (.int .i64 tau) ∧ Below x.heap.size x w') (b : Nat) (st : List Int × Bool) (own : List Bk) (x : World) (h : PE w0 b st own x) (gw gp iw ip : Nat) (t1 t2 : TypeId)
   (hw : own[iw]? = some (gw, t1, [.int .i64 whole])) (hp : own[ip]? = some (gp, t2, [.pointer (some ⟨b, 0, none⟩)])) (hr : Yk st ([Vo] ++ (K ++ [Uz]))) :
   Calls Tryz.prog 165 #[.agg vs.toArray, .bool false, .pointer (some ⟨gw, 0, none⟩), .pointer (some ⟨gp, 0, none⟩)] x (QPost w0 b (Zp st ([Vo] ++ (K ++ [Uz]))) own) := by
 obtain ⟨s1, E1⟩ : ∃ s, s = Zp st ([Vo]) := ⟨_, rfl⟩
 have R1 := Hh (Yk.first hr)
 replace hr := Yk.next hr
 rw [← E1] at hr
 obtain ⟨s2, E2⟩ : ∃ s, s = Zp s1 (K) := ⟨_, rfl⟩
 have R2 := Hh (Yk.first hr)
 replace hr := Yk.next hr
 rw [← E2] at hr
 obtain ⟨s3, E3⟩ : ∃ s, s = Zp s2 ([Uz]) := ⟨_, rfl⟩
 have R3 := Hh hr
 clear hr
 have EK : Zp st (([Vo]) ++ ((K) ++ (([Uz])))) = s3 := by simp only [Yd, E1, E2, E3]
 rw [EK]
 clear EK
 have P1 := Hh (fun own x => Xd (w0 := w0) (b := b) E1 R1.out (by simp) own x)
 have P2 := Hh (hx.at_ (b := b) E2 R2.out)
 have P3 := Hh (fun own x => Xd (w0 := w0) (b := b) E3 R3.out (by simp) own x)
 have HE1 := Hh E1
 clear E1
 have HE2 := Hh E2
 clear E2
 have HE3 := Hh E3
 clear E3
 have T := Hh h
 have HT := Hh ht
 have HVL := Hh hvl
 have HWi := Hh hw
 have HPi := Hh hp
 clear h hx ht hvl hw hp
 have d1 : decide (whole < tau) = false := decide_eq_false h1
 go_enter Tryz.func165, Tryz.ntmps165
 go_wp2_with (first
 | ((with_reducible refine Ze 4 ?_); refine Ya T.out 51 _ vs rfl rfl rfl ?_; intro wn g tn; have T := Hh tn; clear tn; have cw : wn.cell? ⟨gw, 0, none⟩ = some (.int .i64 whole) := (T.out.get (iw + 1) (by simpa using HWi.out)).read 0; have cp : wn.cell? ⟨gp, 0, none⟩ = some (.pointer (some ⟨b, 0, none⟩)) := (T.out.get (ip + 1) (by simpa using HPi.out)).read 0)
 | ((with_reducible refine Ze 7 ?_); refine Zd 51 _ 51 g vs (T.out.get 0 rfl) Xu (by rw [HVL.out]; exact Xb) rfl rfl rfl ?_)
 | ((with_reducible refine Ze 21 ?_); refine Zd 51 _ 51 g vs (T.out.get 0 rfl) Xu (by rw [HVL.out]; exact Xb) rfl rfl rfl ?_)
 | ((with_reducible refine Ze 27 ?_); refine Zd 51 _ 51 g vs (T.out.get 0 rfl) Xu (by rw [HVL.out]; exact Xb) rfl rfl rfl ?_)
 | (go_at_call 164; refine (HT.out _).mono ?_; rintro e wn ⟨rfl, bn⟩; have T := Hh (T.out.call bn); clear bn; have cw : wn.cell? ⟨gw, 0, none⟩ = some (.int .i64 whole) := (T.out.get (iw + 1) (by simpa using HWi.out)).read 0; have cp : wn.cell? ⟨gp, 0, none⟩ = some (.pointer (some ⟨b, 0, none⟩)) := (T.out.get (ip + 1) (by simpa using HPi.out)).read 0)
 | (go_at_call 107; refine (P1.out _ _ _ _ _ T.out rfl rfl).mono ?_; rintro e wn ⟨rfl, tn⟩; have T := Hh tn; clear tn; have cw : wn.cell? ⟨gw, 0, none⟩ = some (.int .i64 whole) := (T.out.get (iw + 1) (by simpa using HWi.out)).read 0; have cp : wn.cell? ⟨gp, 0, none⟩ = some (.pointer (some ⟨b, 0, none⟩)) := (T.out.get (ip + 1) (by simpa using HPi.out)).read 0)
 | (go_at_call 107; refine (P3.out _ _ _ _ _ T.out rfl rfl).mono ?_; rintro e wn ⟨rfl, tn⟩; have T := Hh tn; clear tn; have cw : wn.cell? ⟨gw, 0, none⟩ = some (.int .i64 whole) := (T.out.get (iw + 1) (by simpa using HWi.out)).read 0; have cp : wn.cell? ⟨gp, 0, none⟩ = some (.pointer (some ⟨b, 0, none⟩)) := (T.out.get (ip + 1) (by simpa using HPi.out)).read 0)
 | (go_at_call 74; refine (P2.out _ _ T.out).mono ?_; rintro e wn ⟨rfl, tn⟩; have T := Hh tn; clear tn; have cw : wn.cell? ⟨gw, 0, none⟩ = some (.int .i64 whole) := (T.out.get (iw + 1) (by simpa using HWi.out)).read 0; have cp : wn.cell? ⟨gp, 0, none⟩ = some (.pointer (some ⟨b, 0, none⟩)) := (T.out.get (ip + 1) (by simpa using HPi.out)).read 0))
 go_end0
 exact ⟨rfl, T.out.tail⟩
theorem pOpd (w0 : World) (vs : List Value) (hvl : vs.length = 12) (whole tau : Int) (first : Bool) (K : List ByteArray) (hx : Xa w0 74 (.agg vs.toArray) K)
   (ht : ∀ x, Calls Tryz.prog 164 #[.agg vs.toArray] x fun e w' => e = .returned (.int .i64 tau) ∧ Below x.heap.size x w') (b : Nat) {s1 s2 : List Int × Bool} (he : s2 = Zp s1 (kB (brB whole tau first) K)) (hr : Yk s1 (kB (brB whole tau first) K)) (own : List Bk) (x : World) (h : PE w0 b s1 own x) (gw gp iw ip : Nat) (t1 t2 : TypeId)
   (hw : own[iw]? = some (gw, t1, [.int .i64 whole])) (hp : own[ip]? = some (gp, t2, [.pointer (some ⟨b, 0, none⟩)])) :
   Calls Tryz.prog 165 #[.agg vs.toArray, .bool first, .pointer (some ⟨gw, 0, none⟩), .pointer (some ⟨gp, 0, none⟩)] x (QPost w0 b s2 own) := by
 subst he
 unfold kB brB at hr ⊢
 by_cases h1 : whole < tau
 · rw [if_neg (by simp [h1])] at hr ⊢
   exact pOpd_A w0 vs hvl whole tau first h1 K hx ht b s1 own x h gw gp iw ip t1 t2 hw hp hr
 · cases first
   · rw [if_pos (by simp [h1])] at hr ⊢
     exact pOpd_D w0 vs hvl whole tau h1 K hx ht b s1 own x h gw gp iw ip t1 t2 hw hp hr
   · by_cases h2 : tau = whole
     · rw [if_neg (by simp [h2])] at hr ⊢
       exact pOpd_B w0 vs hvl whole tau h1 h2 K hx ht b s1 own x h gw gp iw ip t1 t2 hw hp hr
     · rw [if_pos (by simp [h1, h2])] at hr ⊢
       exact pOpd_C w0 vs hvl whole tau h1 h2 K hx ht b s1 own x h gw gp iw ip t1 t2 hw hp hr
end Go.Proofs.YtljdgdphldckhaaGreat
