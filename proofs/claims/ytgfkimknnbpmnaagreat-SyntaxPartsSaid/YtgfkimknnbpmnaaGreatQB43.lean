/-
  Texts SynR20, SynL1, SynR21, SynN6, SynN7, SynN8, SyntaxParts. No conditions but those that each theorem names.
-/
import Derived.Test.YtgfkimknnbpmnaaGreatQB41
import Derived.Test.YtgfkimknnbpmnaaGreatQB42
namespace Go.Proofs.YtgfkimknnbpmnaaGreat
open Go.ChangeShapes Go.WideShapes Go.ChangeAt Go.RowKit
set_option linter.unusedVariables false
set_option linter.unusedSimpArgs false
def toksDs : List TokV → Ds
 | [] => .nil
 | v :: l => .int v.k (.str v.t (.int v.n (.int (v.line : Int) (.int (v.col : Int) (toksDs l)))))
theorem toks_deep (N : Nat → Prop) (w : World) : ∀ L : List TokV, Zq N w (toksDs L) (Vu L)
 | [] => rfl
 | v :: l => ⟨_, rfl, _, rfl, _, rfl, _, rfl, _, rfl, toks_deep N w l⟩
theorem toks_only {N : Nat → Prop} {w : World} : ∀ {L : List TokV} {xs : List Value}, Zq N w (toksDs L) xs → xs = Vu L
 | [], xs, h => h
 | v :: l, xs, ⟨t1, e1, t2, e2, t3, e3, t4, e4, t5, e5, h⟩ => by
   have := toks_only h
   subst this e5 e4 e3 e2 e1
   rfl
def RowKnown (r K : Nat) (L : List TokV) (A : Option Addr) : Prop := 0 < L.length → A = some ⟨r, 0, none⟩ ∧ Ends L ∧ L.length ≤ K ∧ K ≤ 9223372036854775807
theorem Yb.of {N : Nat → Prop} {w : World} {r K c : Nat} {L : List TokV} {A : Option Addr} (h : Zq N w (.row L.length (toksDs L) .nil) [.slice A L.length c]) (hA : RowKnown r K L A) : Yb w r K L := by
 intro hl
 obtain ⟨A', c', xs, t, e, hn, hW, hD, ht⟩ := h
 injection e with e1 e2
 injection e1 with e1
 obtain ⟨rfl, h1, h2, h3⟩ := hA hl
 subst e1
 obtain rfl := toks_only hD
 rcases hW with h | ⟨g, hg, _, hin, hc⟩
 · have := tokCs_len L
   rw [h] at this
   simp at this
   omega
 · injection hg with hg
   injection hg with hg
   subst hg
   exact ⟨hc, hin, h1, h2, h3⟩
def QBegin (w : World) (s : ByteArray) (e : Ending) (w' : World) : Prop :=
 ∃ (vs : List Value) (r K : Nat) (A : Option Addr) (c : Nat), e = .returned (.agg vs.toArray) ∧ RPv r K (Yo s) (Jo s) vs ∧ RowKnown r K (Yo s) A ∧ Zq (fun k => w.heap.size ≤ k) w' (.row (Yo s).length (toksDs (Yo s)) .nil) [.slice A (Yo s).length c] ∧ Below w.heap.size w w'
set_option maxRecDepth 20000 in
set_option maxHeartbeats 3200000 in
theorem qbegin (s : ByteArray) (w : World) (hs : s.size ≤ 65536) : Calls Tryz.prog 18 #[.string s] w (QBegin w s) := by
 have hs2 : s.size ≤ 1099511627776 := by omega
 have T0 := Hh (Env.start w)
 rcases text_cases s hs with ⟨E, l, c, hv, hE⟩ | ⟨L, hv, hL, _⟩
 · have hn := fun x => qNew_err s x hs2 E l c hv
   have e1 : Jo s = .bad (E, l, c) := by unfold Jo; rw [hv]; exact if_neg hE
   have e2 : Yo s = [] := by unfold Yo; rw [hv]
   have HE := Hh (And.intro hE (And.intro e1 e2))
   clear hs hs2 hv hE e1 e2
   unfold Zs at hn
   go_enter Tryz.func18, Tryz.ntmps18
   go_wp2_with (first
 | ((with_reducible refine Zf 2 ?_); refine Zc T0.out 62 _ rfl rfl z_P ?_; intro w1 g0 t1
    have T1 := Hh (t1)
    clear t1)
 | (go_at_call 42; refine (hn _).mono ?_; rintro e w2 ⟨A1, k1, rfl, b2⟩
    have T2 := Hh (T1.out.call b2)
    clear b2)
 | ((with_reducible refine Zf 3 ?_); refine Zc T2.out 60 _ rfl rfl z_C ?_; intro w3 g1 t3
    have T3 := Hh (t3)
    clear t3)
 | ((with_reducible refine Zf 4 ?_); refine Zc T3.out 29 _ rfl rfl z_F ?_; intro w4 g2 t4
    have T4 := Hh (t4)
    clear t4)
 | ((with_reducible refine Zi 3 8 ?_); refine Za 60 _ _ 60 g1 _ ([.slice A1 0 k1, .int .i64 0, .int .i64 0]) (T4.out.get 1 rfl) rfl Wx (by simp [Value.oneCell']) rfl rfl rfl rfl rfl ?_
    intro w5 p5
    have T5 := Hh (T4.out.put 1 rfl p5)
    clear p5)
 | ((with_reducible refine Zi 4 9 ?_); refine Za 29 _ _ 29 g2 _ ([.int .i64 E, .int .i64 (l : Int), .int .i64 (c : Int)]) (T5.out.get 2 rfl) rfl Xj (by simp [Value.oneCell']) rfl rfl rfl rfl rfl ?_
    intro w6 p6
    have T6 := Hh (T5.out.put 2 rfl p6)
    clear p6)
 | ((with_reducible refine Zf 10 ?_); refine Zb 60 _ 60 g1 _ (T6.out.get 1 rfl) row_C Wx rfl rfl rfl ?_)
 | ((with_reducible refine Zf 11 ?_); refine Zb 29 _ 29 g2 _ (T6.out.get 2 rfl) Vr Xj rfl rfl rfl ?_)
 | ((with_reducible refine Zi 2 12 ?_); refine Za 62 _ _ 62 g0 _ ([.slice A1 0 k1, .int .i64 0, .int .i64 0, .int .i64 E, .int .i64 (l : Int), .int .i64 (c : Int)]) (T6.out.get 0 rfl) rfl Yg (by simp [Value.oneCell']) rfl rfl rfl rfl rfl ?_
    intro w7 p7
    have T7 : Hid (Env w [(g0, 62, [.slice A1 0 k1, .int .i64 0, .int .i64 0, .int .i64 E, .int .i64 (l : Int), .int .i64 (c : Int)]), (g1, 60, [.slice A1 0 k1, .int .i64 0, .int .i64 0]), (g2, 29, [.int .i64 E, .int .i64 (l : Int), .int .i64 (c : Int)])] [] [] w7) := Hh (T6.out.put 0 rfl p7)
    clear p7))
   refine Yy 2 62 62 _ _ rfl (T7.out.get 0 rfl) Zp Yg rfl rfl ?_
   refine ⟨_, 0, 0, none, 0, rfl, ?_, ?_, ?_, T7.out.below⟩
   · rw [HE.out.2.1, HE.out.2.2]
     exact RPv.mkBad (F := (E, l, c)) A1 0 k1 0 0 (Nat.zero_le _) HE.out.1
   · rw [HE.out.2.2]; intro h; exact absurd h (Nat.lt_irrefl _)
   · rw [HE.out.2.2]; exact Zg _ _
 · have hn := fun x => qNew_ok s x hs2 L hv hL
   have e1 : Jo s = .ok 0 0 := by unfold Jo; rw [hv]; exact if_pos rfl
   have e2 : Yo s = L := by unfold Yo; rw [hv]
   have hpos := hL.pos
   have HE := Hh (And.intro e1 (And.intro e2 hpos))
   clear hs hs2 hv e1 e2 hL hpos
   go_enter Tryz.func18, Tryz.ntmps18
   go_wp2_with (first
 | ((with_reducible refine Zf 2 ?_); refine Zc T0.out 62 _ rfl rfl z_P ?_; intro w1 g0 t1
    have T1 := Hh (t1)
    clear t1)
 | (go_at_call 42; refine (hn _).mono ?_; rintro e w2 ⟨r, K, rfl, hr, hlo, b2⟩
    have hd : Zq (fun k => w1.heap.size ≤ k) w2 (.row L.length (toksDs L) .nil) [.slice (some ⟨r, 0, none⟩) L.length K] := ⟨_, _, Vu L, [], rfl, Nat.le_trans hr.capL hr.capM, .inr ⟨r, rfl, hlo, hr.rin, hr.row⟩, toks_deep _ _ L, rfl⟩
    have HR := Hh hr
    have T2 := Hh (T1.out.tree b2 hd)
    clear hr hlo hd
    clear b2)
 | ((with_reducible refine Zf 3 ?_); refine Zc T2.out 60 _ rfl rfl z_C ?_; intro w3 g1 t3
    have T3 := Hh (t3)
    clear t3)
 | ((with_reducible refine Zf 4 ?_); refine Zc T3.out 29 _ rfl rfl z_F ?_; intro w4 g2 t4
    have T4 := Hh (t4)
    clear t4)
 | ((with_reducible refine Zi 3 8 ?_); refine Za 60 _ _ 60 g1 _ ([.slice (some ⟨r, 0, none⟩) L.length K, .int .i64 0, .int .i64 0]) (T4.out.get 1 rfl) rfl Wx (by simp [Value.oneCell']) rfl rfl rfl rfl rfl ?_
    intro w5 p5
    have T5 := Hh (T4.out.put 1 rfl p5)
    clear p5)
 | ((with_reducible refine Zi 4 9 ?_); refine Za 29 _ _ 29 g2 _ ([.int .i64 0, .int .i64 0, .int .i64 0]) (T5.out.get 2 rfl) rfl Xj (by simp [Value.oneCell']) rfl rfl rfl rfl rfl ?_
    intro w6 p6
    have T6 := Hh (T5.out.put 2 rfl p6)
    clear p6)
 | ((with_reducible refine Zf 10 ?_); refine Zb 60 _ 60 g1 _ (T6.out.get 1 rfl) row_C Wx rfl rfl rfl ?_)
 | ((with_reducible refine Zf 11 ?_); refine Zb 29 _ 29 g2 _ (T6.out.get 2 rfl) Vr Xj rfl rfl rfl ?_)
 | ((with_reducible refine Zi 2 12 ?_); refine Za 62 _ _ 62 g0 _ ([.slice (some ⟨r, 0, none⟩) L.length K, .int .i64 0, .int .i64 0, .int .i64 0, .int .i64 0, .int .i64 0]) (T6.out.get 0 rfl) rfl Yg (by simp [Value.oneCell']) rfl rfl rfl rfl rfl ?_
    intro w7 p7
    have T7 : Hid (Env w [(g0, 62, [.slice (some ⟨r, 0, none⟩) L.length K, .int .i64 0, .int .i64 0, .int .i64 0, .int .i64 0, .int .i64 0]), (g1, 60, [.slice (some ⟨r, 0, none⟩) L.length K, .int .i64 0, .int .i64 0]), (g2, 29, [.int .i64 0, .int .i64 0, .int .i64 0])] [] [(.row L.length (toksDs L) .nil, [.slice (some ⟨r, 0, none⟩) L.length K])] w7) := Hh (T6.out.put 0 rfl p7)
    clear p7))
   refine Yy 2 62 62 _ _ rfl (T7.out.get 0 rfl) Zp Yg rfl rfl ?_
   refine ⟨_, r, K, some ⟨r, 0, none⟩, K, rfl, ?_, ?_, ?_, T7.out.below⟩
   · rw [HE.out.1, HE.out.2.1]
     exact RPv.mkOk (a := 0) (d := 0) rfl HE.out.2.2 (Nat.zero_le _)
   · rw [HE.out.2.1]; intro _; exact ⟨rfl, HR.out.ends, HR.out.capL, HR.out.capM⟩
   · rw [HE.out.2.1]; exact T7.out.leaf 0 rfl
theorem Vm.rfl_ {pl : Bool} : ∀ x : Acs, Vm pl x x := by
 intro x
 induction x with
 | nil => exact True.intro
 | cons h t e r it ie ir => exact ⟨⟨rfl, fun _ => ⟨rfl, rfl⟩⟩, it, ie, ir⟩
def livesT : ByteArray := ⟨#[112, 111, 119, 101, 114, 32, 109, 101, 32, 45, 50, 59]⟩
def livesA : Acs := .cons { AH.zero 1 1 1 with sel := ⟨1, 0, 0, 0, [], 0⟩, num := .leaf 1 (-2) zSe 0 0 0 } .nil .nil .nil
theorem lives_is : actsP 5 livesT = (livesA, okF) := by kernel_rfl
theorem cell_range {w : World} {g k : Nat} {ys : List Value} (h : w.rangeAt g k ys) (j : Nat) {v : Value} (hv : ys[j]? = some v) : w.cell? ⟨g, k + j, none⟩ = some v := h j v hv
theorem lives_row {N : Nat → Prop} {w : World} {v : Value} (h : Zq N w (.row livesA.len livesA.ds .nil) [v]) : ∃ g c, v = .slice (some ⟨g, 0, none⟩) 1 c ∧ g < w.heap.size ∧
   w.cell? ⟨g, 0, none⟩ = some (.int .i64 1) ∧ w.cell? ⟨g, 3, none⟩ = some (.int .i64 1) ∧ w.cell? ⟨g, 9, none⟩ = some (.int .i64 1) ∧ w.cell? ⟨g, 10, none⟩ = some (.int .i64 (-2)) := by
 obtain ⟨A, c, xs, rfl, _, hw, hd⟩ := h.inRow
 obtain ⟨g, ys, rfl, hg, hr, hy⟩ := act_at hw hd (k := 0) rfl
 obtain ⟨sel, num, cl, cr, thn, els, rfl, h1, h2, _⟩ := act_of hy
 obtain ⟨_, rfl, _, rfl, _, rfl, _, rfl, B, d, zs, _, rfl, _, _, _, _, rfl, hnil⟩ := h1
 obtain ⟨_, rfl, _, rfl, _⟩ := h2
 cases hnil
 rw [Nat.zero_mul] at hr
 exact ⟨g, c, rfl, hg, cell_range (k := 0) hr 0 rfl, cell_range (k := 0) hr 3 rfl, cell_range (k := 0) hr 9 rfl, cell_range (k := 0) hr 10 rfl⟩
set_option maxRecDepth 20000 in
set_option maxHeartbeats 3200000 in
theorem lives_any (w : World) : Calls Tryz.prog 5 #[] w fun e w' => e = .returned (.bool true) ∧ Below w.heap.size w w' := by
 have T0 := Hh (Env.start w)
 have hac : ∀ x, Calls Tryz.prog 9 #[.string ⟨#[112, 111, 119, 101, 114, 32, 109, 101, 32, 45, 50, 59]⟩] x (fun e w' => ∃ v : Value, e = .returned (.tuple #[v, .agg #[.int .i64 0, .int .i64 0, .int .i64 0]]) ∧ Zq (fun k => x.heap.size ≤ k) w' (.row livesA.len livesA.ds .nil) [v] ∧ Below x.heap.size x w') := fun x => by
   have h := xActs livesT x (by decide)
   rw [lives_is] at h
   exact h
 go_enter Tryz.func5, Tryz.ntmps5
 go_wp2_with (first
 | (go_at_call 9; refine (hac _).mono ?_; rintro e w1 ⟨v1, rfl, d1, b1⟩
    have T1 := Hh (T0.out.tree b1 d1)
    clear d1
    clear b1)
 | ((with_reducible refine Zf 2 ?_); refine Zc T1.out 29 _ rfl rfl z_F ?_; intro w2 g0 t2
    have T2 := Hh (t2)
    clear t2)
 | ((with_reducible refine Zi 2 6 ?_); refine Za 29 _ _ 29 g0 _ ([.int .i64 0, .int .i64 0, .int .i64 0]) (T2.out.get 0 rfl) rfl Xj (by simp [Value.oneCell']) rfl rfl rfl rfl rfl ?_
    intro w3 p3
    have T3 : Hid (Env w [(g0, 29, [.int .i64 0, .int .i64 0, .int .i64 0])] [] [(.row livesA.len livesA.ds .nil, [v1])] w3) := Hh (T2.out.put 0 rfl p3)
    obtain ⟨g, c, rfl, hg, c0, c3, c9, c10⟩ := lives_row (T3.out.leaf 0 rfl)
    obtain ⟨f0, f1, f2, _⟩ := Zz (T3.out.get 0 rfl)
    clear p3))
 go_ret
 exact ⟨rfl, T3.out.below⟩
set_option maxRecDepth 20000 in
set_option maxHeartbeats 3200000 in
theorem qAll (s : ByteArray) (w : World) (hs : s.size ≤ 65536) : Calls Tryz.prog 10 #[.string s] w (TopRow w (actsP 3 s).1.len (actsP 3 s).1.ds (actsP 3 s).2) := by
 have T0 := Hh (Env.start w)
 have hr := text_rem s
 have hl := text_len s hs
 have hbe : ∀ w, Calls Tryz.prog 18 #[.string s] w (QBegin w s) := fun w => qbegin s w hs
 have hsu : ∀ (x : World) (us : List Value) (r K : Nat), Yb x r K (Yo s) → RPv r K (Yo s) (Jo s) us → Calls Tryz.prog 30 #[.agg us.toArray] x (PRo x r K (Yo s) (actsO 3 s).2 (actsO 3 s).1.len (actsO 3 s).1.ds) := fun x us r K h1 h2 => by
   have hN : textN s = 8 * (Yo s).length + 20 := rfl
   exact qActs x r K _ _ us (textN s) h1 h2 (by omega) (by omega)
 show Calls _ _ _ _ (TopRow w (if (Xe (Yo s) (actsO 3 s).2).good = true then (actsO 3 s).1 else .nil).len (if (Xe (Yo s) (actsO 3 s).2).good = true then (actsO 3 s).1 else .nil).ds (Yw (Xe (Yo s) (actsO 3 s).2)))
 generalize actsO 3 s = x at *
 have hov : (Xe (Yo s) x.2).good = true ∨ ¬ (Xe (Yo s) x.2).good = true := Classical.em _
 clear hr hl hs
 rcases hov with hg | hg
 · rw [if_pos hg]
   have hf : Yw (Xe (Yo s) x.2) = okF := by cases h : Xe (Yo s) x.2 with | ok a d => rfl | bad F => rw [h] at hg; cases hg
   have z0 : ((Yw (Xe (Yo s) x.2)).1 != 0) = false := by rw [hf]; rfl
   have HG := Hh hf
   clear hg hf
   go_enter Tryz.func10, Tryz.ntmps10
   go_wp2_with (first
 | ((with_reducible refine Zf 3 ?_); refine Zc T0.out 29 _ rfl rfl z_F ?_; intro w1 g0 t1
    have T1 := Hh (t1)
    clear t1)
 | (go_at_call 18; refine (hbe _).mono ?_; rintro e w2 ⟨v1, r, K, A1, k1, rfl, h1, hk, d1, b2⟩
    have T2 := Hh (T1.out.tree b2 d1)
    have HK := Hh hk
    clear hk d1
    clear b2)
 | (go_at_call 30; refine (hsu _ v1 r K (Yb.of (T2.out.leaf 0 rfl) HK.out) h1).mono ?_; rintro e w3 ⟨v2, f2, rfl, h2, d2, b3⟩
    have T3 := Hh (T2.out.tree b3 d2)
    clear d2
    clear b3)
 | ((with_reducible refine Zf 4 ?_); refine Zc T3.out 62 _ rfl rfl z_P ?_; intro w4 g1 t4
    have T4 := Hh (t4)
    clear t4)
 | ((with_reducible refine Zi 4 10 ?_); refine Za 62 _ _ 62 g1 _ (v2) (T4.out.get 1 rfl) h2.len (Ze h2.len) h2.one rfl rfl rfl rfl rfl ?_
    intro w5 p5
    have T5 := Hh (T4.out.put 1 rfl p5)
    clear p5)
 | ((with_reducible refine Zf 12 ?_); refine Zb 62 _ 62 g1 _ (T5.out.get 1 rfl) Zp (Ze h2.len) rfl rfl rfl ?_)
 | (go_at_call 26; refine (qover _ r K (Yo s) _ v2 (Yb.of (T5.out.leaf 0 rfl) HK.out) h2).mono ?_; rintro e w6 ⟨v3, rfl, h3, b6⟩
    have hnz := h3.flt
    obtain ⟨y0, y1, y2, rfl⟩ := h3.six
    have T6 := Hh (T5.out.call b6)
    clear b6)
 | ((with_reducible refine Zi 4 13 ?_); refine Za 62 _ _ 62 g1 _ ([y0, y1, y2, .int .i64 (Yw (Xe (Yo s) x.2)).1, .int .i64 ((Yw (Xe (Yo s) x.2)).2.1 : Int), .int .i64 ((Yw (Xe (Yo s) x.2)).2.2 : Int)]) (T6.out.get 1 rfl) h2.len.symm Yg h3.one rfl rfl rfl rfl rfl ?_
    intro w7 p7
    have T7 := Hh (T6.out.put 1 rfl p7)
    obtain ⟨q0, q1, q2, q3, q4, q5⟩ := Xw (T7.out.get 1 rfl)
    obtain ⟨m0, m1, m2, n0, n1, n2⟩ := Zz (T7.out.get 0 rfl)
    have nei := T7.out.ne 1 0 (by decide) rfl rfl
    clear p7)
 | ((with_reducible refine Zi 3 21 ?_); refine Za 29 _ _ 29 g0 _ ([.int .i64 0, .int .i64 0, .int .i64 0]) (T7.out.get 0 rfl) rfl Xj (by simp [Value.oneCell']) rfl rfl rfl rfl rfl ?_
    intro w8 p8
    have T8 : Hid (Env w [(g0, 29, [.int .i64 0, .int .i64 0, .int .i64 0]), (g1, 62, [y0, y1, y2, .int .i64 (Yw (Xe (Yo s) x.2)).1, .int .i64 ((Yw (Xe (Yo s) x.2)).2.1 : Int), .int .i64 ((Yw (Xe (Yo s) x.2)).2.2 : Int)])] [] [(.row (Yo s).length (toksDs (Yo s)) .nil, [.slice A1 (Yo s).length k1]), (.row x.1.len x.1.ds .nil, [f2])] w8) := Hh (T7.out.put 0 rfl p8)
    clear p8))
   rw [HG.out]
   refine Vz 2 3 29 29 _ _ _ rfl (T8.out.get 0 rfl) Vr Xj rfl rfl rfl ?_
   exact ⟨_, rfl, T8.out.leaf 1 rfl, T8.out.below⟩
 · rw [if_neg hg]
   have HG := Hh hg
   clear hg
   go_enter Tryz.func10, Tryz.ntmps10
   go_wp2_with (first
 | ((with_reducible refine Zf 3 ?_); refine Zc T0.out 29 _ rfl rfl z_F ?_; intro w1 g0 t1
    have T1 := Hh (t1)
    clear t1)
 | (go_at_call 18; refine (hbe _).mono ?_; rintro e w2 ⟨v1, r, K, A1, k1, rfl, h1, hk, d1, b2⟩
    have T2 := Hh (T1.out.tree b2 d1)
    have HK := Hh hk
    clear hk d1
    clear b2)
 | (go_at_call 30; refine (hsu _ v1 r K (Yb.of (T2.out.leaf 0 rfl) HK.out) h1).mono ?_; rintro e w3 ⟨v2, f2, rfl, h2, d2, b3⟩
    have T3 := Hh (T2.out.tree b3 d2)
    clear d2
    clear b3)
 | ((with_reducible refine Zf 4 ?_); refine Zc T3.out 62 _ rfl rfl z_P ?_; intro w4 g1 t4
    have T4 := Hh (t4)
    clear t4)
 | ((with_reducible refine Zi 4 10 ?_); refine Za 62 _ _ 62 g1 _ (v2) (T4.out.get 1 rfl) h2.len (Ze h2.len) h2.one rfl rfl rfl rfl rfl ?_
    intro w5 p5
    have T5 := Hh (T4.out.put 1 rfl p5)
    clear p5)
 | ((with_reducible refine Zf 12 ?_); refine Zb 62 _ 62 g1 _ (T5.out.get 1 rfl) Zp (Ze h2.len) rfl rfl rfl ?_)
 | (go_at_call 26; refine (qover _ r K (Yo s) _ v2 (Yb.of (T5.out.leaf 0 rfl) HK.out) h2).mono ?_; rintro e w6 ⟨v3, rfl, h3, b6⟩
    have hnz := h3.flt
    obtain ⟨y0, y1, y2, rfl⟩ := h3.six
    have T6 := Hh (T5.out.call b6)
    clear b6)
 | ((with_reducible refine Zi 4 13 ?_); refine Za 62 _ _ 62 g1 _ ([y0, y1, y2, .int .i64 (Yw (Xe (Yo s) x.2)).1, .int .i64 ((Yw (Xe (Yo s) x.2)).2.1 : Int), .int .i64 ((Yw (Xe (Yo s) x.2)).2.2 : Int)]) (T6.out.get 1 rfl) h2.len.symm Yg h3.one rfl rfl rfl rfl rfl ?_
    intro w7 p7
    have T7 : Hid (Env w [(g0, 29, [.int .i64 0, .int .i64 0, .int .i64 0]), (g1, 62, [y0, y1, y2, .int .i64 (Yw (Xe (Yo s) x.2)).1, .int .i64 ((Yw (Xe (Yo s) x.2)).2.1 : Int), .int .i64 ((Yw (Xe (Yo s) x.2)).2.2 : Int)])] [] [(.row (Yo s).length (toksDs (Yo s)) .nil, [.slice A1 (Yo s).length k1]), (.row x.1.len x.1.ds .nil, [f2])] w7) := Hh (T6.out.put 1 rfl p7)
    obtain ⟨q0, q1, q2, q3, q4, q5⟩ := Xw (T7.out.get 1 rfl)
    obtain ⟨m0, m1, m2, n0, n1, n2⟩ := Zz (T7.out.get 0 rfl)
    have nei := T7.out.ne 1 0 (by decide) rfl rfl
    have z0 : ((Yw (Xe (Yo s) x.2)).1 != 0) = true := by (cases h : Xe (Yo s) x.2 with | ok a d => (rw [h] at HG; exact absurd rfl HG.out) | bad F => (rw [bne_iff_ne]; exact hnz F h))
    clear p7))
   go_region
   all_goals
     go_wp2
     have p := put3 (T7.out.get 0 rfl) (.int .i64 (Yw (Xe (Yo s) x.2)).1) (.int .i64 ((Yw (Xe (Yo s) x.2)).2.1 : Int)) (.int .i64 ((Yw (Xe (Yo s) x.2)).2.2 : Int))
     have hz := T7.out.put 0 rfl p
     first
     | exact Vz 2 3 29 29 _ _ _ rfl p.whole.drew Vr Xj rfl rfl rfl ⟨_, rfl, Zg _ _, hz.drew.below⟩
     | exact Vz 2 3 29 29 _ _ _ rfl p.whole Vr Xj rfl rfl rfl ⟨_, rfl, Zg _ _, hz.below⟩
set_option maxRecDepth 20000 in
set_option maxHeartbeats 3200000 in
theorem qOne (s : ByteArray) (w : World) (hs : s.size ≤ 65536) : Calls Tryz.prog 12 #[.string s] w (TopPost w (exprP 3 s).1.ds (exprP 3 s).2) := by
 have T0 := Hh (Env.start w)
 have hr := text_rem s
 have hl := text_len s hs
 have hbe : ∀ w, Calls Tryz.prog 18 #[.string s] w (QBegin w s) := fun w => qbegin s w hs
 have hsu : ∀ (x : World) (us : List Value) (r K : Nat), Yb x r K (Yo s) → RPv r K (Yo s) (Jo s) us → Calls Tryz.prog 33 #[.agg us.toArray] x (PTo x r K (Yo s) (exprO 3 s).2 (exprO 3 s).1.ds) := fun x us r K h1 h2 => by
   have hN : textN s = 8 * (Yo s).length + 20 := rfl
   exact qExpr x r K _ _ us (textN s) h1 h2 (by omega) (by omega)
 show Calls _ _ _ _ (TopPost w (if (Xe (Yo s) (exprO 3 s).2).good = true then (exprO 3 s).1 else zEx).ds (Yw (Xe (Yo s) (exprO 3 s).2)))
 generalize exprO 3 s = x at *
 have hov : (Xe (Yo s) x.2).good = true ∨ ¬ (Xe (Yo s) x.2).good = true := Classical.em _
 clear hr hl hs
 rcases hov with hg | hg
 · rw [if_pos hg]
   have hf : Yw (Xe (Yo s) x.2) = okF := by cases h : Xe (Yo s) x.2 with | ok a d => rfl | bad F => rw [h] at hg; cases hg
   have z0 : ((Yw (Xe (Yo s) x.2)).1 != 0) = false := by rw [hf]; rfl
   have HG := Hh hf
   clear hg hf
   go_enter Tryz.func12, Tryz.ntmps12
   go_wp2_with (first
 | ((with_reducible refine Zf 2 ?_); refine Zc T0.out 44 _ rfl rfl Zah ?_; intro w1 g0 t1
    have T1 := Hh (t1)
    clear t1)
 | ((with_reducible refine Zf 3 ?_); refine Zc T1.out 29 _ rfl rfl z_F ?_; intro w2 g1 t2
    have T2 := Hh (t2)
    clear t2)
 | (go_at_call 18; refine (hbe _).mono ?_; rintro e w3 ⟨v1, r, K, A1, k1, rfl, h1, hk, d1, b3⟩
    have T3 := Hh (T2.out.tree b3 d1)
    have HK := Hh hk
    clear hk d1
    clear b3)
 | (go_at_call 33; refine (hsu _ v1 r K (Yb.of (T3.out.leaf 0 rfl) HK.out) h1).mono ?_; rintro e w4 ⟨v2, u2, rfl, h2, d2, b4⟩
    have T4 := Hh (T3.out.tree b4 d2)
    have l2 := d2.len12
    have o2 := Hh d2.one
    clear d2
    clear b4)
 | ((with_reducible refine Zf 4 ?_); refine Zc T4.out 62 _ rfl rfl z_P ?_; intro w5 g2 t5
    have T5 := Hh (t5)
    clear t5)
 | ((with_reducible refine Zf 5 ?_); refine Zc T5.out 44 _ rfl rfl Zah ?_; intro w6 g3 t6
    have T6 := Hh (t6)
    clear t6)
 | ((with_reducible refine Zi 4 10 ?_); refine Za 62 _ _ 62 g2 _ (v2) (T6.out.get 2 rfl) h2.len (Ze h2.len) h2.one rfl rfl rfl rfl rfl ?_
    intro w7 p7
    have T7 := Hh (T6.out.put 2 rfl p7)
    clear p7)
 | ((with_reducible refine Zi 5 11 ?_); refine Za 44 _ _ 44 g3 _ (u2) (T7.out.get 3 rfl) l2 (Ys l2) o2.out rfl rfl rfl rfl rfl ?_
    intro w8 p8
    have T8 := Hh (T7.out.put 3 rfl p8)
    clear p8)
 | ((with_reducible refine Zf 12 ?_); refine Zb 62 _ 62 g2 _ (T8.out.get 2 rfl) Zp (Ze h2.len) rfl rfl rfl ?_)
 | (go_at_call 26; refine (qover _ r K (Yo s) _ v2 (Yb.of (T8.out.leaf 0 rfl) HK.out) h2).mono ?_; rintro e w9 ⟨v3, rfl, h3, b9⟩
    have hnz := h3.flt
    obtain ⟨y0, y1, y2, rfl⟩ := h3.six
    have T9 := Hh (T8.out.call b9)
    clear b9)
 | ((with_reducible refine Zi 4 13 ?_); refine Za 62 _ _ 62 g2 _ ([y0, y1, y2, .int .i64 (Yw (Xe (Yo s) x.2)).1, .int .i64 ((Yw (Xe (Yo s) x.2)).2.1 : Int), .int .i64 ((Yw (Xe (Yo s) x.2)).2.2 : Int)]) (T9.out.get 2 rfl) h2.len.symm Yg h3.one rfl rfl rfl rfl rfl ?_
    intro w10 p10
    have T10 := Hh (T9.out.put 2 rfl p10)
    obtain ⟨q0, q1, q2, q3, q4, q5⟩ := Xw (T10.out.get 2 rfl)
    obtain ⟨m0, m1, m2, n0, n1, n2⟩ := Zz (T10.out.get 1 rfl)
    have nei := T10.out.ne 2 1 (by decide) rfl rfl
    have w12 := whole12 (T10.out.get 0 rfl)
    obtain ⟨ca0, ca1, ca2, ca3, ca4, ca5, ca6, ca7, ca8, ca9, ca10, ca11, cb0, cb1, cb2, cb3, cb4, cb5, cb6, cb7, cb8, cb9, cb10, cb11⟩ := w12
    have ne0 : g0 ≠ g1 := T10.out.ne 0 1 (by decide) rfl rfl
    have ne1 : g2 ≠ g0 := T10.out.ne 2 0 (by decide) rfl rfl
    have ne2 : g0 ≠ g2 := T10.out.ne 0 2 (by decide) rfl rfl
    have ne3 : g1 ≠ g0 := T10.out.ne 1 0 (by decide) rfl rfl
    have ne4 : g2 ≠ g1 := T10.out.ne 2 1 (by decide) rfl rfl
    have ne5 : g1 ≠ g2 := T10.out.ne 1 2 (by decide) rfl rfl
    clear p10)
 | ((with_reducible refine Zf 21 ?_); refine Zb 44 _ 44 g3 _ (T10.out.get 3 rfl) Yr (Ys l2) rfl rfl rfl ?_)
 | ((with_reducible refine Zi 2 21 ?_); refine Za 44 _ _ 44 g0 _ (u2) (T10.out.get 0 rfl) l2 (Ys l2) o2.out rfl rfl rfl rfl rfl ?_
    intro w11 p11
    have T11 := Hh (T10.out.put 0 rfl p11)
    clear p11)
 | ((with_reducible refine Zi 3 22 ?_); refine Za 29 _ _ 29 g1 _ ([.int .i64 0, .int .i64 0, .int .i64 0]) (T11.out.get 1 rfl) rfl Xj (by simp [Value.oneCell']) rfl rfl rfl rfl rfl ?_
    intro w12 p12
    have T12 : Hid (Env w [(g0, 44, u2), (g1, 29, [.int .i64 0, .int .i64 0, .int .i64 0]), (g2, 62, [y0, y1, y2, .int .i64 (Yw (Xe (Yo s) x.2)).1, .int .i64 ((Yw (Xe (Yo s) x.2)).2.1 : Int), .int .i64 ((Yw (Xe (Yo s) x.2)).2.2 : Int)]), (g3, 44, u2)] [] [(.row (Yo s).length (toksDs (Yo s)) .nil, [.slice A1 (Yo s).length k1]), (x.1.ds, u2)] w12) := Hh (T11.out.put 1 rfl p12)
    clear p12))
   rw [HG.out]
   refine Yt 2 44 3 29 44 29 _ _ _ _ rfl (T12.out.get 0 rfl) (T12.out.get 1 rfl) Yr (Ys l2) Vr Xj rfl rfl rfl ?_
   exact ⟨_, rfl, T12.out.leaf 1 rfl, T12.out.below⟩
 · rw [if_neg hg]
   have HG := Hh hg
   clear hg
   go_enter Tryz.func12, Tryz.ntmps12
   go_wp2_with (first
 | ((with_reducible refine Zf 2 ?_); refine Zc T0.out 44 _ rfl rfl Zah ?_; intro w1 g0 t1
    have T1 := Hh (t1)
    clear t1)
 | ((with_reducible refine Zf 3 ?_); refine Zc T1.out 29 _ rfl rfl z_F ?_; intro w2 g1 t2
    have T2 := Hh (t2)
    clear t2)
 | (go_at_call 18; refine (hbe _).mono ?_; rintro e w3 ⟨v1, r, K, A1, k1, rfl, h1, hk, d1, b3⟩
    have T3 := Hh (T2.out.tree b3 d1)
    have HK := Hh hk
    clear hk d1
    clear b3)
 | (go_at_call 33; refine (hsu _ v1 r K (Yb.of (T3.out.leaf 0 rfl) HK.out) h1).mono ?_; rintro e w4 ⟨v2, u2, rfl, h2, d2, b4⟩
    have T4 := Hh (T3.out.tree b4 d2)
    have l2 := d2.len12
    have o2 := Hh d2.one
    clear d2
    clear b4)
 | ((with_reducible refine Zf 4 ?_); refine Zc T4.out 62 _ rfl rfl z_P ?_; intro w5 g2 t5
    have T5 := Hh (t5)
    clear t5)
 | ((with_reducible refine Zf 5 ?_); refine Zc T5.out 44 _ rfl rfl Zah ?_; intro w6 g3 t6
    have T6 := Hh (t6)
    clear t6)
 | ((with_reducible refine Zi 4 10 ?_); refine Za 62 _ _ 62 g2 _ (v2) (T6.out.get 2 rfl) h2.len (Ze h2.len) h2.one rfl rfl rfl rfl rfl ?_
    intro w7 p7
    have T7 := Hh (T6.out.put 2 rfl p7)
    clear p7)
 | ((with_reducible refine Zi 5 11 ?_); refine Za 44 _ _ 44 g3 _ (u2) (T7.out.get 3 rfl) l2 (Ys l2) o2.out rfl rfl rfl rfl rfl ?_
    intro w8 p8
    have T8 := Hh (T7.out.put 3 rfl p8)
    clear p8)
 | ((with_reducible refine Zf 12 ?_); refine Zb 62 _ 62 g2 _ (T8.out.get 2 rfl) Zp (Ze h2.len) rfl rfl rfl ?_)
 | (go_at_call 26; refine (qover _ r K (Yo s) _ v2 (Yb.of (T8.out.leaf 0 rfl) HK.out) h2).mono ?_; rintro e w9 ⟨v3, rfl, h3, b9⟩
    have hnz := h3.flt
    obtain ⟨y0, y1, y2, rfl⟩ := h3.six
    have T9 := Hh (T8.out.call b9)
    clear b9)
 | ((with_reducible refine Zi 4 13 ?_); refine Za 62 _ _ 62 g2 _ ([y0, y1, y2, .int .i64 (Yw (Xe (Yo s) x.2)).1, .int .i64 ((Yw (Xe (Yo s) x.2)).2.1 : Int), .int .i64 ((Yw (Xe (Yo s) x.2)).2.2 : Int)]) (T9.out.get 2 rfl) h2.len.symm Yg h3.one rfl rfl rfl rfl rfl ?_
    intro w10 p10
    have T10 : Hid (Env w [(g0, 44, [.int .i64 0, .int .i64 0, .int .i64 0, .int .i64 0, .int .i64 0, .int .i64 0, .slice none 0 0, .int .i64 0, .int .i64 0, .int .i64 0, .int .i64 0, .slice none 0 0]), (g1, 29, [.int .i64 0, .int .i64 0, .int .i64 0]), (g2, 62, [y0, y1, y2, .int .i64 (Yw (Xe (Yo s) x.2)).1, .int .i64 ((Yw (Xe (Yo s) x.2)).2.1 : Int), .int .i64 ((Yw (Xe (Yo s) x.2)).2.2 : Int)]), (g3, 44, u2)] [] [(.row (Yo s).length (toksDs (Yo s)) .nil, [.slice A1 (Yo s).length k1]), (x.1.ds, u2)] w10) := Hh (T9.out.put 2 rfl p10)
    obtain ⟨q0, q1, q2, q3, q4, q5⟩ := Xw (T10.out.get 2 rfl)
    obtain ⟨m0, m1, m2, n0, n1, n2⟩ := Zz (T10.out.get 1 rfl)
    have nei := T10.out.ne 2 1 (by decide) rfl rfl
    have w12 := whole12 (T10.out.get 0 rfl)
    obtain ⟨ca0, ca1, ca2, ca3, ca4, ca5, ca6, ca7, ca8, ca9, ca10, ca11, cb0, cb1, cb2, cb3, cb4, cb5, cb6, cb7, cb8, cb9, cb10, cb11⟩ := w12
    have ne0 : g0 ≠ g1 := T10.out.ne 0 1 (by decide) rfl rfl
    have ne1 : g2 ≠ g0 := T10.out.ne 2 0 (by decide) rfl rfl
    have ne2 : g0 ≠ g2 := T10.out.ne 0 2 (by decide) rfl rfl
    have ne3 : g1 ≠ g0 := T10.out.ne 1 0 (by decide) rfl rfl
    have ne4 : g2 ≠ g1 := T10.out.ne 2 1 (by decide) rfl rfl
    have ne5 : g1 ≠ g2 := T10.out.ne 1 2 (by decide) rfl rfl
    have z0 : ((Yw (Xe (Yo s) x.2)).1 != 0) = true := by (cases h : Xe (Yo s) x.2 with | ok a d => (rw [h] at HG; exact absurd rfl HG.out) | bad F => (rw [bne_iff_ne]; exact hnz F h))
    clear p10))
   go_region
   all_goals
     go_wp2
     have p := Zh.set12 (T10.out.get 0 rfl) rfl (.int .i64 0) (.int .i64 0) (.int .i64 0) (.int .i64 0) (.int .i64 0) (.int .i64 0) (.slice none 0 0) (.int .i64 0) (.int .i64 0) (.int .i64 0) (.int .i64 0) (.slice none 0 0)
     have hy := T10.out.put 0 rfl p
     have p' := put3 (hy.get 1 rfl) (.int .i64 (Yw (Xe (Yo s) x.2)).1) (.int .i64 ((Yw (Xe (Yo s) x.2)).2.1 : Int)) (.int .i64 ((Yw (Xe (Yo s) x.2)).2.2 : Int))
     have hz := hy.put 1 rfl p'
     first
     | exact Yt 2 44 3 29 44 29 _ _ _ _ rfl (hz.drew.get 0 rfl) (hz.drew.get 1 rfl) Yr Yd Vr Xj rfl rfl rfl ⟨_, rfl, zEx_deep _ _, hz.drew.below⟩
     | exact Yt 2 44 3 29 44 29 _ _ _ _ rfl (hz.get 0 rfl) (hz.get 1 rfl) Yr Yd Vr Xj rfl rfl rfl ⟨_, rfl, zEx_deep _ _, hz.below⟩
end Go.Proofs.YtgfkimknnbpmnaaGreat
namespace Go.Proofs.YtgfkimknnbpmnaaGreat
open Go
set_option linter.unusedSimpArgs false
set_option linter.unusedVariables false
theorem AHSim.eq {x y : AH} (h : AHSim true x y) : x = y := by
 obtain ⟨y1, y2, y3, y4, y5, y6, y7, y8, y9, y10, y11, y12, y13⟩ := y
 obtain ⟨x1, x2, x3, x4, x5, x6, x7, x8, x9, x10, x11, x12, x13⟩ := x
 obtain ⟨e, p⟩ := h
 obtain ⟨p1, p2⟩ := p rfl
 have q1 : x2 = y2 := p1
 have q2 : x3 = y3 := p2
 injection e with e1 e2 e3 e4 e5 e6 e7 e8 e9 e10 e11 e12 e13
 subst q1 q2 e1 e4 e5 e6 e7 e8 e9 e10 e11 e12 e13
 rfl
theorem Vm.eq : ∀ (x y : Acs), Vm true x y → x = y := by
 intro x
 induction x with
 | nil =>
   intro y h
   cases y with
   | nil => rfl
   | cons => exact h.elim
 | cons h t e r it ie ir =>
   intro y hy
   cases y with
   | nil => exact hy.elim
   | cons h' t' e' r' =>
     obtain ⟨h1, h2, h3, h4⟩ := hy
     rw [h1.eq, it _ h2, ie _ h3, ir _ h4]
def RuSim (pl : Bool) (x y : Ru) : Prop := x.when_ = y.when_ ∧ x.stratum = y.stratum ∧ (pl = true → x.line = y.line ∧ x.col = y.col) ∧ Vm pl x.acts y.acts
def RusSim (pl : Bool) : List Ru → List Ru → Prop
 | [], [] => True
 | x :: l, y :: m => RuSim pl x y ∧ RusSim pl l m
 | _, _ => False
def CaSim (pl : Bool) (x y : Ca) : Prop := x.name = y.name ∧ x.cost = y.cost ∧ x.power = y.power ∧ (pl = true → x.line = y.line ∧ x.col = y.col) ∧ RusSim pl x.rules y.rules
def PlSim (pl : Bool) (x y : Pl) : Prop := x.name = y.name ∧ (pl = true → x.line = y.line ∧ x.col = y.col) ∧ RusSim pl x.rules y.rules
def CasSim (pl : Bool) : List Ca → List Ca → Prop
 | [], [] => True
 | x :: l, y :: m => CaSim pl x y ∧ CasSim pl l m
 | _, _ => False
def PlsSim (pl : Bool) : List Pl → List Pl → Prop
 | [], [] => True
 | x :: l, y :: m => PlSim pl x y ∧ PlsSim pl l m
 | _, _ => False
def FiSim (pl : Bool) (x y : Fi) : Prop := CasSim pl x.cards y.cards ∧ PlsSim pl x.places y.places
section
variable {pl : Bool} {L M : List TokV} (h : RowSim pl L M) (a b : Int)
include h
end
theorem RusSim.eq : ∀ (x y : List Ru), RusSim true x y → x = y := by
 intro x
 induction x with
 | nil => intro y h; cases y with
   | nil => rfl
   | cons => exact h.elim
 | cons u l ih => intro y h; cases y with
   | nil => exact h.elim
   | cons v m =>
     obtain ⟨⟨h1, h2, h3, h4⟩, h5⟩ := h
     obtain ⟨p1, p2⟩ := h3 rfl
     have h6 := Vm.eq _ _ h4
     rw [ih _ h5]
     cases u; cases v
     cases h1; cases h2; cases p1; cases p2; cases h6
     rfl
theorem CasSim.eq : ∀ (x y : List Ca), CasSim true x y → x = y := by
 intro x
 induction x with
 | nil => intro y h; cases y with
   | nil => rfl
   | cons => exact h.elim
 | cons u l ih => intro y h; cases y with
   | nil => exact h.elim
   | cons v m =>
     obtain ⟨⟨h1, h2, h2', h3, h4⟩, h5⟩ := h
     obtain ⟨p1, p2⟩ := h3 rfl
     have h6 := RusSim.eq _ _ h4
     rw [ih _ h5]
     cases u; cases v
     cases h1; cases h2; cases h2'; cases p1; cases p2; cases h6
     rfl
theorem PlsSim.eq : ∀ (x y : List Pl), PlsSim true x y → x = y := by
 intro x
 induction x with
 | nil => intro y h; cases y with
   | nil => rfl
   | cons => exact h.elim
 | cons u l ih => intro y h; cases y with
   | nil => exact h.elim
   | cons v m =>
     obtain ⟨⟨h1, h3, h4⟩, h5⟩ := h
     obtain ⟨p1, p2⟩ := h3 rfl
     have h6 := RusSim.eq _ _ h4
     rw [ih _ h5]
     cases u; cases v
     cases h1; cases p1; cases p2; cases h6
     rfl
theorem FiSim.eq {x y : Fi} (h : FiSim true x y) : x = y := by
 have h1 := CasSim.eq _ _ h.1
 have h2 := PlsSim.eq _ _ h.2
 cases x; cases y
 cases h1; cases h2
 rfl
theorem RowSim.refl (pl : Bool) (L : List TokV) : RowSim pl L L := ⟨rfl, fun a => ⟨rfl, rfl, rfl, fun _ => ⟨rfl, rfl⟩⟩⟩
theorem Xm.refl (pl : Bool) : ∀ s : St, Xm pl s s
 | .ok a d => ⟨rfl, rfl⟩
 | .bad F => ⟨rfl, fun _ => rfl⟩
theorem Xm.flt : ∀ {s t : St}, Xm true s t → Yw s = Yw t
 | .ok _ _, .ok _ _, _ => rfl
 | .bad F, .bad G, h => h.2 rfl
theorem good_over {L : List TokV} : ∀ {s : St}, (Xe L s).good = true → s.good = true
 | .ok a d, _ => rfl
 | .bad F, h => h
theorem acts_nk (s : ByteArray) : actsP 5 s = actsP 3 s := by
 have h := (acts_sim (RowSim.refl true (Yo s)) 5 3 (textN s)).1 (Xm.refl true (Jo s))
 have ho := overS_sim (RowSim.refl true (Yo s)) h.1
 unfold actsP actsO
 rw [← ho.good, ho.flt]
 split
 · rename_i hg
   rw [Vm.eq _ _ (h.2 (good_over hg))]
 · rfl
theorem expr_nk (s : ByteArray) : exprP 5 s = exprP 3 s := by
 have h := (exprs_sim (RowSim.refl true (Yo s)) 5 3 (textN s)).1 (Xm.refl true (Jo s))
 have ho := overS_sim (RowSim.refl true (Yo s)) h.1
 unfold exprP exprO
 rw [← ho.good, ho.flt]
 split
 · rename_i hg
   rw [h.2 (good_over hg)]
 · rfl
end Go.Proofs.YtgfkimknnbpmnaaGreat
namespace Go.Proofs.YtgfkimknnbpmnaaGreat
open Go.ChangeShapes Go.WideShapes Go.ChangeAt Go.RowKit
set_option linter.unusedVariables false
set_option linter.unusedSimpArgs false
set_option maxRecDepth 20000 in
set_option maxHeartbeats 3200000 in
theorem walk_SyntaxParts (s t : ByteArray) (w : World) (hs : s.size ≤ maxLen) (ht : t.size ≤ maxLen) : Calls Tryz.prog 4 #[.string s, .string t] w fun e w' => e = .returned (.bool true) ∧ Below w.heap.size w w' := by
 unfold maxLen at hs ht
 by_cases hle : 2000 < s.size
 · go_enter Tryz.func4, Tryz.ntmps4
   go_wp2_with (go_at_call 5; refine (lives_any _).mono ?_; rintro e w1 ⟨rfl, b1⟩)
   go_ret
   exact ⟨rfl, b1⟩
 by_cases hle2 : 2000 < t.size
 · go_enter Tryz.func4, Tryz.ntmps4
   go_wp2_with (go_at_call 5; refine (lives_any _).mono ?_; rintro e w1 ⟨rfl, b1⟩)
   go_ret
   exact ⟨rfl, b1⟩
 · have hle' : s.size ≤ 2000 := by omega
   have hle2' : t.size ≤ 2000 := by omega
   have T0 := Hh (Env.start w)
   have h1 : ∀ y, Calls Tryz.prog 9 #[.string s] y (TopRow y (actsP 3 s).1.len (actsP 3 s).1.ds (actsP 3 s).2) := fun y => by
     have h := xActs s y (by omega)
     rw [acts_nk] at h
     exact h
   have h2 : ∀ y, Calls Tryz.prog 10 #[.string s] y (TopRow y (actsP 3 s).1.len (actsP 3 s).1.ds (actsP 3 s).2) := fun y => qAll s y (by omega)
   have h4 : ∀ y, Calls Tryz.prog 11 #[.string t] y (TopPost y (exprP 3 t).1.ds (exprP 3 t).2) := fun y => by
     have h := xExpr t y (by omega)
     rw [expr_nk] at h
     exact h
   have h5 : ∀ y, Calls Tryz.prog 12 #[.string t] y (TopPost y (exprP 3 t).1.ds (exprP 3 t).2) := fun y => qOne t y (by omega)
   generalize actsP 3 s = R at *
   obtain ⟨x, F0, F1, F2⟩ := R
   generalize exprP 3 t = R at *
   obtain ⟨z, G0, G1, G2⟩ := R
   have h3 : ∀ y (v1 v2 : Value), Zq (fun k => w.heap.size ≤ k) y (.row x.len x.ds .nil) [v1] → Zq (fun k => w.heap.size ≤ k) y (.row x.len x.ds .nil) [v2] → Calls Tryz.prog 13 #[v1, v2, .bool true] y fun e w' => e = .returned (.bool true) ∧ Below y.heap.size y w' := fun y v1 v2 d1 d2 => sActs true _ x (Nat.le_refl _) x y _ _ v1 v2 (Vm.rfl_ x) d1 d2
   have h6 : ∀ y (v1 v2 : List Value), Zq (fun k => w.heap.size ≤ k) y z.ds v1 → Zq (fun k => w.heap.size ≤ k) y z.ds v2 → Calls Tryz.prog 14 #[.agg v1.toArray, .agg v2.toArray] y fun e w' => e = .returned (.bool true) ∧ Below y.heap.size y w' := fun y v1 v2 d1 d2 => sExpr z y _ _ v1 v2 d1 d2
   unfold TopPost Zs at h4 h5
   unfold TopRow Zs at h1 h2
   dsimp only at h1 h2 h4 h5
   go_enter Tryz.func4, Tryz.ntmps4
   go_wp2_with (first
 | (go_at_call 9; refine (h1 _).mono ?_; rintro e w1 ⟨v1, rfl, d1, b1⟩
    obtain ⟨A1, c1, rfl⟩ := d1.slice
    have T1 := Hh (T0.out.tree b1 d1)
    clear d1
    clear b1)
 | ((with_reducible refine Zf 6 ?_); refine Zc T1.out 29 _ rfl rfl z_F ?_; intro w2 g0 t2
    have T2 := Hh (t2)
    clear t2)
 | ((with_reducible refine Zi 6 26 ?_); refine Za 29 _ _ 29 g0 _ ([.int .i64 F0, .int .i64 (F1 : Int), .int .i64 (F2 : Int)]) (T2.out.get 0 rfl) rfl Xj (by simp [Value.oneCell']) rfl rfl rfl rfl rfl ?_
    intro w3 p3
    have T3 := Hh (T2.out.put 0 rfl p3)
    clear p3)
 | (go_at_call 10; refine (h2 _).mono ?_; rintro e w4 ⟨v2, rfl, d2, b4⟩
    obtain ⟨A2, c2, rfl⟩ := d2.slice
    have T4 := Hh (T3.out.tree b4 d2)
    clear d2
    clear b4)
 | ((with_reducible refine Zf 8 ?_); refine Zc T4.out 29 _ rfl rfl z_F ?_; intro w5 g1 t5
    have T5 := Hh (t5)
    clear t5)
 | ((with_reducible refine Zi 8 31 ?_); refine Za 29 _ _ 29 g1 _ ([.int .i64 F0, .int .i64 (F1 : Int), .int .i64 (F2 : Int)]) (T5.out.get 1 rfl) rfl Xj (by simp [Value.oneCell']) rfl rfl rfl rfl rfl ?_
    intro w6 p6
    have T6 := Hh (T5.out.put 1 rfl p6)
    clear p6)
 | (go_at_call 11; refine (h4 _).mono ?_; rintro e w7 ⟨v3, rfl, d3, b7⟩
    have T7 := Hh (T6.out.tree b7 d3)
    have l3 := Hh (d3.len.trans (Ex.ds_len z))
    have o3 := Hh d3.one
    clear d3
    clear b7)
 | ((with_reducible refine Zf 9 ?_); refine Zc T7.out 44 _ rfl rfl Zah ?_; intro w8 g2 t8
    have T8 := Hh (t8)
    clear t8)
 | ((with_reducible refine Zf 10 ?_); refine Zc T8.out 29 _ rfl rfl z_F ?_; intro w9 g3 t9
    have T9 := Hh (t9)
    clear t9)
 | ((with_reducible refine Zi 9 35 ?_); refine Za 44 _ _ 44 g2 _ (v3) (T9.out.get 2 rfl) l3.out (Ys l3.out) o3.out rfl rfl rfl rfl rfl ?_
    intro w10 p10
    have T10 := Hh (T9.out.put 2 rfl p10)
    clear p10)
 | ((with_reducible refine Zi 10 36 ?_); refine Za 29 _ _ 29 g3 _ ([.int .i64 G0, .int .i64 (G1 : Int), .int .i64 (G2 : Int)]) (T10.out.get 3 rfl) rfl Xj (by simp [Value.oneCell']) rfl rfl rfl rfl rfl ?_
    intro w11 p11
    have T11 := Hh (T10.out.put 3 rfl p11)
    clear p11)
 | (go_at_call 12; refine (h5 _).mono ?_; rintro e w12 ⟨v4, rfl, d4, b12⟩
    have T12 := Hh (T11.out.tree b12 d4)
    have l4 := Hh (d4.len.trans (Ex.ds_len z))
    have o4 := Hh d4.one
    clear d4
    clear b12)
 | ((with_reducible refine Zf 11 ?_); refine Zc T12.out 44 _ rfl rfl Zah ?_; intro w13 g4 t13
    have T13 := Hh (t13)
    clear t13)
 | ((with_reducible refine Zf 12 ?_); refine Zc T13.out 29 _ rfl rfl z_F ?_; intro w14 g5 t14
    have T14 := Hh (t14)
    clear t14)
 | ((with_reducible refine Zi 11 40 ?_); refine Za 44 _ _ 44 g4 _ (v4) (T14.out.get 4 rfl) l4.out (Ys l4.out) o4.out rfl rfl rfl rfl rfl ?_
    intro w15 p15
    have T15 := Hh (T14.out.put 4 rfl p15)
    clear p15)
 | ((with_reducible refine Zi 12 41 ?_); refine Za 29 _ _ 29 g5 _ ([.int .i64 G0, .int .i64 (G1 : Int), .int .i64 (G2 : Int)]) (T15.out.get 5 rfl) rfl Xj (by simp [Value.oneCell']) rfl rfl rfl rfl rfl ?_
    intro w16 p16
    have T16 := Hh (T15.out.put 5 rfl p16)
    clear p16)
 | (go_at_call 13; refine (h3 _ _ _ (T16.out.leaf 0 rfl) (T16.out.leaf 1 rfl)).mono ?_; rintro e w17 ⟨rfl, b17⟩
    have T17 := Hh (T16.out.call b17)
    obtain ⟨p0, p1, p2, _⟩ := Zz (T17.out.get 0 rfl)
    obtain ⟨q0, q1, q2, _⟩ := Zz (T17.out.get 1 rfl)
    clear b17)
 | ((with_reducible refine Zf 51 ?_); refine Xo 44 _ 44 g2 0 [] v3 [] (by have h := T17.out.get 2 rfl; simpa using h) rfl Yr (Ys l3.out) rfl rfl rfl ?_)
 | ((with_reducible refine Zf 52 ?_); refine Xo 44 _ 44 g4 0 [] v4 [] (by have h := T17.out.get 4 rfl; simpa using h) rfl Yr (Ys l4.out) rfl rfl rfl ?_)
 | (go_at_call 14; refine (h6 _ v3 v4 (T17.out.leaf 2 rfl) (T17.out.leaf 3 rfl)).mono ?_; rintro e w18 ⟨rfl, b18⟩
    have T18 := Hh (T17.out.call b18)
    obtain ⟨r0, r1, r2, _⟩ := Zz (T18.out.get 3 rfl)
    obtain ⟨s0, s1, s2, _⟩ := Zz (T18.out.get 5 rfl)
    clear b18)
 | (go_at_call 5; refine (lives_any _).mono ?_; rintro e w19 ⟨rfl, b19⟩
    have T19 : Hid (Env w [(g0, 29, [.int .i64 F0, .int .i64 (F1 : Int), .int .i64 (F2 : Int)]), (g1, 29, [.int .i64 F0, .int .i64 (F1 : Int), .int .i64 (F2 : Int)]), (g2, 44, v3), (g3, 29, [.int .i64 G0, .int .i64 (G1 : Int), .int .i64 (G2 : Int)]), (g4, 44, v4), (g5, 29, [.int .i64 G0, .int .i64 (G1 : Int), .int .i64 (G2 : Int)])] [] [(.row x.len x.ds .nil, [.slice A1 x.len c1]), (.row x.len x.ds .nil, [.slice A2 x.len c2]), (z.ds, v3), (z.ds, v4)] w19) := Hh (T18.out.call b19)
    clear b19))
   go_ret
   exact ⟨rfl, T19.out.below⟩
end Go.Proofs.YtgfkimknnbpmnaaGreat
