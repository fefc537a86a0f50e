/-
  Texts SynS5, SynN8, BlkMath. No conditions but those that each theorem names.
-/
import Derived.Test.YtgfkimknnbpmnaaQC46
import Derived.Test.YtgfkimknnbpmnaaQC47
namespace Go.Proofs.Ytgfkimknnbpmnaa
open Go.ChangeShapes Go.WideShapes Go.ChangeAt Go.RowKit
set_option linter.unusedVariables false
set_option linter.unusedSimpArgs false
theorem z_pl : (Try.prog.info? 69).map (fun i => i.zero.map Value.cells) = some (some ([.string ⟨#[]⟩, .int .i64 0, .int .i64 0, .slice none 0 0] : List Value).toArray) := by kernel_rfl
theorem rows_at {α : Type} (f : α → Ds) (dsL : List α → Ds) (h1 : ∀ x l, dsL (x :: l) = (f x).app (dsL l)) (sz : Nat) (hsz : ∀ x, (f x).len = sz) {N : Nat → Prop} {w : World} : ∀ {l : List α} {xs : List Value}, Ze N w (dsL l) xs → ∀ (k : Nat) (hk : k < l.length), ∃ pre ys post, xs = pre ++ ys ++ post ∧ pre.length = k * sz ∧ Ze N w (f (l[k]'hk)) ys := by
 intro l
 induction l with
 | nil => intro xs _ k hk; cases hk
 | cons x l ih =>
   intro xs h k hk
   rw [h1] at h
   obtain ⟨a, b, rfl, ha, hb⟩ := Ze.split (x := f x) h
   cases k with
   | zero => exact ⟨[], a, b, rfl, by simp, ha⟩
   | succ k =>
     obtain ⟨pre, ys, post, rfl, hp, hy⟩ := ih hb k (by simpa using hk)
     refine ⟨a ++ pre, ys, post, by simp, ?_, hy⟩
     rw [List.length_append, ha.len, hsz, hp, Nat.succ_mul]; omega
theorem row_at {α : Type} (f : α → Ds) (dsL : List α → Ds) (h1 : ∀ x l, dsL (x :: l) = (f x).app (dsL l)) (sz : Nat) (hp : 0 < sz) (hsz : ∀ x, (f x).len = sz) {N : Nat → Prop} {w : World} {A : Option Addr} {l : List α} {xs : List Value} (hw : Within N w A xs) (hd : Ze N w (dsL l) xs) {k : Nat} (hk : k < l.length) :
   ∃ g ys, A = some ⟨g, 0, none⟩ ∧ g < w.heap.size ∧ w.rangeAt g (k * sz) ys ∧ Ze N w (f (l[k]'hk)) ys := by
 obtain ⟨pre, ys, post, rfl, hp, hy⟩ := rows_at f dsL h1 sz hsz hd k hk
 have hl : ys.length = sz := by rw [hy.len, hsz]
 obtain ⟨g, hA, hg, hc⟩ := hw.reads (by simp; omega)
 exact ⟨g, ys, hA, hg, range_of hc hp, hy⟩
theorem RusSim.len {pl : Bool} : ∀ {x y : List Ru}, RusSim pl x y → x.length = y.length
 | [], [], _ => rfl
 | x :: l, y :: m, h => by rw [List.length_cons, List.length_cons, RusSim.len h.2]
theorem RusSim.at_ {pl : Bool} : ∀ {x y : List Ru}, RusSim pl x y → ∀ (k : Nat) (hk : k < x.length) (hk' : k < y.length), RuSim pl (x[k]'hk) (y[k]'hk')
 | x :: l, y :: m, h, 0, _, _ => h.1
 | x :: l, y :: m, h, k + 1, hk, hk' => RusSim.at_ h.2 k (by simpa using hk) (by simpa using hk')
theorem CasSim.len {pl : Bool} : ∀ {x y : List Ca}, CasSim pl x y → x.length = y.length
 | [], [], _ => rfl
 | x :: l, y :: m, h => by rw [List.length_cons, List.length_cons, CasSim.len h.2]
theorem CasSim.at_ {pl : Bool} : ∀ {x y : List Ca}, CasSim pl x y → ∀ (k : Nat) (hk : k < x.length) (hk' : k < y.length), CaSim pl (x[k]'hk) (y[k]'hk')
 | x :: l, y :: m, h, 0, _, _ => h.1
 | x :: l, y :: m, h, k + 1, hk, hk' => CasSim.at_ h.2 k (by simpa using hk) (by simpa using hk')
theorem PlsSim.len {pl : Bool} : ∀ {x y : List Pl}, PlsSim pl x y → x.length = y.length
 | [], [], _ => rfl
 | x :: l, y :: m, h => by rw [List.length_cons, List.length_cons, PlsSim.len h.2]
theorem PlsSim.at_ {pl : Bool} : ∀ {x y : List Pl}, PlsSim pl x y → ∀ (k : Nat) (hk : k < x.length) (hk' : k < y.length), PlSim pl (x[k]'hk) (y[k]'hk')
 | x :: l, y :: m, h, 0, _, _ => h.1
 | x :: l, y :: m, h, k + 1, hk, hk' => PlsSim.at_ h.2 k (by simpa using hk) (by simpa using hk')
set_option maxRecDepth 20000 in
set_option maxHeartbeats 6400000 in
theorem sRules (pl : Bool) (x y : List Ru) (w : World) (N M : Nat → Prop) (v u : Value) (hs : RusSim pl x y) (h1 : Ze N w (.row x.length (rusDs x) .nil) [v]) (h2 : Ze M w (.row y.length (rusDs y) .nil) [u]) :
   Calls Try.prog 15 #[v, u, .bool pl] w fun e w' => e = .returned (.bool true) ∧ Below w.heap.size w w' := by
 obtain ⟨A, c, xs, rfl, hn, hA, hx⟩ := h1.inRow
 obtain ⟨B, d, ys, rfl, _, hB, hy⟩ := h2.inRow
 have hlen := hs.len
 rw [← hlen]
 have HA := Hh (And.intro hA hx)
 have HB := Hh (And.intro hB hy)
 have HM := Hh (And.intro hs hlen)
 clear hA hx hB hy hs hlen h1 h2
 obtain ⟨n, hn0⟩ : ∃ n, n = x.length := ⟨_, rfl⟩
 rw [← hn0] at hn ⊢
 have HN := Hh hn0
 clear hn0
 go_enter Try.func15, Try.ntmps15
 go_wp2
 go_loopw [7] (fun i wr => ∃ m : Nat, i = .int .i64 m ∧ m ≤ n ∧ Env w [] [] [] wr) (fun i _ => n - (intOf i).toNat)
 case atStart => exact ⟨0, rfl, by omega, Env.start w⟩
 case round =>
   obtain ⟨m, rfl, hm, hE0⟩ := hrel
   by_cases hml : m < n
   · have hk1 : m < x.length := by rw [← HN.out]; exact hml
     have hk2 : m < y.length := by rw [← HM.out.2, ← HN.out]; exact hml
     obtain ⟨g, av, rfl, hx1, xr, dx⟩ := row_at Ru.ds rusDs (fun _ _ => rfl) 5 (by decide) (fun _ => rfl) (HA.out.1.keeps (Zm.of_below (S := fun _ => False) hE0.below) (fun k _ hn => ⟨id, hn⟩)) (HA.out.2.below hE0.below) hk1
     obtain ⟨g2, bv, rfl, hy1, yr, dy⟩ := row_at Ru.ds rusDs (fun _ _ => rfl) 5 (by decide) (fun _ => rfl) (HB.out.1.keeps (Zm.of_below (S := fun _ => False) hE0.below) (fun k _ hn => ⟨id, hn⟩)) (HB.out.2.below hE0.below) hk2
     have sim := RusSim.at_ HM.out.1 m hk1 hk2
     generalize x[m] = u at *
     generalize y[m] = u' at *
     clear hk1 hk2
     obtain ⟨a1, a2, a3, a4, a5⟩ := u
     obtain ⟨b1, b2, b3, b4, b5⟩ := u'
     obtain ⟨s1, s2, simP, sima⟩ := sim
     dsimp only at s1 s2 simP sima
     subst s1 s2
     obtain ⟨_, rfl, _, rfl, _, rfl, _, rfl, dx5⟩ := dx
     obtain ⟨A5, k5, _, rfl, _⟩ := id dx5.inRow1
     obtain ⟨_, rfl, _, rfl, _, rfl, _, rfl, dy5⟩ := dy
     obtain ⟨B5, j5, _, rfl, _⟩ := id dy5.inRow1
     dsimp only at *
     have hact : ∀ z, Below wr.heap.size wr z → Calls Try.prog 34 #[.slice A5 a5.len k5, .slice B5 b5.len j5, .bool pl] z fun e w' => e = .returned (.bool true) ∧ Below z.heap.size z w' := fun z hb => sActs pl _ a5 (Nat.le_refl _) b5 z N M _ _ sima (dx5.below hb) (dy5.below hb)
     have hq1 : a5.len ≤ 9223372036854775807 := by obtain ⟨_, _, _, _, h, _⟩ := dx5.inRow1; exact h
     generalize a5.len = q1 at *
     generalize b5.len = q2 at *
     clear dx5 dy5 sima
     have lk : (m : Int) < (n : Int) := by omega
     have lk0 : (0 : Int) ≤ (m : Int) := by omega
     have hkn : ((m : Int)).toNat = m := by omega
     have hSP := Hh simP
     clear simP
     go_wp2_with fail
     refine wp_region_noPanic (wp_region_held_drew (S := fun y => Below wr.heap.size wr y) (by kernel_rfl) (Env.start wr).drew.below fun hS => ?_)
     refine Yh (i := 0) (v := .slice (some ⟨g, 0, none⟩) n c) rfl rfl (by kernel_rfl) (by kernel_rfl) (by kernel_rfl) (fun _ _ _ h => h) (Xu rfl rfl rfl) hS ?_
     simp only [List.set_cons_zero, List.set_cons_succ]
     refine Yh (i := 1) (v := .int .i64 (m : Int)) rfl rfl (by kernel_rfl) (by kernel_rfl) (by kernel_rfl) (fun _ _ _ h => h) (Xu rfl rfl rfl) hS ?_
     simp only [List.set_cons_zero, List.set_cons_succ]
     refine Yh (i := 2) (v := .pointer (some ⟨g, m * 5, none⟩)) rfl rfl (by kernel_rfl) (by kernel_rfl) (by kernel_rfl) (fun _ _ _ h => h) (Wz rfl rfl rfl rfl hml und_rus size_ru) hS ?_
     simp only [List.set_cons_zero, List.set_cons_succ]
     refine Yh (i := 3) (v := .agg ([.int .i64 a1, .int .i64 a2, .int .i64 a3, .int .i64 a4, .slice A5 q1 k5]).toArray) rfl rfl (by kernel_rfl) (by kernel_rfl) (by kernel_rfl) (fun _ _ _ h => h) (Wv rfl rfl rfl (fun y hy => Vb xr hx1 hy) row_ru size_ru) hS ?_
     simp only [List.set_cons_zero, List.set_cons_succ]
     refine Yh (i := 4) (v := .slice (some ⟨g2, 0, none⟩) n d) rfl rfl (by kernel_rfl) (by kernel_rfl) (by kernel_rfl) (fun _ _ _ h => h) (Xu rfl rfl rfl) hS ?_
     simp only [List.set_cons_zero, List.set_cons_succ]
     refine Yh (i := 5) (v := .int .i64 (m : Int)) rfl rfl (by kernel_rfl) (by kernel_rfl) (by kernel_rfl) (fun _ _ _ h => h) (Xu rfl rfl rfl) hS ?_
     simp only [List.set_cons_zero, List.set_cons_succ]
     refine Yh (i := 6) (v := .pointer (some ⟨g2, m * 5, none⟩)) rfl rfl (by kernel_rfl) (by kernel_rfl) (by kernel_rfl) (fun _ _ _ h => h) (Wz rfl rfl rfl rfl hml und_rus size_ru) hS ?_
     simp only [List.set_cons_zero, List.set_cons_succ]
     refine Yh (i := 7) (v := .agg ([.int .i64 a1, .int .i64 a2, .int .i64 b3, .int .i64 b4, .slice B5 q2 j5]).toArray) rfl rfl (by kernel_rfl) (by kernel_rfl) (by kernel_rfl) (fun _ _ _ h => h) (Wv rfl rfl rfl (fun y hy => Vb yr hy1 hy) row_ru size_ru) hS ?_
     simp only [List.set_cons_zero, List.set_cons_succ]
     refine tail4 (x := wr) (iA := 8) (iB := 9) (iC := 10) (iD := 11) (T := 89) (z := [.int .i64 0, .int .i64 0, .int .i64 0, .int .i64 0, .slice none 0 0]) (xs := ([.int .i64 a1, .int .i64 a2, .int .i64 a3, .int .i64 a4, .slice A5 q1 k5])) (ys := ([.int .i64 a1, .int .i64 a2, .int .i64 b3, .int .i64 b4, .slice B5 q2 j5])) (a1 := 8) (a2 := 9) (v1 := 24) (v2 := 28)
       (by kernel_rfl) (by kernel_rfl) (by kernel_rfl) (by kernel_rfl) (by kernel_rfl) (by kernel_rfl) (by kernel_rfl) (by kernel_rfl) (by kernel_rfl)
       rfl rfl rfl rfl rfl rfl rfl rfl rfl rfl rfl rfl rfl rfl rfl rfl (by decide) z_ru size_ru rfl rfl (by simp [Value.oneCell']) (by simp [Value.oneCell']) (fun p q => ⟨rfl, rfl, rfl, rfl⟩) (Env.start wr).drew fun y p q hE => Uw (put2_lit ?_)
     simp only [List.set_cons_zero, List.set_cons_succ]
     have T5 : Hid (Env wr [(p, 89, [.int .i64 a1, .int .i64 a2, .int .i64 a3, .int .i64 a4, .slice A5 q1 k5]), (q, 89, [.int .i64 a1, .int .i64 a2, .int .i64 b3, .int .i64 b4, .slice B5 q2 j5])] [] [] y) := Hh hE
     have px0 := T5.out.cell 0 0 rfl rfl
     have px1 := T5.out.cell 0 1 rfl rfl
     have px2 := T5.out.cell 0 2 rfl rfl
     have px3 := T5.out.cell 0 3 rfl rfl
     have px4 := T5.out.cell 0 4 rfl rfl
     have py0 := T5.out.cell 1 0 rfl rfl
     have py1 := T5.out.cell 1 1 rfl rfl
     have py2 := T5.out.cell 1 2 rfl rfl
     have py3 := T5.out.cell 1 3 rfl rfl
     have py4 := T5.out.cell 1 4 rfl rfl
     have HE0 := Hh hE0
     clear hE hE0 hS
     have hcmp : (pl = true → a3 = b3 ∧ a4 = b4) := hSP.out
     cases pl
     · clear hcmp
       go_wp2_with (first
 | (go_at_call 34; (with_reducible refine (hact _ T5.out.below).mono ?_); rintro e w6 ⟨rfl, b6⟩
    have T6 : Hid (Env wr [(p, 89, [.int .i64 a1, .int .i64 a2, .int .i64 a3, .int .i64 a4, .slice A5 q1 k5]), (q, 89, [.int .i64 a1, .int .i64 a2, .int .i64 b3, .int .i64 b4, .slice B5 q2 j5])] [] [] w6) := Hh (T5.out.call b6)
    clear b6))
       go_roundw
       case rel => exact ⟨m + 1, by go_num, by omega, HE0.out.call T6.out.below⟩
       case measure => simp [intOf]; omega
     · obtain ⟨e1, e2⟩ := hcmp rfl
       subst e1 e2
       clear hcmp
       go_wp2_with (first
 | (go_at_call 34; (with_reducible refine (hact _ T5.out.below).mono ?_); rintro e w6 ⟨rfl, b6⟩
    have T6 : Hid (Env wr [(p, 89, [.int .i64 a1, .int .i64 a2, .int .i64 a3, .int .i64 a4, .slice A5 q1 k5]), (q, 89, [.int .i64 a1, .int .i64 a2, .int .i64 a3, .int .i64 a4, .slice B5 q2 j5])] [] [] w6) := Hh (T5.out.call b6)
    clear b6))
       go_roundw
       case rel => exact ⟨m + 1, by go_num, by omega, HE0.out.call T6.out.below⟩
       case measure => simp [intOf]; omega
   · go_wp2
     go_ret
     exact ⟨rfl, hE0.below⟩
end Go.Proofs.Ytgfkimknnbpmnaa
namespace Go.Proofs.Ytgfkimknnbpmnaa
open Go
set_option linter.unusedSimpArgs false
set_option linter.unusedVariables false
theorem RowSim.refl (pl : Bool) (L : List TokV) : RowSim pl L L := ⟨rfl, fun a => ⟨rfl, rfl, rfl, fun _ => ⟨rfl, rfl⟩⟩⟩
theorem Yf.refl (pl : Bool) : ∀ s : St, Yf pl s s
 | .ok a d => ⟨rfl, rfl⟩
 | .bad F => ⟨rfl, fun _ => rfl⟩
theorem Yf.flt : ∀ {s t : St}, Yf true s t → fltS s = fltS t
 | .ok _ _, .ok _ _, _ => rfl
 | .bad F, .bad G, h => h.2 rfl
theorem good_over {L : List TokV} : ∀ {s : St}, (Wm L s).good = true → s.good = true
 | .ok a d, _ => rfl
 | .bad F, h => h
end Go.Proofs.Ytgfkimknnbpmnaa
namespace Go.Proofs.Ytgfkimknnbpmnaa
open Go
set_option linter.unusedVariables false
set_option linter.unusedSimpArgs false
def sepC : List Int := [32, 35, 32, 115, 111, 10, 9]
def wcL (L : List TokV) : List Int := L.flatMap fun v => txt v ++ sepC
theorem wcL_cons (v : TokV) (L : List TokV) : wcL (v :: L) = txt v ++ (sepC ++ wcL L) := by unfold wcL; simp
theorem wcL_snoc (v : TokV) (L : List TokV) : wcL (L ++ [v]) = wcL L ++ (txt v ++ sepC) := by unfold wcL; simp
theorem wcL_len : ∀ L : List TokV, (wcL L).length = (wrL L).length + 6 * L.length
 | [] => rfl
 | v :: L => by
   rw [wcL_cons, wrL_cons]
   simp only [List.length_append, List.length_cons, wcL_len L]
   have : sepC.length = 7 := rfl
   omega
theorem rest_next (t : ByteArray) {q : Nat} {c : Int} {r : List Int} (h : Zg t q = c :: r) : q < t.size ∧ (gB t q : Int) = c ∧ Zg t (q + 1) = r := by
 have hlen := congrArg List.length h
 rw [Yq, List.length_cons] at hlen
 have hq : q < t.size := by omega
 have hc := Xj t hq
 rw [h] at hc
 exact ⟨hq, (List.cons.inj hc).1.symm, (List.cons.inj hc).2.symm⟩
theorem sep_skip (t : ByteArray) (acc : List TokV) {q : Nat} {r : List Int} (h : Zg t q = sepC ++ r) : Wl t q acc = Wl t (q + 7) acc ∧ Zg t (q + 7) = r := by
 obtain ⟨h0, g0, k0⟩ := rest_next t (show Zg t q = 32 :: (35 :: 32 :: 115 :: 111 :: 10 :: 9 :: r) from h)
 obtain ⟨h1, g1, k1⟩ := rest_next t k0
 obtain ⟨h2, g2, k2⟩ := rest_next t k1
 obtain ⟨h3, g3, k3⟩ := rest_next t k2
 obtain ⟨h4, g4, k4⟩ := rest_next t k3
 obtain ⟨h5, g5, k5⟩ := rest_next t k4
 obtain ⟨h6, g6, k6⟩ := rest_next t k5
 refine ⟨?_, k6⟩
 have e : Zr (Zg t (q + 1)) = (-1, 0, 4, 4) := by
   rw [k0, tokL_hash, Xy _ (by decide), Xy _ (by decide), Xy _ (by decide), tw_stop _ (by decide)]
 rw [scanA_blank t acc h0 (by rw [isBl_iff]; omega), scanA_rem t acc h1 (by rw [g1]; decide) (by rw [e]), e]
 show Wl t (q + 1 + 4) acc = _
 rw [show q + 1 + 4 = q + 1 + 1 + 1 + 1 + 1 from by omega, scanA_blank t acc h5 (by rw [isBl_iff]; omega), scanA_blank t acc h6 (by rw [isBl_iff]; omega)]
def SimC (L M : List TokV) : Prop := L.length = M.length ∧ ∀ (i : Nat) (h : i < L.length) (h' : i < M.length), (M[i]'h').k = (L[i]'h).k ∧ (M[i]'h').t = (L[i]'h).t ∧ (M[i]'h').n = (L[i]'h).n
theorem SimC.cons {u v : TokV} {L M : List TokV} (h : SimC L M) (h1 : v.k = u.k) (h2 : v.t = u.t) (h3 : v.n = u.n) : SimC (u :: L) (v :: M) := by
 refine ⟨by simp [h.1], fun i hi hi' => ?_⟩
 cases i with
 | zero => exact ⟨h1, h2, h3⟩
 | succ i => exact h.2 i (by simpa using hi) (by simpa using hi')
theorem againC (t : ByteArray) : ∀ (L : List TokV), Sh L → ∀ (q : Nat) (acc : List TokV), Zg t q = wcL L → ∃ M p, Wl t q acc = (acc ++ M, 0, p) ∧ SimC L M := by
 intro L hL
 induction hL with
 | fin v h1 h2 h3 =>
   intro q acc hr
   have e : wcL [v] = sepC ++ [] := by
     unfold wcL txt
     simp [h1, h2]; rfl
   rw [e] at hr
   obtain ⟨s1, s2⟩ := sep_skip t acc hr
   have hlen := congrArg List.length s2
   rw [Yq] at hlen
   simp at hlen
   refine ⟨[endV t (q + 7)], 0, ?_, ⟨rfl, fun i hi hi' => ?_⟩⟩
   · rw [s1, scanA_end t acc (by omega)]
   · have : i = 0 := by simpa using hi
     subst this
     exact ⟨h1.symm, h2.symm, h3.symm⟩
 | tok v L hg _ ih =>
   intro q acc hr
   obtain ⟨l, g1, g2, g3, g4, g5, g6, g7⟩ := hg
   rw [wcL_cons, g3] at hr
   have hr' : Zg t q = l.take (Zr l).2.2.2 ++ 32 :: (sepC.tail ++ wcL L) := hr
   have hlen := congrArg List.length hr'
   rw [Yq, List.length_append, List.length_cons] at hlen
   have hq : q < t.size := by omega
   have hsame := tok_same l (sepC.tail ++ wcL L) g1
   have hnum := num_same l (sepC.tail ++ wcL L) g1
   rw [← hr'] at hsame hnum
   obtain ⟨c, r, hcr, hcb⟩ := tok_head (Zg t q) (by rw [hsame]; exact g1)
   have hc := Xj t hq
   rw [hcr] at hc
   have hgc : (gB t q : Int) = c := (List.cons.inj hc).1.symm
   have hk : 0 < (Zr (Zg t q)).1 := by rw [hsame]; exact g1
   have hz : (l.take (Zr l).2.2.2).length = (Zr l).2.2.2 := by rw [← g3, g7]
   have hr2 : Zg t (q + (Zr l).2.2.2) = sepC ++ wcL L := by
     rw [← restL_drop, hr, List.drop_append_of_le_length (by omega), List.drop_of_length_le (by omega), List.nil_append]
   obtain ⟨s1, s2⟩ := sep_skip t (acc ++ [tokV t q]) hr2
   obtain ⟨M, p, hM, hS⟩ := ih (q + (Zr l).2.2.2 + 7) (acc ++ [tokV t q]) s2
   refine ⟨tokV t q :: M, p, ?_, hS.cons ?_ ?_ ?_⟩
   · rw [scanA_tok t acc hq (by rw [hgc]; exact hcb) hk, hsame, s1, hM]; simp
   · show (Zr (Zg t q)).1 = _
     rw [hsame, g2]
   · have hb := tokL_bd (Zg t q) (restL_ne t hq)
     rw [Yq] at hb
     have e := extract_str t (q + (Zr (Zg t q)).2.1) ((Zr (Zg t q)).2.2.1 - (Zr (Zg t q)).2.1) (by omega)
     rw [show q + (Zr (Zg t q)).2.1 + ((Zr (Zg t q)).2.2.1 - (Zr (Zg t q)).2.1) = q + (Zr (Zg t q)).2.2.1 from by omega] at e
     show t.extract _ _ = _
     rw [e, g4]
     have hd : (bL t).drop (q + (Zr (Zg t q)).2.1) = (Zg t q).drop (Zr (Zg t q)).2.1 := by unfold Zg; rw [List.drop_drop]
     rw [hd, ← List.drop_take, hsame]
     have hb2 : (Zr l).2.2.1 ≤ (Zr l).2.2.2 := by rw [← hsame]; omega
     rw [hr, List.take_append_of_le_length (by omega), List.take_take, Nat.min_eq_left hb2]
   · show Um (Zr (Zg t q)).1 (Zg t q) = _
     rw [hsame, hnum, g5]
theorem txt_byte {L : List TokV} (h : Sh L) : ∀ x ∈ wcL L, 0 ≤ x ∧ x < 256 := by
 have h10 := h.no10
 intro x hx
 unfold wcL at hx
 obtain ⟨v, hv, hx⟩ := List.mem_flatMap.1 hx
 rcases List.mem_append.1 hx with hx | hx
 · have : x ∈ wrL L := by unfold wrL; exact List.mem_flatMap.2 ⟨v, hv, List.mem_append_left _ hx⟩
   exact ⟨(h10 x this).1, (h10 x this).2.1⟩
 · unfold sepC at hx
   simp at hx
   omega
theorem wc_part (L : List TokV) (k : Nat) : (wcL (L.take k)).length ≤ (wcL L).length := by
 have : wcL L = wcL (L.take k) ++ wcL (L.drop k) := by
   unfold wcL; rw [← List.flatMap_append, List.take_append_drop]
 rw [this, List.length_append]; omega
theorem wc_next (L : List TokV) (k : Nat) (h : k < L.length) : strOfNums (wcL (L.take (k + 1))) = if (L[k]'h).k = 3 then strOfNums (wcL (L.take k)) ++ ⟨#[34]⟩ ++ (L[k]'h).t ++ ⟨#[34]⟩ ++ ⟨#[32, 35, 32, 115, 111, 10, 9]⟩ else strOfNums (wcL (L.take k)) ++ (L[k]'h).t ++ ⟨#[32, 35, 32, 115, 111, 10, 9]⟩ := by
 rw [List.take_succ_eq_append_getElem h, wcL_snoc]
 unfold txt
 have e1 : (⟨#[34]⟩ : ByteArray) = strOfNums [34] := rfl
 have e2 : (⟨#[32, 35, 32, 115, 111, 10, 9]⟩ : ByteArray) = strOfNums sepC := rfl
 have e4 : (L[k]'h).t = strOfNums (bL (L[k]'h).t) := (str_bL _).symm
 split
 · conv => rhs; rw [e4]
   rw [e1, e2, str_append, str_append, str_append, str_append]; simp
 · conv => rhs; rw [e4]
   rw [e2, str_append, str_append]; simp
theorem wc_size (L : List TokV) (k : Nat) : (strOfNums (wcL (L.take k))).size ≤ (wcL L).length := by
 have : (strOfNums (wcL (L.take k))).size = (wcL (L.take k)).length := strOfNums_size _
 rw [this]; exact wc_part L k
end Go.Proofs.Ytgfkimknnbpmnaa
