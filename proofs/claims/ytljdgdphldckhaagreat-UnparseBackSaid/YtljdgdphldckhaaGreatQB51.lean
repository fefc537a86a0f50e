/-
  Texts SynS5, SynS6. No conditions but those that each theorem names.
-/
import Derived.Test.YtljdgdphldckhaaGreatQB49
import Derived.Test.YtljdgdphldckhaaGreatQB50
namespace Go.Proofs.YtljdgdphldckhaaGreat
open Go.ChangeShapes Go.WideShapes Go.ChangeAt Go.RowKit
set_option linter.unusedVariables false
set_option linter.unusedSimpArgs false
theorem z_pl : (Tryz.prog.info? 38).map (fun i => i.zero.map Value.cells) = some (some ([.string ⟨#[]⟩, .int .i64 0, .int .i64 0, .slice none 0 0] : List Value).toArray) := by kernel_rfl
theorem rows_at {α : Type} (f : α → Ds) (dsL : List α → Ds) (h1 : ∀ x l, dsL (x :: l) = (f x).app (dsL l)) (sz : Nat) (hsz : ∀ x, (f x).len = sz) {N : Nat → Prop} {w : World} : ∀ {l : List α} {xs : List Value}, Zg N w (dsL l) xs → ∀ (k : Nat) (hk : k < l.length), ∃ pre ys post, xs = pre ++ ys ++ post ∧ pre.length = k * sz ∧ Zg N w (f (l[k]'hk)) ys := by
 intro l
 induction l with
 | nil => intro xs _ k hk; cases hk
 | cons x l ih =>
   intro xs h k hk
   rw [h1] at h
   obtain ⟨a, b, rfl, ha, hb⟩ := Zg.split (x := f x) h
   cases k with
   | zero => exact ⟨[], a, b, rfl, by simp, ha⟩
   | succ k =>
     obtain ⟨pre, ys, post, rfl, hp, hy⟩ := ih hb k (by simpa using hk)
     refine ⟨a ++ pre, ys, post, by simp, ?_, hy⟩
     rw [List.length_append, ha.len, hsz, hp, Nat.succ_mul]; omega
theorem row_at {α : Type} (f : α → Ds) (dsL : List α → Ds) (h1 : ∀ x l, dsL (x :: l) = (f x).app (dsL l)) (sz : Nat) (hp : 0 < sz) (hsz : ∀ x, (f x).len = sz) {N : Nat → Prop} {w : World} {A : Option Addr} {l : List α} {xs : List Value} (hw : Zak N w A xs) (hd : Zg N w (dsL l) xs) {k : Nat} (hk : k < l.length) :
   ∃ g ys, A = some ⟨g, 0, none⟩ ∧ g < w.heap.size ∧ w.rangeAt g (k * sz) ys ∧ Zg N w (f (l[k]'hk)) ys := by
 obtain ⟨pre, ys, post, rfl, hp, hy⟩ := rows_at f dsL h1 sz hsz hd k hk
 have hl : ys.length = sz := by rw [hy.len, hsz]
 obtain ⟨g, hA, hg, hc⟩ := hw.reads (by simp; omega)
 exact ⟨g, ys, hA, hg, range_of hc hp, hy⟩
theorem RusSim.len {pl : Bool} : ∀ {x y : List Ru}, RusSim pl x y → x.length = y.length
 | [], [], _ => rfl
 | x :: l, y :: m, h => by rw [List.length_cons, List.length_cons, RusSim.len h.2]
theorem RusSim.at_ {pl : Bool} : ∀ {x y : List Ru}, RusSim pl x y → ∀ (k : Nat) (hk : k < x.length) (hk' : k < y.length), RuSim pl (x[k]'hk) (y[k]'hk')
 | x :: l, y :: m, h, 0, _, _ => h.1
 | x :: l, y :: m, h, k + 1, hk, hk' => RusSim.at_ h.2 k (by simpa using hk) (by simpa using hk')
theorem CasSim.len {pl : Bool} : ∀ {x y : List Ca}, CasSim pl x y → x.length = y.length
 | [], [], _ => rfl
 | x :: l, y :: m, h => by rw [List.length_cons, List.length_cons, CasSim.len h.2]
theorem CasSim.at_ {pl : Bool} : ∀ {x y : List Ca}, CasSim pl x y → ∀ (k : Nat) (hk : k < x.length) (hk' : k < y.length), CaSim pl (x[k]'hk) (y[k]'hk')
 | x :: l, y :: m, h, 0, _, _ => h.1
 | x :: l, y :: m, h, k + 1, hk, hk' => CasSim.at_ h.2 k (by simpa using hk) (by simpa using hk')
theorem PlsSim.len {pl : Bool} : ∀ {x y : List Pl}, PlsSim pl x y → x.length = y.length
 | [], [], _ => rfl
 | x :: l, y :: m, h => by rw [List.length_cons, List.length_cons, PlsSim.len h.2]
theorem PlsSim.at_ {pl : Bool} : ∀ {x y : List Pl}, PlsSim pl x y → ∀ (k : Nat) (hk : k < x.length) (hk' : k < y.length), PlSim pl (x[k]'hk) (y[k]'hk')
 | x :: l, y :: m, h, 0, _, _ => h.1
 | x :: l, y :: m, h, k + 1, hk, hk' => PlsSim.at_ h.2 k (by simpa using hk) (by simpa using hk')
set_option maxRecDepth 20000 in
set_option maxHeartbeats 6400000 in
theorem sRules (pl : Bool) (x y : List Ru) (w : World) (N M : Nat → Prop) (v u : Value) (hs : RusSim pl x y) (h1 : Zg N w (.row x.length (Zbg x) .nil) [v]) (h2 : Zg M w (.row y.length (Zbg y) .nil) [u]) :
   Calls Tryz.prog 81 #[v, u, .bool pl] w fun e w' => e = .returned (.bool true) ∧ Below w.heap.size w w' := by
 obtain ⟨A, c, xs, rfl, hn, hA, hx⟩ := h1.inRow
 obtain ⟨B, d, ys, rfl, _, hB, hy⟩ := h2.inRow
 have hlen := hs.len
 rw [← hlen]
 have HA := Hh (And.intro hA hx)
 have HB := Hh (And.intro hB hy)
 have HM := Hh (And.intro hs hlen)
 clear hA hx hB hy hs hlen h1 h2
 obtain ⟨n, hn0⟩ : ∃ n, n = x.length := ⟨_, rfl⟩
 rw [← hn0] at hn ⊢
 have HN := Hh hn0
 clear hn0
 go_enter Tryz.func81, Tryz.ntmps81
 go_wp2
 go_loopw [7] (fun i wr => ∃ m : Nat, i = .int .i64 m ∧ m ≤ n ∧ Env w [] [] [] wr) (fun i _ => n - (intOf i).toNat)
 case atStart => exact ⟨0, rfl, by omega, Env.start w⟩
 case round =>
   obtain ⟨m, rfl, hm, hE0⟩ := hrel
   by_cases hml : m < n
   · have hk1 : m < x.length := by rw [← HN.out]; exact hml
     have hk2 : m < y.length := by rw [← HM.out.2, ← HN.out]; exact hml
     obtain ⟨g, av, rfl, hx1, xr, dx⟩ := row_at Ru.ds Zbg (fun _ _ => rfl) 5 (by decide) (fun _ => rfl) (HA.out.1.keeps (Zm.of_below (S := fun _ => False) hE0.below) (fun k _ hn => ⟨id, hn⟩)) (HA.out.2.below hE0.below) hk1
     obtain ⟨g2, bv, rfl, hy1, yr, dy⟩ := row_at Ru.ds Zbg (fun _ _ => rfl) 5 (by decide) (fun _ => rfl) (HB.out.1.keeps (Zm.of_below (S := fun _ => False) hE0.below) (fun k _ hn => ⟨id, hn⟩)) (HB.out.2.below hE0.below) hk2
     have sim := RusSim.at_ HM.out.1 m hk1 hk2
     generalize x[m] = u at *
     generalize y[m] = u' at *
     clear hk1 hk2
     obtain ⟨a1, a2, a3, a4, a5⟩ := u
     obtain ⟨b1, b2, b3, b4, b5⟩ := u'
     obtain ⟨s1, s2, simP, sima⟩ := sim
     dsimp only at s1 s2 simP sima
     subst s1 s2
     obtain ⟨_, rfl, _, rfl, _, rfl, _, rfl, dx5⟩ := dx
     obtain ⟨A5, k5, _, rfl, _⟩ := id dx5.inRow1
     obtain ⟨_, rfl, _, rfl, _, rfl, _, rfl, dy5⟩ := dy
     obtain ⟨B5, j5, _, rfl, _⟩ := id dy5.inRow1
     dsimp only at *
     have hact : ∀ z, Below wr.heap.size wr z → Calls Tryz.prog 130 #[.slice A5 a5.len k5, .slice B5 b5.len j5, .bool pl] z fun e w' => e = .returned (.bool true) ∧ Below z.heap.size z w' := fun z hb => sActs pl _ a5 (Nat.le_refl _) b5 z N M _ _ sima (dx5.below hb) (dy5.below hb)
     have hq1 : a5.len ≤ 9223372036854775807 := by obtain ⟨_, _, _, _, h, _⟩ := dx5.inRow1; exact h
     generalize a5.len = q1 at *
     generalize b5.len = q2 at *
     clear dx5 dy5 sima
     have lk : (m : Int) < (n : Int) := by omega
     have lk0 : (0 : Int) ≤ (m : Int) := by omega
     have hkn : ((m : Int)).toNat = m := by omega
     have hSP := Hh simP
     clear simP
     go_wp2_with fail
     refine wp_region_noPanic (wp_region_held_drew (S := fun y => Below wr.heap.size wr y) (by kernel_rfl) (Env.start wr).drew.below fun hS => ?_)
     refine Yp (i := 0) (v := .slice (some ⟨g, 0, none⟩) n c) rfl rfl (by kernel_rfl) (by kernel_rfl) (by kernel_rfl) (fun _ _ _ h => h) (Vp rfl rfl rfl) hS ?_
     simp only [List.set_cons_zero, List.set_cons_succ]
     refine Yp (i := 1) (v := .int .i64 (m : Int)) rfl rfl (by kernel_rfl) (by kernel_rfl) (by kernel_rfl) (fun _ _ _ h => h) (Vp rfl rfl rfl) hS ?_
     simp only [List.set_cons_zero, List.set_cons_succ]
     refine Yp (i := 2) (v := .pointer (some ⟨g, m * 5, none⟩)) rfl rfl (by kernel_rfl) (by kernel_rfl) (by kernel_rfl) (fun _ _ _ h => h) (Jb rfl rfl rfl rfl hml und_rus size_ru) hS ?_
     simp only [List.set_cons_zero, List.set_cons_succ]
     refine Yp (i := 3) (v := .agg ([.int .i64 a1, .int .i64 a2, .int .i64 a3, .int .i64 a4, .slice A5 q1 k5]).toArray) rfl rfl (by kernel_rfl) (by kernel_rfl) (by kernel_rfl) (fun _ _ _ h => h) (Um rfl rfl rfl (fun y hy => Jd xr hx1 hy) row_ru size_ru) hS ?_
     simp only [List.set_cons_zero, List.set_cons_succ]
     refine Yp (i := 4) (v := .slice (some ⟨g2, 0, none⟩) n d) rfl rfl (by kernel_rfl) (by kernel_rfl) (by kernel_rfl) (fun _ _ _ h => h) (Vp rfl rfl rfl) hS ?_
     simp only [List.set_cons_zero, List.set_cons_succ]
     refine Yp (i := 5) (v := .int .i64 (m : Int)) rfl rfl (by kernel_rfl) (by kernel_rfl) (by kernel_rfl) (fun _ _ _ h => h) (Vp rfl rfl rfl) hS ?_
     simp only [List.set_cons_zero, List.set_cons_succ]
     refine Yp (i := 6) (v := .pointer (some ⟨g2, m * 5, none⟩)) rfl rfl (by kernel_rfl) (by kernel_rfl) (by kernel_rfl) (fun _ _ _ h => h) (Jb rfl rfl rfl rfl hml und_rus size_ru) hS ?_
     simp only [List.set_cons_zero, List.set_cons_succ]
     refine Yp (i := 7) (v := .agg ([.int .i64 a1, .int .i64 a2, .int .i64 b3, .int .i64 b4, .slice B5 q2 j5]).toArray) rfl rfl (by kernel_rfl) (by kernel_rfl) (by kernel_rfl) (fun _ _ _ h => h) (Um rfl rfl rfl (fun y hy => Jd yr hy1 hy) row_ru size_ru) hS ?_
     simp only [List.set_cons_zero, List.set_cons_succ]
     refine tail4 (x := wr) (iA := 8) (iB := 9) (iC := 10) (iD := 11) (T := 66) (z := [.int .i64 0, .int .i64 0, .int .i64 0, .int .i64 0, .slice none 0 0]) (xs := ([.int .i64 a1, .int .i64 a2, .int .i64 a3, .int .i64 a4, .slice A5 q1 k5])) (ys := ([.int .i64 a1, .int .i64 a2, .int .i64 b3, .int .i64 b4, .slice B5 q2 j5])) (a1 := 8) (a2 := 9) (v1 := 24) (v2 := 28)
       (by kernel_rfl) (by kernel_rfl) (by kernel_rfl) (by kernel_rfl) (by kernel_rfl) (by kernel_rfl) (by kernel_rfl) (by kernel_rfl) (by kernel_rfl)
       rfl rfl rfl rfl rfl rfl rfl rfl rfl rfl rfl rfl rfl rfl rfl rfl (by decide) z_ru size_ru rfl rfl (by simp [Value.oneCell']) (by simp [Value.oneCell']) (fun p q => ⟨rfl, rfl, rfl, rfl⟩) (Env.start wr).drew fun y p q hE => Zbl (put2_lit ?_)
     simp only [List.set_cons_zero, List.set_cons_succ]
     have T5 : Hid (Env wr [(p, 66, [.int .i64 a1, .int .i64 a2, .int .i64 a3, .int .i64 a4, .slice A5 q1 k5]), (q, 66, [.int .i64 a1, .int .i64 a2, .int .i64 b3, .int .i64 b4, .slice B5 q2 j5])] [] [] y) := Hh hE
     have px0 := T5.out.cell 0 0 rfl rfl
     have px1 := T5.out.cell 0 1 rfl rfl
     have px2 := T5.out.cell 0 2 rfl rfl
     have px3 := T5.out.cell 0 3 rfl rfl
     have px4 := T5.out.cell 0 4 rfl rfl
     have py0 := T5.out.cell 1 0 rfl rfl
     have py1 := T5.out.cell 1 1 rfl rfl
     have py2 := T5.out.cell 1 2 rfl rfl
     have py3 := T5.out.cell 1 3 rfl rfl
     have py4 := T5.out.cell 1 4 rfl rfl
     have HE0 := Hh hE0
     clear hE hE0 hS
     have hcmp : (pl = true → a3 = b3 ∧ a4 = b4) := hSP.out
     cases pl
     · clear hcmp
       go_wp2_with (first
 | (go_at_call 130; (with_reducible refine (hact _ T5.out.below).mono ?_); rintro e w6 ⟨rfl, b6⟩
    have T6 : Hid (Env wr [(p, 66, [.int .i64 a1, .int .i64 a2, .int .i64 a3, .int .i64 a4, .slice A5 q1 k5]), (q, 66, [.int .i64 a1, .int .i64 a2, .int .i64 b3, .int .i64 b4, .slice B5 q2 j5])] [] [] w6) := Hh (T5.out.call b6)
    clear b6))
       go_roundw
       case rel => exact ⟨m + 1, by go_num, by omega, HE0.out.call T6.out.below⟩
       case measure => simp [intOf]; omega
     · obtain ⟨e1, e2⟩ := hcmp rfl
       subst e1 e2
       clear hcmp
       go_wp2_with (first
 | (go_at_call 130; (with_reducible refine (hact _ T5.out.below).mono ?_); rintro e w6 ⟨rfl, b6⟩
    have T6 : Hid (Env wr [(p, 66, [.int .i64 a1, .int .i64 a2, .int .i64 a3, .int .i64 a4, .slice A5 q1 k5]), (q, 66, [.int .i64 a1, .int .i64 a2, .int .i64 a3, .int .i64 a4, .slice B5 q2 j5])] [] [] w6) := Hh (T5.out.call b6)
    clear b6))
       go_roundw
       case rel => exact ⟨m + 1, by go_num, by omega, HE0.out.call T6.out.below⟩
       case measure => simp [intOf]; omega
   · go_wp2
     go_ret
     exact ⟨rfl, hE0.below⟩
set_option maxRecDepth 20000 in
set_option maxHeartbeats 12800000 in
theorem sSame (pl : Bool) (x y : Fi) (w : World) (N M : Nat → Prop) (vs us : List Value) (hs : FiSim pl x y) (h1 : Zg N w x.ds vs) (h2 : Zg M w y.ds us) :
   Calls Tryz.prog 28 #[.agg vs.toArray, .agg us.toArray, .bool pl] w fun e w' => e = .returned (.bool true) ∧ Below w.heap.size w w' := by
 obtain ⟨A, c, xs, _, rfl, hn, hA, hx, A', c', xs', _, rfl, hn', hA', hx', rfl⟩ := h1
 obtain ⟨B, d, ys, _, rfl, _, hB, hy, B', d', ys', _, rfl, _, hB', hy', rfl⟩ := h2
 have hl1 := hs.1.len
 have hl2 := hs.2.len
 rw [← hl1, ← hl2]
 have T0 := Hh (Env.start w)
 have HA := Hh (And.intro hA hx)
 have HB := Hh (And.intro hB hy)
 have HA' := Hh (And.intro hA' hx')
 have HB' := Hh (And.intro hB' hy')
 have HM := Hh (And.intro hs (And.intro hl1 hl2))
 clear hA hx hB hy hs hl1 hl2 hA' hx' hB' hy'
 obtain ⟨n, hn0⟩ : ∃ n, n = x.cards.length := ⟨_, rfl⟩
 obtain ⟨n', hn0'⟩ : ∃ n, n = x.places.length := ⟨_, rfl⟩
 rw [← hn0] at hn ⊢
 rw [← hn0'] at hn' ⊢
 have HN := Hh hn0
 have HN' := Hh hn0'
 clear hn0 hn0'
 go_enter Tryz.func28, Tryz.ntmps28
 go_wp2_with (first
 | ((with_reducible refine Zi 3 ?_); refine Wn T0.out 26 _ ([.slice A n c, .slice A' n' c']) rfl rfl rfl ?_; intro w1 g0 t1
    have T1 : Hid (Env w [(g0, 26, [.slice A n c, .slice A' n' c'])] [] [] w1) := Hh t1
    clear t1)
 | ((with_reducible refine Zi 4 ?_); refine Wn T1.out 26 _ ([.slice B n d, .slice B' n' d']) rfl rfl rfl ?_; intro w2 g1 t2
    have T2 : Hid (Env w [(g0, 26, [.slice A n c, .slice A' n' c']), (g1, 26, [.slice B n d, .slice B' n' d'])] [] [] w2) := Hh t2
    have a0 := T2.out.cell 0 0 rfl rfl
    have a1 := T2.out.cell 0 1 rfl rfl
    have b0 := T2.out.cell 1 0 rfl rfl
    have b1 := T2.out.cell 1 1 rfl rfl
    clear t2))
 go_loopw [7] (fun i wr => ∃ m : Nat, i = .int .i64 m ∧ m ≤ n ∧ Env w [(g0, 26, [.slice A n c, .slice A' n' c']), (g1, 26, [.slice B n d, .slice B' n' d'])] [] [] wr) (fun i _ => n - (intOf i).toNat)
 case atStart => exact ⟨0, rfl, by omega, T2.out⟩
 case round =>
   obtain ⟨m, rfl, hm, hE0⟩ := hrel
   by_cases hml : m < n
   · have hk1 : m < x.cards.length := by rw [← HN.out]; exact hml
     have hk2 : m < y.cards.length := by rw [← HM.out.2.1, ← HN.out]; exact hml
     obtain ⟨g, av, rfl, hx1, xr, dx⟩ := row_at Ca.ds casDs (fun _ _ => rfl) 6 (by decide) (fun _ => rfl) (HA.out.1.keeps (Zm.of_below (S := fun _ => False) hE0.below) (fun k _ hn => ⟨id, hn⟩)) (HA.out.2.below hE0.below) hk1
     obtain ⟨h, bv, rfl, hy1, yr, dy⟩ := row_at Ca.ds casDs (fun _ _ => rfl) 6 (by decide) (fun _ => rfl) (HB.out.1.keeps (Zm.of_below (S := fun _ => False) hE0.below) (fun k _ hn => ⟨id, hn⟩)) (HB.out.2.below hE0.below) hk2
     have sim := CasSim.at_ HM.out.1.1 m hk1 hk2
     generalize x.cards[m] = u at *
     generalize y.cards[m] = u' at *
     clear hk1 hk2
     obtain ⟨a1, a2, a3, l1, l2, a5⟩ := u
     obtain ⟨b1, b2, b3, m1, m2, b5⟩ := u'
     obtain ⟨s1, s2, s3, simP, sima⟩ := sim
     dsimp only at s1 s2 s3 simP sima
     subst s1 s2 s3
     obtain ⟨_, rfl, _, rfl, _, rfl, _, rfl, _, rfl, dx5⟩ := dx
     obtain ⟨A5, k5, _, rfl, _⟩ := id dx5.inRow1
     obtain ⟨_, rfl, _, rfl, _, rfl, _, rfl, _, rfl, dy5⟩ := dy
     obtain ⟨B5, j5, _, rfl, _⟩ := id dy5.inRow1
     dsimp only at *
     have hact : ∀ z, Below wr.heap.size wr z → Calls Tryz.prog 81 #[.slice A5 a5.length k5, .slice B5 b5.length j5, .bool pl] z fun e w' => e = .returned (.bool true) ∧ Below z.heap.size z w' := fun z hb => sRules pl a5 b5 z N M _ _ sima (dx5.below hb) (dy5.below hb)
     generalize a5.length = q1 at *
     generalize b5.length = q2 at *
     clear dx5 dy5 sima
     have lk : (m : Int) < (n : Int) := by omega
     have lk0 : (0 : Int) ≤ (m : Int) := by omega
     have hkn : ((m : Int)).toNat = m := by omega
     have hSP := Hh simP
     have c0x := hE0.cell 0 0 rfl rfl
     have c0y := hE0.cell 1 0 rfl rfl
     have hi0 := (hE0.get 0 rfl).inside
     have hi1 := (hE0.get 1 rfl).inside
     clear simP
     go_wp2_with fail
     refine wp_region_noPanic (wp_region_held_drew (S := fun y => Below wr.heap.size wr y) (by kernel_rfl) (Env.start wr).drew.below fun hS => ?_)
     refine Yp (i := 0) (v := .pointer (some ⟨g0, 0, none⟩)) rfl rfl (by kernel_rfl) (by kernel_rfl) (by kernel_rfl) (fun _ _ _ h => h) (.inl ⟨Xm rfl, fun y hy => by kernel_rfl⟩) hS ?_
     simp only [List.set_cons_zero, List.set_cons_succ]
     refine Yp (i := 1) (v := .slice (some ⟨g, 0, none⟩) n c) rfl rfl (by kernel_rfl) (by kernel_rfl) (by kernel_rfl) (fun _ _ _ h => h) (.inl ⟨Xm rfl, fun y hy => by have c_ := (hy.cell (p := ⟨g0, 0, none⟩) hi0).trans c0x; go_simp⟩) hS ?_
     simp only [List.set_cons_zero, List.set_cons_succ]
     refine Yp (i := 2) (v := .int .i64 (m : Int)) rfl rfl (by kernel_rfl) (by kernel_rfl) (by kernel_rfl) (fun _ _ _ h => h) (Vp rfl rfl rfl) hS ?_
     simp only [List.set_cons_zero, List.set_cons_succ]
     refine Yp (i := 3) (v := .pointer (some ⟨g, m * 6, none⟩)) rfl rfl (by kernel_rfl) (by kernel_rfl) (by kernel_rfl) (fun _ _ _ h => h) (Jb rfl rfl rfl rfl hml und_cas size_ca) hS ?_
     simp only [List.set_cons_zero, List.set_cons_succ]
     refine Yp (i := 4) (v := .agg ([.string a1, .int .i64 a2, .int .i64 a3, .int .i64 l1, .int .i64 l2, .slice A5 q1 k5]).toArray) rfl rfl (by kernel_rfl) (by kernel_rfl) (by kernel_rfl) (fun _ _ _ h => h) (Um rfl rfl rfl (fun y hy => Jd xr hx1 hy) row_ca size_ca) hS ?_
     simp only [List.set_cons_zero, List.set_cons_succ]
     refine Yp (i := 5) (v := .pointer (some ⟨g1, 0, none⟩)) rfl rfl (by kernel_rfl) (by kernel_rfl) (by kernel_rfl) (fun _ _ _ h => h) (.inl ⟨Xm rfl, fun y hy => by kernel_rfl⟩) hS ?_
     simp only [List.set_cons_zero, List.set_cons_succ]
     refine Yp (i := 6) (v := .slice (some ⟨h, 0, none⟩) n d) rfl rfl (by kernel_rfl) (by kernel_rfl) (by kernel_rfl) (fun _ _ _ h => h) (.inl ⟨Xm rfl, fun y hy => by have c_ := (hy.cell (p := ⟨g1, 0, none⟩) hi1).trans c0y; go_simp⟩) hS ?_
     simp only [List.set_cons_zero, List.set_cons_succ]
     refine Yp (i := 7) (v := .int .i64 (m : Int)) rfl rfl (by kernel_rfl) (by kernel_rfl) (by kernel_rfl) (fun _ _ _ h => h) (Vp rfl rfl rfl) hS ?_
     simp only [List.set_cons_zero, List.set_cons_succ]
     refine Yp (i := 8) (v := .pointer (some ⟨h, m * 6, none⟩)) rfl rfl (by kernel_rfl) (by kernel_rfl) (by kernel_rfl) (fun _ _ _ h => h) (Jb rfl rfl rfl rfl hml und_cas size_ca) hS ?_
     simp only [List.set_cons_zero, List.set_cons_succ]
     refine Yp (i := 9) (v := .agg ([.string a1, .int .i64 a2, .int .i64 a3, .int .i64 m1, .int .i64 m2, .slice B5 q2 j5]).toArray) rfl rfl (by kernel_rfl) (by kernel_rfl) (by kernel_rfl) (fun _ _ _ h => h) (Um rfl rfl rfl (fun y hy => Jd yr hy1 hy) row_ca size_ca) hS ?_
     simp only [List.set_cons_zero, List.set_cons_succ]
     refine tail4 (x := wr) (iA := 10) (iB := 11) (iC := 12) (iD := 13) (T := 35) (z := [.string ⟨#[]⟩, .int .i64 0, .int .i64 0, .int .i64 0, .int .i64 0, .slice none 0 0]) (xs := ([.string a1, .int .i64 a2, .int .i64 a3, .int .i64 l1, .int .i64 l2, .slice A5 q1 k5])) (ys := ([.string a1, .int .i64 a2, .int .i64 a3, .int .i64 m1, .int .i64 m2, .slice B5 q2 j5])) (a1 := 8) (a2 := 9) (v1 := 40) (v2 := 45)
       (by kernel_rfl) (by kernel_rfl) (by kernel_rfl) (by kernel_rfl) (by kernel_rfl) (by kernel_rfl) (by kernel_rfl) (by kernel_rfl) (by kernel_rfl)
       rfl rfl rfl rfl rfl rfl rfl rfl rfl rfl rfl rfl rfl rfl rfl rfl (by decide) z_ca size_ca rfl rfl (by simp [Value.oneCell']) (by simp [Value.oneCell']) (fun p q => ⟨rfl, rfl, rfl, rfl⟩) (Env.start wr).drew fun y p q hE => Zbl (put2_lit ?_)
     simp only [List.set_cons_zero, List.set_cons_succ]
     have T5 : Hid (Env wr [(p, 35, [.string a1, .int .i64 a2, .int .i64 a3, .int .i64 l1, .int .i64 l2, .slice A5 q1 k5]), (q, 35, [.string a1, .int .i64 a2, .int .i64 a3, .int .i64 m1, .int .i64 m2, .slice B5 q2 j5])] [] [] y) := Hh hE
     have px0 := T5.out.cell 0 0 rfl rfl
     have px1 := T5.out.cell 0 1 rfl rfl
     have px2 := T5.out.cell 0 2 rfl rfl
     have px3 := T5.out.cell 0 3 rfl rfl
     have px4 := T5.out.cell 0 4 rfl rfl
     have px5 := T5.out.cell 0 5 rfl rfl
     have py0 := T5.out.cell 1 0 rfl rfl
     have py1 := T5.out.cell 1 1 rfl rfl
     have py2 := T5.out.cell 1 2 rfl rfl
     have py3 := T5.out.cell 1 3 rfl rfl
     have py4 := T5.out.cell 1 4 rfl rfl
     have py5 := T5.out.cell 1 5 rfl rfl
     have HE0 := Hh hE0
     clear hE hE0 hS
     have hcmp : (pl = true → l1 = m1 ∧ l2 = m2) := hSP.out
     cases pl
     · clear hcmp
       go_wp2_with (first
 | (go_at_call 81; (with_reducible refine (hact _ T5.out.below).mono ?_); rintro e w6 ⟨rfl, b6⟩
    have T6 : Hid (Env wr [(p, 35, [.string a1, .int .i64 a2, .int .i64 a3, .int .i64 l1, .int .i64 l2, .slice A5 q1 k5]), (q, 35, [.string a1, .int .i64 a2, .int .i64 a3, .int .i64 m1, .int .i64 m2, .slice B5 q2 j5])] [] [] w6) := Hh (T5.out.call b6)
    clear b6))
       go_roundw
       case rel => exact ⟨m + 1, by go_num, by omega, HE0.out.call T6.out.below⟩
       case measure => simp [intOf]; omega
     · obtain ⟨e1, e2⟩ := hcmp rfl
       subst e1 e2
       clear hcmp
       go_wp2_with (first
 | (go_at_call 81; (with_reducible refine (hact _ T5.out.below).mono ?_); rintro e w6 ⟨rfl, b6⟩
    have T6 : Hid (Env wr [(p, 35, [.string a1, .int .i64 a2, .int .i64 a3, .int .i64 l1, .int .i64 l2, .slice A5 q1 k5]), (q, 35, [.string a1, .int .i64 a2, .int .i64 a3, .int .i64 l1, .int .i64 l2, .slice B5 q2 j5])] [] [] w6) := Hh (T5.out.call b6)
    clear b6))
       go_roundw
       case rel => exact ⟨m + 1, by go_num, by omega, HE0.out.call T6.out.below⟩
       case measure => simp [intOf]; omega
   · have c0x := hE0.cell 0 0 rfl rfl
     go_wp2
     go_loopw [10] (fun i wr => ∃ m : Nat, i = .int .i64 m ∧ m ≤ n' ∧ Env w [(g0, 26, [.slice A n c, .slice A' n' c']), (g1, 26, [.slice B n d, .slice B' n' d'])] [] [] wr) (fun i _ => n' - (intOf i).toNat)
     case atStart => exact ⟨0, rfl, by omega, hE0⟩
     case round =>
       clear hE0 hm c0x
       obtain ⟨m, rfl, hm, hE0⟩ := hrel
       by_cases hml : m < n'
       · have hk1 : m < x.places.length := by rw [← HN'.out]; exact hml
         have hk2 : m < y.places.length := by rw [← HM.out.2.2, ← HN'.out]; exact hml
         obtain ⟨g, av, rfl, hx1, xr, dx⟩ := row_at Pl.ds plsDs (fun _ _ => rfl) 4 (by decide) (fun _ => rfl) (HA'.out.1.keeps (Zm.of_below (S := fun _ => False) hE0.below) (fun k _ hn => ⟨id, hn⟩)) (HA'.out.2.below hE0.below) hk1
         obtain ⟨h, bv, rfl, hy1, yr, dy⟩ := row_at Pl.ds plsDs (fun _ _ => rfl) 4 (by decide) (fun _ => rfl) (HB'.out.1.keeps (Zm.of_below (S := fun _ => False) hE0.below) (fun k _ hn => ⟨id, hn⟩)) (HB'.out.2.below hE0.below) hk2
         have sim := PlsSim.at_ HM.out.1.2 m hk1 hk2
         generalize x.places[m] = u at *
         generalize y.places[m] = u' at *
         clear hk1 hk2
         obtain ⟨a1, l1, l2, a5⟩ := u
         obtain ⟨b1, m1, m2, b5⟩ := u'
         obtain ⟨s1, simP, sima⟩ := sim
         dsimp only at s1 simP sima
         subst s1
         obtain ⟨_, rfl, _, rfl, _, rfl, dx5⟩ := dx
         obtain ⟨A5, k5, _, rfl, _⟩ := id dx5.inRow1
         obtain ⟨_, rfl, _, rfl, _, rfl, dy5⟩ := dy
         obtain ⟨B5, j5, _, rfl, _⟩ := id dy5.inRow1
         dsimp only at *
         have hact : ∀ z, Below wr.heap.size wr z → Calls Tryz.prog 81 #[.slice A5 a5.length k5, .slice B5 b5.length j5, .bool pl] z fun e w' => e = .returned (.bool true) ∧ Below z.heap.size z w' := fun z hb => sRules pl a5 b5 z N M _ _ sima (dx5.below hb) (dy5.below hb)
         generalize a5.length = q1 at *
         generalize b5.length = q2 at *
         clear dx5 dy5 sima
         have lk : (m : Int) < (n' : Int) := by omega
         have lk0 : (0 : Int) ≤ (m : Int) := by omega
         have hkn : ((m : Int)).toNat = m := by omega
         have hSP := Hh simP
         have c1x := hE0.cell 0 1 rfl rfl
         have c1y := hE0.cell 1 1 rfl rfl
         have hi0 := (hE0.get 0 rfl).inside
         have hi1 := (hE0.get 1 rfl).inside
         clear simP
         go_wp2_with fail
         refine wp_region_noPanic (wp_region_held_drew (S := fun y => Below wr.heap.size wr y) (by kernel_rfl) (Env.start wr).drew.below fun hS => ?_)
         refine Yp (i := 0) (v := .pointer (some ⟨g0, 1, none⟩)) rfl rfl (by kernel_rfl) (by kernel_rfl) (by kernel_rfl) (fun _ _ _ h => h) (.inl ⟨Xm rfl, fun y hy => by kernel_rfl⟩) hS ?_
         simp only [List.set_cons_zero, List.set_cons_succ]
         refine Yp (i := 1) (v := .slice (some ⟨g, 0, none⟩) n' c') rfl rfl (by kernel_rfl) (by kernel_rfl) (by kernel_rfl) (fun _ _ _ h => h) (.inl ⟨Xm rfl, fun y hy => by have c_ := (hy.cell (p := ⟨g0, 1, none⟩) hi0).trans c1x; go_simp⟩) hS ?_
         simp only [List.set_cons_zero, List.set_cons_succ]
         refine Yp (i := 2) (v := .int .i64 (m : Int)) rfl rfl (by kernel_rfl) (by kernel_rfl) (by kernel_rfl) (fun _ _ _ h => h) (Vp rfl rfl rfl) hS ?_
         simp only [List.set_cons_zero, List.set_cons_succ]
         refine Yp (i := 3) (v := .pointer (some ⟨g, m * 4, none⟩)) rfl rfl (by kernel_rfl) (by kernel_rfl) (by kernel_rfl) (fun _ _ _ h => h) (Jb rfl rfl rfl rfl hml und_pls size_pl) hS ?_
         simp only [List.set_cons_zero, List.set_cons_succ]
         refine Yp (i := 4) (v := .agg ([.string a1, .int .i64 l1, .int .i64 l2, .slice A5 q1 k5]).toArray) rfl rfl (by kernel_rfl) (by kernel_rfl) (by kernel_rfl) (fun _ _ _ h => h) (Um rfl rfl rfl (fun y hy => Jd xr hx1 hy) row_pl size_pl) hS ?_
         simp only [List.set_cons_zero, List.set_cons_succ]
         refine Yp (i := 5) (v := .pointer (some ⟨g1, 1, none⟩)) rfl rfl (by kernel_rfl) (by kernel_rfl) (by kernel_rfl) (fun _ _ _ h => h) (.inl ⟨Xm rfl, fun y hy => by kernel_rfl⟩) hS ?_
         simp only [List.set_cons_zero, List.set_cons_succ]
         refine Yp (i := 6) (v := .slice (some ⟨h, 0, none⟩) n' d') rfl rfl (by kernel_rfl) (by kernel_rfl) (by kernel_rfl) (fun _ _ _ h => h) (.inl ⟨Xm rfl, fun y hy => by have c_ := (hy.cell (p := ⟨g1, 1, none⟩) hi1).trans c1y; go_simp⟩) hS ?_
         simp only [List.set_cons_zero, List.set_cons_succ]
         refine Yp (i := 7) (v := .int .i64 (m : Int)) rfl rfl (by kernel_rfl) (by kernel_rfl) (by kernel_rfl) (fun _ _ _ h => h) (Vp rfl rfl rfl) hS ?_
         simp only [List.set_cons_zero, List.set_cons_succ]
         refine Yp (i := 8) (v := .pointer (some ⟨h, m * 4, none⟩)) rfl rfl (by kernel_rfl) (by kernel_rfl) (by kernel_rfl) (fun _ _ _ h => h) (Jb rfl rfl rfl rfl hml und_pls size_pl) hS ?_
         simp only [List.set_cons_zero, List.set_cons_succ]
         refine Yp (i := 9) (v := .agg ([.string a1, .int .i64 m1, .int .i64 m2, .slice B5 q2 j5]).toArray) rfl rfl (by kernel_rfl) (by kernel_rfl) (by kernel_rfl) (fun _ _ _ h => h) (Um rfl rfl rfl (fun y hy => Jd yr hy1 hy) row_pl size_pl) hS ?_
         simp only [List.set_cons_zero, List.set_cons_succ]
         refine tail4 (x := wr) (iA := 10) (iB := 11) (iC := 12) (iD := 13) (T := 38) (z := [.string ⟨#[]⟩, .int .i64 0, .int .i64 0, .slice none 0 0]) (xs := ([.string a1, .int .i64 l1, .int .i64 l2, .slice A5 q1 k5])) (ys := ([.string a1, .int .i64 m1, .int .i64 m2, .slice B5 q2 j5])) (a1 := 11) (a2 := 12) (v1 := 102) (v2 := 107)
           (by kernel_rfl) (by kernel_rfl) (by kernel_rfl) (by kernel_rfl) (by kernel_rfl) (by kernel_rfl) (by kernel_rfl) (by kernel_rfl) (by kernel_rfl)
           rfl rfl rfl rfl rfl rfl rfl rfl rfl rfl rfl rfl rfl rfl rfl rfl (by decide) z_pl size_pl rfl rfl (by simp [Value.oneCell']) (by simp [Value.oneCell']) (fun p q => ⟨rfl, rfl, rfl, rfl⟩) (Env.start wr).drew fun y p q hE => Zbl (put2_lit ?_)
         simp only [List.set_cons_zero, List.set_cons_succ]
         have T5 : Hid (Env wr [(p, 38, [.string a1, .int .i64 l1, .int .i64 l2, .slice A5 q1 k5]), (q, 38, [.string a1, .int .i64 m1, .int .i64 m2, .slice B5 q2 j5])] [] [] y) := Hh hE
         have px0 := T5.out.cell 0 0 rfl rfl
         have px1 := T5.out.cell 0 1 rfl rfl
         have px2 := T5.out.cell 0 2 rfl rfl
         have px3 := T5.out.cell 0 3 rfl rfl
         have py0 := T5.out.cell 1 0 rfl rfl
         have py1 := T5.out.cell 1 1 rfl rfl
         have py2 := T5.out.cell 1 2 rfl rfl
         have py3 := T5.out.cell 1 3 rfl rfl
         have HE0 := Hh hE0
         clear hE hE0 hS
         have hcmp : (pl = true → l1 = m1 ∧ l2 = m2) := hSP.out
         cases pl
         · clear hcmp
           go_wp2_with (first
 | (go_at_call 81; (with_reducible refine (hact _ T5.out.below).mono ?_); rintro e w6 ⟨rfl, b6⟩
    have T6 : Hid (Env wr [(p, 38, [.string a1, .int .i64 l1, .int .i64 l2, .slice A5 q1 k5]), (q, 38, [.string a1, .int .i64 m1, .int .i64 m2, .slice B5 q2 j5])] [] [] w6) := Hh (T5.out.call b6)
    clear b6))
           go_roundw
           case rel => exact ⟨m + 1, by go_num, by omega, HE0.out.call T6.out.below⟩
           case measure => simp [intOf]; omega
         · obtain ⟨e1, e2⟩ := hcmp rfl
           subst e1 e2
           clear hcmp
           go_wp2_with (first
 | (go_at_call 81; (with_reducible refine (hact _ T5.out.below).mono ?_); rintro e w6 ⟨rfl, b6⟩
    have T6 : Hid (Env wr [(p, 38, [.string a1, .int .i64 l1, .int .i64 l2, .slice A5 q1 k5]), (q, 38, [.string a1, .int .i64 l1, .int .i64 l2, .slice B5 q2 j5])] [] [] w6) := Hh (T5.out.call b6)
    clear b6))
           go_roundw
           case rel => exact ⟨m + 1, by go_num, by omega, HE0.out.call T6.out.below⟩
           case measure => simp [intOf]; omega
       · have c1x := hE0.cell 0 1 rfl rfl
         go_wp2
         go_ret
         exact ⟨rfl, hE0.below⟩
end Go.Proofs.YtljdgdphldckhaaGreat
