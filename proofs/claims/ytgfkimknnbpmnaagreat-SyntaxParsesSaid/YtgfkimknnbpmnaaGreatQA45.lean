/-
  Texts SynS5, SynN8. No conditions but those that each theorem names.
-/
import Derived.Test.YtgfkimknnbpmnaaGreatQA43
import Derived.Test.YtgfkimknnbpmnaaGreatQA44
namespace Go.Proofs.YtgfkimknnbpmnaaGreat
open Go.ChangeShapes Go.WideShapes Go.ChangeAt Go.RowKit
set_option linter.unusedVariables false
set_option linter.unusedSimpArgs false
theorem z_pl : (Tryz.prog.info? 80).map (fun i => i.zero.map Value.cells) = some (some ([.string ⟨#[]⟩, .int .i64 0, .int .i64 0, .slice none 0 0] : List Value).toArray) := by kernel_rfl
theorem rows_at {α : Type} (f : α → Ds) (dsL : List α → Ds) (h1 : ∀ x l, dsL (x :: l) = (f x).app (dsL l)) (sz : Nat) (hsz : ∀ x, (f x).len = sz) {N : Nat → Prop} {w : World} : ∀ {l : List α} {xs : List Value}, Zo N w (dsL l) xs → ∀ (k : Nat) (hk : k < l.length), ∃ pre ys post, xs = pre ++ ys ++ post ∧ pre.length = k * sz ∧ Zo N w (f (l[k]'hk)) ys := by
 intro l
 induction l with
 | nil => intro xs _ k hk; cases hk
 | cons x l ih =>
   intro xs h k hk
   rw [h1] at h
   obtain ⟨a, b, rfl, ha, hb⟩ := Zo.split (x := f x) h
   cases k with
   | zero => exact ⟨[], a, b, rfl, by simp, ha⟩
   | succ k =>
     obtain ⟨pre, ys, post, rfl, hp, hy⟩ := ih hb k (by simpa using hk)
     refine ⟨a ++ pre, ys, post, by simp, ?_, hy⟩
     rw [List.length_append, ha.len, hsz, hp, Nat.succ_mul]; omega
theorem row_at {α : Type} (f : α → Ds) (dsL : List α → Ds) (h1 : ∀ x l, dsL (x :: l) = (f x).app (dsL l)) (sz : Nat) (hp : 0 < sz) (hsz : ∀ x, (f x).len = sz) {N : Nat → Prop} {w : World} {A : Option Addr} {l : List α} {xs : List Value} (hw : Within N w A xs) (hd : Zo N w (dsL l) xs) {k : Nat} (hk : k < l.length) :
   ∃ g ys, A = some ⟨g, 0, none⟩ ∧ g < w.heap.size ∧ w.rangeAt g (k * sz) ys ∧ Zo N w (f (l[k]'hk)) ys := by
 obtain ⟨pre, ys, post, rfl, hp, hy⟩ := rows_at f dsL h1 sz hsz hd k hk
 have hl : ys.length = sz := by rw [hy.len, hsz]
 obtain ⟨g, hA, hg, hc⟩ := hw.reads (by simp; omega)
 exact ⟨g, ys, hA, hg, range_of hc hp, hy⟩
theorem Uh.len {pl : Bool} : ∀ {x y : List Ru}, Uh pl x y → x.length = y.length
 | [], [], _ => rfl
 | x :: l, y :: m, h => by rw [List.length_cons, List.length_cons, Uh.len h.2]
theorem Uh.at_ {pl : Bool} : ∀ {x y : List Ru}, Uh pl x y → ∀ (k : Nat) (hk : k < x.length) (hk' : k < y.length), RuSim pl (x[k]'hk) (y[k]'hk')
 | x :: l, y :: m, h, 0, _, _ => h.1
 | x :: l, y :: m, h, k + 1, hk, hk' => Uh.at_ h.2 k (by simpa using hk) (by simpa using hk')
theorem Zaw.len {pl : Bool} : ∀ {x y : List Ca}, Zaw pl x y → x.length = y.length
 | [], [], _ => rfl
 | x :: l, y :: m, h => by rw [List.length_cons, List.length_cons, Zaw.len h.2]
theorem Zaw.at_ {pl : Bool} : ∀ {x y : List Ca}, Zaw pl x y → ∀ (k : Nat) (hk : k < x.length) (hk' : k < y.length), CaSim pl (x[k]'hk) (y[k]'hk')
 | x :: l, y :: m, h, 0, _, _ => h.1
 | x :: l, y :: m, h, k + 1, hk, hk' => Zaw.at_ h.2 k (by simpa using hk) (by simpa using hk')
theorem Zav.len {pl : Bool} : ∀ {x y : List Pl}, Zav pl x y → x.length = y.length
 | [], [], _ => rfl
 | x :: l, y :: m, h => by rw [List.length_cons, List.length_cons, Zav.len h.2]
theorem Zav.at_ {pl : Bool} : ∀ {x y : List Pl}, Zav pl x y → ∀ (k : Nat) (hk : k < x.length) (hk' : k < y.length), PlSim pl (x[k]'hk) (y[k]'hk')
 | x :: l, y :: m, h, 0, _, _ => h.1
 | x :: l, y :: m, h, k + 1, hk, hk' => Zav.at_ h.2 k (by simpa using hk) (by simpa using hk')
set_option maxRecDepth 20000 in
set_option maxHeartbeats 6400000 in
theorem sRules (pl : Bool) (x y : List Ru) (w : World) (N M : Nat → Prop) (v u : Value) (hs : Uh pl x y) (h1 : Zo N w (.row x.length (Je x) .nil) [v]) (h2 : Zo M w (.row y.length (Je y) .nil) [u]) :
   Calls Tryz.prog 27 #[v, u, .bool pl] w fun e w' => e = .returned (.bool true) ∧ Below w.heap.size w w' := by
 obtain ⟨A, c, xs, rfl, hn, hA, hx⟩ := h1.inRow
 obtain ⟨B, d, ys, rfl, _, hB, hy⟩ := h2.inRow
 have hlen := hs.len
 rw [← hlen]
 have HA := Hh (And.intro hA hx)
 have HB := Hh (And.intro hB hy)
 have HM := Hh (And.intro hs hlen)
 clear hA hx hB hy hs hlen h1 h2
 obtain ⟨n, hn0⟩ : ∃ n, n = x.length := ⟨_, rfl⟩
 rw [← hn0] at hn ⊢
 have HN := Hh hn0
 clear hn0
 go_enter Tryz.func27, Tryz.ntmps27
 go_wp2
 go_loopw [7] (fun i wr => ∃ m : Nat, i = .int .i64 m ∧ m ≤ n ∧ Env w [] [] [] wr) (fun i _ => n - (intOf i).toNat)
 case atStart => exact ⟨0, rfl, by omega, Env.start w⟩
 case round =>
   obtain ⟨m, rfl, hm, hE0⟩ := hrel
   by_cases hml : m < n
   · have hk1 : m < x.length := by rw [← HN.out]; exact hml
     have hk2 : m < y.length := by rw [← HM.out.2, ← HN.out]; exact hml
     obtain ⟨g, av, rfl, hx1, xr, dx⟩ := row_at Ru.ds Je (fun _ _ => rfl) 5 (by decide) (fun _ => rfl) (HA.out.1.keeps (Zz.of_below (S := fun _ => False) hE0.below) (fun k _ hn => ⟨id, hn⟩)) (HA.out.2.below hE0.below) hk1
     obtain ⟨g2, bv, rfl, hy1, yr, dy⟩ := row_at Ru.ds Je (fun _ _ => rfl) 5 (by decide) (fun _ => rfl) (HB.out.1.keeps (Zz.of_below (S := fun _ => False) hE0.below) (fun k _ hn => ⟨id, hn⟩)) (HB.out.2.below hE0.below) hk2
     have sim := Uh.at_ HM.out.1 m hk1 hk2
     generalize x[m] = u at *
     generalize y[m] = u' at *
     clear hk1 hk2
     obtain ⟨a1, a2, a3, a4, a5⟩ := u
     obtain ⟨b1, b2, b3, b4, b5⟩ := u'
     obtain ⟨s1, s2, simP, sima⟩ := sim
     dsimp only at s1 s2 simP sima
     subst s1 s2
     obtain ⟨_, rfl, _, rfl, _, rfl, _, rfl, dx5⟩ := dx
     obtain ⟨A5, k5, _, rfl, _⟩ := id dx5.inRow1
     obtain ⟨_, rfl, _, rfl, _, rfl, _, rfl, dy5⟩ := dy
     obtain ⟨B5, j5, _, rfl, _⟩ := id dy5.inRow1
     dsimp only at *
     have hact : ∀ z, Below wr.heap.size wr z → Calls Tryz.prog 13 #[.slice A5 a5.len k5, .slice B5 b5.len j5, .bool pl] z fun e w' => e = .returned (.bool true) ∧ Below z.heap.size z w' := fun z hb => sActs pl _ a5 (Nat.le_refl _) b5 z N M _ _ sima (dx5.below hb) (dy5.below hb)
     have hq1 : a5.len ≤ 9223372036854775807 := by obtain ⟨_, _, _, _, h, _⟩ := dx5.inRow1; exact h
     generalize a5.len = q1 at *
     generalize b5.len = q2 at *
     clear dx5 dy5 sima
     have lk : (m : Int) < (n : Int) := by omega
     have lk0 : (0 : Int) ≤ (m : Int) := by omega
     have hkn : ((m : Int)).toNat = m := by omega
     have hSP := Hh simP
     clear simP
     go_wp2_with fail
     refine wp_region_noPanic (wp_region_held_drew (S := fun y => Below wr.heap.size wr y) (by kernel_rfl) (Env.start wr).drew.below fun hS => ?_)
     refine Xm (i := 0) (v := .slice (some ⟨g, 0, none⟩) n c) rfl rfl (by kernel_rfl) (by kernel_rfl) (by kernel_rfl) (fun _ _ _ h => h) (Vs rfl rfl rfl) hS ?_
     simp only [List.set_cons_zero, List.set_cons_succ]
     refine Xm (i := 1) (v := .int .i64 (m : Int)) rfl rfl (by kernel_rfl) (by kernel_rfl) (by kernel_rfl) (fun _ _ _ h => h) (Vs rfl rfl rfl) hS ?_
     simp only [List.set_cons_zero, List.set_cons_succ]
     refine Xm (i := 2) (v := .pointer (some ⟨g, m * 5, none⟩)) rfl rfl (by kernel_rfl) (by kernel_rfl) (by kernel_rfl) (fun _ _ _ h => h) (Jm rfl rfl rfl rfl hml und_rus size_ru) hS ?_
     simp only [List.set_cons_zero, List.set_cons_succ]
     refine Xm (i := 3) (v := .agg ([.int .i64 a1, .int .i64 a2, .int .i64 a3, .int .i64 a4, .slice A5 q1 k5]).toArray) rfl rfl (by kernel_rfl) (by kernel_rfl) (by kernel_rfl) (fun _ _ _ h => h) (Uw rfl rfl rfl (fun y hy => Jp xr hx1 hy) row_ru size_ru) hS ?_
     simp only [List.set_cons_zero, List.set_cons_succ]
     refine Xm (i := 4) (v := .slice (some ⟨g2, 0, none⟩) n d) rfl rfl (by kernel_rfl) (by kernel_rfl) (by kernel_rfl) (fun _ _ _ h => h) (Vs rfl rfl rfl) hS ?_
     simp only [List.set_cons_zero, List.set_cons_succ]
     refine Xm (i := 5) (v := .int .i64 (m : Int)) rfl rfl (by kernel_rfl) (by kernel_rfl) (by kernel_rfl) (fun _ _ _ h => h) (Vs rfl rfl rfl) hS ?_
     simp only [List.set_cons_zero, List.set_cons_succ]
     refine Xm (i := 6) (v := .pointer (some ⟨g2, m * 5, none⟩)) rfl rfl (by kernel_rfl) (by kernel_rfl) (by kernel_rfl) (fun _ _ _ h => h) (Jm rfl rfl rfl rfl hml und_rus size_ru) hS ?_
     simp only [List.set_cons_zero, List.set_cons_succ]
     refine Xm (i := 7) (v := .agg ([.int .i64 a1, .int .i64 a2, .int .i64 b3, .int .i64 b4, .slice B5 q2 j5]).toArray) rfl rfl (by kernel_rfl) (by kernel_rfl) (by kernel_rfl) (fun _ _ _ h => h) (Uw rfl rfl rfl (fun y hy => Jp yr hy1 hy) row_ru size_ru) hS ?_
     simp only [List.set_cons_zero, List.set_cons_succ]
     refine tail4 (x := wr) (iA := 8) (iB := 9) (iC := 10) (iD := 11) (T := 111) (z := [.int .i64 0, .int .i64 0, .int .i64 0, .int .i64 0, .slice none 0 0]) (xs := ([.int .i64 a1, .int .i64 a2, .int .i64 a3, .int .i64 a4, .slice A5 q1 k5])) (ys := ([.int .i64 a1, .int .i64 a2, .int .i64 b3, .int .i64 b4, .slice B5 q2 j5])) (a1 := 8) (a2 := 9) (v1 := 24) (v2 := 28)
       (by kernel_rfl) (by kernel_rfl) (by kernel_rfl) (by kernel_rfl) (by kernel_rfl) (by kernel_rfl) (by kernel_rfl) (by kernel_rfl) (by kernel_rfl)
       rfl rfl rfl rfl rfl rfl rfl rfl rfl rfl rfl rfl rfl rfl rfl rfl (by decide) z_ru size_ru rfl rfl (by simp [Value.oneCell']) (by simp [Value.oneCell']) (fun p q => ⟨rfl, rfl, rfl, rfl⟩) (Env.start wr).drew fun y p q hE => noPanic_normal (put2_lit ?_)
     simp only [List.set_cons_zero, List.set_cons_succ]
     have T5 : Hid (Env wr [(p, 111, [.int .i64 a1, .int .i64 a2, .int .i64 a3, .int .i64 a4, .slice A5 q1 k5]), (q, 111, [.int .i64 a1, .int .i64 a2, .int .i64 b3, .int .i64 b4, .slice B5 q2 j5])] [] [] y) := Hh hE
     have px0 := T5.out.cell 0 0 rfl rfl
     have px1 := T5.out.cell 0 1 rfl rfl
     have px2 := T5.out.cell 0 2 rfl rfl
     have px3 := T5.out.cell 0 3 rfl rfl
     have px4 := T5.out.cell 0 4 rfl rfl
     have py0 := T5.out.cell 1 0 rfl rfl
     have py1 := T5.out.cell 1 1 rfl rfl
     have py2 := T5.out.cell 1 2 rfl rfl
     have py3 := T5.out.cell 1 3 rfl rfl
     have py4 := T5.out.cell 1 4 rfl rfl
     have HE0 := Hh hE0
     clear hE hE0 hS
     have hcmp : (pl = true → a3 = b3 ∧ a4 = b4) := hSP.out
     cases pl
     · clear hcmp
       go_wp2_with (first
 | (go_at_call 13; (with_reducible refine (hact _ T5.out.below).mono ?_); rintro e w6 ⟨rfl, b6⟩
    have T6 : Hid (Env wr [(p, 111, [.int .i64 a1, .int .i64 a2, .int .i64 a3, .int .i64 a4, .slice A5 q1 k5]), (q, 111, [.int .i64 a1, .int .i64 a2, .int .i64 b3, .int .i64 b4, .slice B5 q2 j5])] [] [] w6) := Hh (T5.out.call b6)
    clear b6))
       go_roundw
       case rel => exact ⟨m + 1, by go_num, by omega, HE0.out.call T6.out.below⟩
       case measure => simp [intOf]; omega
     · obtain ⟨e1, e2⟩ := hcmp rfl
       subst e1 e2
       clear hcmp
       go_wp2_with (first
 | (go_at_call 13; (with_reducible refine (hact _ T5.out.below).mono ?_); rintro e w6 ⟨rfl, b6⟩
    have T6 : Hid (Env wr [(p, 111, [.int .i64 a1, .int .i64 a2, .int .i64 a3, .int .i64 a4, .slice A5 q1 k5]), (q, 111, [.int .i64 a1, .int .i64 a2, .int .i64 a3, .int .i64 a4, .slice B5 q2 j5])] [] [] w6) := Hh (T5.out.call b6)
    clear b6))
       go_roundw
       case rel => exact ⟨m + 1, by go_num, by omega, HE0.out.call T6.out.below⟩
       case measure => simp [intOf]; omega
   · go_wp2
     go_ret
     exact ⟨rfl, hE0.below⟩
end Go.Proofs.YtgfkimknnbpmnaaGreat
namespace Go.Proofs.YtgfkimknnbpmnaaGreat
open Go
set_option linter.unusedSimpArgs false
set_option linter.unusedVariables false
theorem Uh.eq : ∀ (x y : List Ru), Uh true x y → x = y := by
 intro x
 induction x with
 | nil => intro y h; cases y with
   | nil => rfl
   | cons => exact h.elim
 | cons u l ih => intro y h; cases y with
   | nil => exact h.elim
   | cons v m =>
     obtain ⟨⟨h1, h2, h3, h4⟩, h5⟩ := h
     obtain ⟨p1, p2⟩ := h3 rfl
     have h6 := Ud.eq _ _ h4
     rw [ih _ h5]
     cases u; cases v
     cases h1; cases h2; cases p1; cases p2; cases h6
     rfl
theorem Zaw.eq : ∀ (x y : List Ca), Zaw true x y → x = y := by
 intro x
 induction x with
 | nil => intro y h; cases y with
   | nil => rfl
   | cons => exact h.elim
 | cons u l ih => intro y h; cases y with
   | nil => exact h.elim
   | cons v m =>
     obtain ⟨⟨h1, h2, h2', h3, h4⟩, h5⟩ := h
     obtain ⟨p1, p2⟩ := h3 rfl
     have h6 := Uh.eq _ _ h4
     rw [ih _ h5]
     cases u; cases v
     cases h1; cases h2; cases h2'; cases p1; cases p2; cases h6
     rfl
theorem Zav.eq : ∀ (x y : List Pl), Zav true x y → x = y := by
 intro x
 induction x with
 | nil => intro y h; cases y with
   | nil => rfl
   | cons => exact h.elim
 | cons u l ih => intro y h; cases y with
   | nil => exact h.elim
   | cons v m =>
     obtain ⟨⟨h1, h3, h4⟩, h5⟩ := h
     obtain ⟨p1, p2⟩ := h3 rfl
     have h6 := Uh.eq _ _ h4
     rw [ih _ h5]
     cases u; cases v
     cases h1; cases p1; cases p2; cases h6
     rfl
theorem FiSim.eq {x y : Fi} (h : FiSim true x y) : x = y := by
 have h1 := Zaw.eq _ _ h.1
 have h2 := Zav.eq _ _ h.2
 cases x; cases y
 cases h1; cases h2
 rfl
theorem RowSim.refl (pl : Bool) (L : List TokV) : RowSim pl L L := ⟨rfl, fun a => ⟨rfl, rfl, rfl, fun _ => ⟨rfl, rfl⟩⟩⟩
theorem Xi.refl (pl : Bool) : ∀ s : St, Xi pl s s
 | .ok a d => ⟨rfl, rfl⟩
 | .bad F => ⟨rfl, fun _ => rfl⟩
theorem Xi.flt : ∀ {s t : St}, Xi true s t → Yy s = Yy t
 | .ok _ _, .ok _ _, _ => rfl
 | .bad F, .bad G, h => h.2 rfl
theorem good_over {L : List TokV} : ∀ {s : St}, (Xh L s).good = true → s.good = true
 | .ok a d, _ => rfl
 | .bad F, h => h
theorem parse_nk (s : ByteArray) : parseF 5 s = parseF 3 s := by
 have h := file_sim (RowSim.refl true (Wg s)) 5 3 (textN s) (Xi.refl true (Jb s))
 have ho := overS_sim (RowSim.refl true (Wg s)) h.1
 unfold parseF fileO
 rw [← ho.good, ho.flt]
 split
 · rename_i hg
   rw [(h.2 (good_over hg)).eq]
 · rfl
end Go.Proofs.YtgfkimknnbpmnaaGreat
