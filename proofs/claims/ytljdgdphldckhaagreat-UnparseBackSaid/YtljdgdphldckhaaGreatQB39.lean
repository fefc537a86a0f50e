/-
  Texts SynB3, SynB5, SynB6, SynS0, SynS1, SynS2, SynS3. No conditions but those that each theorem names.
-/
import Derived.RegionTactic
import Derived.Deep.QuietTactic
import Derived.BigQuiet
import Derived.IntWalk
import Derived.StillTailTactics
import Derived.Test.YtljdgdphldckhaaGreatQB21
import Derived.Test.YtljdgdphldckhaaGreatQB38
namespace Go.Proofs.YtljdgdphldckhaaGreat
open Go.ChangeShapes Go.WideShapes Go.ChangeAt Go.RowKit
set_option linter.unusedVariables false
set_option linter.unusedSimpArgs false
structure FileW (w : World) (q c r K : Nat) (L : List TokV) (s : St) (cs : List Ca) (ps : List Pl) (xc xp : List Value) (vc vp : Value) (wr : World) : Prop where
 mv : Yi w wr q c r K L s
 res : Za wr w.heap.size 26 [.slice none 0 0, .slice none 0 0].toArray
 var : Za wr (w.heap.size + 1) 26 [vc, vp].toArray
 rc : wr.ownsRow (w.heap.size + 2) 35 6 vc cs.length xc
 rp : wr.ownsRow (w.heap.size + 2) 38 4 vp ps.length xp
 dc : Zg (fun k => w.heap.size + 2 ≤ k ∧ vc.ownBlock ≠ some k ∧ vp.ownBlock ≠ some k) wr (casDs cs) xc
 dp : Zg (fun k => w.heap.size + 2 ≤ k ∧ vc.ownBlock ≠ some k ∧ vp.ownBlock ≠ some k) wr (plsDs ps) xp
 ap : Apart vc vp
 qin : q < w.heap.size
 cin : c < w.heap.size
 rin : r < w.heap.size
theorem FileW.round {w x y : World} {q c r K : Nat} {L : List TokV} {s s' : St} {cs : List Ca} {ps : List Pl} {xc xp : List Value} {vc vp : Value} (h : FileW w q c r K L s cs ps xc xp vc vp x) (f : Vu q c x y) (m : Yi w y q c r K L s') : FileW w q c r K L s' cs ps xc xp vc vp y := by
 have hq := h.qin
 have hc := h.cin
 have i1 := h.res.inside
 have i2 := h.var.inside
 exact ⟨m, f.whole h.res (by omega), f.whole h.var (by omega), f.owns h.rc (fun k hk c => by have := h.rc.lt k hk; omega), f.owns h.rp (fun k hk c => by have := h.rp.lt k hk; omega),
   h.dc.keeps f (fun k hk hn => ⟨by omega, hn⟩), h.dp.keeps f (fun k hk hn => ⟨by omega, hn⟩), h.ap, hq, hc, h.rin⟩
theorem FileW.pushC {w x y z : World} {q c r K : Nat} {L : List TokV} {s : St} {cs : List Ca} {ps : List Pl} {xc xp ys : List Value} {vc vp v' : Value} (h : FileW w q c r K L s cs ps xc xp vc vp x) (ca : Ca)
   (ho : y.ownsRow (w.heap.size + 2) 35 6 v' (cs.length + 1) (xc ++ ys)) (hg : x.grownBy y vc.ownBlock) (hat : v'.ownBlock = vc.ownBlock ∨ v'.ownBlock = some x.heap.size)
   (d : Zg (fun k => w.heap.size + 2 ≤ k ∧ vc.ownBlock ≠ some k ∧ vp.ownBlock ≠ some k) x ca.ds ys) (p : Put y z (w.heap.size + 1) 26 [v', vp]) : FileW w q c r K L s (cs ++ [ca]) ps (xc ++ ys) xp v' vp z := by
 have hq := h.qin
 have hc := h.cin
 have hr := h.rin
 have i1 := h.res.inside
 have i2 := h.var.inside
 have hb : ∀ k, vc.ownBlock = some k → w.heap.size + 2 ≤ k := fun k hk => (h.rc.lt k hk).1
 have hk : Zm (fun k => vc.ownBlock = some k ∨ k = w.heap.size + 1) x z := (Zm.grown (Zm.refl _ _) hg fun k hk => .inl hk).trans (p.keeps.mono fun k hk => .inr hk)
 have hs : ∀ k, k < x.heap.size → (w.heap.size + 2 ≤ k ∧ vc.ownBlock ≠ some k ∧ vp.ownBlock ≠ some k) → ¬ (vc.ownBlock = some k ∨ k = w.heap.size + 1) ∧ (w.heap.size + 2 ≤ k ∧ v'.ownBlock ≠ some k ∧ vp.ownBlock ≠ some k) := fun k hk hn => by
   refine ⟨fun c => c.elim hn.2.1 fun e => by omega, hn.1, fun c => ?_, hn.2.2⟩
   rcases hat with e1 | e1
   · rw [e1] at c; exact hn.2.1 c
   · rw [e1] at c; injection c with c; omega
 have kq : ∀ j, j < w.heap.size + 2 → ¬ vc.ownBlock = some j := fun j hj e => by have := hb j e; omega
 refine ⟨⟨h.mv.at_.keeps hk (fun e => e.elim (kq _ (by omega)) fun e => by omega) (fun e => e.elim (kq _ (by omega)) fun e => by omega) (fun e => e.elim (kq _ (by omega)) fun e => by omega), ?_⟩, hk.whole h.res (fun e => e.elim (kq _ (by omega)) fun e => by omega), p.whole, ?_, ?_, ?_, h.dp.keeps hk hs, ?_, hq, hc, hr⟩
 · have h1 : Zm (fun k => (k = q ∨ k = c) ∨ (vc.ownBlock = some k ∨ k = w.heap.size + 1)) w x := h.mv.keeps.mono fun k h => .inl h
   have h2 : Zm (fun k => (k = q ∨ k = c) ∨ (vc.ownBlock = some k ∨ k = w.heap.size + 1)) x z := hk.mono fun k h => .inr h
   exact (h1.trans h2).inner fun k hk' h => h.elim id fun e => e.elim (fun e => absurd e (kq k (by omega))) fun e => by omega
 · rw [List.length_append]
   exact p.keeps.owns ho fun k hk c => by have := (ho.lt k hk).1; omega
 · exact hk.owns h.rp fun k hk c => c.elim (fun e => h.ap k e hk) fun e => by have := (h.rp.lt k hk).1; omega
 · rw [casDs_snoc]
   exact Zg.app (d.keeps hk hs) (h.dc.keeps hk hs)
 · intro k hk2
   rcases hat with e1 | e1
   · rw [e1] at hk2; exact h.ap k hk2
   · rw [e1] at hk2; injection hk2 with e2; intro c; have := (h.rp.lt k c).2; omega
theorem FileW.pushP {w x y z : World} {q c r K : Nat} {L : List TokV} {s : St} {cs : List Ca} {ps : List Pl} {xc xp ys : List Value} {vc vp v' : Value} (h : FileW w q c r K L s cs ps xc xp vc vp x) (pl : Pl)
   (ho : y.ownsRow (w.heap.size + 2) 38 4 v' (ps.length + 1) (xp ++ ys)) (hg : x.grownBy y vp.ownBlock) (hat : v'.ownBlock = vp.ownBlock ∨ v'.ownBlock = some x.heap.size)
   (d : Zg (fun k => w.heap.size + 2 ≤ k ∧ vc.ownBlock ≠ some k ∧ vp.ownBlock ≠ some k) x pl.ds ys) (p : Put y z (w.heap.size + 1) 26 [vc, v']) : FileW w q c r K L s cs (ps ++ [pl]) xc (xp ++ ys) vc v' z := by
 have hq := h.qin
 have hc := h.cin
 have hr := h.rin
 have i1 := h.res.inside
 have i2 := h.var.inside
 have hb : ∀ k, vp.ownBlock = some k → w.heap.size + 2 ≤ k := fun k hk => (h.rp.lt k hk).1
 have hk : Zm (fun k => vp.ownBlock = some k ∨ k = w.heap.size + 1) x z := (Zm.grown (Zm.refl _ _) hg fun k hk => .inl hk).trans (p.keeps.mono fun k hk => .inr hk)
 have hs : ∀ k, k < x.heap.size → (w.heap.size + 2 ≤ k ∧ vc.ownBlock ≠ some k ∧ vp.ownBlock ≠ some k) → ¬ (vp.ownBlock = some k ∨ k = w.heap.size + 1) ∧ (w.heap.size + 2 ≤ k ∧ vc.ownBlock ≠ some k ∧ v'.ownBlock ≠ some k) := fun k hk hn => by
   refine ⟨fun c => c.elim hn.2.2 fun e => by omega, hn.1, hn.2.1, fun c => ?_⟩
   rcases hat with e1 | e1
   · rw [e1] at c; exact hn.2.2 c
   · rw [e1] at c; injection c with c; omega
 have kq : ∀ j, j < w.heap.size + 2 → ¬ vp.ownBlock = some j := fun j hj e => by have := hb j e; omega
 refine ⟨⟨h.mv.at_.keeps hk (fun e => e.elim (kq _ (by omega)) fun e => by omega) (fun e => e.elim (kq _ (by omega)) fun e => by omega) (fun e => e.elim (kq _ (by omega)) fun e => by omega), ?_⟩, hk.whole h.res (fun e => e.elim (kq _ (by omega)) fun e => by omega), p.whole, ?_, ?_, h.dc.keeps hk hs, ?_, ?_, hq, hc, hr⟩
 · have h1 : Zm (fun k => (k = q ∨ k = c) ∨ (vp.ownBlock = some k ∨ k = w.heap.size + 1)) w x := h.mv.keeps.mono fun k h => .inl h
   have h2 : Zm (fun k => (k = q ∨ k = c) ∨ (vp.ownBlock = some k ∨ k = w.heap.size + 1)) x z := hk.mono fun k h => .inr h
   exact (h1.trans h2).inner fun k hk' h => h.elim id fun e => e.elim (fun e => absurd e (kq k (by omega))) fun e => by omega
 · exact hk.owns h.rc fun k hk c => c.elim (fun e => h.ap k hk e) fun e => by have := (h.rc.lt k hk).1; omega
 · rw [List.length_append]
   exact p.keeps.owns ho fun k hk c => by have := (ho.lt k hk).1; omega
 · rw [plsDs_snoc]
   exact Zg.app (d.keeps hk hs) (h.dp.keeps hk hs)
 · intro k hk2 c
   rcases hat with e1 | e1
   · rw [e1] at c; exact h.ap k hk2 c
   · rw [e1] at c; injection c with e2; have := (h.rc.lt k hk2).2; omega
theorem file_stop (nk : Int) (L : List TokV) (m : Nat) (st : St) (h : Zd L Ys st = 0) : Wm nk L (m + 1) st = (⟨[], []⟩, st) := by rw [Wm, if_pos h]
theorem file_card (nk : Int) (L : List TokV) (m : Nat) (st : St) (h : Zd L Ys st = 1) : Wm nk L (m + 1) st =
     (⟨(Ub nk L m (st.tok L).line (st.tok L).col (Zt L Ys st)).1 :: (Wm nk L m (Ub nk L m (st.tok L).line (st.tok L).col (Zt L Ys st)).2).1.cards,
         (Wm nk L m (Ub nk L m (st.tok L).line (st.tok L).col (Zt L Ys st)).2).1.places⟩,
       (Wm nk L m (Ub nk L m (st.tok L).line (st.tok L).col (Zt L Ys st)).2).2) := by rw [Wm, if_neg (by omega), if_pos h]
theorem file_place (nk : Int) (L : List TokV) (m : Nat) (st : St) (h : Zd L Ys st = 2) : Wm nk L (m + 1) st =
     (⟨(Wm nk L m (Wz nk L m (st.tok L).line (st.tok L).col (Zt L Ys st)).2).1.cards,
         (Wz nk L m (st.tok L).line (st.tok L).col (Zt L Ys st)).1 :: (Wm nk L m (Wz nk L m (st.tok L).line (st.tok L).col (Zt L Ys st)).2).1.places⟩,
       (Wm nk L m (Wz nk L m (st.tok L).line (st.tok L).col (Zt L Ys st)).2).2) := by rw [Wm, if_neg (by omega), if_neg (by omega)]
set_option maxRecDepth 20000 in
set_option maxHeartbeats 6400000 in
theorem xfile (n : Nat) (w : World) (q c r K : Nat) (L : List TokV) (st : St) (h : PAt w q c r K L st) (hn : 8 * Zs L st + 10 ≤ n) (hLn : Zs L st ≤ 68719476736) :
   Calls Tryz.prog 85 #[.pointer (some ⟨q, 0, none⟩)] w (Yh w q c r K L (Wm 5 L n st).2 (Wm 5 L n st).1.ds) := by
 have qin := h.whole.inside
 have cin := h.cin
 have rin := h.rin
 have nb := Zb w (.cells #[.slice none 0 0, .slice none 0 0] 26)
 have nb2 := Zb (w.alloc (.cells #[.slice none 0 0, .slice none 0 0] 26)) (.cells #[.slice none 0 0, .slice none 0 0] 26)
 have H0 := Hh (show FileW w q c r K L st [] [] [] [] (.slice none 0 0) (.slice none 0 0) ((w.alloc (.cells #[.slice none 0 0, .slice none 0 0] 26)).alloc (.cells #[.slice none 0 0, .slice none 0 0] 26)) from
   ⟨((Yi.start h).next nb).next nb2, (Za.made w 26 #[.slice none 0 0, .slice none 0 0]).alloc (.cells #[.slice none 0 0, .slice none 0 0] 26), by have e := Za.made (w.alloc (.cells #[.slice none 0 0, .slice none 0 0] 26)) 26 #[.slice none 0 0, .slice none 0 0]; rw [World.size_alloc] at e; exact e,
     World.ownsRow_nil _ _ _ _, World.ownsRow_nil _ _ _ _, rfl, rfl, Apart.nil _, qin, cin, rin⟩)
 have HN := Hh (And.intro hn hLn)
 clear hn h hLn nb nb2
 go_enter Tryz.func85, Tryz.ntmps85
 go_wp2
 go_loopw [4] (fun v4 wr => ∃ (m : Nat) (cs : List Ca) (ps : List Pl) (xc xp : List Value) (vc vp : Value) (s : St), FileW w q c r K L s cs ps xc xp vc vp wr ∧ 8 * Zs L s + 10 ≤ m ∧ m ≤ n ∧ cs.length + ps.length + Zs L s ≤ Zs L st ∧
   Wm 5 L n st = (⟨cs ++ (Wm 5 L m s).1.cards, ps ++ (Wm 5 L m s).1.places⟩, (Wm 5 L m s).2)) (fun _ wr => remW q c wr)
 case atStart => exact ⟨n, [], [], [], [], _, _, st, H0.out, HN.out.1, Nat.le_refl _, by simp, by simp⟩
 case round =>
   obtain ⟨m, cs, ps, xc, xp, vc, vp, s, hR, hm, hmn, hacc, heq⟩ := hrel
   obtain ⟨m, rfl⟩ : ∃ m', m = m' + 1 := ⟨m - 1, by omega⟩
   have hcell := hR.mv.at_.cell
   have hrem := hR.mv.at_.rem
   have hpk := xPeek wr q c r K L s hR.mv.at_
   have hz0 : w.heap.size + 2 ≤ wr.heap.size := by have := hR.var.inside; omega
   obtain ⟨fi0, fi1⟩ := find_inv L Ys s
   have hfr := Vn (L := L) (ws := Ys) (st := s)
   have hfn := Zbb L (ws := Ys) (st := s)
   have hle := findN_le L Ys s
   have hsp := file_stop 5 L m s
   have hs1 := file_card 5 L m s
   have hs2 := file_place 5 L m s
   generalize s.tok L = tv at *
   unfold Ue at hpk
   generalize Zd L Ys s = k at *
   generalize Zt L Ys s = s1 at *
   have HR := Hh hR
   have HQ := Hh heq
   have hk3 : k = 0 ∨ k = 1 ∨ k = 2 := by have e : k ≤ 2 := hle; omega
   clear hR heq hle
   rcases hk3 with hk | hk | hk
   · have t1 : ∀ w, PAt w q c r K L s → Calls Tryz.prog 136 #[Wg c s, .string ⟨#[99, 97, 114, 100]⟩] w (Yb w q c r K L s (.bool false)) := fun w h => by have e : isS L ⟨#[99, 97, 114, 100]⟩ s = false := fi0 hk 0 (by decide); have h1 := Vt w q c r K L s ⟨#[99, 97, 114, 100]⟩ h; rw [e, Wd e] at h1; exact h1
     have t2 : ∀ w, PAt w q c r K L s → Calls Tryz.prog 136 #[Wg c s, .string ⟨#[112, 108, 97, 99, 101]⟩] w (Yb w q c r K L s (.bool false)) := fun w h => by have e : isS L ⟨#[112, 108, 97, 99, 101]⟩ s = false := fi0 hk 1 (by decide); have h1 := Vt w q c r K L s ⟨#[112, 108, 97, 99, 101]⟩ h; rw [e, Wd e] at h1; exact h1
     have HS := Hh (hsp hk)
     clear hs1 hs2 hsp hfn hfr hm hmn hacc hrem fi0 fi1 hk
     go_wp2_with (first
 | (go_at_call 133; refine hpk.mono ?_; rintro e w1 ⟨rfl, b1⟩
    have nb := Zb w1 (.cells #[.int .i64 tv.k, .string tv.t, .int .i64 tv.n, .int .i64 (tv.line : Int), .int .i64 (tv.col : Int)] 85)
    have M1 := Hh ((HR.out.mv.next b1).next nb)
    have hcell := M1.out.at_.cell
    have F1 := Hh (((Vu.start q c wr).next b1).next nb)
    have K1 := Hh (Za.made w1 85 #[.int .i64 tv.k, .string tv.t, .int .i64 tv.n, .int .i64 (tv.line : Int), .int .i64 (tv.col : Int)])
    have hz1 : wr.heap.size ≤ w1.heap.size := b1.size
    clear b1 nb)
 | (go_at_call 136; (with_reducible refine (t1 _ ?_).mono ?_); exact M1.out.at_; rintro e w2 ⟨rfl, m2⟩
    have M2 := Hh (M1.out.then m2)
    have hcell := M2.out.at_.cell
    have F2 := Hh (F1.out.move m2)
    have K2 := Hh (m2.keeps.whole K1.out (by omega))
    have hz2 : w1.heap.size + 1 ≤ w2.heap.size := by have := m2.keeps.size; (try simp at this); omega
    clear m2)
 | (go_at_call 136; (with_reducible refine (t2 _ ?_).mono ?_); exact M2.out.at_; rintro e w3 ⟨rfl, m3⟩
    have M3 := Hh (M2.out.then m3)
    have hcell := M3.out.at_.cell
    have F3 := Hh (F2.out.move m3)
    have K3 := Hh (m3.keeps.whole K2.out (by omega))
    have hz3 := Nat.le_trans hz2 m3.keeps.size
    clear m3)
 | ((with_reducible refine Zi 12 ?_); refine Zf 26 _ 26 (w.heap.size + 1) [vc, vp] (HR.out.round F3.out M3.out).var row_fi Zas rfl rfl rfl ?_)
 | ((with_reducible refine Zu 2 12 ?_); refine Ze 26 _ _ 26 w.heap.size [.slice none 0 0, .slice none 0 0] [vc, vp] (HR.out.round F3.out M3.out).res rfl Zas (by obtain ⟨_, _, e1, _⟩ := Uj HR.out.rc; obtain ⟨_, _, e2, _⟩ := Uj HR.out.rp; rw [e1, e2]; simp [Value.oneCell']) rfl rfl rfl rfl rfl ?_
    intro w4 p4
    have R4 := Hh p4.whole
    have R3 := Hh (HR.out.round F3.out M3.out)
    have P4 := Hh p4; clear p4))
     refine Xe 2 26 26 w.heap.size _ rfl R4.out row_fi Zas rfl rfl ⟨_, rfl, ?_, ?_⟩
     · rw [HQ.out, HS.out]
       dsimp only
       rw [List.append_nil, List.append_nil]
       have R := R3.out
       have a := Zg.rowOf R.rp (N := fun k => w.heap.size + 2 ≤ k) (fun k hk => hk) (R.dp.mono fun k _ hk => hk.1)
       have b := Zg.rowOf R.rc (N := fun k => w.heap.size + 2 ≤ k) (fun k hk => hk) (R.dc.mono fun k _ hk => hk.1)
       exact ((Zg.app (x := .row cs.length (casDs cs) .nil) a b).keeps P4.out.keeps (M := fun k => w.heap.size ≤ k) fun k _ hk => ⟨by omega, by omega⟩)
     · rw [HQ.out, HS.out]
       exact R3.out.mv.put P4.out (Nat.le_refl _) qin cin rin
   · have t1 : ∀ w, PAt w q c r K L s → Calls Tryz.prog 136 #[Wg c s, .string ⟨#[99, 97, 114, 100]⟩] w (Yb w q c r K L s1 (.bool true)) := fun w h => by have e := (fi1 0 hk).2; have e1 : isS L ⟨#[99, 97, 114, 100]⟩ s = true := e.1; have e2 : s1 = Xz L ⟨#[99, 97, 114, 100]⟩ s := e.2; have h1 := Vt w q c r K L s ⟨#[99, 97, 114, 100]⟩ h; rw [e1, ← e2] at h1; exact h1
     have hst := hs1 hk
     have hfr := hfr (by omega)
     have hrc := rem_card L 5 m 0 0 s1
     have hca : ∀ w, PAt w q c r K L s1 → Calls Tryz.prog 137 #[.pointer (some ⟨q, 0, none⟩)] w (Yh w q c r K L (Ub 5 L m 0 0 s1).2 (Ub 5 L m 0 0 s1).1.ds) := fun w h => xcard w q c r K L s1 m h (by omega) (by have := HN.out; omega)
     rw [show Ub 5 L m (tv.line : Int) (tv.col : Int) s1 = (⟨(Ub 5 L m 0 0 s1).1.name, (Ub 5 L m 0 0 s1).1.cost, (Ub 5 L m 0 0 s1).1.power, (tv.line : Int), (tv.col : Int), (Ub 5 L m 0 0 s1).1.rules⟩, (Ub 5 L m 0 0 s1).2) from rfl] at hst
     generalize Ub 5 L m 0 0 s1 = xx at *
     obtain ⟨x, s2⟩ := xx
     dsimp only at hst hrc hca
     have HT := Hh (And.intro hst (And.intro hm (And.intro hmn (And.intro hacc (And.intro hrem (And.intro hfr hrc))))))
     clear hs1 hs2 hsp hfn hm hmn hacc hrem fi0 fi1 hk hst hfr hrc
     go_wp2_with (first
 | (go_at_call 133; refine hpk.mono ?_; rintro e w1 ⟨rfl, b1⟩
    have nb := Zb w1 (.cells #[.int .i64 tv.k, .string tv.t, .int .i64 tv.n, .int .i64 (tv.line : Int), .int .i64 (tv.col : Int)] 85)
    have M1 := Hh ((HR.out.mv.next b1).next nb)
    have hcell := M1.out.at_.cell
    have F1 := Hh (((Vu.start q c wr).next b1).next nb)
    have K1 := Hh (Za.made w1 85 #[.int .i64 tv.k, .string tv.t, .int .i64 tv.n, .int .i64 (tv.line : Int), .int .i64 (tv.col : Int)])
    have hz1 : wr.heap.size ≤ w1.heap.size := b1.size
    clear b1 nb)
 | (go_at_call 136; (with_reducible refine (t1 _ ?_).mono ?_); exact M1.out.at_; rintro e w2 ⟨rfl, m2⟩
    have M2 := Hh (M1.out.then m2)
    have hcell := M2.out.at_.cell
    have F2 := Hh (F1.out.move m2)
    have K2 := Hh (m2.keeps.whole K1.out (by omega))
    have hz2 : w1.heap.size + 1 ≤ w2.heap.size := by have := m2.keeps.size; (try simp at this); omega
    clear m2)
 | (go_at_call 137; refine (hca _ M2.out.at_).mono ?_; rintro e w4 ⟨vs, rfl, d4, m4⟩
    obtain ⟨_, rfl, _, rfl, _, rfl, _, rfl, _, rfl, dr⟩ := d4
    obtain ⟨Aa, Ac, rs, tt, e1, dn, d5, d6, rfl⟩ := dr
    subst e1
    have nb := Zb w4 (.cells #[.string x.name, .int .i64 x.cost, .int .i64 x.power, .int .i64 x.line, .int .i64 x.col, .slice Aa x.rules.length Ac] 35)
    have M4 := Hh ((M2.out.then m4).next nb)
    have F4 := Hh ((F2.out.move m4).next nb)
    have K4 := m4.keeps.whole K2.out (by omega)
    have y3 : ∀ o, (w4.alloc o).cell? ⟨w1.heap.size, 3, none⟩ = some (.int .i64 (tv.line : Int)) := fun o => (K4.alloc o).read 3
    have y4 : ∀ o, (w4.alloc o).cell? ⟨w1.heap.size, 4, none⟩ = some (.int .i64 (tv.col : Int)) := fun o => (K4.alloc o).read 4
    have hz4 : w2.heap.size ≤ w4.heap.size := m4.keeps.size
    have D4 := Hh (show Zg (fun k => w2.heap.size ≤ k) w4 (.row x.rules.length (Zbg x.rules) .nil) [.slice Aa x.rules.length Ac] from ⟨Aa, Ac, rs, [], rfl, dn, d5, d6, rfl⟩)
    have hne : ¬ (w4.heap.size = w1.heap.size) := by omega
    have X4 := Hh m4; clear m4 nb K4 dn d5 d6))
     go_region
     have T5 := Hh (show Za (w4.alloc (.cells #[.string x.name, .int .i64 x.cost, .int .i64 x.power, .int .i64 (tv.line : Int), .int .i64 (tv.col : Int), .slice Aa x.rules.length Ac] 35)).drew w4.heap.size 35 ([.string x.name, .int .i64 x.cost, .int .i64 x.power, .int .i64 (tv.line : Int), .int .i64 (tv.col : Int), .slice Aa x.rules.length Ac] : List Value).toArray from (Za.made w4 35 #[.string x.name, .int .i64 x.cost, .int .i64 x.power, .int .i64 (tv.line : Int), .int .i64 (tv.col : Int), .slice Aa x.rules.length Ac]).drew)
     have k5 : Zm (fun _ => False) (w4.alloc (.cells #[.string x.name, .int .i64 x.cost, .int .i64 x.power, .int .i64 x.line, .int .i64 x.col, .slice Aa x.rules.length Ac] 35)) (w4.alloc (.cells #[.string x.name, .int .i64 x.cost, .int .i64 x.power, .int .i64 (tv.line : Int), .int .i64 (tv.col : Int), .slice Aa x.rules.length Ac] 35)).drew → True := fun _ => trivial
     have nb := Zb w4 (.cells #[.string x.name, .int .i64 x.cost, .int .i64 x.power, .int .i64 (tv.line : Int), .int .i64 (tv.col : Int), .slice Aa x.rules.length Ac] 35)
     have M5 := Hh (((M2.out.then X4.out).next nb).drew)
     have F5 := Hh (((F2.out.move X4.out).next nb).drew)
     have D5 := Hh ((D4.out.below nb).keeps (S := fun _ => False) (Zm.drew (Zm.refl _ _)) (M := fun k => w2.heap.size ≤ k) (fun k _ hk => ⟨id, hk⟩))
     have hz5 : w4.heap.size + 1 ≤ (w4.alloc (.cells #[.string x.name, .int .i64 x.cost, .int .i64 x.power, .int .i64 (tv.line : Int), .int .i64 (tv.col : Int), .slice Aa x.rules.length Ac] 35)).drew.heap.size := T5.out.inside
     clear nb y3 y4 k5
     generalize (w4.alloc (.cells #[.string x.name, .int .i64 x.cost, .int .i64 x.power, .int .i64 (tv.line : Int), .int .i64 (tv.col : Int), .slice Aa x.rules.length Ac] 35)).drew = w5 at *
     have R5 := Hh (HR.out.round F5.out M5.out)
     have hT : w5.cell? ⟨w.heap.size + 1, 0, none⟩ = some (vc) := R5.out.var.read 0
     have D6 := Hh (show Zg (fun k => w2.heap.size ≤ k) w5 (⟨x.name, x.cost, x.power, (tv.line : Int), (tv.col : Int), x.rules⟩ : Ca).ds [.string x.name, .int .i64 x.cost, .int .i64 x.power, .int .i64 (tv.line : Int), .int .i64 (tv.col : Int), .slice Aa x.rules.length Ac] from ⟨_, rfl, _, rfl, _, rfl, _, rfl, _, rfl, D5.out⟩)
     go_wp2_with (first
 | ((with_reducible refine Zi 29 ?_); refine Zf 35 _ 35 w4.heap.size _ T5.out row_ca size_ca rfl rfl rfl ?_)
 | (at_builtin; refine Wv (.tmp 28) (.tmp 30) 23 35 6 72 _ und_cas info_ca rfl (by decide) (by decide) (w.heap.size + 2) (vc) cs.length xc [.string x.name, .int .i64 x.cost, .int .i64 x.power, .int .i64 (tv.line : Int), .int .i64 (tv.col : Int), .slice Aa x.rules.length Ac] (R5.out.round (Vu.next (Vu.start q c _) (Zb w5 (.cells [.string x.name, .int .i64 x.cost, .int .i64 x.power, .int .i64 (tv.line : Int), .int .i64 (tv.col : Int), .slice Aa x.rules.length Ac].toArray 35))) (R5.out.mv.next (Zb w5 (.cells [.string x.name, .int .i64 x.cost, .int .i64 x.power, .int .i64 (tv.line : Int), .int .i64 (tv.col : Int), .slice Aa x.rules.length Ac].toArray 35)))).rc w5.heap.size (Za.made _ _ _) rfl (by simp [Value.oneCell']) (by have := HT.out.2.2.2.1; have := HN.out.2; omega) (by simp; omega) rfl rfl rfl rfl ?_
    intro v9 w9 o9 g9 at9
    have R9 := Hh (R5.out.round (Vu.next (Vu.start q c _) (Zb w5 (.cells [.string x.name, .int .i64 x.cost, .int .i64 x.power, .int .i64 (tv.line : Int), .int .i64 (tv.col : Int), .slice Aa x.rules.length Ac].toArray 35))) (R5.out.mv.next (Zb w5 (.cells [.string x.name, .int .i64 x.cost, .int .i64 x.power, .int .i64 (tv.line : Int), .int .i64 (tv.col : Int), .slice Aa x.rules.length Ac].toArray 35))))
    have O9 := Hh (And.intro o9 (And.intro g9 at9))
    have V9 := Hh (Zab g9 R9.out.var (fun c => by have := (HR.out.rc.lt _ c).1; omega))
    obtain ⟨A9, c9, rfl, _⟩ := Uj o9
    clear o9 g9 at9)
 | ((with_reducible refine Zu 32 31 ?_); refine Zn 23 _ _ 26 (w.heap.size + 1) 0 [] (vc) (.slice A9 (cs.length + 1) c9) [vp] V9.out rfl size_cas rfl rfl rfl rfl rfl rfl ?_
    intro w10 p10
    have R10 := Hh (R9.out.pushC ⟨x.name, x.cost, x.power, (tv.line : Int), (tv.col : Int), x.rules⟩ O9.out.1 O9.out.2.1 O9.out.2.2 ((D6.out.below (Zb w5 (.cells [.string x.name, .int .i64 x.cost, .int .i64 x.power, .int .i64 (tv.line : Int), .int .i64 (tv.col : Int), .slice Aa x.rules.length Ac].toArray 35))).mono fun k _ hk => ⟨by omega, fun c => by have := HR.out.rc.lt _ c; omega, fun c => by have := HR.out.rp.lt _ c; omega⟩) p10)
    clear p10))
     go_roundw
     case rel =>
       obtain ⟨h1, h2, h3, h4, h5, h6, h7⟩ := HT.out
       refine ⟨m, cs ++ [⟨x.name, x.cost, x.power, (tv.line : Int), (tv.col : Int), x.rules⟩], ps, _, _, _, _, s2, R10.out, ?_, ?_, ?_, ?_⟩
       · omega
       · omega
       · rw [List.length_append]; simp only [List.length_cons, List.length_nil]; omega
       · rw [HQ.out, h1]; simp
     case measure =>
       obtain ⟨h1, h2, h3, h4, h5, h6, h7⟩ := HT.out
       have := R10.out.mv.at_.rem
       rw [this, h5]; omega
   · have t1 : ∀ w, PAt w q c r K L s → Calls Tryz.prog 136 #[Wg c s, .string ⟨#[99, 97, 114, 100]⟩] w (Yb w q c r K L s (.bool false)) := fun w h => by have e : isS L ⟨#[99, 97, 114, 100]⟩ s = false := (fi1 1 hk).1 0 (by decide); have h1 := Vt w q c r K L s ⟨#[99, 97, 114, 100]⟩ h; rw [e, Wd e] at h1; exact h1
     have t2 : ∀ w, PAt w q c r K L s → Calls Tryz.prog 136 #[Wg c s, .string ⟨#[112, 108, 97, 99, 101]⟩] w (Yb w q c r K L s1 (.bool true)) := fun w h => by have e := (fi1 1 hk).2; have e1 : isS L ⟨#[112, 108, 97, 99, 101]⟩ s = true := e.1; have e2 : s1 = Xz L ⟨#[112, 108, 97, 99, 101]⟩ s := e.2; have h1 := Vt w q c r K L s ⟨#[112, 108, 97, 99, 101]⟩ h; rw [e1, ← e2] at h1; exact h1
     have hst := hs2 hk
     have hfr := hfr (by omega)
     have hrc := rem_place L 5 m 0 0 s1
     have hca : ∀ w, PAt w q c r K L s1 → Calls Tryz.prog 138 #[.pointer (some ⟨q, 0, none⟩)] w (Yh w q c r K L (Wz 5 L m 0 0 s1).2 (Wz 5 L m 0 0 s1).1.ds) := fun w h => xplace w q c r K L s1 m h (by omega) (by have := HN.out; omega)
     rw [show Wz 5 L m (tv.line : Int) (tv.col : Int) s1 = (⟨(Wz 5 L m 0 0 s1).1.name, (tv.line : Int), (tv.col : Int), (Wz 5 L m 0 0 s1).1.rules⟩, (Wz 5 L m 0 0 s1).2) from rfl] at hst
     generalize Wz 5 L m 0 0 s1 = xx at *
     obtain ⟨x, s2⟩ := xx
     dsimp only at hst hrc hca
     have HT := Hh (And.intro hst (And.intro hm (And.intro hmn (And.intro hacc (And.intro hrem (And.intro hfr hrc))))))
     clear hs1 hs2 hsp hfn hm hmn hacc hrem fi0 fi1 hk hst hfr hrc
     go_wp2_with (first
 | (go_at_call 133; refine hpk.mono ?_; rintro e w1 ⟨rfl, b1⟩
    have nb := Zb w1 (.cells #[.int .i64 tv.k, .string tv.t, .int .i64 tv.n, .int .i64 (tv.line : Int), .int .i64 (tv.col : Int)] 85)
    have M1 := Hh ((HR.out.mv.next b1).next nb)
    have hcell := M1.out.at_.cell
    have F1 := Hh (((Vu.start q c wr).next b1).next nb)
    have K1 := Hh (Za.made w1 85 #[.int .i64 tv.k, .string tv.t, .int .i64 tv.n, .int .i64 (tv.line : Int), .int .i64 (tv.col : Int)])
    have hz1 : wr.heap.size ≤ w1.heap.size := b1.size
    clear b1 nb)
 | (go_at_call 136; (with_reducible refine (t1 _ ?_).mono ?_); exact M1.out.at_; rintro e w2 ⟨rfl, m2⟩
    have M2 := Hh (M1.out.then m2)
    have hcell := M2.out.at_.cell
    have F2 := Hh (F1.out.move m2)
    have K2 := Hh (m2.keeps.whole K1.out (by omega))
    have hz2 : w1.heap.size + 1 ≤ w2.heap.size := by have := m2.keeps.size; (try simp at this); omega
    clear m2)
 | (go_at_call 136; (with_reducible refine (t2 _ ?_).mono ?_); exact M2.out.at_; rintro e w3 ⟨rfl, m3⟩
    have M3 := Hh (M2.out.then m3)
    have hcell := M3.out.at_.cell
    have F3 := Hh (F2.out.move m3)
    have K3 := Hh (m3.keeps.whole K2.out (by omega))
    have hz3 := Nat.le_trans hz2 m3.keeps.size
    clear m3)
 | (go_at_call 138; refine (hca _ M3.out.at_).mono ?_; rintro e w4 ⟨vs, rfl, d4, m4⟩
    obtain ⟨_, rfl, _, rfl, _, rfl, dr⟩ := d4
    obtain ⟨Aa, Ac, rs, tt, e1, dn, d5, d6, rfl⟩ := dr
    subst e1
    have nb := Zb w4 (.cells #[.string x.name, .int .i64 x.line, .int .i64 x.col, .slice Aa x.rules.length Ac] 38)
    have M4 := Hh ((M3.out.then m4).next nb)
    have F4 := Hh ((F3.out.move m4).next nb)
    have K4 := m4.keeps.whole K3.out (by omega)
    have y3 : ∀ o, (w4.alloc o).cell? ⟨w1.heap.size, 3, none⟩ = some (.int .i64 (tv.line : Int)) := fun o => (K4.alloc o).read 3
    have y4 : ∀ o, (w4.alloc o).cell? ⟨w1.heap.size, 4, none⟩ = some (.int .i64 (tv.col : Int)) := fun o => (K4.alloc o).read 4
    have hz4 : w3.heap.size ≤ w4.heap.size := m4.keeps.size
    have D4 := Hh (show Zg (fun k => w3.heap.size ≤ k) w4 (.row x.rules.length (Zbg x.rules) .nil) [.slice Aa x.rules.length Ac] from ⟨Aa, Ac, rs, [], rfl, dn, d5, d6, rfl⟩)
    have hne : ¬ (w4.heap.size = w1.heap.size) := by omega
    have X4 := Hh m4; clear m4 nb K4 dn d5 d6))
     go_region
     have T5 := Hh (show Za (w4.alloc (.cells #[.string x.name, .int .i64 (tv.line : Int), .int .i64 (tv.col : Int), .slice Aa x.rules.length Ac] 38)).drew w4.heap.size 38 ([.string x.name, .int .i64 (tv.line : Int), .int .i64 (tv.col : Int), .slice Aa x.rules.length Ac] : List Value).toArray from (Za.made w4 38 #[.string x.name, .int .i64 (tv.line : Int), .int .i64 (tv.col : Int), .slice Aa x.rules.length Ac]).drew)
     have k5 : Zm (fun _ => False) (w4.alloc (.cells #[.string x.name, .int .i64 x.line, .int .i64 x.col, .slice Aa x.rules.length Ac] 38)) (w4.alloc (.cells #[.string x.name, .int .i64 (tv.line : Int), .int .i64 (tv.col : Int), .slice Aa x.rules.length Ac] 38)).drew → True := fun _ => trivial
     have nb := Zb w4 (.cells #[.string x.name, .int .i64 (tv.line : Int), .int .i64 (tv.col : Int), .slice Aa x.rules.length Ac] 38)
     have M5 := Hh (((M3.out.then X4.out).next nb).drew)
     have F5 := Hh (((F3.out.move X4.out).next nb).drew)
     have D5 := Hh ((D4.out.below nb).keeps (S := fun _ => False) (Zm.drew (Zm.refl _ _)) (M := fun k => w3.heap.size ≤ k) (fun k _ hk => ⟨id, hk⟩))
     have hz5 : w4.heap.size + 1 ≤ (w4.alloc (.cells #[.string x.name, .int .i64 (tv.line : Int), .int .i64 (tv.col : Int), .slice Aa x.rules.length Ac] 38)).drew.heap.size := T5.out.inside
     clear nb y3 y4 k5
     generalize (w4.alloc (.cells #[.string x.name, .int .i64 (tv.line : Int), .int .i64 (tv.col : Int), .slice Aa x.rules.length Ac] 38)).drew = w5 at *
     have R5 := Hh (HR.out.round F5.out M5.out)
     have hT : w5.cell? ⟨w.heap.size + 1, 1, none⟩ = some (vp) := R5.out.var.read 1
     have D6 := Hh (show Zg (fun k => w3.heap.size ≤ k) w5 (⟨x.name, (tv.line : Int), (tv.col : Int), x.rules⟩ : Pl).ds [.string x.name, .int .i64 (tv.line : Int), .int .i64 (tv.col : Int), .slice Aa x.rules.length Ac] from ⟨_, rfl, _, rfl, _, rfl, D5.out⟩)
     go_wp2_with (first
 | ((with_reducible refine Zi 49 ?_); refine Zf 38 _ 38 w4.heap.size _ T5.out row_pl size_pl rfl rfl rfl ?_)
 | (at_builtin; refine Wv (.tmp 48) (.tmp 50) 24 38 4 56 _ und_pls info_pl rfl (by decide) (by decide) (w.heap.size + 2) (vp) ps.length xp [.string x.name, .int .i64 (tv.line : Int), .int .i64 (tv.col : Int), .slice Aa x.rules.length Ac] (R5.out.round (Vu.next (Vu.start q c _) (Zb w5 (.cells [.string x.name, .int .i64 (tv.line : Int), .int .i64 (tv.col : Int), .slice Aa x.rules.length Ac].toArray 38))) (R5.out.mv.next (Zb w5 (.cells [.string x.name, .int .i64 (tv.line : Int), .int .i64 (tv.col : Int), .slice Aa x.rules.length Ac].toArray 38)))).rp w5.heap.size (Za.made _ _ _) rfl (by simp [Value.oneCell']) (by have := HT.out.2.2.2.1; have := HN.out.2; omega) (by simp; omega) rfl rfl rfl rfl ?_
    intro v9 w9 o9 g9 at9
    have R9 := Hh (R5.out.round (Vu.next (Vu.start q c _) (Zb w5 (.cells [.string x.name, .int .i64 (tv.line : Int), .int .i64 (tv.col : Int), .slice Aa x.rules.length Ac].toArray 38))) (R5.out.mv.next (Zb w5 (.cells [.string x.name, .int .i64 (tv.line : Int), .int .i64 (tv.col : Int), .slice Aa x.rules.length Ac].toArray 38))))
    have O9 := Hh (And.intro o9 (And.intro g9 at9))
    have V9 := Hh (Zab g9 R9.out.var (fun c => by have := (HR.out.rp.lt _ c).1; omega))
    obtain ⟨A9, c9, rfl, _⟩ := Uj o9
    clear o9 g9 at9)
 | ((with_reducible refine Zu 52 51 ?_); refine Zn 24 _ _ 26 (w.heap.size + 1) 1 [vc] (vp) (.slice A9 (ps.length + 1) c9) [] V9.out rfl size_pls rfl rfl rfl rfl rfl rfl ?_
    intro w10 p10
    have R10 := Hh (R9.out.pushP ⟨x.name, (tv.line : Int), (tv.col : Int), x.rules⟩ O9.out.1 O9.out.2.1 O9.out.2.2 ((D6.out.below (Zb w5 (.cells [.string x.name, .int .i64 (tv.line : Int), .int .i64 (tv.col : Int), .slice Aa x.rules.length Ac].toArray 38))).mono fun k _ hk => ⟨by omega, fun c => by have := HR.out.rc.lt _ c; omega, fun c => by have := HR.out.rp.lt _ c; omega⟩) p10)
    clear p10))
     go_roundw
     case rel =>
       obtain ⟨h1, h2, h3, h4, h5, h6, h7⟩ := HT.out
       refine ⟨m, cs, ps ++ [⟨x.name, (tv.line : Int), (tv.col : Int), x.rules⟩], _, _, _, _, s2, R10.out, ?_, ?_, ?_, ?_⟩
       · omega
       · omega
       · rw [List.length_append]; simp only [List.length_cons, List.length_nil]; omega
       · rw [HQ.out, h1]; simp
     case measure =>
       obtain ⟨h1, h2, h3, h4, h5, h6, h7⟩ := HT.out
       have := R10.out.mv.at_.rem
       rw [this, h5]; omega
theorem text_cases (s : ByteArray) (h64 : s.size ≤ 65536) : (∃ E l c, scanV s = ([], E, l, c) ∧ E ≠ 0) ∨ (∃ L, scanV s = (L, 0, 0, 0) ∧ Ends L ∧ L.length ≤ s.size + 1) := by
 obtain ⟨L, E, p, hs⟩ : ∃ L E p, Ug s 0 [] = (L, E, p) := ⟨_, _, _, rfl⟩
 have hf := scan_tr s s.size 0 [] L E p (by omega) (by omega) (Bd.zero s) hs
 rw [scanV_of s h64 hs]
 by_cases hE : E = 0
 · obtain ⟨L2, h2, h3⟩ := hf.1 hE
   have e : L = L2 := h2
   subst e
   exact .inr ⟨L, by rw [if_pos hE], h3.sh.ends, by have := h3.len; omega⟩
 · exact .inl ⟨E, _, _, by rw [if_neg hE], hE⟩
def Vy (s : ByteArray) : List TokV := (scanV s).1
def Zag (s : ByteArray) : St := if (scanV s).2.1 = 0 then .ok 0 0 else .bad (scanV s).2
def textN (s : ByteArray) : Nat := 8 * (Vy s).length + 20
def BeginPost (w : World) (s : ByteArray) (e : Ending) (w' : World) : Prop :=
 ∃ q c r K, e = .returned (.pointer (some ⟨q, 0, none⟩)) ∧ PAt w' q c r K (Vy s) (Zag s) ∧ w.heap.size ≤ q ∧ w.heap.size ≤ c ∧ Below w.heap.size w w'
theorem xbegin (s : ByteArray) (w : World) (hs : s.size ≤ 65536) : Calls Tryz.prog 83 #[.string s] w (BeginPost w s) := by
 have hs2 : s.size ≤ 140737488355328 := by omega
 rcases text_cases s hs with ⟨E, l, c, hv, hE⟩ | ⟨L, hv, hL, _⟩
 · have hn := cNew_err s w hs2 E l c hv hE
   have HE := Hh (And.intro hE hv)
   clear hs hs2 hv hE
   unfold Zo at hn
   go_enter Tryz.func83, Tryz.ntmps83
   go_wp2_with (go_at_call 132; refine hn.mono ?_; rintro e w1 ⟨rfl, b1⟩; have B1 := Hh b1; clear b1)
   go_ret
   have e1 : Zag s = .bad (E, l, c) := by unfold Zag; rw [HE.out.2]; exact if_neg HE.out.1
   have W1 := Za.made (w1.alloc (.cells #[.int .i64 E, .int .i64 (l : Int), .int .i64 (c : Int)] 29)) 185 #[.pointer none, .int .i64 E, .int .i64 (l : Int), .int .i64 (c : Int)]
   rw [World.size_alloc] at W1
   have hb := B1.out.size
   refine ⟨w1.heap.size + 1, w1.heap.size + 1, w1.heap.size + 1, 0, rfl, ?_, by omega, by omega, (B1.out.alloc hb _).alloc (by simp; omega) _⟩
   rw [e1]
   exact ⟨W1, fun a d e => (by cases e), fun F e => (by cases e; exact HE.out.1), by simp, by simp⟩
 · have hn := cNew_ok s w hs2 L hv hL
   have HE := Hh hv
   clear hs hs2 hv hL
   go_enter Tryz.func83, Tryz.ntmps83
   go_wp2_with (go_at_call 132; refine hn.mono ?_; rintro e w1 ⟨p, r, K, rfl, hc, hp, hr, b1⟩; have B1 := Hh (And.intro hc (And.intro hp (And.intro hr b1))); clear b1 hc hp hr; simp only [Zo, okF])
   go_ret
   obtain ⟨hc, hp, hr, b1⟩ := B1.out
   have e1 : Zag s = .ok 0 0 := by unfold Zag; rw [HE.out]; exact if_pos rfl
   have e2 : Vy s = L := by unfold Vy; rw [HE.out]
   have nb := Zb w1 (.cells #[.int .i64 0, .int .i64 0, .int .i64 0] 29)
   have nb2 := Zb (w1.alloc (.cells #[.int .i64 0, .int .i64 0, .int .i64 0] 29)) (.cells #[.pointer (some ⟨p, 0, none⟩), .int .i64 0, .int .i64 0, .int .i64 0] 185)
   have W1 := Za.made (w1.alloc (.cells #[.int .i64 0, .int .i64 0, .int .i64 0] 29)) 185 #[.pointer (some ⟨p, 0, none⟩), .int .i64 0, .int .i64 0, .int .i64 0]
   rw [World.size_alloc] at W1
   have hb := b1.size
   have hi := hc.whole.inside
   have hri := hc.rin
   refine ⟨w1.heap.size + 1, p, r, K, rfl, ?_, by omega, by omega, (b1.alloc hb _).alloc (by simp; omega) _⟩
   rw [e1, e2]
   exact ⟨W1, fun a d e => (by cases e; exact ⟨by omega, by omega, (hc.below nb).below nb2⟩), fun F e => (by cases e), by simp; omega, by simp; omega⟩
theorem over_end (L : List TokV) (st : St) (h : (st.tok L).k = 0) : Vz L st = st := by
 cases st with
 | ok a d => exact if_pos h
 | bad F => rfl
theorem over_not (L : List TokV) (st : St) (h : ¬ (st.tok L).k = 0) : Vz L st = wrongS L st ∧ ∃ F, Vz L st = .bad F ∧ F.1 ≠ 0 := by
 cases st with
 | ok a d => exact ⟨if_neg h, _, if_neg h, wrF_ne _⟩
 | bad F => exact absurd rfl h
theorem row_fa : (Tryz.prog.underlying 29).map TypeDesc.isRow = some true := by kernel_rfl
theorem Ur : (Tryz.prog.info? 29).map (·.size) = some 3 := by kernel_rfl
theorem Js {P : Program} {fn : Func} {R : Ending → World → Prop} {a : Act} {w : World} (s1 T1 s2 T2 : Nat) (t1 t2 : TypeId) (g1 g2 : Nat) (vs us : List Value) (hres : fn.results = #[.cell s1 T1, .cell s2 T2]) (h1 : Za w g1 t1 vs.toArray) (h2 : Za w g2 t2 us.toArray)
   (hu1 : (P.underlying T1).map TypeDesc.isRow = some true) (hi1 : (P.info? T1).map (·.size) = some vs.length) (hu2 : (P.underlying T2).map TypeDesc.isRow = some true) (hi2 : (P.info? T2).map (·.size) = some us.length)
   (hp1 : a.tmps.getD s1 undef = .pointer (some ⟨g1, 0, none⟩)) (hp2 : a.tmps.getD s2 undef = .pointer (some ⟨g2, 0, none⟩)) (hd : a.defers = []) (hR : R (.returned (.tuple #[.agg vs.toArray, .agg us.toArray])) w) : bodyPost P fn R .ret a w := by
 obtain ⟨d1, hu1, hr1⟩ := Option.map_eq_some_iff.1 hu1
 obtain ⟨d2, hu2, hr2⟩ := Option.map_eq_some_iff.1 hu2
 refine bodyPost_ret (v := .tuple #[.agg vs.toArray, .agg us.toArray]) ?_ hd hR
 have hl1 := run_loadVar_mid (P := P) w g1 0 T1 vs d1 (by have := Za.range (a := []) (b := vs) (c := []) (by simpa using h1); exact this) hu1 hr1 hi1
 have hl2 := run_loadVar_mid (P := P) w g2 0 T2 us d2 (by have := Za.range (a := []) (b := us) (c := []) (by simpa using h2); exact this) hu2 hr2 hi2
 have hp1' : a.tmps[s1]?.getD undef = .pointer (some ⟨g1, 0, none⟩) := by simpa using hp1
 have hp2' : a.tmps[s2]?.getD undef = .pointer (some ⟨g2, 0, none⟩) := by simpa using hp2
 simp [results, hres, hp1', hp2', hl1, hl2, asAddr, Sem.run_bind, Sem.run_pure]
theorem put2 {w : World} {g : Nat} {t : TypeId} {a b : Value} (h : Za w g t [a, b].toArray) (x y : Value) : Put w ((w.setCell ⟨g, 0, none⟩ x).setCell ⟨g, 1, none⟩ y) g t [x, y] :=
 ⟨by have e := Za.setCells (g := g) (t := t) [] [x, y] [a, b] [] w rfl (by simpa using h); have e2 : Za (w.setCells g 0 [x, y]) g t [x, y].toArray := by simpa using e
     exact e2, Zm.setCells (S := fun k => k = g) (g := g) rfl [x, y] 0 (Zm.refl _ w)⟩
theorem put3 {w : World} {g : Nat} {t : TypeId} {a b c : Value} (h : Za w g t [a, b, c].toArray) (x y z : Value) : Put w (((w.setCell ⟨g, 0, none⟩ x).setCell ⟨g, 1, none⟩ y).setCell ⟨g, 2, none⟩ z) g t [x, y, z] := Za.set3L (l := []) h x y z
set_option maxRecDepth 20000 in
set_option maxHeartbeats 6400000 in
theorem xfinF (w : World) (q c r K : Nat) (L : List TokV) (st : St) (va vb : Value) (ho : ∀ v ∈ [va, vb], v.oneCell' = true) (h : PAt w q c r K L st) :
   Calls Tryz.prog 84 #[.pointer (some ⟨q, 0, none⟩), .agg [va, vb].toArray] w (Yb w q c r K L (Vz L st) (.tuple #[if (Vz L st).good = true then .agg [va, vb].toArray else .agg [.slice none 0 0, .slice none 0 0].toArray, Zo (fltS (Vz L st))])) := by
 have qin := h.whole.inside
 have cin := h.cin
 have rin := h.rin
 have n1 := Zb w (.cells [va, vb].toArray 26)
 have n2 := Zb (w.alloc (.cells [va, vb].toArray 26)) (.cells #[.slice none 0 0, .slice none 0 0] 26)
 have n3 := Zb ((w.alloc (.cells [va, vb].toArray 26)).alloc (.cells #[.slice none 0 0, .slice none 0 0] 26)) (.cells #[.int .i64 0, .int .i64 0, .int .i64 0] 29)
 have M0 := Hh ((((Yi.start h).next n1).next n2).next n3)
 have X0 := Hh (((Za.made w 26 [va, vb].toArray).alloc (.cells #[.slice none 0 0, .slice none 0 0] 26)).alloc (.cells #[.int .i64 0, .int .i64 0, .int .i64 0] 29))
 have R0 := Hh (show Za (((w.alloc (.cells [va, vb].toArray 26)).alloc (.cells #[.slice none 0 0, .slice none 0 0] 26)).alloc (.cells #[.int .i64 0, .int .i64 0, .int .i64 0] 29)) (w.heap.size + 1) 26 ([.slice none 0 0, .slice none 0 0]).toArray from by have e := (Za.made (w.alloc (.cells [va, vb].toArray 26)) 26 #[.slice none 0 0, .slice none 0 0]).alloc (.cells #[.int .i64 0, .int .i64 0, .int .i64 0] 29); rw [World.size_alloc] at e; exact e)
 have F0 := Hh (show Za (((w.alloc (.cells [va, vb].toArray 26)).alloc (.cells #[.slice none 0 0, .slice none 0 0] 26)).alloc (.cells #[.int .i64 0, .int .i64 0, .int .i64 0] 29)) (w.heap.size + 1 + 1) 29 ([.int .i64 0, .int .i64 0, .int .i64 0] : List Value).toArray from by have e := Za.made ((w.alloc (.cells [va, vb].toArray 26)).alloc (.cells #[.slice none 0 0, .slice none 0 0] 26)) 29 #[.int .i64 0, .int .i64 0, .int .i64 0]; rw [World.size_alloc, World.size_alloc] at e; exact e)
 clear n1 n2 n3
 have hcell := M0.out.at_.cell
 have hend := over_end L st
 have hnot := over_not L st
 have hwr : ∀ w, PAt w q c r K L st → Calls Tryz.prog 135 #[Wg c st] w fun e w' => e = .returned (Zo (wrongV L st)) ∧ Below w.heap.size w w' := fun w h => xWrong w q c r K L st h
 have hwn := wrong_note L st
 have hpk : ∀ w, PAt w q c r K L st → Calls Tryz.prog 133 #[Wg c st] w fun e w' => e = .returned (Ue (st.tok L)) ∧ Below w.heap.size w w' := fun w h => xPeek w q c r K L st h
 have hflt := h.flt
 generalize st.tok L = tv at *
 unfold Ue at hpk
 have hfd := fun w => tok_field tv.k tv.n (tv.line : Int) (tv.col : Int) tv.t w
 clear h
 by_cases hk : tv.k = 0
 · rw [hend hk]
   have k0 : (tv.k != 0) = false := by rw [hk]; rfl
   clear hend hnot hwn hwr hk
   cases st with
   | ok a d =>
     show Calls _ _ _ _ (Yb w q c r K L (.ok a d) (.tuple #[.agg [va, vb].toArray, Zo okF]))
     clear hflt
     go_enter Tryz.func84, Tryz.ntmps84
     go_wp2_with (first
 | (go_at_call 133; refine (hpk _ M0.out.at_).mono ?_; rintro e w1 ⟨rfl, b1⟩
    have X1 := Hh (X0.out.below b1 X0.out.inside)
    have R1 := Hh (R0.out.below b1 R0.out.inside)
    have F1 := Hh (F0.out.below b1 F0.out.inside)
    have M1 := Hh (M0.out.next b1)
    have hcell := M1.out.at_.cell
    have q1 : w1.cell? ⟨q, 1, none⟩ = some (.int .i64 0) := M1.out.at_.whole.read 1
    clear b1)
 | ((with_reducible refine Zi 32 ?_); refine Zf 26 _ 26 w.heap.size _ X1.out row_fi Zas rfl rfl rfl ?_)
 | ((with_reducible refine Zu 4 32 ?_); refine Ze 26 _ _ 26 (w.heap.size + 1) _ [va, vb] R1.out rfl Zas ho rfl rfl rfl rfl rfl ?_
    intro w2 p2
    have R2 := Hh p2.whole
    have F2 := Hh (p2.keeps.whole F1.out (by omega))
    have M2 := Hh (M1.out.put p2 (by omega) qin cin rin); clear p2)
 | ((with_reducible refine Zu 5 33 ?_); refine Ze 29 _ _ 29 (w.heap.size + 1 + 1) _ [.int .i64 0, .int .i64 0, .int .i64 0] F2.out rfl Ur (by simp [Value.oneCell']) rfl rfl rfl rfl rfl ?_
    intro w3 p3
    have F3 := Hh p3.whole
    have R3 := Hh (p3.keeps.whole R2.out (by omega))
    have M3 := Hh (M2.out.put p3 (by omega) qin cin rin); clear p3))
     exact Js 4 26 5 29 26 29 _ _ _ _ rfl R3.out F3.out row_fi Zas row_fa Ur rfl rfl rfl ⟨rfl, M3.out⟩
   | bad F =>
     show Calls _ _ _ _ (Yb w q c r K L (.bad F) (.tuple #[.agg [.slice none 0 0, .slice none 0 0].toArray, Zo F]))
     obtain ⟨f0, f1, f2⟩ := F
     have hf0 := hflt _ rfl
     have z0 : (f0 != 0) = true := by rw [bne_iff_ne]; exact hf0
     clear hflt hf0
     go_enter Tryz.func84, Tryz.ntmps84
     go_wp2_with (first
 | (go_at_call 133; refine (hpk _ M0.out.at_).mono ?_; rintro e w1 ⟨rfl, b1⟩
    have X1 := Hh (X0.out.below b1 X0.out.inside)
    have R1 := Hh (R0.out.below b1 R0.out.inside)
    have F1 := Hh (F0.out.below b1 F0.out.inside)
    have M1 := Hh (M0.out.next b1)
    have hcell := M1.out.at_.cell
    have q1 : ∀ o, (w1.alloc o).cell? ⟨q, 1, none⟩ = some (.int .i64 f0) := fun o => (M1.out.at_.whole.alloc o).read 1
    have q2 : ∀ o, (w1.alloc o).cell? ⟨q, 2, none⟩ = some (.int .i64 (f1 : Int)) := fun o => (M1.out.at_.whole.alloc o).read 2
    have q3 : ∀ o, (w1.alloc o).cell? ⟨q, 3, none⟩ = some (.int .i64 (f2 : Int)) := fun o => (M1.out.at_.whole.alloc o).read 3
    have q0 : w1.cell? ⟨q, 1, none⟩ = some (.int .i64 f0) := M1.out.at_.whole.read 1
    have r0 : ∀ o, (w1.alloc o).cell? ⟨w.heap.size + 1, 0, none⟩ = some (.slice none 0 0) := fun o => (R1.out.alloc o).read 0
    have s0 : ∀ o, (w1.alloc o).frozen? ⟨w.heap.size + 1, 0, none⟩ = false := fun o => (R1.out.alloc o).thawed 0
    have r1 : ∀ o, (w1.alloc o).cell? ⟨w.heap.size + 1, 1, none⟩ = some (.slice none 0 0) := fun o => (R1.out.alloc o).read 1
    have s1 : ∀ o, (w1.alloc o).frozen? ⟨w.heap.size + 1, 1, none⟩ = false := fun o => (R1.out.alloc o).thawed 1
    have hn1 : ¬ (w1.heap.size = w.heap.size + 1) := by have := R1.out.inside; omega
    have hn2 : ¬ (w1.heap.size = w.heap.size + 1 + 1) := by have := F1.out.inside; omega
    have hn3 : ¬ (w.heap.size + 1 = q) := by omega
    have hn4 : ¬ (w.heap.size + 1 + 1 = q) := by omega
    have hn5 : ¬ (w1.heap.size = q) := by have := R1.out.inside; omega
    have hn6 : w.heap.size + 1 + 1 < w1.heap.size := F1.out.inside
    have t0 : ∀ o, (w1.alloc o).cell? ⟨w.heap.size + 1 + 1, 0, none⟩ = some (.int .i64 0) := fun o => (F1.out.alloc o).read 0
    have u0 : ∀ o, (w1.alloc o).frozen? ⟨w.heap.size + 1 + 1, 0, none⟩ = false := fun o => (F1.out.alloc o).thawed 0
    have t1 : ∀ o, (w1.alloc o).cell? ⟨w.heap.size + 1 + 1, 1, none⟩ = some (.int .i64 0) := fun o => (F1.out.alloc o).read 1
    have u1 : ∀ o, (w1.alloc o).frozen? ⟨w.heap.size + 1 + 1, 1, none⟩ = false := fun o => (F1.out.alloc o).thawed 1
    have t2 : ∀ o, (w1.alloc o).cell? ⟨w.heap.size + 1 + 1, 2, none⟩ = some (.int .i64 0) := fun o => (F1.out.alloc o).read 2
    have u2 : ∀ o, (w1.alloc o).frozen? ⟨w.heap.size + 1 + 1, 2, none⟩ = false := fun o => (F1.out.alloc o).thawed 2
    clear b1))
     go_region
     go_wp2
     have nb := Zb w1 (.cells #[.slice none 0 0, .slice none 0 0] 26)
     have p1 := put2 (R1.out.alloc (.cells #[.slice none 0 0, .slice none 0 0] 26)) (.slice none 0 0) (.slice none 0 0)
     have p2 := put3 (p1.keeps.whole (F1.out.alloc (.cells #[.slice none 0 0, .slice none 0 0] 26)) (by omega)) (.int .i64 f0) (.int .i64 (f1 : Int)) (.int .i64 (f2 : Int))
     have M9 := ((((M1.out.next nb).put p1 (by omega) qin cin rin).put p2 (by omega) qin cin rin).drew)
     exact Js 4 26 5 29 26 29 _ _ _ _ rfl (p2.keeps.whole p1.whole (by omega)).drew p2.whole.drew row_fi Zas row_fa Ur rfl rfl rfl ⟨rfl, M9⟩
 · obtain ⟨e1, F, e2, hf0⟩ := hnot hk
   have k0 : (tv.k != 0) = true := by rw [bne_iff_ne]; exact hk
   have hnt : ∀ w, PAt w q c r K L st → Calls Tryz.prog 134 #[.pointer (some ⟨q, 0, none⟩), Zo (wrongV L st)] w (Yb w q c r K L (.bad F) (.tuple #[])) := fun w h => by have h1 := xNote w q c r K L st (wrongV L st) h; rw [hwn, ← e1, e2] at h1; exact h1
   rw [e2]
   show Calls _ _ _ _ (Yb w q c r K L (.bad F) (.tuple #[.agg [.slice none 0 0, .slice none 0 0].toArray, Zo F]))
   generalize wrongV L st = wv at *
   obtain ⟨f0, f1, f2⟩ := F
   have z0 : (f0 != 0) = true := by rw [bne_iff_ne]; exact hf0
   clear hend hnot hwn hk e1 e2 hf0 hflt
   go_enter Tryz.func84, Tryz.ntmps84
   go_wp2_with (first
 | (go_at_call 133; refine (hpk _ M0.out.at_).mono ?_; rintro e w1 ⟨rfl, b1⟩
    have X1 := Hh (X0.out.below b1 X0.out.inside)
    have R1 := Hh (R0.out.below b1 R0.out.inside)
    have F1 := Hh (F0.out.below b1 F0.out.inside)
    have M1 := Hh (M0.out.next b1)
    have hcell := M1.out.at_.cell
    clear b1)
 | (go_at_call 135; refine (hwr _ M1.out.at_).mono ?_; rintro e w2 ⟨rfl, b2⟩
    have X2 := Hh (X1.out.below b2 X1.out.inside)
    have R2 := Hh (R1.out.below b2 R1.out.inside)
    have F2 := Hh (F1.out.below b2 F1.out.inside)
    have M2 := Hh (M1.out.next b2); clear b2)
 | (go_at_call 134; refine (hnt _ M2.out.at_).mono ?_; rintro e w3 ⟨rfl, m3⟩
    have X3 := Hh (m3.keeps.whole X2.out (by omega))
    have R3 := Hh (m3.keeps.whole R2.out (by omega))
    have F3 := Hh (m3.keeps.whole F2.out (by omega))
    have M3 := Hh (M2.out.then m3)
    have q1 : ∀ o, (w3.alloc o).cell? ⟨q, 1, none⟩ = some (.int .i64 f0) := fun o => (M3.out.at_.whole.alloc o).read 1
    have q2 : ∀ o, (w3.alloc o).cell? ⟨q, 2, none⟩ = some (.int .i64 (f1 : Int)) := fun o => (M3.out.at_.whole.alloc o).read 2
    have q3 : ∀ o, (w3.alloc o).cell? ⟨q, 3, none⟩ = some (.int .i64 (f2 : Int)) := fun o => (M3.out.at_.whole.alloc o).read 3
    have q0 : w3.cell? ⟨q, 1, none⟩ = some (.int .i64 f0) := M3.out.at_.whole.read 1
    have r0 : ∀ o, (w3.alloc o).cell? ⟨w.heap.size + 1, 0, none⟩ = some (.slice none 0 0) := fun o => (R3.out.alloc o).read 0
    have s0 : ∀ o, (w3.alloc o).frozen? ⟨w.heap.size + 1, 0, none⟩ = false := fun o => (R3.out.alloc o).thawed 0
    have r1 : ∀ o, (w3.alloc o).cell? ⟨w.heap.size + 1, 1, none⟩ = some (.slice none 0 0) := fun o => (R3.out.alloc o).read 1
    have s1 : ∀ o, (w3.alloc o).frozen? ⟨w.heap.size + 1, 1, none⟩ = false := fun o => (R3.out.alloc o).thawed 1
    have hn1 : ¬ (w3.heap.size = w.heap.size + 1) := by have := R3.out.inside; omega
    have hn2 : ¬ (w3.heap.size = w.heap.size + 1 + 1) := by have := F3.out.inside; omega
    have hn3 : ¬ (w.heap.size + 1 = q) := by omega
    have hn4 : ¬ (w.heap.size + 1 + 1 = q) := by omega
    have hn5 : ¬ (w3.heap.size = q) := by have := R3.out.inside; omega
    have hn6 : w.heap.size + 1 + 1 < w3.heap.size := F3.out.inside
    have t0 : ∀ o, (w3.alloc o).cell? ⟨w.heap.size + 1 + 1, 0, none⟩ = some (.int .i64 0) := fun o => (F3.out.alloc o).read 0
    have u0 : ∀ o, (w3.alloc o).frozen? ⟨w.heap.size + 1 + 1, 0, none⟩ = false := fun o => (F3.out.alloc o).thawed 0
    have t1 : ∀ o, (w3.alloc o).cell? ⟨w.heap.size + 1 + 1, 1, none⟩ = some (.int .i64 0) := fun o => (F3.out.alloc o).read 1
    have u1 : ∀ o, (w3.alloc o).frozen? ⟨w.heap.size + 1 + 1, 1, none⟩ = false := fun o => (F3.out.alloc o).thawed 1
    have t2 : ∀ o, (w3.alloc o).cell? ⟨w.heap.size + 1 + 1, 2, none⟩ = some (.int .i64 0) := fun o => (F3.out.alloc o).read 2
    have u2 : ∀ o, (w3.alloc o).frozen? ⟨w.heap.size + 1 + 1, 2, none⟩ = false := fun o => (F3.out.alloc o).thawed 2
    clear m3))
   go_region
   go_wp2
   have nb := Zb w3 (.cells #[.slice none 0 0, .slice none 0 0] 26)
   have p1 := put2 (R3.out.alloc (.cells #[.slice none 0 0, .slice none 0 0] 26)) (.slice none 0 0) (.slice none 0 0)
   have p2 := put3 (p1.keeps.whole (F3.out.alloc (.cells #[.slice none 0 0, .slice none 0 0] 26)) (by omega)) (.int .i64 f0) (.int .i64 (f1 : Int)) (.int .i64 (f2 : Int))
   have M9 := ((((M3.out.next nb).put p1 (by omega) qin cin rin).put p2 (by omega) qin cin rin).drew)
   exact Js 4 26 5 29 26 29 _ _ _ _ rfl (p2.keeps.whole p1.whole (by omega)).drew p2.whole.drew row_fi Zas row_fa Ur rfl rfl rfl ⟨rfl, M9⟩
set_option maxRecDepth 20000 in
set_option maxHeartbeats 6400000 in
theorem xfinE (w : World) (q c r K : Nat) (L : List TokV) (st : St) (a0 a1 a2 a3 a4 a5 a6 a7 a8 a9 a10 a11 : Value) (ho : ∀ v ∈ [a0, a1, a2, a3, a4, a5, a6, a7, a8, a9, a10, a11], v.oneCell' = true) (h : PAt w q c r K L st) :
   Calls Tryz.prog 96 #[.pointer (some ⟨q, 0, none⟩), .agg [a0, a1, a2, a3, a4, a5, a6, a7, a8, a9, a10, a11].toArray] w (Yb w q c r K L (Vz L st) (.tuple #[if (Vz L st).good = true then .agg [a0, a1, a2, a3, a4, a5, a6, a7, a8, a9, a10, a11].toArray else .agg [.int .i64 0, .int .i64 0, .int .i64 0, .int .i64 0, .int .i64 0, .int .i64 0, .slice none 0 0, .int .i64 0, .int .i64 0, .int .i64 0, .int .i64 0, .slice none 0 0].toArray, Zo (fltS (Vz L st))])) := by
 have qin := h.whole.inside
 have cin := h.cin
 have rin := h.rin
 have n1 := Zb w (.cells [a0, a1, a2, a3, a4, a5, a6, a7, a8, a9, a10, a11].toArray 51)
 have n2 := Zb (w.alloc (.cells [a0, a1, a2, a3, a4, a5, a6, a7, a8, a9, a10, a11].toArray 51)) (.cells #[.int .i64 0, .int .i64 0, .int .i64 0, .int .i64 0, .int .i64 0, .int .i64 0, .slice none 0 0, .int .i64 0, .int .i64 0, .int .i64 0, .int .i64 0, .slice none 0 0] 51)
 have n3 := Zb ((w.alloc (.cells [a0, a1, a2, a3, a4, a5, a6, a7, a8, a9, a10, a11].toArray 51)).alloc (.cells #[.int .i64 0, .int .i64 0, .int .i64 0, .int .i64 0, .int .i64 0, .int .i64 0, .slice none 0 0, .int .i64 0, .int .i64 0, .int .i64 0, .int .i64 0, .slice none 0 0] 51)) (.cells #[.int .i64 0, .int .i64 0, .int .i64 0] 29)
 have M0 := Hh ((((Yi.start h).next n1).next n2).next n3)
 have X0 := Hh (((Za.made w 51 [a0, a1, a2, a3, a4, a5, a6, a7, a8, a9, a10, a11].toArray).alloc (.cells #[.int .i64 0, .int .i64 0, .int .i64 0, .int .i64 0, .int .i64 0, .int .i64 0, .slice none 0 0, .int .i64 0, .int .i64 0, .int .i64 0, .int .i64 0, .slice none 0 0] 51)).alloc (.cells #[.int .i64 0, .int .i64 0, .int .i64 0] 29))
 have R0 := Hh (show Za (((w.alloc (.cells [a0, a1, a2, a3, a4, a5, a6, a7, a8, a9, a10, a11].toArray 51)).alloc (.cells #[.int .i64 0, .int .i64 0, .int .i64 0, .int .i64 0, .int .i64 0, .int .i64 0, .slice none 0 0, .int .i64 0, .int .i64 0, .int .i64 0, .int .i64 0, .slice none 0 0] 51)).alloc (.cells #[.int .i64 0, .int .i64 0, .int .i64 0] 29)) (w.heap.size + 1) 51 ([.int .i64 0, .int .i64 0, .int .i64 0, .int .i64 0, .int .i64 0, .int .i64 0, .slice none 0 0, .int .i64 0, .int .i64 0, .int .i64 0, .int .i64 0, .slice none 0 0]).toArray from by have e := (Za.made (w.alloc (.cells [a0, a1, a2, a3, a4, a5, a6, a7, a8, a9, a10, a11].toArray 51)) 51 #[.int .i64 0, .int .i64 0, .int .i64 0, .int .i64 0, .int .i64 0, .int .i64 0, .slice none 0 0, .int .i64 0, .int .i64 0, .int .i64 0, .int .i64 0, .slice none 0 0]).alloc (.cells #[.int .i64 0, .int .i64 0, .int .i64 0] 29); rw [World.size_alloc] at e; exact e)
 have F0 := Hh (show Za (((w.alloc (.cells [a0, a1, a2, a3, a4, a5, a6, a7, a8, a9, a10, a11].toArray 51)).alloc (.cells #[.int .i64 0, .int .i64 0, .int .i64 0, .int .i64 0, .int .i64 0, .int .i64 0, .slice none 0 0, .int .i64 0, .int .i64 0, .int .i64 0, .int .i64 0, .slice none 0 0] 51)).alloc (.cells #[.int .i64 0, .int .i64 0, .int .i64 0] 29)) (w.heap.size + 1 + 1) 29 ([.int .i64 0, .int .i64 0, .int .i64 0] : List Value).toArray from by have e := Za.made ((w.alloc (.cells [a0, a1, a2, a3, a4, a5, a6, a7, a8, a9, a10, a11].toArray 51)).alloc (.cells #[.int .i64 0, .int .i64 0, .int .i64 0, .int .i64 0, .int .i64 0, .int .i64 0, .slice none 0 0, .int .i64 0, .int .i64 0, .int .i64 0, .int .i64 0, .slice none 0 0] 51)) 29 #[.int .i64 0, .int .i64 0, .int .i64 0]; rw [World.size_alloc, World.size_alloc] at e; exact e)
 clear n1 n2 n3
 have hcell := M0.out.at_.cell
 have hend := over_end L st
 have hnot := over_not L st
 have hwr : ∀ w, PAt w q c r K L st → Calls Tryz.prog 135 #[Wg c st] w fun e w' => e = .returned (Zo (wrongV L st)) ∧ Below w.heap.size w w' := fun w h => xWrong w q c r K L st h
 have hwn := wrong_note L st
 have hpk : ∀ w, PAt w q c r K L st → Calls Tryz.prog 133 #[Wg c st] w fun e w' => e = .returned (Ue (st.tok L)) ∧ Below w.heap.size w w' := fun w h => xPeek w q c r K L st h
 have hflt := h.flt
 generalize st.tok L = tv at *
 unfold Ue at hpk
 have hfd := fun w => tok_field tv.k tv.n (tv.line : Int) (tv.col : Int) tv.t w
 clear h
 by_cases hk : tv.k = 0
 · rw [hend hk]
   have k0 : (tv.k != 0) = false := by rw [hk]; rfl
   clear hend hnot hwn hwr hk
   cases st with
   | ok a d =>
     show Calls _ _ _ _ (Yb w q c r K L (.ok a d) (.tuple #[.agg [a0, a1, a2, a3, a4, a5, a6, a7, a8, a9, a10, a11].toArray, Zo okF]))
     clear hflt
     go_enter Tryz.func96, Tryz.ntmps96
     go_wp2_with (first
 | (go_at_call 133; refine (hpk _ M0.out.at_).mono ?_; rintro e w1 ⟨rfl, b1⟩
    have X1 := Hh (X0.out.below b1 X0.out.inside)
    have R1 := Hh (R0.out.below b1 R0.out.inside)
    have F1 := Hh (F0.out.below b1 F0.out.inside)
    have M1 := Hh (M0.out.next b1)
    have hcell := M1.out.at_.cell
    have q1 : w1.cell? ⟨q, 1, none⟩ = some (.int .i64 0) := M1.out.at_.whole.read 1
    clear b1)
 | ((with_reducible refine Zi 32 ?_); refine Zf 51 _ 51 w.heap.size _ X1.out Xp Wa rfl rfl rfl ?_)
 | ((with_reducible refine Zu 4 32 ?_); refine Ze 51 _ _ 51 (w.heap.size + 1) _ [a0, a1, a2, a3, a4, a5, a6, a7, a8, a9, a10, a11] R1.out rfl Wa ho rfl rfl rfl rfl rfl ?_
    intro w2 p2
    have R2 := Hh p2.whole
    have F2 := Hh (p2.keeps.whole F1.out (by omega))
    have M2 := Hh (M1.out.put p2 (by omega) qin cin rin); clear p2)
 | ((with_reducible refine Zu 5 33 ?_); refine Ze 29 _ _ 29 (w.heap.size + 1 + 1) _ [.int .i64 0, .int .i64 0, .int .i64 0] F2.out rfl Ur (by simp [Value.oneCell']) rfl rfl rfl rfl rfl ?_
    intro w3 p3
    have F3 := Hh p3.whole
    have R3 := Hh (p3.keeps.whole R2.out (by omega))
    have M3 := Hh (M2.out.put p3 (by omega) qin cin rin); clear p3))
     exact Js 4 51 5 29 51 29 _ _ _ _ rfl R3.out F3.out Xp Wa row_fa Ur rfl rfl rfl ⟨rfl, M3.out⟩
   | bad F =>
     show Calls _ _ _ _ (Yb w q c r K L (.bad F) (.tuple #[.agg [.int .i64 0, .int .i64 0, .int .i64 0, .int .i64 0, .int .i64 0, .int .i64 0, .slice none 0 0, .int .i64 0, .int .i64 0, .int .i64 0, .int .i64 0, .slice none 0 0].toArray, Zo F]))
     obtain ⟨f0, f1, f2⟩ := F
     have hf0 := hflt _ rfl
     have z0 : (f0 != 0) = true := by rw [bne_iff_ne]; exact hf0
     clear hflt hf0
     go_enter Tryz.func96, Tryz.ntmps96
     go_wp2_with (first
 | (go_at_call 133; refine (hpk _ M0.out.at_).mono ?_; rintro e w1 ⟨rfl, b1⟩
    have X1 := Hh (X0.out.below b1 X0.out.inside)
    have R1 := Hh (R0.out.below b1 R0.out.inside)
    have F1 := Hh (F0.out.below b1 F0.out.inside)
    have M1 := Hh (M0.out.next b1)
    have hcell := M1.out.at_.cell
    have q1 : ∀ o, (w1.alloc o).cell? ⟨q, 1, none⟩ = some (.int .i64 f0) := fun o => (M1.out.at_.whole.alloc o).read 1
    have q2 : ∀ o, (w1.alloc o).cell? ⟨q, 2, none⟩ = some (.int .i64 (f1 : Int)) := fun o => (M1.out.at_.whole.alloc o).read 2
    have q3 : ∀ o, (w1.alloc o).cell? ⟨q, 3, none⟩ = some (.int .i64 (f2 : Int)) := fun o => (M1.out.at_.whole.alloc o).read 3
    have q0 : w1.cell? ⟨q, 1, none⟩ = some (.int .i64 f0) := M1.out.at_.whole.read 1
    have r0 : ∀ o, (w1.alloc o).cell? ⟨w.heap.size + 1, 0, none⟩ = some (.int .i64 0) := fun o => (R1.out.alloc o).read 0
    have s0 : ∀ o, (w1.alloc o).frozen? ⟨w.heap.size + 1, 0, none⟩ = false := fun o => (R1.out.alloc o).thawed 0
    have r1 : ∀ o, (w1.alloc o).cell? ⟨w.heap.size + 1, 1, none⟩ = some (.int .i64 0) := fun o => (R1.out.alloc o).read 1
    have s1 : ∀ o, (w1.alloc o).frozen? ⟨w.heap.size + 1, 1, none⟩ = false := fun o => (R1.out.alloc o).thawed 1
    have r2 : ∀ o, (w1.alloc o).cell? ⟨w.heap.size + 1, 2, none⟩ = some (.int .i64 0) := fun o => (R1.out.alloc o).read 2
    have s2 : ∀ o, (w1.alloc o).frozen? ⟨w.heap.size + 1, 2, none⟩ = false := fun o => (R1.out.alloc o).thawed 2
    have r3 : ∀ o, (w1.alloc o).cell? ⟨w.heap.size + 1, 3, none⟩ = some (.int .i64 0) := fun o => (R1.out.alloc o).read 3
    have s3 : ∀ o, (w1.alloc o).frozen? ⟨w.heap.size + 1, 3, none⟩ = false := fun o => (R1.out.alloc o).thawed 3
    have r4 : ∀ o, (w1.alloc o).cell? ⟨w.heap.size + 1, 4, none⟩ = some (.int .i64 0) := fun o => (R1.out.alloc o).read 4
    have s4 : ∀ o, (w1.alloc o).frozen? ⟨w.heap.size + 1, 4, none⟩ = false := fun o => (R1.out.alloc o).thawed 4
    have r5 : ∀ o, (w1.alloc o).cell? ⟨w.heap.size + 1, 5, none⟩ = some (.int .i64 0) := fun o => (R1.out.alloc o).read 5
    have s5 : ∀ o, (w1.alloc o).frozen? ⟨w.heap.size + 1, 5, none⟩ = false := fun o => (R1.out.alloc o).thawed 5
    have r6 : ∀ o, (w1.alloc o).cell? ⟨w.heap.size + 1, 6, none⟩ = some (.slice none 0 0) := fun o => (R1.out.alloc o).read 6
    have s6 : ∀ o, (w1.alloc o).frozen? ⟨w.heap.size + 1, 6, none⟩ = false := fun o => (R1.out.alloc o).thawed 6
    have r7 : ∀ o, (w1.alloc o).cell? ⟨w.heap.size + 1, 7, none⟩ = some (.int .i64 0) := fun o => (R1.out.alloc o).read 7
    have s7 : ∀ o, (w1.alloc o).frozen? ⟨w.heap.size + 1, 7, none⟩ = false := fun o => (R1.out.alloc o).thawed 7
    have r8 : ∀ o, (w1.alloc o).cell? ⟨w.heap.size + 1, 8, none⟩ = some (.int .i64 0) := fun o => (R1.out.alloc o).read 8
    have s8 : ∀ o, (w1.alloc o).frozen? ⟨w.heap.size + 1, 8, none⟩ = false := fun o => (R1.out.alloc o).thawed 8
    have r9 : ∀ o, (w1.alloc o).cell? ⟨w.heap.size + 1, 9, none⟩ = some (.int .i64 0) := fun o => (R1.out.alloc o).read 9
    have s9 : ∀ o, (w1.alloc o).frozen? ⟨w.heap.size + 1, 9, none⟩ = false := fun o => (R1.out.alloc o).thawed 9
    have r10 : ∀ o, (w1.alloc o).cell? ⟨w.heap.size + 1, 10, none⟩ = some (.int .i64 0) := fun o => (R1.out.alloc o).read 10
    have s10 : ∀ o, (w1.alloc o).frozen? ⟨w.heap.size + 1, 10, none⟩ = false := fun o => (R1.out.alloc o).thawed 10
    have r11 : ∀ o, (w1.alloc o).cell? ⟨w.heap.size + 1, 11, none⟩ = some (.slice none 0 0) := fun o => (R1.out.alloc o).read 11
    have s11 : ∀ o, (w1.alloc o).frozen? ⟨w.heap.size + 1, 11, none⟩ = false := fun o => (R1.out.alloc o).thawed 11
    have hn1 : ¬ (w1.heap.size = w.heap.size + 1) := by have := R1.out.inside; omega
    have hn2 : ¬ (w1.heap.size = w.heap.size + 1 + 1) := by have := F1.out.inside; omega
    have hn3 : ¬ (w.heap.size + 1 = q) := by omega
    have hn4 : ¬ (w.heap.size + 1 + 1 = q) := by omega
    have hn5 : ¬ (w1.heap.size = q) := by have := R1.out.inside; omega
    have hn6 : w.heap.size + 1 + 1 < w1.heap.size := F1.out.inside
    have t0 : ∀ o, (w1.alloc o).cell? ⟨w.heap.size + 1 + 1, 0, none⟩ = some (.int .i64 0) := fun o => (F1.out.alloc o).read 0
    have u0 : ∀ o, (w1.alloc o).frozen? ⟨w.heap.size + 1 + 1, 0, none⟩ = false := fun o => (F1.out.alloc o).thawed 0
    have t1 : ∀ o, (w1.alloc o).cell? ⟨w.heap.size + 1 + 1, 1, none⟩ = some (.int .i64 0) := fun o => (F1.out.alloc o).read 1
    have u1 : ∀ o, (w1.alloc o).frozen? ⟨w.heap.size + 1 + 1, 1, none⟩ = false := fun o => (F1.out.alloc o).thawed 1
    have t2 : ∀ o, (w1.alloc o).cell? ⟨w.heap.size + 1 + 1, 2, none⟩ = some (.int .i64 0) := fun o => (F1.out.alloc o).read 2
    have u2 : ∀ o, (w1.alloc o).frozen? ⟨w.heap.size + 1 + 1, 2, none⟩ = false := fun o => (F1.out.alloc o).thawed 2
    clear b1))
     go_region
     go_wp2
     have nb := Zb w1 (.cells #[.int .i64 0, .int .i64 0, .int .i64 0, .int .i64 0, .int .i64 0, .int .i64 0, .slice none 0 0, .int .i64 0, .int .i64 0, .int .i64 0, .int .i64 0, .slice none 0 0] 51)
     have p1 := Za.set12 (R1.out.alloc (.cells #[.int .i64 0, .int .i64 0, .int .i64 0, .int .i64 0, .int .i64 0, .int .i64 0, .slice none 0 0, .int .i64 0, .int .i64 0, .int .i64 0, .int .i64 0, .slice none 0 0] 51)) rfl (.int .i64 0) (.int .i64 0) (.int .i64 0) (.int .i64 0) (.int .i64 0) (.int .i64 0) (.slice none 0 0) (.int .i64 0) (.int .i64 0) (.int .i64 0) (.int .i64 0) (.slice none 0 0)
     have p2 := put3 (p1.keeps.whole (F1.out.alloc (.cells #[.int .i64 0, .int .i64 0, .int .i64 0, .int .i64 0, .int .i64 0, .int .i64 0, .slice none 0 0, .int .i64 0, .int .i64 0, .int .i64 0, .int .i64 0, .slice none 0 0] 51)) (by omega)) (.int .i64 f0) (.int .i64 (f1 : Int)) (.int .i64 (f2 : Int))
     have M9 := ((((M1.out.next nb).put p1 (by omega) qin cin rin).put p2 (by omega) qin cin rin).drew)
     exact Js 4 51 5 29 51 29 _ _ _ _ rfl (p2.keeps.whole p1.whole (by omega)).drew p2.whole.drew Xp Wa row_fa Ur rfl rfl rfl ⟨rfl, M9⟩
 · obtain ⟨e1, F, e2, hf0⟩ := hnot hk
   have k0 : (tv.k != 0) = true := by rw [bne_iff_ne]; exact hk
   have hnt : ∀ w, PAt w q c r K L st → Calls Tryz.prog 134 #[.pointer (some ⟨q, 0, none⟩), Zo (wrongV L st)] w (Yb w q c r K L (.bad F) (.tuple #[])) := fun w h => by have h1 := xNote w q c r K L st (wrongV L st) h; rw [hwn, ← e1, e2] at h1; exact h1
   rw [e2]
   show Calls _ _ _ _ (Yb w q c r K L (.bad F) (.tuple #[.agg [.int .i64 0, .int .i64 0, .int .i64 0, .int .i64 0, .int .i64 0, .int .i64 0, .slice none 0 0, .int .i64 0, .int .i64 0, .int .i64 0, .int .i64 0, .slice none 0 0].toArray, Zo F]))
   generalize wrongV L st = wv at *
   obtain ⟨f0, f1, f2⟩ := F
   have z0 : (f0 != 0) = true := by rw [bne_iff_ne]; exact hf0
   clear hend hnot hwn hk e1 e2 hf0 hflt
   go_enter Tryz.func96, Tryz.ntmps96
   go_wp2_with (first
 | (go_at_call 133; refine (hpk _ M0.out.at_).mono ?_; rintro e w1 ⟨rfl, b1⟩
    have X1 := Hh (X0.out.below b1 X0.out.inside)
    have R1 := Hh (R0.out.below b1 R0.out.inside)
    have F1 := Hh (F0.out.below b1 F0.out.inside)
    have M1 := Hh (M0.out.next b1)
    have hcell := M1.out.at_.cell
    clear b1)
 | (go_at_call 135; refine (hwr _ M1.out.at_).mono ?_; rintro e w2 ⟨rfl, b2⟩
    have X2 := Hh (X1.out.below b2 X1.out.inside)
    have R2 := Hh (R1.out.below b2 R1.out.inside)
    have F2 := Hh (F1.out.below b2 F1.out.inside)
    have M2 := Hh (M1.out.next b2); clear b2)
 | (go_at_call 134; refine (hnt _ M2.out.at_).mono ?_; rintro e w3 ⟨rfl, m3⟩
    have X3 := Hh (m3.keeps.whole X2.out (by omega))
    have R3 := Hh (m3.keeps.whole R2.out (by omega))
    have F3 := Hh (m3.keeps.whole F2.out (by omega))
    have M3 := Hh (M2.out.then m3)
    have q1 : ∀ o, (w3.alloc o).cell? ⟨q, 1, none⟩ = some (.int .i64 f0) := fun o => (M3.out.at_.whole.alloc o).read 1
    have q2 : ∀ o, (w3.alloc o).cell? ⟨q, 2, none⟩ = some (.int .i64 (f1 : Int)) := fun o => (M3.out.at_.whole.alloc o).read 2
    have q3 : ∀ o, (w3.alloc o).cell? ⟨q, 3, none⟩ = some (.int .i64 (f2 : Int)) := fun o => (M3.out.at_.whole.alloc o).read 3
    have q0 : w3.cell? ⟨q, 1, none⟩ = some (.int .i64 f0) := M3.out.at_.whole.read 1
    have r0 : ∀ o, (w3.alloc o).cell? ⟨w.heap.size + 1, 0, none⟩ = some (.int .i64 0) := fun o => (R3.out.alloc o).read 0
    have s0 : ∀ o, (w3.alloc o).frozen? ⟨w.heap.size + 1, 0, none⟩ = false := fun o => (R3.out.alloc o).thawed 0
    have r1 : ∀ o, (w3.alloc o).cell? ⟨w.heap.size + 1, 1, none⟩ = some (.int .i64 0) := fun o => (R3.out.alloc o).read 1
    have s1 : ∀ o, (w3.alloc o).frozen? ⟨w.heap.size + 1, 1, none⟩ = false := fun o => (R3.out.alloc o).thawed 1
    have r2 : ∀ o, (w3.alloc o).cell? ⟨w.heap.size + 1, 2, none⟩ = some (.int .i64 0) := fun o => (R3.out.alloc o).read 2
    have s2 : ∀ o, (w3.alloc o).frozen? ⟨w.heap.size + 1, 2, none⟩ = false := fun o => (R3.out.alloc o).thawed 2
    have r3 : ∀ o, (w3.alloc o).cell? ⟨w.heap.size + 1, 3, none⟩ = some (.int .i64 0) := fun o => (R3.out.alloc o).read 3
    have s3 : ∀ o, (w3.alloc o).frozen? ⟨w.heap.size + 1, 3, none⟩ = false := fun o => (R3.out.alloc o).thawed 3
    have r4 : ∀ o, (w3.alloc o).cell? ⟨w.heap.size + 1, 4, none⟩ = some (.int .i64 0) := fun o => (R3.out.alloc o).read 4
    have s4 : ∀ o, (w3.alloc o).frozen? ⟨w.heap.size + 1, 4, none⟩ = false := fun o => (R3.out.alloc o).thawed 4
    have r5 : ∀ o, (w3.alloc o).cell? ⟨w.heap.size + 1, 5, none⟩ = some (.int .i64 0) := fun o => (R3.out.alloc o).read 5
    have s5 : ∀ o, (w3.alloc o).frozen? ⟨w.heap.size + 1, 5, none⟩ = false := fun o => (R3.out.alloc o).thawed 5
    have r6 : ∀ o, (w3.alloc o).cell? ⟨w.heap.size + 1, 6, none⟩ = some (.slice none 0 0) := fun o => (R3.out.alloc o).read 6
    have s6 : ∀ o, (w3.alloc o).frozen? ⟨w.heap.size + 1, 6, none⟩ = false := fun o => (R3.out.alloc o).thawed 6
    have r7 : ∀ o, (w3.alloc o).cell? ⟨w.heap.size + 1, 7, none⟩ = some (.int .i64 0) := fun o => (R3.out.alloc o).read 7
    have s7 : ∀ o, (w3.alloc o).frozen? ⟨w.heap.size + 1, 7, none⟩ = false := fun o => (R3.out.alloc o).thawed 7
    have r8 : ∀ o, (w3.alloc o).cell? ⟨w.heap.size + 1, 8, none⟩ = some (.int .i64 0) := fun o => (R3.out.alloc o).read 8
    have s8 : ∀ o, (w3.alloc o).frozen? ⟨w.heap.size + 1, 8, none⟩ = false := fun o => (R3.out.alloc o).thawed 8
    have r9 : ∀ o, (w3.alloc o).cell? ⟨w.heap.size + 1, 9, none⟩ = some (.int .i64 0) := fun o => (R3.out.alloc o).read 9
    have s9 : ∀ o, (w3.alloc o).frozen? ⟨w.heap.size + 1, 9, none⟩ = false := fun o => (R3.out.alloc o).thawed 9
    have r10 : ∀ o, (w3.alloc o).cell? ⟨w.heap.size + 1, 10, none⟩ = some (.int .i64 0) := fun o => (R3.out.alloc o).read 10
    have s10 : ∀ o, (w3.alloc o).frozen? ⟨w.heap.size + 1, 10, none⟩ = false := fun o => (R3.out.alloc o).thawed 10
    have r11 : ∀ o, (w3.alloc o).cell? ⟨w.heap.size + 1, 11, none⟩ = some (.slice none 0 0) := fun o => (R3.out.alloc o).read 11
    have s11 : ∀ o, (w3.alloc o).frozen? ⟨w.heap.size + 1, 11, none⟩ = false := fun o => (R3.out.alloc o).thawed 11
    have hn1 : ¬ (w3.heap.size = w.heap.size + 1) := by have := R3.out.inside; omega
    have hn2 : ¬ (w3.heap.size = w.heap.size + 1 + 1) := by have := F3.out.inside; omega
    have hn3 : ¬ (w.heap.size + 1 = q) := by omega
    have hn4 : ¬ (w.heap.size + 1 + 1 = q) := by omega
    have hn5 : ¬ (w3.heap.size = q) := by have := R3.out.inside; omega
    have hn6 : w.heap.size + 1 + 1 < w3.heap.size := F3.out.inside
    have t0 : ∀ o, (w3.alloc o).cell? ⟨w.heap.size + 1 + 1, 0, none⟩ = some (.int .i64 0) := fun o => (F3.out.alloc o).read 0
    have u0 : ∀ o, (w3.alloc o).frozen? ⟨w.heap.size + 1 + 1, 0, none⟩ = false := fun o => (F3.out.alloc o).thawed 0
    have t1 : ∀ o, (w3.alloc o).cell? ⟨w.heap.size + 1 + 1, 1, none⟩ = some (.int .i64 0) := fun o => (F3.out.alloc o).read 1
    have u1 : ∀ o, (w3.alloc o).frozen? ⟨w.heap.size + 1 + 1, 1, none⟩ = false := fun o => (F3.out.alloc o).thawed 1
    have t2 : ∀ o, (w3.alloc o).cell? ⟨w.heap.size + 1 + 1, 2, none⟩ = some (.int .i64 0) := fun o => (F3.out.alloc o).read 2
    have u2 : ∀ o, (w3.alloc o).frozen? ⟨w.heap.size + 1 + 1, 2, none⟩ = false := fun o => (F3.out.alloc o).thawed 2
    clear m3))
   go_region
   go_wp2
   have nb := Zb w3 (.cells #[.int .i64 0, .int .i64 0, .int .i64 0, .int .i64 0, .int .i64 0, .int .i64 0, .slice none 0 0, .int .i64 0, .int .i64 0, .int .i64 0, .int .i64 0, .slice none 0 0] 51)
   have p1 := Za.set12 (R3.out.alloc (.cells #[.int .i64 0, .int .i64 0, .int .i64 0, .int .i64 0, .int .i64 0, .int .i64 0, .slice none 0 0, .int .i64 0, .int .i64 0, .int .i64 0, .int .i64 0, .slice none 0 0] 51)) rfl (.int .i64 0) (.int .i64 0) (.int .i64 0) (.int .i64 0) (.int .i64 0) (.int .i64 0) (.slice none 0 0) (.int .i64 0) (.int .i64 0) (.int .i64 0) (.int .i64 0) (.slice none 0 0)
   have p2 := put3 (p1.keeps.whole (F3.out.alloc (.cells #[.int .i64 0, .int .i64 0, .int .i64 0, .int .i64 0, .int .i64 0, .int .i64 0, .slice none 0 0, .int .i64 0, .int .i64 0, .int .i64 0, .int .i64 0, .slice none 0 0] 51)) (by omega)) (.int .i64 f0) (.int .i64 (f1 : Int)) (.int .i64 (f2 : Int))
   have M9 := ((((M3.out.next nb).put p1 (by omega) qin cin rin).put p2 (by omega) qin cin rin).drew)
   exact Js 4 51 5 29 51 29 _ _ _ _ rfl (p2.keeps.whole p1.whole (by omega)).drew p2.whole.drew Xp Wa row_fa Ur rfl rfl rfl ⟨rfl, M9⟩
def fileO (nk : Int) (s : ByteArray) : Fi × St := Wm nk (Vy s) (textN s) (Zag s)
def parseF (nk : Int) (s : ByteArray) : Fi × (Int × Nat × Nat) := (if (Vz (Vy s) (fileO nk s).2).good = true then (fileO nk s).1 else ⟨[], []⟩, fltS (Vz (Vy s) (fileO nk s).2))
def exprO (nk : Int) (s : ByteArray) : Ex × St := Yg nk (Vy s) (textN s) (Zag s)
def exprP (nk : Int) (s : ByteArray) : Ex × (Int × Nat × Nat) := (if (Vz (Vy s) (exprO nk s).2).good = true then (exprO nk s).1 else zEx, fltS (Vz (Vy s) (exprO nk s).2))
theorem text_rem (s : ByteArray) : Zs (Vy s) (Zag s) ≤ (Vy s).length := by
 unfold Zag
 split
 · exact Nat.sub_le _ _
 · exact Nat.zero_le _
theorem text_len (s : ByteArray) (h : s.size ≤ 65536) : (Vy s).length ≤ 65537 := by
 unfold Vy
 rcases text_cases s h with ⟨E, l, c, hv, _⟩ | ⟨L, hv, _, hl⟩
 · rw [hv]; exact Nat.zero_le _
 · rw [hv]; show L.length ≤ 65537; omega
def TopPost (w : World) (ds : Ds) (F : Int × Nat × Nat) (e : Ending) (w' : World) : Prop :=
 ∃ vs : List Value, e = .returned (.tuple #[.agg vs.toArray, Zo F]) ∧ Zg (fun k => w.heap.size ≤ k) w' ds vs ∧ Below w.heap.size w w'
theorem Zad {B : Nat} {w x y : World} {q c r K : Nat} {L : List TokV} {st : St} (h : Below B w x) (m : Yi x y q c r K L st) (hq : B ≤ q) (hc : B ≤ c) (hx : B ≤ x.heap.size) : Below B w y :=
 h.trans (m.keeps.below hx fun k hk => by omega)
theorem Zbc {B : Nat} {w x y : World} {g : Nat} {t : TypeId} {vs : List Value} (h : Below B w x) (p : Put x y g t vs) (hg : B ≤ g) (hx : B ≤ x.heap.size) : Below B w y :=
 h.trans (p.keeps.below hx fun k hk => by omega)
theorem two_vals : ∀ (vs : List Value), vs.length = 2 → ∃ a b, vs = [a, b]
 | [a, b], _ => ⟨a, b, rfl⟩
theorem bthen2 {B : Nat} {w x y : World} (h : Below B w x) (k : Below x.heap.size x y) (hB : B ≤ x.heap.size) : Below B w y := h.trans (k.mono hB)
set_option maxRecDepth 20000 in
set_option maxHeartbeats 3200000 in
theorem xParse (s : ByteArray) (w : World) (hs : s.size ≤ 65536) : Calls Tryz.prog 30 #[.string s] w (TopPost w (parseF 5 s).1.ds (parseF 5 s).2) := by
 have hr := text_rem s
 have hl := text_len s hs
 have hbe : ∀ w, Calls Tryz.prog 83 #[.string s] w (BeginPost w s) := fun w => xbegin s w hs
 have hsub : ∀ w q c r K, PAt w q c r K (Vy s) (Zag s) → Calls Tryz.prog 85 #[.pointer (some ⟨q, 0, none⟩)] w (Yh w q c r K (Vy s) (fileO 5 s).2 (fileO 5 s).1.ds) := fun w q c r K h => by
   have hN : textN s = 8 * (Vy s).length + 20 := rfl
   exact xfile (textN s) w q c r K _ _ h (by omega) (by omega)
 unfold BeginPost at hbe
 unfold parseF
 generalize fileO 5 s = o at *
 generalize Vy s = L at *
 generalize Zag s = st at *
 clear hr hl hs
 have n1 := Zb w (.cells #[.slice none 0 0, .slice none 0 0] 26)
 have n2 := Zb (w.alloc (.cells #[.slice none 0 0, .slice none 0 0] 26)) (.cells #[.int .i64 0, .int .i64 0, .int .i64 0] 29)
 have R0 := Hh ((show Za _ w.heap.size 26 ([.slice none 0 0, .slice none 0 0]).toArray from Za.made w 26 #[.slice none 0 0, .slice none 0 0]).alloc (.cells #[.int .i64 0, .int .i64 0, .int .i64 0] 29))
 have F0 := Hh (show Za ((w.alloc (.cells #[.slice none 0 0, .slice none 0 0] 26)).alloc (.cells #[.int .i64 0, .int .i64 0, .int .i64 0] 29)) (w.heap.size + 1) 29 ([.int .i64 0, .int .i64 0, .int .i64 0] : List Value).toArray from by have e := Za.made (w.alloc (.cells #[.slice none 0 0, .slice none 0 0] 26)) 29 #[.int .i64 0, .int .i64 0, .int .i64 0]; rw [World.size_alloc] at e; exact e)
 have B0 := Hh (Je n1 n2)
 have hz0 : ((w.alloc (.cells #[.slice none 0 0, .slice none 0 0] 26)).alloc (.cells #[.int .i64 0, .int .i64 0, .int .i64 0] 29)).heap.size = w.heap.size + 2 := by simp
 cases hg : (Vz L o.2).good
 · rw [if_neg (by decide)]
   go_enter Tryz.func30, Tryz.ntmps30
   go_wp2_with (first
 | (go_at_call 83; refine (hbe _).mono ?_; rintro e w1 ⟨q, c, r, K, rfl, hp, hq, hc, b1⟩
    rw [hz0] at hq hc
    have hz1 : w.heap.size + 2 ≤ w1.heap.size := by have := b1.size; rw [hz0] at this; exact this
    have R1 := Hh (R0.out.below b1 R0.out.inside)
    have F1 := Hh (F0.out.below b1 F0.out.inside)
    have B1 := Hh (bthen2 B0.out b1 (by rw [hz0]; omega))
    have hq2 := hp.whole.inside
    have hc2 := hp.cin
    have P1 := Hh hp
    clear hp b1)
 | (go_at_call 85; refine (hsub _ q c r K P1.out).mono ?_; rintro e w2 ⟨vs, rfl, d2, m2⟩
    obtain ⟨va, vb, rfl⟩ := two_vals vs d2.len
    have R2 := Hh (m2.keeps.whole R1.out (by omega))
    have F2 := Hh (m2.keeps.whole F1.out (by omega))
    have B2 := Hh (Zad B1.out m2 (by omega) (by omega) (by omega))
    have P2 := Hh m2.at_
    have hz2 : w1.heap.size ≤ w2.heap.size := m2.keeps.size
    have D2 := Hh d2
    clear m2 d2)
 | (go_at_call 84; refine (xfinF _ q c r K L o.2 va vb D2.out.one P2.out).mono ?_; rintro e w3 ⟨e3, m3⟩
    rw [hg] at e3
    rw [if_neg (by decide)] at e3
    obtain rfl := e3
    have R3 := Hh (m3.keeps.whole R2.out (by omega))
    have F3 := Hh (m3.keeps.whole F2.out (by omega))
    have B3 := Hh (Zad B2.out m3 (by omega) (by omega) (by omega))
    have hz3 : w2.heap.size ≤ w3.heap.size := m3.keeps.size
    have D3 := Hh (D2.out.move m3 hq2 hc2)
    simp only [Zo]
    clear m3)
 | ((with_reducible refine Zu 2 11 ?_); refine Ze 26 _ _ 26 w.heap.size _ [.slice none 0 0, .slice none 0 0] R3.out rfl Zas (by simp [Value.oneCell']) rfl rfl rfl rfl rfl ?_
    intro w4 p4
    have R4 := Hh p4.whole
    have F4 := Hh (p4.keeps.whole F3.out (by omega))
    have B4 := Hh (Zbc B3.out p4 (Nat.le_refl _) (by omega))
    have D4 := Hh (D3.out.put p4 (by omega))
    have hz4 : w3.heap.size ≤ w4.heap.size := p4.keeps.size
    clear p4)
 | ((with_reducible refine Zu 3 12 ?_); refine Ze 29 _ _ 29 (w.heap.size + 1) _ [.int .i64 (fltS (Vz L o.2)).1, .int .i64 ((fltS (Vz L o.2)).2.1 : Int), .int .i64 ((fltS (Vz L o.2)).2.2 : Int)] F4.out rfl Ur (by simp [Value.oneCell']) rfl rfl rfl rfl rfl ?_
    intro w5 p5
    have F5 := Hh p5.whole
    have R5 := Hh (p5.keeps.whole R4.out (by omega))
    have B5 := Hh (Zbc B4.out p5 (by omega) (by omega))
    have D5 := Hh (D4.out.put p5 (by omega))
    clear p5))
   exact Js 2 26 3 29 26 29 _ _ _ _ rfl R5.out F5.out row_fi Zas row_fa Ur rfl rfl rfl ⟨_, rfl, (show Zg _ _ (Fi.mk [] []).ds _ from ⟨none, 0, [], _, rfl, Nat.zero_le _, .inl rfl, rfl, none, 0, [], _, rfl, Nat.zero_le _, .inl rfl, rfl, rfl⟩), B5.out⟩
 · rw [if_pos rfl]
   go_enter Tryz.func30, Tryz.ntmps30
   go_wp2_with (first
 | (go_at_call 83; refine (hbe _).mono ?_; rintro e w1 ⟨q, c, r, K, rfl, hp, hq, hc, b1⟩
    rw [hz0] at hq hc
    have hz1 : w.heap.size + 2 ≤ w1.heap.size := by have := b1.size; rw [hz0] at this; exact this
    have R1 := Hh (R0.out.below b1 R0.out.inside)
    have F1 := Hh (F0.out.below b1 F0.out.inside)
    have B1 := Hh (bthen2 B0.out b1 (by rw [hz0]; omega))
    have hq2 := hp.whole.inside
    have hc2 := hp.cin
    have P1 := Hh hp
    clear hp b1)
 | (go_at_call 85; refine (hsub _ q c r K P1.out).mono ?_; rintro e w2 ⟨vs, rfl, d2, m2⟩
    obtain ⟨va, vb, rfl⟩ := two_vals vs d2.len
    have R2 := Hh (m2.keeps.whole R1.out (by omega))
    have F2 := Hh (m2.keeps.whole F1.out (by omega))
    have B2 := Hh (Zad B1.out m2 (by omega) (by omega) (by omega))
    have P2 := Hh m2.at_
    have hz2 : w1.heap.size ≤ w2.heap.size := m2.keeps.size
    have D2 := Hh d2
    clear m2 d2)
 | (go_at_call 84; refine (xfinF _ q c r K L o.2 va vb D2.out.one P2.out).mono ?_; rintro e w3 ⟨e3, m3⟩
    rw [hg] at e3
    rw [if_pos rfl] at e3
    obtain rfl := e3
    have R3 := Hh (m3.keeps.whole R2.out (by omega))
    have F3 := Hh (m3.keeps.whole F2.out (by omega))
    have B3 := Hh (Zad B2.out m3 (by omega) (by omega) (by omega))
    have hz3 : w2.heap.size ≤ w3.heap.size := m3.keeps.size
    have D3 := Hh (D2.out.move m3 hq2 hc2)
    simp only [Zo]
    clear m3)
 | ((with_reducible refine Zu 2 11 ?_); refine Ze 26 _ _ 26 w.heap.size _ [va, vb] R3.out rfl Zas D2.out.one rfl rfl rfl rfl rfl ?_
    intro w4 p4
    have R4 := Hh p4.whole
    have F4 := Hh (p4.keeps.whole F3.out (by omega))
    have B4 := Hh (Zbc B3.out p4 (Nat.le_refl _) (by omega))
    have D4 := Hh (D3.out.put p4 (by omega))
    have hz4 : w3.heap.size ≤ w4.heap.size := p4.keeps.size
    clear p4)
 | ((with_reducible refine Zu 3 12 ?_); refine Ze 29 _ _ 29 (w.heap.size + 1) _ [.int .i64 (fltS (Vz L o.2)).1, .int .i64 ((fltS (Vz L o.2)).2.1 : Int), .int .i64 ((fltS (Vz L o.2)).2.2 : Int)] F4.out rfl Ur (by simp [Value.oneCell']) rfl rfl rfl rfl rfl ?_
    intro w5 p5
    have F5 := Hh p5.whole
    have R5 := Hh (p5.keeps.whole R4.out (by omega))
    have B5 := Hh (Zbc B4.out p5 (by omega) (by omega))
    have D5 := Hh (D4.out.put p5 (by omega))
    clear p5))
   exact Js 2 26 3 29 26 29 _ _ _ _ rfl R5.out F5.out row_fi Zas row_fa Ur rfl rfl rfl ⟨_, rfl, (D5.out.lower (by omega)), B5.out⟩
set_option maxRecDepth 20000 in
set_option maxHeartbeats 3200000 in
theorem xExpr (s : ByteArray) (w : World) (hs : s.size ≤ 65536) : Calls Tryz.prog 44 #[.string s] w (TopPost w (exprP 5 s).1.ds (exprP 5 s).2) := by
 have hr := text_rem s
 have hl := text_len s hs
 have hbe : ∀ w, Calls Tryz.prog 83 #[.string s] w (BeginPost w s) := fun w => xbegin s w hs
 have hsub : ∀ w q c r K, PAt w q c r K (Vy s) (Zag s) → Calls Tryz.prog 97 #[.pointer (some ⟨q, 0, none⟩)] w (Yh w q c r K (Vy s) (exprO 5 s).2 (exprO 5 s).1.ds) := fun w q c r K h => by
   have hN : textN s = 8 * (Vy s).length + 20 := rfl
   exact xexprs w q c r K _ _ (textN s) h (by omega) (by omega)
 unfold BeginPost at hbe
 unfold exprP
 generalize exprO 5 s = o at *
 generalize Vy s = L at *
 generalize Zag s = st at *
 clear hr hl hs
 have n1 := Zb w (.cells #[.int .i64 0, .int .i64 0, .int .i64 0, .int .i64 0, .int .i64 0, .int .i64 0, .slice none 0 0, .int .i64 0, .int .i64 0, .int .i64 0, .int .i64 0, .slice none 0 0] 51)
 have n2 := Zb (w.alloc (.cells #[.int .i64 0, .int .i64 0, .int .i64 0, .int .i64 0, .int .i64 0, .int .i64 0, .slice none 0 0, .int .i64 0, .int .i64 0, .int .i64 0, .int .i64 0, .slice none 0 0] 51)) (.cells #[.int .i64 0, .int .i64 0, .int .i64 0] 29)
 have R0 := Hh ((show Za _ w.heap.size 51 ([.int .i64 0, .int .i64 0, .int .i64 0, .int .i64 0, .int .i64 0, .int .i64 0, .slice none 0 0, .int .i64 0, .int .i64 0, .int .i64 0, .int .i64 0, .slice none 0 0]).toArray from Za.made w 51 #[.int .i64 0, .int .i64 0, .int .i64 0, .int .i64 0, .int .i64 0, .int .i64 0, .slice none 0 0, .int .i64 0, .int .i64 0, .int .i64 0, .int .i64 0, .slice none 0 0]).alloc (.cells #[.int .i64 0, .int .i64 0, .int .i64 0] 29))
 have F0 := Hh (show Za ((w.alloc (.cells #[.int .i64 0, .int .i64 0, .int .i64 0, .int .i64 0, .int .i64 0, .int .i64 0, .slice none 0 0, .int .i64 0, .int .i64 0, .int .i64 0, .int .i64 0, .slice none 0 0] 51)).alloc (.cells #[.int .i64 0, .int .i64 0, .int .i64 0] 29)) (w.heap.size + 1) 29 ([.int .i64 0, .int .i64 0, .int .i64 0] : List Value).toArray from by have e := Za.made (w.alloc (.cells #[.int .i64 0, .int .i64 0, .int .i64 0, .int .i64 0, .int .i64 0, .int .i64 0, .slice none 0 0, .int .i64 0, .int .i64 0, .int .i64 0, .int .i64 0, .slice none 0 0] 51)) 29 #[.int .i64 0, .int .i64 0, .int .i64 0]; rw [World.size_alloc] at e; exact e)
 have B0 := Hh (Je n1 n2)
 have hz0 : ((w.alloc (.cells #[.int .i64 0, .int .i64 0, .int .i64 0, .int .i64 0, .int .i64 0, .int .i64 0, .slice none 0 0, .int .i64 0, .int .i64 0, .int .i64 0, .int .i64 0, .slice none 0 0] 51)).alloc (.cells #[.int .i64 0, .int .i64 0, .int .i64 0] 29)).heap.size = w.heap.size + 2 := by simp
 cases hg : (Vz L o.2).good
 · rw [if_neg (by decide)]
   go_enter Tryz.func44, Tryz.ntmps44
   go_wp2_with (first
 | (go_at_call 83; refine (hbe _).mono ?_; rintro e w1 ⟨q, c, r, K, rfl, hp, hq, hc, b1⟩
    rw [hz0] at hq hc
    have hz1 : w.heap.size + 2 ≤ w1.heap.size := by have := b1.size; rw [hz0] at this; exact this
    have R1 := Hh (R0.out.below b1 R0.out.inside)
    have F1 := Hh (F0.out.below b1 F0.out.inside)
    have B1 := Hh (bthen2 B0.out b1 (by rw [hz0]; omega))
    have hq2 := hp.whole.inside
    have hc2 := hp.cin
    have P1 := Hh hp
    clear hp b1)
 | (go_at_call 97; refine (hsub _ q c r K P1.out).mono ?_; rintro e w2 ⟨vs, rfl, d2, m2⟩
    obtain ⟨a0, a1, a2, a3, a4, a5, a6, a7, a8, a9, a10, a11, rfl⟩ := twelve vs d2.len12
    have R2 := Hh (m2.keeps.whole R1.out (by omega))
    have F2 := Hh (m2.keeps.whole F1.out (by omega))
    have B2 := Hh (Zad B1.out m2 (by omega) (by omega) (by omega))
    have P2 := Hh m2.at_
    have hz2 : w1.heap.size ≤ w2.heap.size := m2.keeps.size
    have D2 := Hh d2
    clear m2 d2)
 | (go_at_call 96; refine (xfinE _ q c r K L o.2 a0 a1 a2 a3 a4 a5 a6 a7 a8 a9 a10 a11 D2.out.one P2.out).mono ?_; rintro e w3 ⟨e3, m3⟩
    rw [hg] at e3
    rw [if_neg (by decide)] at e3
    obtain rfl := e3
    have R3 := Hh (m3.keeps.whole R2.out (by omega))
    have F3 := Hh (m3.keeps.whole F2.out (by omega))
    have B3 := Hh (Zad B2.out m3 (by omega) (by omega) (by omega))
    have hz3 : w2.heap.size ≤ w3.heap.size := m3.keeps.size
    have D3 := Hh (D2.out.move m3 hq2 hc2)
    simp only [Zo]
    clear m3)
 | ((with_reducible refine Zu 2 11 ?_); refine Ze 51 _ _ 51 w.heap.size _ [.int .i64 0, .int .i64 0, .int .i64 0, .int .i64 0, .int .i64 0, .int .i64 0, .slice none 0 0, .int .i64 0, .int .i64 0, .int .i64 0, .int .i64 0, .slice none 0 0] R3.out rfl Wa (by simp [Value.oneCell']) rfl rfl rfl rfl rfl ?_
    intro w4 p4
    have R4 := Hh p4.whole
    have F4 := Hh (p4.keeps.whole F3.out (by omega))
    have B4 := Hh (Zbc B3.out p4 (Nat.le_refl _) (by omega))
    have D4 := Hh (D3.out.put p4 (by omega))
    have hz4 : w3.heap.size ≤ w4.heap.size := p4.keeps.size
    clear p4)
 | ((with_reducible refine Zu 3 12 ?_); refine Ze 29 _ _ 29 (w.heap.size + 1) _ [.int .i64 (fltS (Vz L o.2)).1, .int .i64 ((fltS (Vz L o.2)).2.1 : Int), .int .i64 ((fltS (Vz L o.2)).2.2 : Int)] F4.out rfl Ur (by simp [Value.oneCell']) rfl rfl rfl rfl rfl ?_
    intro w5 p5
    have F5 := Hh p5.whole
    have R5 := Hh (p5.keeps.whole R4.out (by omega))
    have B5 := Hh (Zbc B4.out p5 (by omega) (by omega))
    have D5 := Hh (D4.out.put p5 (by omega))
    clear p5))
   exact Js 2 51 3 29 51 29 _ _ _ _ rfl R5.out F5.out Xp Wa row_fa Ur rfl rfl rfl ⟨_, rfl, (zEx_deep _ _), B5.out⟩
 · rw [if_pos rfl]
   go_enter Tryz.func44, Tryz.ntmps44
   go_wp2_with (first
 | (go_at_call 83; refine (hbe _).mono ?_; rintro e w1 ⟨q, c, r, K, rfl, hp, hq, hc, b1⟩
    rw [hz0] at hq hc
    have hz1 : w.heap.size + 2 ≤ w1.heap.size := by have := b1.size; rw [hz0] at this; exact this
    have R1 := Hh (R0.out.below b1 R0.out.inside)
    have F1 := Hh (F0.out.below b1 F0.out.inside)
    have B1 := Hh (bthen2 B0.out b1 (by rw [hz0]; omega))
    have hq2 := hp.whole.inside
    have hc2 := hp.cin
    have P1 := Hh hp
    clear hp b1)
 | (go_at_call 97; refine (hsub _ q c r K P1.out).mono ?_; rintro e w2 ⟨vs, rfl, d2, m2⟩
    obtain ⟨a0, a1, a2, a3, a4, a5, a6, a7, a8, a9, a10, a11, rfl⟩ := twelve vs d2.len12
    have R2 := Hh (m2.keeps.whole R1.out (by omega))
    have F2 := Hh (m2.keeps.whole F1.out (by omega))
    have B2 := Hh (Zad B1.out m2 (by omega) (by omega) (by omega))
    have P2 := Hh m2.at_
    have hz2 : w1.heap.size ≤ w2.heap.size := m2.keeps.size
    have D2 := Hh d2
    clear m2 d2)
 | (go_at_call 96; refine (xfinE _ q c r K L o.2 a0 a1 a2 a3 a4 a5 a6 a7 a8 a9 a10 a11 D2.out.one P2.out).mono ?_; rintro e w3 ⟨e3, m3⟩
    rw [hg] at e3
    rw [if_pos rfl] at e3
    obtain rfl := e3
    have R3 := Hh (m3.keeps.whole R2.out (by omega))
    have F3 := Hh (m3.keeps.whole F2.out (by omega))
    have B3 := Hh (Zad B2.out m3 (by omega) (by omega) (by omega))
    have hz3 : w2.heap.size ≤ w3.heap.size := m3.keeps.size
    have D3 := Hh (D2.out.move m3 hq2 hc2)
    simp only [Zo]
    clear m3)
 | ((with_reducible refine Zu 2 11 ?_); refine Ze 51 _ _ 51 w.heap.size _ [a0, a1, a2, a3, a4, a5, a6, a7, a8, a9, a10, a11] R3.out rfl Wa D2.out.one rfl rfl rfl rfl rfl ?_
    intro w4 p4
    have R4 := Hh p4.whole
    have F4 := Hh (p4.keeps.whole F3.out (by omega))
    have B4 := Hh (Zbc B3.out p4 (Nat.le_refl _) (by omega))
    have D4 := Hh (D3.out.put p4 (by omega))
    have hz4 : w3.heap.size ≤ w4.heap.size := p4.keeps.size
    clear p4)
 | ((with_reducible refine Zu 3 12 ?_); refine Ze 29 _ _ 29 (w.heap.size + 1) _ [.int .i64 (fltS (Vz L o.2)).1, .int .i64 ((fltS (Vz L o.2)).2.1 : Int), .int .i64 ((fltS (Vz L o.2)).2.2 : Int)] F4.out rfl Ur (by simp [Value.oneCell']) rfl rfl rfl rfl rfl ?_
    intro w5 p5
    have F5 := Hh p5.whole
    have R5 := Hh (p5.keeps.whole R4.out (by omega))
    have B5 := Hh (Zbc B4.out p5 (by omega) (by omega))
    have D5 := Hh (D4.out.put p5 (by omega))
    clear p5))
   exact Js 2 51 3 29 51 29 _ _ _ _ rfl R5.out F5.out Xp Wa row_fa Ur rfl rfl rfl ⟨_, rfl, (D5.out.lower (by omega)), B5.out⟩
end Go.Proofs.YtljdgdphldckhaaGreat
namespace Go.Proofs.YtljdgdphldckhaaGreat
open Go Go.RowKit
set_option linter.unusedVariables false
set_option linter.unusedSimpArgs false
theorem Env.permB {w x : World} {bs cs : List Bk} {rs : List Rw} {ts : List (Ds × List Value)} (h : Env w bs rs ts x) (hp : bs.Perm cs) : Env w cs rs ts x :=
 ⟨fun b hb => h.at_ b (hp.mem_iff.2 hb), fun b hb => h.lo b (hp.mem_iff.2 hb), (hp.map _).nodup_iff.1 h.nod, h.row, fun r hr b hb => h.apart r hr b (hp.mem_iff.2 hb), h.rapart,
   fun u hu => (h.deep u hu).mono fun k _ hn => ⟨hn.1, fun b hb => hn.2.1 b (hp.mem_iff.2 hb), hn.2.2⟩, h.below⟩
theorem Env.more {w x y : World} {bs cs : List Bk} (h : Env w bs [] [] x) (k : Env x cs [] [] y) : Env w (bs ++ cs) [] [] y := by
 have h' := h.call k.below
 refine ⟨fun b hb => ?_, fun b hb => ?_, ?_, (fun r hr => by cases hr), (fun r hr => by cases hr), List.Pairwise.nil, (fun u hu => by cases hu), h'.below⟩
 · rcases List.mem_append.1 hb with hb | hb
   · exact h'.at_ b hb
   · exact k.at_ b hb
 · rcases List.mem_append.1 hb with hb | hb
   · exact h'.lo b hb
   · exact Nat.le_trans h.below.size (k.lo b hb)
 · rw [List.map_append, List.nodup_append]
   refine ⟨h'.nod, k.nod, fun a ha b hb e => ?_⟩
   obtain ⟨u, hu, rfl⟩ := List.mem_map.1 ha
   obtain ⟨v, hv, rfl⟩ := List.mem_map.1 hb
   have h1 := (h.at_ u hu).inside
   have h2 := k.lo v hv
   omega
theorem put_all {w : World} {g : Nat} {t : TypeId} {old ys : List Value} (hW : Za w g t old.toArray) (hl : ys.length = old.length) : Put w (w.setCells g 0 ys) g t ys :=
 ⟨by have e := Za.setCells (g := g) (t := t) [] ys old [] w hl (by simpa using hW); simpa using e, Zm.setCells (S := fun k => k = g) rfl ys 0 (Zm.refl _ w)⟩
section
variable {P : Program} {ops : Array Oper} {Q : Exit → Act → World → Prop}
theorem wp_allocZ {o : Oper} {a : Act} {x : World} {K : Act → World → Prop} {t : TypeId} {z : List Value} (ho : o.op = .alloc t) (hz : (P.info? t).map (fun i => i.zero.map Value.cells) = some (some z.toArray))
   (hk : K (a.put o.dst (.pointer (some ⟨x.heap.size, 0, none⟩))) (x.alloc (.cells z.toArray t))) : Oper.wp P o a x K Q := by
 obtain ⟨i, hi, hzz⟩ := Option.map_eq_some_iff.1 hz
 obtain ⟨v, hz1, hz2⟩ := Option.map_eq_some_iff.1 hzz
 have hrun : (execOp a.eval o).run P x = .ok (.value (.pointer (some ⟨x.heap.size, 0, none⟩))) (x.alloc (.cells z.toArray t)) := by
   unfold execOp
   rw [ho]
   simp [Instr.alloc, zeroValue, typeInfo, hi, hz1, newVar, newRow, hz2, Sem.run_bind, Sem.run_pure, run_newObj_alloc]
 unfold Oper.wp
 simp only [hrun, Oper.upon]
 exact hk
theorem tail4 {x x' : World} {l : Array Bool} {iA iB iC iD : Nat} {oA oB oC oD : Oper} {a0 : Act} {T : TypeId} {z xs ys : List Value} {a1 a2 v1 v2 : Nat}
   (r0 : Region.ready .any ops l = [iA, iB]) (rA : Region.ready .any ops (l.setIfInBounds iA true) = [iB]) (rB : Region.ready .any ops (l.setIfInBounds iB true) = [iA])
   (rAB : Region.ready .any ops ((l.setIfInBounds iA true).setIfInBounds iB true) = [iC]) (rBA : Region.ready .any ops ((l.setIfInBounds iB true).setIfInBounds iA true) = [iC])
   (rABC : Region.ready .any ops (((l.setIfInBounds iA true).setIfInBounds iB true).setIfInBounds iC true) = [iD]) (rBAC : Region.ready .any ops (((l.setIfInBounds iB true).setIfInBounds iA true).setIfInBounds iC true) = [iD])
   (f1 : Region.ready .any ops ((((l.setIfInBounds iA true).setIfInBounds iB true).setIfInBounds iC true).setIfInBounds iD true) = []) (f3 : Region.ready .any ops ((((l.setIfInBounds iB true).setIfInBounds iA true).setIfInBounds iC true).setIfInBounds iD true) = [])
   (hA : ops[iA]? = some oA) (hB : ops[iB]? = some oB) (hC : ops[iC]? = some oC) (hD : ops[iD]? = some oD)
   (gA : oA.guard = none) (gB : oB.guard = none) (gC : oC.guard = none) (gD : oD.guard = none)
   (pA : oA.op = .alloc T) (pB : oB.op = .alloc T) (pC : oC.op = .store T (.tmp a1) (.tmp v1)) (pD : oD.op = .store T (.tmp a2) (.tmp v2))
   (dA : oA.dst = some a1) (dB : oB.dst = some a2) (dC : oC.dst = none) (dD : oD.dst = none) (hne : a1 ≠ a2)
   (hz : (P.info? T).map (fun i => i.zero.map Value.cells) = some (some z.toArray)) (hs : (P.info? T).map (·.size) = some z.length)
   (lx : xs.length = z.length) (ly : ys.length = z.length) (ox : ∀ v ∈ xs, v.oneCell' = true) (oy : ∀ v ∈ ys, v.oneCell' = true)
   (eAB : ∀ p q, ((a0.put (some a1) p).put (some a2) q).eval (.tmp a1) = p ∧ ((a0.put (some a1) p).put (some a2) q).eval (.tmp v1) = .agg xs.toArray ∧ ((a0.put (some a1) p).put (some a2) q).eval (.tmp a2) = q ∧ ((a0.put (some a1) p).put (some a2) q).eval (.tmp v2) = .agg ys.toArray)
   (hE : Env x [] [] [] x')
   (h : ∀ y p q, Env x [(p, T, xs), (q, T, ys)] [] [] y → Q .normal ((a0.put (some a1) (.pointer (some ⟨p, 0, none⟩))).put (some a2) (.pointer (some ⟨q, 0, none⟩))) y) :
   wpAnyH P .any ops Q (fun y => Below x.heap.size x y) 4 l a0 x' := by
 have hcm : ∀ p q, (a0.put (some a2) q).put (some a1) p = (a0.put (some a1) p).put (some a2) q := fun p q => Act.put_comm a0 _ _ (by intro d hd; injection hd with hd; subst hd; intro c; injection c with c; exact hne c)
 have st : ∀ {y : World} {bs : List Bk} (o : Oper) (a : Act) (av vv : Nat) (g : Nat) (old new : List Value) (K : Act → World → Prop) (i : Nat), Env x bs [] [] y → o.op = .store T (.tmp av) (.tmp vv) → o.dst = none → bs[i]? = some (g, T, old) → old.length = z.length → new.length = z.length → (∀ v ∈ new, v.oneCell' = true) →
     a.eval (.tmp av) = .pointer (some ⟨g, 0, none⟩) → a.eval (.tmp vv) = .agg new.toArray → (∀ y', Env x (bs.set i (g, T, new)) [] [] y' → K a y') → Oper.wp P o a y K Q := fun {y bs} o a av vv g old new K i hy ho hd hi lo ln on e1 e2 hk => by
   have hW := hy.get i hi
   refine wp_store_mid T _ _ ho g 0 new.toArray e1 e2 ?_ (by rw [hs, List.size_toArray, ln]) (all_oneCell_toArray on) ?_
   · have := Za.there (a := []) (b := old) (c := []) (by simpa using hW)
     rw [List.size_toArray, ln, ← lo]; exact this
   · rw [hd]
     exact hk _ (hy.put i hi (put_all hW (by rw [ln, lo])))
 refine wpAnyH_ready r0 (by simp) (AllReadyH.cons hA (fun K hK => ?_) (AllReadyH.cons hB (fun K hK => ?_) AllReadyH.nil))
 · rw [if_pos (Xm gA)]
   refine wp_allocZ pA hz ?_
   rw [dA]
   have E1 := hE.box T z
   refine hK.out _ _ E1.below fun _ => ?_
   generalize x'.heap.size = p at *
   generalize x'.alloc (.cells z.toArray T) = y1 at *
   refine wpAnyH_ready rA (by simp) (AllReadyH.cons hB (fun K hK => ?_) AllReadyH.nil)
   rw [if_pos (Xm gB)]
   refine wp_allocZ pB hz ?_
   rw [dB]
   have E2 := E1.box T z
   refine hK.out _ _ E2.below fun _ => ?_
   generalize y1.heap.size = q at *
   generalize y1.alloc (.cells z.toArray T) = y2 at *
   obtain ⟨e1, e2, e3, e4⟩ := eAB (.pointer (some ⟨p, 0, none⟩)) (.pointer (some ⟨q, 0, none⟩))
   refine wpAnyH_ready rAB (by simp) (AllReadyH.cons hC (fun K hK => ?_) AllReadyH.nil)
   rw [if_pos (Xm gC)]
   refine st oC _ a1 v1 p z xs K 0 E2 pC dC rfl rfl lx ox e1 e2 fun y3 E3 => hK.out _ _ E3.below fun _ => ?_
   refine wpAnyH_ready rABC (by simp) (AllReadyH.cons hD (fun K hK => ?_) AllReadyH.nil)
   rw [if_pos (Xm gD)]
   exact st oD _ a2 v2 q z ys K 1 E3 pD dD rfl rfl ly oy e3 e4 fun y4 E4 => hK.out _ _ E4.below fun _ => wpAnyH_done f1 (h y4 p q E4) _
 · rw [if_pos (Xm gB)]
   refine wp_allocZ pB hz ?_
   rw [dB]
   have E1 := hE.box T z
   refine hK.out _ _ E1.below fun _ => ?_
   generalize x'.heap.size = q at *
   generalize x'.alloc (.cells z.toArray T) = y1 at *
   refine wpAnyH_ready rB (by simp) (AllReadyH.cons hA (fun K hK => ?_) AllReadyH.nil)
   rw [if_pos (Xm gA)]
   refine wp_allocZ pA hz ?_
   rw [dA]
   have E2 := E1.box T z
   refine hK.out _ _ E2.below fun _ => ?_
   generalize y1.heap.size = p at *
   generalize y1.alloc (.cells z.toArray T) = y2 at *
   rw [hcm]
   obtain ⟨e1, e2, e3, e4⟩ := eAB (.pointer (some ⟨p, 0, none⟩)) (.pointer (some ⟨q, 0, none⟩))
   refine wpAnyH_ready rBA (by simp) (AllReadyH.cons hC (fun K hK => ?_) AllReadyH.nil)
   rw [if_pos (Xm gC)]
   refine st oC _ a1 v1 p z xs K 1 E2 pC dC rfl rfl lx ox e1 e2 fun y3 E3 => hK.out _ _ E3.below fun _ => ?_
   refine wpAnyH_ready rBAC (by simp) (AllReadyH.cons hD (fun K hK => ?_) AllReadyH.nil)
   rw [if_pos (Xm gD)]
   exact st oD _ a2 v2 q z ys K 0 E3 pD dD rfl rfl ly oy e3 e4 fun y4 E4 => hK.out _ _ E4.below fun _ => wpAnyH_done f3 (h y4 p q (E4.permB (List.Perm.swap _ _ _))) _
theorem Zbl {a : Act} {w : World} (h : Q .normal a w) : NoPanic Q .normal a w := h
theorem put2_lit {l : List Value} {d : List Deferred} {i j : Nat} {u v : Value} {w : World} (h : Q .normal ⟨((l.set i u).set j v).toArray, d⟩ w) : Q .normal (((⟨l.toArray, d⟩ : Act).put (some i) u).put (some j) v) w := by
 simpa [Act.put] using h
end
end Go.Proofs.YtljdgdphldckhaaGreat
namespace Go.Proofs.YtljdgdphldckhaaGreat
open Go.ChangeShapes Go.WideShapes Go.ChangeAt Go.RowKit
set_option linter.unusedVariables false
set_option linter.unusedSimpArgs false
set_option maxRecDepth 20000 in
set_option maxHeartbeats 1600000 in
theorem sSel (s : Se) (w : World) (N M : Nat → Prop) (vs us : List Value) (h1 : Zg N w s.ds vs) (h2 : Zg M w s.ds us) :
   Calls Tryz.prog 169 #[.agg vs.toArray, .agg us.toArray] w fun e w' => e = .returned (.bool true) ∧ Below w.heap.size w w' := by
 obtain ⟨k, sd, wh, ln, fs, pk⟩ := s
 obtain ⟨_, rfl, _, rfl, _, rfl, _, rfl, A, c, xs, _, rfl, hn, hA, hx, _, rfl, rfl⟩ := h1
 obtain ⟨_, rfl, _, rfl, _, rfl, _, rfl, B, d, ys, _, rfl, _, hB, hy, _, rfl, rfl⟩ := h2
 dsimp only at *
 have T0 := Hh (Env.start w)
 have HA := Hh (And.intro hA hx)
 have HB := Hh (And.intro hB hy)
 clear hA hx hB hy
 obtain ⟨n, hn0⟩ : ∃ n, n = fs.length := ⟨_, rfl⟩
 rw [← hn0] at hn ⊢
 have HN := Hh hn0
 clear hn0
 go_enter Tryz.func169, Tryz.ntmps169
 go_wp2_with (first
 | ((with_reducible refine Zi 2 ?_); refine Wn T0.out 46 _ ([.int .i64 k, .int .i64 sd, .int .i64 wh, .int .i64 ln, .slice A n c, .int .i64 pk]) rfl rfl rfl ?_; intro w1 g0 t1
    have T1 : Hid (Env w [(g0, 46, [.int .i64 k, .int .i64 sd, .int .i64 wh, .int .i64 ln, .slice A n c, .int .i64 pk])] [] [] w1) := Hh t1
    clear t1)
 | ((with_reducible refine Zi 3 ?_); refine Wn T1.out 46 _ ([.int .i64 k, .int .i64 sd, .int .i64 wh, .int .i64 ln, .slice B n d, .int .i64 pk]) rfl rfl rfl ?_; intro w2 g1 t2
    have T2 : Hid (Env w [(g0, 46, [.int .i64 k, .int .i64 sd, .int .i64 wh, .int .i64 ln, .slice A n c, .int .i64 pk]), (g1, 46, [.int .i64 k, .int .i64 sd, .int .i64 wh, .int .i64 ln, .slice B n d, .int .i64 pk])] [] [] w2) := Hh t2
    obtain ⟨a0, a1, a2, a3, a4, a5⟩ := whole6 (t2.get 0 rfl)
    obtain ⟨b0, b1, b2, b3, b4, b5⟩ := whole6 (t2.get 1 rfl)
    clear t2))
 go_loopw [5] (fun i wr => ∃ m q : Nat, i = .int .i64 m ∧ m ≤ n ∧ wr = w2.drewN q) (fun i _ => n - (intOf i).toNat)
 case atStart => exact ⟨0, 0, rfl, by omega, rfl⟩
 case round =>
   obtain ⟨m, q, rfl, hm, rfl⟩ := hrel
   by_cases hml : m < n
   · have hk1 : m < fs.length := by rw [← HN.out]; exact hml
     obtain ⟨x, rfl, hx1, p0, p1, p2, p3⟩ := fil_at (w := w2) (HA.out.1.keeps (Zm.of_below (S := fun _ => False) T2.out.below) (fun k _ hn => ⟨id, hn⟩)) (HA.out.2.below T2.out.below) hk1
     obtain ⟨y, rfl, hy1, r0, r1, r2, r3⟩ := fil_at (w := w2) (HB.out.1.keeps (Zm.of_below (S := fun _ => False) T2.out.below) (fun k _ hn => ⟨id, hn⟩)) (HB.out.2.below T2.out.below) hk1
     generalize fs[m] = t at *
     have lk : (m : Int) < (n : Int) := by omega
     have lk0 : (0 : Int) ≤ (m : Int) := by omega
     have hkn : ((m : Int)).toNat = m := by omega
     clear hk1
     go_wp2_with fail
     go_quiet (fail)
     go_wp2
     go_roundw
     case rel => exact ⟨m + 1, _, by go_num, by omega, rfl⟩
     case measure => simp [intOf]; omega
   · go_wp2
     go_ret
     exact ⟨rfl, below_drewN T2.out.below q⟩
theorem still_take {P : Program} {ops : Array Oper} {w : World} {Q : Act → Prop} {a : Act} {o : Oper} {rest : List Oper} {v : Value} (hy : YieldsIf P ops (fun y => y = w) o v a) (h : wpStill P ops w Q rest (a.put o.dst v)) : wpStill P ops w Q (o :: rest) a := by
 unfold wpStill
 rcases hy with ⟨hw, hv⟩ | ⟨hw, rfl⟩
 · rw [if_pos hw]
   unfold Oper.still
   rw [hv w rfl, Oper.stillUpon_value]
   exact h
 · rw [if_neg (by rw [hw]; decide)]
   exact h
def exsDs : List Ex → Ds
 | [] => .nil
 | x :: r => x.ds.app (exsDs r)
theorem Ds.app_nilS : ∀ x : Ds, x.app .nil = x
 | .nil => rfl
 | .int n r => by rw [Ds.app, Ds.app_nilS r]
 | .str s r => by rw [Ds.app, Ds.app_nilS r]
 | .row n cs r => by rw [Ds.app, Ds.app_nilS r]
def Ex.kd : Ex → Int
 | .leaf k _ _ _ _ _ => k
 | .bin _ _ _ => 7
def Ex.nm : Ex → Int
 | .leaf _ n _ _ _ _ => n
 | .bin op _ _ => op
def Ex.se : Ex → Se
 | .leaf _ _ s _ _ _ => s
 | .bin _ _ _ => zSe
def Ex.sd : Ex → Int
 | .leaf _ _ _ d _ _ => d
 | .bin _ _ _ => 0
def Ex.tk : Ex → Int
 | .leaf _ _ _ _ t _ => t
 | .bin _ _ _ => 0
def Ex.tl : Ex → Int
 | .leaf _ _ _ _ _ t => t
 | .bin _ _ _ => 0
def Ex.ks : Ex → List Ex
 | .leaf _ _ _ _ _ _ => []
 | .bin _ l r => [l, r]
theorem Ex.ds_parts (x : Ex) : x.ds = .int x.kd (.int x.nm (x.se.ds.app (.int x.sd (.int x.tk (.int x.tl (.row x.ks.length (exsDs x.ks) .nil)))))) := by
 cases x with
 | leaf k n s d t l => rfl
 | bin op l r => show Ds.int 7 (.int op (zSe.ds.app (.int 0 (.int 0 (.int 0 (.row 2 (l.ds.app r.ds) .nil)))))) = Ds.int 7 (.int op (zSe.ds.app (.int 0 (.int 0 (.int 0 (.row 2 (l.ds.app (r.ds.app .nil)) .nil)))))); rw [Ds.app_nilS]
theorem exs_at {N : Nat → Prop} {w : World} : ∀ {l : List Ex} {xs : List Value}, Zg N w (exsDs l) xs → ∀ (k : Nat) (hk : k < l.length), ∃ pre ys post, xs = pre ++ ys ++ post ∧ pre.length = k * 12 ∧ Zg N w (l[k]'hk).ds ys := by
 intro l
 induction l with
 | nil => intro xs _ k hk; cases hk
 | cons f l ih =>
   intro xs h k hk
   obtain ⟨a, b, rfl, ha, hb⟩ := Zg.split (x := f.ds) h
   cases k with
   | zero => exact ⟨[], a, b, rfl, by simp, ha⟩
   | succ k =>
     obtain ⟨pre, ys, post, rfl, hp, hy⟩ := ih hb k (by simpa using hk)
     refine ⟨a ++ pre, ys, post, by simp, ?_, hy⟩
     rw [List.length_append, ha.len, Ex.ds_len, hp]; omega
theorem ex_at {N : Nat → Prop} {w : World} {A : Option Addr} {l : List Ex} {xs : List Value} (hw : Zak N w A xs) (hd : Zg N w (exsDs l) xs) {k : Nat} (hk : k < l.length) :
   ∃ g ys, A = some ⟨g, 0, none⟩ ∧ g < w.heap.size ∧ w.rangeAt g (k * 12) ys ∧ Zg N w (l[k]'hk).ds ys := by
 obtain ⟨pre, ys, post, rfl, hp, hy⟩ := exs_at hd k hk
 have hl : ys.length = 12 := by rw [hy.len, Ex.ds_len]
 obtain ⟨g, hA, hg, hc⟩ := hw.reads (by simp; omega)
 refine ⟨g, ys, hA, hg, fun j v hv => ?_, hy⟩
 have hj : j < ys.length := by rcases Nat.lt_or_ge j ys.length with h | h; exact h; rw [List.getElem?_eq_none h] at hv; cases hv
 have := hc (k * 12 + j) (by simp; omega)
 rw [this, ← hp, List.append_assoc, List.getElem?_append_right (by omega), Nat.add_sub_cancel_left, List.getElem?_append_left hj, hv]
theorem sixS : ∀ (vs : List Value), vs.length = 6 → ∃ a b c d e f, vs = [a, b, c, d, e, f]
 | [a, b, c, d, e, f], _ => ⟨a, b, c, d, e, f, rfl⟩
def SExOK (x : Ex) : Prop := ∀ (w : World) (N M : Nat → Prop) (vs us : List Value), Zg N w x.ds vs → Zg M w x.ds us →
   Calls Tryz.prog 170 #[.agg vs.toArray, .agg us.toArray] w fun e w' => e = .returned (.bool true) ∧ Below w.heap.size w w'
set_option maxRecDepth 20000 in
set_option maxHeartbeats 3200000 in
theorem sExpr1 (x : Ex) (ih : ∀ (k : Nat) (hk : k < x.ks.length), SExOK (x.ks[k]'hk)) : SExOK x := by
 intro w N M vs us h1 h2
 rw [Ex.ds_parts] at h1 h2
 obtain ⟨_, rfl, _, rfl, h1⟩ := h1
 obtain ⟨sv, _, rfl, hsv, h1⟩ := Zg.split (x := x.se.ds) h1
 obtain ⟨_, rfl, _, rfl, _, rfl, A, c, xs, _, rfl, hn, hA, hx, rfl⟩ := h1
 obtain ⟨_, rfl, _, rfl, h2⟩ := h2
 obtain ⟨tv, _, rfl, htv, h2⟩ := Zg.split (x := x.se.ds) h2
 obtain ⟨_, rfl, _, rfl, _, rfl, B, d, ys, _, rfl, _, hB, hy, rfl⟩ := h2
 have hl1 : sv.length = 6 := by rw [hsv.len, Se.ds_len]
 have hl2 : tv.length = 6 := by rw [htv.len, Se.ds_len]
 obtain ⟨s0, s1, s2, s3, s4, s5, rfl⟩ := sixS sv hl1
 obtain ⟨u0, u1, u2, u3, u4, u5, rfl⟩ := sixS tv hl2
 clear hl1 hl2
 have T0 := Hh (Env.start w)
 have HA := Hh (And.intro hA hx)
 have HB := Hh (And.intro hB hy)
 have HS := Hh (And.intro hsv htv)
 have HI := Hh ih
 clear hA hx hB hy hsv htv ih
 generalize x.kd = kd at *
 generalize x.nm = nn at *
 generalize x.se = se at *
 generalize x.sd = sd at *
 generalize x.tk = tk at *
 generalize x.tl = tl at *
 generalize x.ks = ks at *
 obtain ⟨n, hn0⟩ : ∃ n, n = ks.length := ⟨_, rfl⟩
 rw [← hn0] at hn ⊢
 have HN := Hh hn0
 clear hn0
 have hsel : ∀ y, Below w.heap.size w y → Calls Tryz.prog 169 #[.agg #[s0, s1, s2, s3, s4, s5], .agg #[u0, u1, u2, u3, u4, u5]] y fun e w' => e = .returned (.bool true) ∧ Below y.heap.size y w' := fun y hb => sSel se y N M _ _ (HS.out.1.below hb) (HS.out.2.below hb)
 show Calls _ _ #[.agg #[.int .i64 kd, .int .i64 nn, s0, s1, s2, s3, s4, s5, .int .i64 sd, .int .i64 tk, .int .i64 tl, .slice A n c], .agg #[.int .i64 kd, .int .i64 nn, u0, u1, u2, u3, u4, u5, .int .i64 sd, .int .i64 tk, .int .i64 tl, .slice B n d]] _ _
 go_enter Tryz.func170, Tryz.ntmps170
 go_wp2_with (first
 | ((with_reducible refine Zi 2 ?_); refine Wn T0.out 51 _ ([.int .i64 kd, .int .i64 nn, s0, s1, s2, s3, s4, s5, .int .i64 sd, .int .i64 tk, .int .i64 tl, .slice A n c]) rfl rfl rfl ?_; intro w1 g0 t1
    have T1 : Hid (Env w [(g0, 51, [.int .i64 kd, .int .i64 nn, s0, s1, s2, s3, s4, s5, .int .i64 sd, .int .i64 tk, .int .i64 tl, .slice A n c])] [] [] w1) := Hh t1
    clear t1)
 | ((with_reducible refine Zi 3 ?_); refine Wn T1.out 51 _ ([.int .i64 kd, .int .i64 nn, u0, u1, u2, u3, u4, u5, .int .i64 sd, .int .i64 tk, .int .i64 tl, .slice B n d]) rfl rfl rfl ?_; intro w2 g1 t2
    have T2 : Hid (Env w [(g0, 51, [.int .i64 kd, .int .i64 nn, s0, s1, s2, s3, s4, s5, .int .i64 sd, .int .i64 tk, .int .i64 tl, .slice A n c]), (g1, 51, [.int .i64 kd, .int .i64 nn, u0, u1, u2, u3, u4, u5, .int .i64 sd, .int .i64 tk, .int .i64 tl, .slice B n d])] [] [] w2) := Hh t2
    obtain ⟨a0, a1, a2, a3, a4, a5, a6, a7, a8, a9, a10, a11, _⟩ := whole12 (t2.get 0 rfl)
    obtain ⟨b0, b1, b2, b3, b4, b5, b6, b7, b8, b9, b10, b11, _⟩ := whole12 (t2.get 1 rfl)
    clear t2)
 | (go_at_call 169; refine (hsel _ T2.out.below).mono ?_; rintro e w3 ⟨rfl, b3⟩
    have T3 : Hid (Env w [(g0, 51, [.int .i64 kd, .int .i64 nn, s0, s1, s2, s3, s4, s5, .int .i64 sd, .int .i64 tk, .int .i64 tl, .slice A n c]), (g1, 51, [.int .i64 kd, .int .i64 nn, u0, u1, u2, u3, u4, u5, .int .i64 sd, .int .i64 tk, .int .i64 tl, .slice B n d])] [] [] w3) := Hh (T2.out.call b3)
    have a11' := T3.out.cell 0 11 rfl rfl
    have b11' := T3.out.cell 1 11 rfl rfl
    clear b3))
 go_loopw [5] (fun i wr => ∃ m : Nat, i = .int .i64 m ∧ m ≤ n ∧ Env w [(g0, 51, [.int .i64 kd, .int .i64 nn, s0, s1, s2, s3, s4, s5, .int .i64 sd, .int .i64 tk, .int .i64 tl, .slice A n c]), (g1, 51, [.int .i64 kd, .int .i64 nn, u0, u1, u2, u3, u4, u5, .int .i64 sd, .int .i64 tk, .int .i64 tl, .slice B n d])] [] [] wr) (fun i _ => n - (intOf i).toNat)
 case atStart => exact ⟨0, rfl, by omega, T3.out⟩
 case round =>
   obtain ⟨m, rfl, hm, hE⟩ := hrel
   by_cases hml : m < n
   · have hk1 : m < ks.length := by rw [← HN.out]; exact hml
     obtain ⟨x, xv, rfl, hx1, xr, dx⟩ := ex_at (HA.out.1.keeps (Zm.of_below (S := fun _ => False) hE.below) (fun k _ hn => ⟨id, hn⟩)) (HA.out.2.below hE.below) hk1
     obtain ⟨y, yv, rfl, hy1, yr, dy⟩ := ex_at (HB.out.1.keeps (Zm.of_below (S := fun _ => False) hE.below) (fun k _ hn => ⟨id, hn⟩)) (HB.out.2.below hE.below) hk1
     have hi := HI.out m hk1
     generalize ks[m] = t at *
     have hcall : ∀ z, Below wr.heap.size wr z → Calls Tryz.prog 170 #[.agg xv.toArray, .agg yv.toArray] z fun e w' => e = .returned (.bool true) ∧ Below z.heap.size z w' := fun z hb => hi z N M _ _ (dx.below hb) (dy.below hb)
     have HX := Hh (And.intro xr yr)
     have HL := Hh (And.intro (dx.len.trans (Ex.ds_len t)) (dy.len.trans (Ex.ds_len t)))
     have a11 := hE.cell 0 11 rfl rfl
     have b11 := hE.cell 1 11 rfl rfl
     have T4 := Hh hE
     have lk : (m : Int) < (n : Int) := by omega
     have lk0 : (0 : Int) ≤ (m : Int) := by omega
     have hkn : ((m : Int)).toNat = m := by omega
     have hb0 := (show Below wr.heap.size wr wr.drew from Env.below (Env.drew (Env.start wr)))
     clear hk1 hi xr yr dx dy hE
     go_wp2_with fail
     go_still_tail 10, (by kernel_rfl)
     refine still_take (Um rfl rfl rfl (ys := xv) (fun y e => by subst e; exact HX.out.1) Xp (Yt HL.out.1)) ?_
     repeat still_step
     refine still_take (Um rfl rfl rfl (ys := yv) (fun y e => by subst e; exact HX.out.2) Xp (Yt HL.out.2)) ?_
     refine wpStill_nil ?_
     change wpList _ _ _ _ _ wr.drew
     go_wp2_with (first
 | (go_at_call 170; refine (hcall _ hb0).mono ?_; rintro e w5 ⟨rfl, b5⟩
    have T6 := Hh (T4.out.drew.call b5)
    clear b5))
     go_roundw
     case rel => exact ⟨m + 1, by go_num, by omega, T6.out⟩
     case measure => simp [intOf]; omega
   · have a11 := hE.cell 0 11 rfl rfl
     go_wp2
     go_ret
     exact ⟨rfl, hE.below⟩
theorem sExpr : ∀ x : Ex, SExOK x := by
 intro x
 induction x with
 | leaf k n s d t l => exact sExpr1 _ fun k hk => absurd hk (Nat.not_lt_zero k)
 | bin op l r ihl ihr =>
   refine sExpr1 _ fun k hk => ?_
   cases k with
   | zero => exact ihl
   | succ k => cases k with
     | zero => exact ihr
     | succ k => exact absurd hk (by show ¬ k + 2 < 2; omega)
theorem Uo.len {pl : Bool} : ∀ (x y : Acs), Uo pl x y → x.len = y.len := by
 intro x
 induction x with
 | nil => intro y h; cases y with
   | nil => rfl
   | cons h t e r => exact h.elim
 | cons h t e r _ _ ih => intro y hs; cases y with
   | nil => exact hs.elim
   | cons h' t' e' r' => show r.len + 1 = r'.len + 1; rw [ih r' hs.2.2.2]
theorem Uo.at_ {pl : Bool} : ∀ (x y : Acs), Uo pl x y → ∀ (k : Nat) (u v : AH × Acs × Acs), x.at? k = some u → y.at? k = some v → AHSim pl u.1 v.1 ∧ Uo pl u.2.1 v.2.1 ∧ Uo pl u.2.2 v.2.2 := by
 intro x
 induction x with
 | nil => intro y h k u v hu; cases hu
 | cons h t e r _ _ ih => intro y hs k u v hu hv; cases y with
   | nil => exact hs.elim
   | cons h' t' e' r' => cases k with
     | zero => cases hu; cases hv; exact ⟨hs.1, hs.2.1, hs.2.2.1⟩
     | succ k => exact ih r' hs.2.2.2 k u v hu hv
end Go.Proofs.YtljdgdphldckhaaGreat
