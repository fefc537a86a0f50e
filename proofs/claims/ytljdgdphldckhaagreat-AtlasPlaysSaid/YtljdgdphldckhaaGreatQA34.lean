/-
  Texts SynB3, SynB5, SynB6, LintMath, Lint1, Lint2. No conditions but those that each theorem names.
-/
import Derived.RegionTactic
import Derived.Test.YtljdgdphldckhaaGreatQA20
set_option maxRecDepth 20000
set_option maxHeartbeats 12800000
namespace Go.Proofs.YtljdgdphldckhaaGreat
open Go.ChangeShapes Go.WideShapes Go.ChangeAt Go.RowKit
set_option linter.unusedVariables false
set_option linter.unusedSimpArgs false
structure FileW (w : World) (q c r K : Nat) (L : List TokV) (s : St) (cs : List Ca) (ps : List Pl) (xc xp : List Value) (vc vp : Value) (wr : World) : Prop where
 mv : Yo w wr q c r K L s
 res : Zb wr w.heap.size 26 [.slice none 0 0, .slice none 0 0].toArray
 var : Zb wr (w.heap.size + 1) 26 [vc, vp].toArray
 rc : wr.ownsRow (w.heap.size + 2) 35 6 vc cs.length xc
 rp : wr.ownsRow (w.heap.size + 2) 38 4 vp ps.length xp
 dc : Zh (fun k => w.heap.size + 2 ≤ k ∧ vc.ownBlock ≠ some k ∧ vp.ownBlock ≠ some k) wr (casDs cs) xc
 dp : Zh (fun k => w.heap.size + 2 ≤ k ∧ vc.ownBlock ≠ some k ∧ vp.ownBlock ≠ some k) wr (plsDs ps) xp
 ap : Apart vc vp
 qin : q < w.heap.size
 cin : c < w.heap.size
 rin : r < w.heap.size
theorem FileW.round {w x y : World} {q c r K : Nat} {L : List TokV} {s s' : St} {cs : List Ca} {ps : List Pl} {xc xp : List Value} {vc vp : Value} (h : FileW w q c r K L s cs ps xc xp vc vp x) (f : Vh q c x y) (m : Yo w y q c r K L s') : FileW w q c r K L s' cs ps xc xp vc vp y := by
 have hq := h.qin
 have hc := h.cin
 have i1 := h.res.inside
 have i2 := h.var.inside
 exact ⟨m, f.whole h.res (by omega), f.whole h.var (by omega), f.owns h.rc (fun k hk c => by have := h.rc.lt k hk; omega), f.owns h.rp (fun k hk c => by have := h.rp.lt k hk; omega),
   h.dc.keeps f (fun k hk hn => ⟨by omega, hn⟩), h.dp.keeps f (fun k hk hn => ⟨by omega, hn⟩), h.ap, hq, hc, h.rin⟩
theorem FileW.pushC {w x y z : World} {q c r K : Nat} {L : List TokV} {s : St} {cs : List Ca} {ps : List Pl} {xc xp ys : List Value} {vc vp v' : Value} (h : FileW w q c r K L s cs ps xc xp vc vp x) (ca : Ca)
   (ho : y.ownsRow (w.heap.size + 2) 35 6 v' (cs.length + 1) (xc ++ ys)) (hg : x.grownBy y vc.ownBlock) (hat : v'.ownBlock = vc.ownBlock ∨ v'.ownBlock = some x.heap.size)
   (d : Zh (fun k => w.heap.size + 2 ≤ k ∧ vc.ownBlock ≠ some k ∧ vp.ownBlock ≠ some k) x ca.ds ys) (p : Put y z (w.heap.size + 1) 26 [v', vp]) : FileW w q c r K L s (cs ++ [ca]) ps (xc ++ ys) xp v' vp z := by
 have hq := h.qin
 have hc := h.cin
 have hr := h.rin
 have i1 := h.res.inside
 have i2 := h.var.inside
 have hb : ∀ k, vc.ownBlock = some k → w.heap.size + 2 ≤ k := fun k hk => (h.rc.lt k hk).1
 have hk : Zo (fun k => vc.ownBlock = some k ∨ k = w.heap.size + 1) x z := (Zo.grown (Zo.refl _ _) hg fun k hk => .inl hk).trans (p.keeps.mono fun k hk => .inr hk)
 have hs : ∀ k, k < x.heap.size → (w.heap.size + 2 ≤ k ∧ vc.ownBlock ≠ some k ∧ vp.ownBlock ≠ some k) → ¬ (vc.ownBlock = some k ∨ k = w.heap.size + 1) ∧ (w.heap.size + 2 ≤ k ∧ v'.ownBlock ≠ some k ∧ vp.ownBlock ≠ some k) := fun k hk hn => by
   refine ⟨fun c => c.elim hn.2.1 fun e => by omega, hn.1, fun c => ?_, hn.2.2⟩
   rcases hat with e1 | e1
   · rw [e1] at c; exact hn.2.1 c
   · rw [e1] at c; injection c with c; omega
 have kq : ∀ j, j < w.heap.size + 2 → ¬ vc.ownBlock = some j := fun j hj e => by have := hb j e; omega
 refine ⟨⟨h.mv.at_.keeps hk (fun e => e.elim (kq _ (by omega)) fun e => by omega) (fun e => e.elim (kq _ (by omega)) fun e => by omega) (fun e => e.elim (kq _ (by omega)) fun e => by omega), ?_⟩, hk.whole h.res (fun e => e.elim (kq _ (by omega)) fun e => by omega), p.whole, ?_, ?_, ?_, h.dp.keeps hk hs, ?_, hq, hc, hr⟩
 · have h1 : Zo (fun k => (k = q ∨ k = c) ∨ (vc.ownBlock = some k ∨ k = w.heap.size + 1)) w x := h.mv.keeps.mono fun k h => .inl h
   have h2 : Zo (fun k => (k = q ∨ k = c) ∨ (vc.ownBlock = some k ∨ k = w.heap.size + 1)) x z := hk.mono fun k h => .inr h
   exact (h1.trans h2).inner fun k hk' h => h.elim id fun e => e.elim (fun e => absurd e (kq k (by omega))) fun e => by omega
 · rw [List.length_append]
   exact p.keeps.owns ho fun k hk c => by have := (ho.lt k hk).1; omega
 · exact hk.owns h.rp fun k hk c => c.elim (fun e => h.ap k e hk) fun e => by have := (h.rp.lt k hk).1; omega
 · rw [casDs_snoc]
   exact Zh.app (d.keeps hk hs) (h.dc.keeps hk hs)
 · intro k hk2
   rcases hat with e1 | e1
   · rw [e1] at hk2; exact h.ap k hk2
   · rw [e1] at hk2; injection hk2 with e2; intro c; have := (h.rp.lt k c).2; omega
theorem FileW.pushP {w x y z : World} {q c r K : Nat} {L : List TokV} {s : St} {cs : List Ca} {ps : List Pl} {xc xp ys : List Value} {vc vp v' : Value} (h : FileW w q c r K L s cs ps xc xp vc vp x) (pl : Pl)
   (ho : y.ownsRow (w.heap.size + 2) 38 4 v' (ps.length + 1) (xp ++ ys)) (hg : x.grownBy y vp.ownBlock) (hat : v'.ownBlock = vp.ownBlock ∨ v'.ownBlock = some x.heap.size)
   (d : Zh (fun k => w.heap.size + 2 ≤ k ∧ vc.ownBlock ≠ some k ∧ vp.ownBlock ≠ some k) x pl.ds ys) (p : Put y z (w.heap.size + 1) 26 [vc, v']) : FileW w q c r K L s cs (ps ++ [pl]) xc (xp ++ ys) vc v' z := by
 have hq := h.qin
 have hc := h.cin
 have hr := h.rin
 have i1 := h.res.inside
 have i2 := h.var.inside
 have hb : ∀ k, vp.ownBlock = some k → w.heap.size + 2 ≤ k := fun k hk => (h.rp.lt k hk).1
 have hk : Zo (fun k => vp.ownBlock = some k ∨ k = w.heap.size + 1) x z := (Zo.grown (Zo.refl _ _) hg fun k hk => .inl hk).trans (p.keeps.mono fun k hk => .inr hk)
 have hs : ∀ k, k < x.heap.size → (w.heap.size + 2 ≤ k ∧ vc.ownBlock ≠ some k ∧ vp.ownBlock ≠ some k) → ¬ (vp.ownBlock = some k ∨ k = w.heap.size + 1) ∧ (w.heap.size + 2 ≤ k ∧ vc.ownBlock ≠ some k ∧ v'.ownBlock ≠ some k) := fun k hk hn => by
   refine ⟨fun c => c.elim hn.2.2 fun e => by omega, hn.1, hn.2.1, fun c => ?_⟩
   rcases hat with e1 | e1
   · rw [e1] at c; exact hn.2.2 c
   · rw [e1] at c; injection c with c; omega
 have kq : ∀ j, j < w.heap.size + 2 → ¬ vp.ownBlock = some j := fun j hj e => by have := hb j e; omega
 refine ⟨⟨h.mv.at_.keeps hk (fun e => e.elim (kq _ (by omega)) fun e => by omega) (fun e => e.elim (kq _ (by omega)) fun e => by omega) (fun e => e.elim (kq _ (by omega)) fun e => by omega), ?_⟩, hk.whole h.res (fun e => e.elim (kq _ (by omega)) fun e => by omega), p.whole, ?_, ?_, h.dc.keeps hk hs, ?_, ?_, hq, hc, hr⟩
 · have h1 : Zo (fun k => (k = q ∨ k = c) ∨ (vp.ownBlock = some k ∨ k = w.heap.size + 1)) w x := h.mv.keeps.mono fun k h => .inl h
   have h2 : Zo (fun k => (k = q ∨ k = c) ∨ (vp.ownBlock = some k ∨ k = w.heap.size + 1)) x z := hk.mono fun k h => .inr h
   exact (h1.trans h2).inner fun k hk' h => h.elim id fun e => e.elim (fun e => absurd e (kq k (by omega))) fun e => by omega
 · exact hk.owns h.rc fun k hk c => c.elim (fun e => h.ap k hk e) fun e => by have := (h.rc.lt k hk).1; omega
 · rw [List.length_append]
   exact p.keeps.owns ho fun k hk c => by have := (ho.lt k hk).1; omega
 · rw [plsDs_snoc]
   exact Zh.app (d.keeps hk hs) (h.dp.keeps hk hs)
 · intro k hk2 c
   rcases hat with e1 | e1
   · rw [e1] at c; exact h.ap k hk2 c
   · rw [e1] at c; injection c with e2; have := (h.rc.lt k hk2).2; omega
theorem file_stop (nk : Int) (L : List TokV) (m : Nat) (st : St) (h : Zm L Ws st = 0) : Vc nk L (m + 1) st = (⟨[], []⟩, st) := by rw [Vc, if_pos h]
theorem file_card (nk : Int) (L : List TokV) (m : Nat) (st : St) (h : Zm L Ws st = 1) : Vc nk L (m + 1) st =
     (⟨(Uj nk L m (st.tok L).line (st.tok L).col (Yf L Ws st)).1 :: (Vc nk L m (Uj nk L m (st.tok L).line (st.tok L).col (Yf L Ws st)).2).1.cards,
         (Vc nk L m (Uj nk L m (st.tok L).line (st.tok L).col (Yf L Ws st)).2).1.places⟩,
       (Vc nk L m (Uj nk L m (st.tok L).line (st.tok L).col (Yf L Ws st)).2).2) := by rw [Vc, if_neg (by omega), if_pos h]
theorem file_place (nk : Int) (L : List TokV) (m : Nat) (st : St) (h : Zm L Ws st = 2) : Vc nk L (m + 1) st =
     (⟨(Vc nk L m (Vj nk L m (st.tok L).line (st.tok L).col (Yf L Ws st)).2).1.cards,
         (Vj nk L m (st.tok L).line (st.tok L).col (Yf L Ws st)).1 :: (Vc nk L m (Vj nk L m (st.tok L).line (st.tok L).col (Yf L Ws st)).2).1.places⟩,
       (Vc nk L m (Vj nk L m (st.tok L).line (st.tok L).col (Yf L Ws st)).2).2) := by rw [Vc, if_neg (by omega), if_neg (by omega)]
theorem xfile (n : Nat) (w : World) (q c r K : Nat) (L : List TokV) (st : St) (h : PAt w q c r K L st) (hn : 8 * Zw L st + 10 ≤ n) (hLn : Zw L st ≤ 68719476736) :
   Calls Tryz.prog 85 #[.pointer (some ⟨q, 0, none⟩)] w (Yl w q c r K L (Vc 5 L n st).2 (Vc 5 L n st).1.ds) := by
 have qin := h.whole.inside
 have cin := h.cin
 have rin := h.rin
 have nb := Za w (.cells #[.slice none 0 0, .slice none 0 0] 26)
 have nb2 := Za (w.alloc (.cells #[.slice none 0 0, .slice none 0 0] 26)) (.cells #[.slice none 0 0, .slice none 0 0] 26)
 have H0 := Hh (show FileW w q c r K L st [] [] [] [] (.slice none 0 0) (.slice none 0 0) ((w.alloc (.cells #[.slice none 0 0, .slice none 0 0] 26)).alloc (.cells #[.slice none 0 0, .slice none 0 0] 26)) from
   ⟨((Yo.start h).next nb).next nb2, (Zb.made w 26 #[.slice none 0 0, .slice none 0 0]).alloc (.cells #[.slice none 0 0, .slice none 0 0] 26), by have e := Zb.made (w.alloc (.cells #[.slice none 0 0, .slice none 0 0] 26)) 26 #[.slice none 0 0, .slice none 0 0]; rw [World.size_alloc] at e; exact e,
     World.ownsRow_nil _ _ _ _, World.ownsRow_nil _ _ _ _, rfl, rfl, Apart.nil _, qin, cin, rin⟩)
 have HN := Hh (And.intro hn hLn)
 clear hn h hLn nb nb2
 go_enter Tryz.func85, Tryz.ntmps85
 go_wp2
 go_loopw [4] (fun v4 wr => ∃ (m : Nat) (cs : List Ca) (ps : List Pl) (xc xp : List Value) (vc vp : Value) (s : St), FileW w q c r K L s cs ps xc xp vc vp wr ∧ 8 * Zw L s + 10 ≤ m ∧ m ≤ n ∧ cs.length + ps.length + Zw L s ≤ Zw L st ∧
   Vc 5 L n st = (⟨cs ++ (Vc 5 L m s).1.cards, ps ++ (Vc 5 L m s).1.places⟩, (Vc 5 L m s).2)) (fun _ wr => remW q c wr)
 case atStart => exact ⟨n, [], [], [], [], _, _, st, H0.out, HN.out.1, Nat.le_refl _, by simp, by simp⟩
 case round =>
   obtain ⟨m, cs, ps, xc, xp, vc, vp, s, hR, hm, hmn, hacc, heq⟩ := hrel
   obtain ⟨m, rfl⟩ : ∃ m', m = m' + 1 := ⟨m - 1, by omega⟩
   have hcell := hR.mv.at_.cell
   have hrem := hR.mv.at_.rem
   have hpk := xPeek wr q c r K L s hR.mv.at_
   have hz0 : w.heap.size + 2 ≤ wr.heap.size := by have := hR.var.inside; omega
   obtain ⟨fi0, fi1⟩ := find_inv L Ws s
   have hfr := Ul (L := L) (ws := Ws) (st := s)
   have hfn := Jz L (ws := Ws) (st := s)
   have hle := findN_le L Ws s
   have hsp := file_stop 5 L m s
   have hs1 := file_card 5 L m s
   have hs2 := file_place 5 L m s
   generalize s.tok L = tv at *
   unfold Ub at hpk
   generalize Zm L Ws s = k at *
   generalize Yf L Ws s = s1 at *
   have HR := Hh hR
   have HQ := Hh heq
   have hk3 : k = 0 ∨ k = 1 ∨ k = 2 := by have e : k ≤ 2 := hle; omega
   clear hR heq hle
   rcases hk3 with hk | hk | hk
   · have t1 : ∀ w, PAt w q c r K L s → Calls Tryz.prog 136 #[Xz c s, .string ⟨#[99, 97, 114, 100]⟩] w (Yg w q c r K L s (.bool false)) := fun w h => by have e : isS L ⟨#[99, 97, 114, 100]⟩ s = false := fi0 hk 0 (by decide); have h1 := Vf w q c r K L s ⟨#[99, 97, 114, 100]⟩ h; rw [e, Xq e] at h1; exact h1
     have t2 : ∀ w, PAt w q c r K L s → Calls Tryz.prog 136 #[Xz c s, .string ⟨#[112, 108, 97, 99, 101]⟩] w (Yg w q c r K L s (.bool false)) := fun w h => by have e : isS L ⟨#[112, 108, 97, 99, 101]⟩ s = false := fi0 hk 1 (by decide); have h1 := Vf w q c r K L s ⟨#[112, 108, 97, 99, 101]⟩ h; rw [e, Xq e] at h1; exact h1
     have HS := Hh (hsp hk)
     clear hs1 hs2 hsp hfn hfr hm hmn hacc hrem fi0 fi1 hk
     go_wp2_with (first
 | (go_at_call 133; refine hpk.mono ?_; rintro e w1 ⟨rfl, b1⟩
    have nb := Za w1 (.cells #[.int .i64 tv.k, .string tv.t, .int .i64 tv.n, .int .i64 (tv.line : Int), .int .i64 (tv.col : Int)] 85)
    have M1 := Hh ((HR.out.mv.next b1).next nb)
    have hcell := M1.out.at_.cell
    have F1 := Hh (((Vh.start q c wr).next b1).next nb)
    have K1 := Hh (Zb.made w1 85 #[.int .i64 tv.k, .string tv.t, .int .i64 tv.n, .int .i64 (tv.line : Int), .int .i64 (tv.col : Int)])
    have hz1 : wr.heap.size ≤ w1.heap.size := b1.size
    clear b1 nb)
 | (go_at_call 136; (with_reducible refine (t1 _ ?_).mono ?_); exact M1.out.at_; rintro e w2 ⟨rfl, m2⟩
    have M2 := Hh (M1.out.then m2)
    have hcell := M2.out.at_.cell
    have F2 := Hh (F1.out.move m2)
    have K2 := Hh (m2.keeps.whole K1.out (by omega))
    have hz2 : w1.heap.size + 1 ≤ w2.heap.size := by have := m2.keeps.size; (try simp at this); omega
    clear m2)
 | (go_at_call 136; (with_reducible refine (t2 _ ?_).mono ?_); exact M2.out.at_; rintro e w3 ⟨rfl, m3⟩
    have M3 := Hh (M2.out.then m3)
    have hcell := M3.out.at_.cell
    have F3 := Hh (F2.out.move m3)
    have K3 := Hh (m3.keeps.whole K2.out (by omega))
    have hz3 := Nat.le_trans hz2 m3.keeps.size
    clear m3)
 | ((with_reducible refine Ze 12 ?_); refine Zd 26 _ 26 (w.heap.size + 1) [vc, vp] (HR.out.round F3.out M3.out).var row_fi Jq rfl rfl rfl ?_)
 | ((with_reducible refine Zl 2 12 ?_); refine Zc 26 _ _ 26 w.heap.size [.slice none 0 0, .slice none 0 0] [vc, vp] (HR.out.round F3.out M3.out).res rfl Jq (by obtain ⟨_, _, e1, _⟩ := Xx HR.out.rc; obtain ⟨_, _, e2, _⟩ := Xx HR.out.rp; rw [e1, e2]; simp [Value.oneCell']) rfl rfl rfl rfl rfl ?_
    intro w4 p4
    have R4 := Hh p4.whole
    have R3 := Hh (HR.out.round F3.out M3.out)
    have P4 := Hh p4; clear p4))
     refine Zs 2 26 26 w.heap.size _ rfl R4.out row_fi Jq rfl rfl ⟨_, rfl, ?_, ?_⟩
     · rw [HQ.out, HS.out]
       dsimp only
       rw [List.append_nil, List.append_nil]
       have R := R3.out
       have a := Zh.rowOf R.rp (N := fun k => w.heap.size + 2 ≤ k) (fun k hk => hk) (R.dp.mono fun k _ hk => hk.1)
       have b := Zh.rowOf R.rc (N := fun k => w.heap.size + 2 ≤ k) (fun k hk => hk) (R.dc.mono fun k _ hk => hk.1)
       exact ((Zh.app (x := .row cs.length (casDs cs) .nil) a b).keeps P4.out.keeps (M := fun k => w.heap.size ≤ k) fun k _ hk => ⟨by omega, by omega⟩)
     · rw [HQ.out, HS.out]
       exact R3.out.mv.put P4.out (Nat.le_refl _) qin cin rin
   · have t1 : ∀ w, PAt w q c r K L s → Calls Tryz.prog 136 #[Xz c s, .string ⟨#[99, 97, 114, 100]⟩] w (Yg w q c r K L s1 (.bool true)) := fun w h => by have e := (fi1 0 hk).2; have e1 : isS L ⟨#[99, 97, 114, 100]⟩ s = true := e.1; have e2 : s1 = Wc L ⟨#[99, 97, 114, 100]⟩ s := e.2; have h1 := Vf w q c r K L s ⟨#[99, 97, 114, 100]⟩ h; rw [e1, ← e2] at h1; exact h1
     have hst := hs1 hk
     have hfr := hfr (by omega)
     have hrc := rem_card L 5 m 0 0 s1
     have hca : ∀ w, PAt w q c r K L s1 → Calls Tryz.prog 137 #[.pointer (some ⟨q, 0, none⟩)] w (Yl w q c r K L (Uj 5 L m 0 0 s1).2 (Uj 5 L m 0 0 s1).1.ds) := fun w h => xcard w q c r K L s1 m h (by omega) (by have := HN.out; omega)
     rw [show Uj 5 L m (tv.line : Int) (tv.col : Int) s1 = (⟨(Uj 5 L m 0 0 s1).1.name, (Uj 5 L m 0 0 s1).1.cost, (Uj 5 L m 0 0 s1).1.power, (tv.line : Int), (tv.col : Int), (Uj 5 L m 0 0 s1).1.rules⟩, (Uj 5 L m 0 0 s1).2) from rfl] at hst
     generalize Uj 5 L m 0 0 s1 = xx at *
     obtain ⟨x, s2⟩ := xx
     dsimp only at hst hrc hca
     have HT := Hh (And.intro hst (And.intro hm (And.intro hmn (And.intro hacc (And.intro hrem (And.intro hfr hrc))))))
     clear hs1 hs2 hsp hfn hm hmn hacc hrem fi0 fi1 hk hst hfr hrc
     go_wp2_with (first
 | (go_at_call 133; refine hpk.mono ?_; rintro e w1 ⟨rfl, b1⟩
    have nb := Za w1 (.cells #[.int .i64 tv.k, .string tv.t, .int .i64 tv.n, .int .i64 (tv.line : Int), .int .i64 (tv.col : Int)] 85)
    have M1 := Hh ((HR.out.mv.next b1).next nb)
    have hcell := M1.out.at_.cell
    have F1 := Hh (((Vh.start q c wr).next b1).next nb)
    have K1 := Hh (Zb.made w1 85 #[.int .i64 tv.k, .string tv.t, .int .i64 tv.n, .int .i64 (tv.line : Int), .int .i64 (tv.col : Int)])
    have hz1 : wr.heap.size ≤ w1.heap.size := b1.size
    clear b1 nb)
 | (go_at_call 136; (with_reducible refine (t1 _ ?_).mono ?_); exact M1.out.at_; rintro e w2 ⟨rfl, m2⟩
    have M2 := Hh (M1.out.then m2)
    have hcell := M2.out.at_.cell
    have F2 := Hh (F1.out.move m2)
    have K2 := Hh (m2.keeps.whole K1.out (by omega))
    have hz2 : w1.heap.size + 1 ≤ w2.heap.size := by have := m2.keeps.size; (try simp at this); omega
    clear m2)
 | (go_at_call 137; refine (hca _ M2.out.at_).mono ?_; rintro e w4 ⟨vs, rfl, d4, m4⟩
    obtain ⟨_, rfl, _, rfl, _, rfl, _, rfl, _, rfl, dr⟩ := d4
    obtain ⟨Aa, Ac, rs, tt, e1, dn, d5, d6, rfl⟩ := dr
    subst e1
    have nb := Za w4 (.cells #[.string x.name, .int .i64 x.cost, .int .i64 x.power, .int .i64 x.line, .int .i64 x.col, .slice Aa x.rules.length Ac] 35)
    have M4 := Hh ((M2.out.then m4).next nb)
    have F4 := Hh ((F2.out.move m4).next nb)
    have K4 := m4.keeps.whole K2.out (by omega)
    have y3 : ∀ o, (w4.alloc o).cell? ⟨w1.heap.size, 3, none⟩ = some (.int .i64 (tv.line : Int)) := fun o => (K4.alloc o).read 3
    have y4 : ∀ o, (w4.alloc o).cell? ⟨w1.heap.size, 4, none⟩ = some (.int .i64 (tv.col : Int)) := fun o => (K4.alloc o).read 4
    have hz4 : w2.heap.size ≤ w4.heap.size := m4.keeps.size
    have D4 := Hh (show Zh (fun k => w2.heap.size ≤ k) w4 (.row x.rules.length (Zai x.rules) .nil) [.slice Aa x.rules.length Ac] from ⟨Aa, Ac, rs, [], rfl, dn, d5, d6, rfl⟩)
    have hne : ¬ (w4.heap.size = w1.heap.size) := by omega
    have X4 := Hh m4; clear m4 nb K4 dn d5 d6))
     go_region
     have T5 := Hh (show Zb (w4.alloc (.cells #[.string x.name, .int .i64 x.cost, .int .i64 x.power, .int .i64 (tv.line : Int), .int .i64 (tv.col : Int), .slice Aa x.rules.length Ac] 35)).drew w4.heap.size 35 ([.string x.name, .int .i64 x.cost, .int .i64 x.power, .int .i64 (tv.line : Int), .int .i64 (tv.col : Int), .slice Aa x.rules.length Ac] : List Value).toArray from (Zb.made w4 35 #[.string x.name, .int .i64 x.cost, .int .i64 x.power, .int .i64 (tv.line : Int), .int .i64 (tv.col : Int), .slice Aa x.rules.length Ac]).drew)
     have k5 : Zo (fun _ => False) (w4.alloc (.cells #[.string x.name, .int .i64 x.cost, .int .i64 x.power, .int .i64 x.line, .int .i64 x.col, .slice Aa x.rules.length Ac] 35)) (w4.alloc (.cells #[.string x.name, .int .i64 x.cost, .int .i64 x.power, .int .i64 (tv.line : Int), .int .i64 (tv.col : Int), .slice Aa x.rules.length Ac] 35)).drew → True := fun _ => trivial
     have nb := Za w4 (.cells #[.string x.name, .int .i64 x.cost, .int .i64 x.power, .int .i64 (tv.line : Int), .int .i64 (tv.col : Int), .slice Aa x.rules.length Ac] 35)
     have M5 := Hh (((M2.out.then X4.out).next nb).drew)
     have F5 := Hh (((F2.out.move X4.out).next nb).drew)
     have D5 := Hh ((D4.out.below nb).keeps (S := fun _ => False) (Zo.drew (Zo.refl _ _)) (M := fun k => w2.heap.size ≤ k) (fun k _ hk => ⟨id, hk⟩))
     have hz5 : w4.heap.size + 1 ≤ (w4.alloc (.cells #[.string x.name, .int .i64 x.cost, .int .i64 x.power, .int .i64 (tv.line : Int), .int .i64 (tv.col : Int), .slice Aa x.rules.length Ac] 35)).drew.heap.size := T5.out.inside
     clear nb y3 y4 k5
     generalize (w4.alloc (.cells #[.string x.name, .int .i64 x.cost, .int .i64 x.power, .int .i64 (tv.line : Int), .int .i64 (tv.col : Int), .slice Aa x.rules.length Ac] 35)).drew = w5 at *
     have R5 := Hh (HR.out.round F5.out M5.out)
     have hT : w5.cell? ⟨w.heap.size + 1, 0, none⟩ = some (vc) := R5.out.var.read 0
     have D6 := Hh (show Zh (fun k => w2.heap.size ≤ k) w5 (⟨x.name, x.cost, x.power, (tv.line : Int), (tv.col : Int), x.rules⟩ : Ca).ds [.string x.name, .int .i64 x.cost, .int .i64 x.power, .int .i64 (tv.line : Int), .int .i64 (tv.col : Int), .slice Aa x.rules.length Ac] from ⟨_, rfl, _, rfl, _, rfl, _, rfl, _, rfl, D5.out⟩)
     go_wp2_with (first
 | ((with_reducible refine Ze 29 ?_); refine Zd 35 _ 35 w4.heap.size _ T5.out row_ca size_ca rfl rfl rfl ?_)
 | (at_builtin; refine Xm (.tmp 28) (.tmp 30) 23 35 6 72 _ und_cas info_ca rfl (by decide) (by decide) (w.heap.size + 2) (vc) cs.length xc [.string x.name, .int .i64 x.cost, .int .i64 x.power, .int .i64 (tv.line : Int), .int .i64 (tv.col : Int), .slice Aa x.rules.length Ac] (R5.out.round (Vh.next (Vh.start q c _) (Za w5 (.cells [.string x.name, .int .i64 x.cost, .int .i64 x.power, .int .i64 (tv.line : Int), .int .i64 (tv.col : Int), .slice Aa x.rules.length Ac].toArray 35))) (R5.out.mv.next (Za w5 (.cells [.string x.name, .int .i64 x.cost, .int .i64 x.power, .int .i64 (tv.line : Int), .int .i64 (tv.col : Int), .slice Aa x.rules.length Ac].toArray 35)))).rc w5.heap.size (Zb.made _ _ _) rfl (by simp [Value.oneCell']) (by have := HT.out.2.2.2.1; have := HN.out.2; omega) (by simp; omega) rfl rfl rfl rfl ?_
    intro v9 w9 o9 g9 at9
    have R9 := Hh (R5.out.round (Vh.next (Vh.start q c _) (Za w5 (.cells [.string x.name, .int .i64 x.cost, .int .i64 x.power, .int .i64 (tv.line : Int), .int .i64 (tv.col : Int), .slice Aa x.rules.length Ac].toArray 35))) (R5.out.mv.next (Za w5 (.cells [.string x.name, .int .i64 x.cost, .int .i64 x.power, .int .i64 (tv.line : Int), .int .i64 (tv.col : Int), .slice Aa x.rules.length Ac].toArray 35))))
    have O9 := Hh (And.intro o9 (And.intro g9 at9))
    have V9 := Hh (Vr g9 R9.out.var (fun c => by have := (HR.out.rc.lt _ c).1; omega))
    obtain ⟨A9, c9, rfl, _⟩ := Xx o9
    clear o9 g9 at9)
 | ((with_reducible refine Zl 32 31 ?_); refine Zn 23 _ _ 26 (w.heap.size + 1) 0 [] (vc) (.slice A9 (cs.length + 1) c9) [vp] V9.out rfl size_cas rfl rfl rfl rfl rfl rfl ?_
    intro w10 p10
    have R10 := Hh (R9.out.pushC ⟨x.name, x.cost, x.power, (tv.line : Int), (tv.col : Int), x.rules⟩ O9.out.1 O9.out.2.1 O9.out.2.2 ((D6.out.below (Za w5 (.cells [.string x.name, .int .i64 x.cost, .int .i64 x.power, .int .i64 (tv.line : Int), .int .i64 (tv.col : Int), .slice Aa x.rules.length Ac].toArray 35))).mono fun k _ hk => ⟨by omega, fun c => by have := HR.out.rc.lt _ c; omega, fun c => by have := HR.out.rp.lt _ c; omega⟩) p10)
    clear p10))
     go_roundw
     case rel =>
       obtain ⟨h1, h2, h3, h4, h5, h6, h7⟩ := HT.out
       refine ⟨m, cs ++ [⟨x.name, x.cost, x.power, (tv.line : Int), (tv.col : Int), x.rules⟩], ps, _, _, _, _, s2, R10.out, ?_, ?_, ?_, ?_⟩
       · omega
       · omega
       · rw [List.length_append]; simp only [List.length_cons, List.length_nil]; omega
       · rw [HQ.out, h1]; simp
     case measure =>
       obtain ⟨h1, h2, h3, h4, h5, h6, h7⟩ := HT.out
       have := R10.out.mv.at_.rem
       rw [this, h5]; omega
   · have t1 : ∀ w, PAt w q c r K L s → Calls Tryz.prog 136 #[Xz c s, .string ⟨#[99, 97, 114, 100]⟩] w (Yg w q c r K L s (.bool false)) := fun w h => by have e : isS L ⟨#[99, 97, 114, 100]⟩ s = false := (fi1 1 hk).1 0 (by decide); have h1 := Vf w q c r K L s ⟨#[99, 97, 114, 100]⟩ h; rw [e, Xq e] at h1; exact h1
     have t2 : ∀ w, PAt w q c r K L s → Calls Tryz.prog 136 #[Xz c s, .string ⟨#[112, 108, 97, 99, 101]⟩] w (Yg w q c r K L s1 (.bool true)) := fun w h => by have e := (fi1 1 hk).2; have e1 : isS L ⟨#[112, 108, 97, 99, 101]⟩ s = true := e.1; have e2 : s1 = Wc L ⟨#[112, 108, 97, 99, 101]⟩ s := e.2; have h1 := Vf w q c r K L s ⟨#[112, 108, 97, 99, 101]⟩ h; rw [e1, ← e2] at h1; exact h1
     have hst := hs2 hk
     have hfr := hfr (by omega)
     have hrc := rem_place L 5 m 0 0 s1
     have hca : ∀ w, PAt w q c r K L s1 → Calls Tryz.prog 138 #[.pointer (some ⟨q, 0, none⟩)] w (Yl w q c r K L (Vj 5 L m 0 0 s1).2 (Vj 5 L m 0 0 s1).1.ds) := fun w h => xplace w q c r K L s1 m h (by omega) (by have := HN.out; omega)
     rw [show Vj 5 L m (tv.line : Int) (tv.col : Int) s1 = (⟨(Vj 5 L m 0 0 s1).1.name, (tv.line : Int), (tv.col : Int), (Vj 5 L m 0 0 s1).1.rules⟩, (Vj 5 L m 0 0 s1).2) from rfl] at hst
     generalize Vj 5 L m 0 0 s1 = xx at *
     obtain ⟨x, s2⟩ := xx
     dsimp only at hst hrc hca
     have HT := Hh (And.intro hst (And.intro hm (And.intro hmn (And.intro hacc (And.intro hrem (And.intro hfr hrc))))))
     clear hs1 hs2 hsp hfn hm hmn hacc hrem fi0 fi1 hk hst hfr hrc
     go_wp2_with (first
 | (go_at_call 133; refine hpk.mono ?_; rintro e w1 ⟨rfl, b1⟩
    have nb := Za w1 (.cells #[.int .i64 tv.k, .string tv.t, .int .i64 tv.n, .int .i64 (tv.line : Int), .int .i64 (tv.col : Int)] 85)
    have M1 := Hh ((HR.out.mv.next b1).next nb)
    have hcell := M1.out.at_.cell
    have F1 := Hh (((Vh.start q c wr).next b1).next nb)
    have K1 := Hh (Zb.made w1 85 #[.int .i64 tv.k, .string tv.t, .int .i64 tv.n, .int .i64 (tv.line : Int), .int .i64 (tv.col : Int)])
    have hz1 : wr.heap.size ≤ w1.heap.size := b1.size
    clear b1 nb)
 | (go_at_call 136; (with_reducible refine (t1 _ ?_).mono ?_); exact M1.out.at_; rintro e w2 ⟨rfl, m2⟩
    have M2 := Hh (M1.out.then m2)
    have hcell := M2.out.at_.cell
    have F2 := Hh (F1.out.move m2)
    have K2 := Hh (m2.keeps.whole K1.out (by omega))
    have hz2 : w1.heap.size + 1 ≤ w2.heap.size := by have := m2.keeps.size; (try simp at this); omega
    clear m2)
 | (go_at_call 136; (with_reducible refine (t2 _ ?_).mono ?_); exact M2.out.at_; rintro e w3 ⟨rfl, m3⟩
    have M3 := Hh (M2.out.then m3)
    have hcell := M3.out.at_.cell
    have F3 := Hh (F2.out.move m3)
    have K3 := Hh (m3.keeps.whole K2.out (by omega))
    have hz3 := Nat.le_trans hz2 m3.keeps.size
    clear m3)
 | (go_at_call 138; refine (hca _ M3.out.at_).mono ?_; rintro e w4 ⟨vs, rfl, d4, m4⟩
    obtain ⟨_, rfl, _, rfl, _, rfl, dr⟩ := d4
    obtain ⟨Aa, Ac, rs, tt, e1, dn, d5, d6, rfl⟩ := dr
    subst e1
    have nb := Za w4 (.cells #[.string x.name, .int .i64 x.line, .int .i64 x.col, .slice Aa x.rules.length Ac] 38)
    have M4 := Hh ((M3.out.then m4).next nb)
    have F4 := Hh ((F3.out.move m4).next nb)
    have K4 := m4.keeps.whole K3.out (by omega)
    have y3 : ∀ o, (w4.alloc o).cell? ⟨w1.heap.size, 3, none⟩ = some (.int .i64 (tv.line : Int)) := fun o => (K4.alloc o).read 3
    have y4 : ∀ o, (w4.alloc o).cell? ⟨w1.heap.size, 4, none⟩ = some (.int .i64 (tv.col : Int)) := fun o => (K4.alloc o).read 4
    have hz4 : w3.heap.size ≤ w4.heap.size := m4.keeps.size
    have D4 := Hh (show Zh (fun k => w3.heap.size ≤ k) w4 (.row x.rules.length (Zai x.rules) .nil) [.slice Aa x.rules.length Ac] from ⟨Aa, Ac, rs, [], rfl, dn, d5, d6, rfl⟩)
    have hne : ¬ (w4.heap.size = w1.heap.size) := by omega
    have X4 := Hh m4; clear m4 nb K4 dn d5 d6))
     go_region
     have T5 := Hh (show Zb (w4.alloc (.cells #[.string x.name, .int .i64 (tv.line : Int), .int .i64 (tv.col : Int), .slice Aa x.rules.length Ac] 38)).drew w4.heap.size 38 ([.string x.name, .int .i64 (tv.line : Int), .int .i64 (tv.col : Int), .slice Aa x.rules.length Ac] : List Value).toArray from (Zb.made w4 38 #[.string x.name, .int .i64 (tv.line : Int), .int .i64 (tv.col : Int), .slice Aa x.rules.length Ac]).drew)
     have k5 : Zo (fun _ => False) (w4.alloc (.cells #[.string x.name, .int .i64 x.line, .int .i64 x.col, .slice Aa x.rules.length Ac] 38)) (w4.alloc (.cells #[.string x.name, .int .i64 (tv.line : Int), .int .i64 (tv.col : Int), .slice Aa x.rules.length Ac] 38)).drew → True := fun _ => trivial
     have nb := Za w4 (.cells #[.string x.name, .int .i64 (tv.line : Int), .int .i64 (tv.col : Int), .slice Aa x.rules.length Ac] 38)
     have M5 := Hh (((M3.out.then X4.out).next nb).drew)
     have F5 := Hh (((F3.out.move X4.out).next nb).drew)
     have D5 := Hh ((D4.out.below nb).keeps (S := fun _ => False) (Zo.drew (Zo.refl _ _)) (M := fun k => w3.heap.size ≤ k) (fun k _ hk => ⟨id, hk⟩))
     have hz5 : w4.heap.size + 1 ≤ (w4.alloc (.cells #[.string x.name, .int .i64 (tv.line : Int), .int .i64 (tv.col : Int), .slice Aa x.rules.length Ac] 38)).drew.heap.size := T5.out.inside
     clear nb y3 y4 k5
     generalize (w4.alloc (.cells #[.string x.name, .int .i64 (tv.line : Int), .int .i64 (tv.col : Int), .slice Aa x.rules.length Ac] 38)).drew = w5 at *
     have R5 := Hh (HR.out.round F5.out M5.out)
     have hT : w5.cell? ⟨w.heap.size + 1, 1, none⟩ = some (vp) := R5.out.var.read 1
     have D6 := Hh (show Zh (fun k => w3.heap.size ≤ k) w5 (⟨x.name, (tv.line : Int), (tv.col : Int), x.rules⟩ : Pl).ds [.string x.name, .int .i64 (tv.line : Int), .int .i64 (tv.col : Int), .slice Aa x.rules.length Ac] from ⟨_, rfl, _, rfl, _, rfl, D5.out⟩)
     go_wp2_with (first
 | ((with_reducible refine Ze 49 ?_); refine Zd 38 _ 38 w4.heap.size _ T5.out row_pl size_pl rfl rfl rfl ?_)
 | (at_builtin; refine Xm (.tmp 48) (.tmp 50) 24 38 4 56 _ und_pls info_pl rfl (by decide) (by decide) (w.heap.size + 2) (vp) ps.length xp [.string x.name, .int .i64 (tv.line : Int), .int .i64 (tv.col : Int), .slice Aa x.rules.length Ac] (R5.out.round (Vh.next (Vh.start q c _) (Za w5 (.cells [.string x.name, .int .i64 (tv.line : Int), .int .i64 (tv.col : Int), .slice Aa x.rules.length Ac].toArray 38))) (R5.out.mv.next (Za w5 (.cells [.string x.name, .int .i64 (tv.line : Int), .int .i64 (tv.col : Int), .slice Aa x.rules.length Ac].toArray 38)))).rp w5.heap.size (Zb.made _ _ _) rfl (by simp [Value.oneCell']) (by have := HT.out.2.2.2.1; have := HN.out.2; omega) (by simp; omega) rfl rfl rfl rfl ?_
    intro v9 w9 o9 g9 at9
    have R9 := Hh (R5.out.round (Vh.next (Vh.start q c _) (Za w5 (.cells [.string x.name, .int .i64 (tv.line : Int), .int .i64 (tv.col : Int), .slice Aa x.rules.length Ac].toArray 38))) (R5.out.mv.next (Za w5 (.cells [.string x.name, .int .i64 (tv.line : Int), .int .i64 (tv.col : Int), .slice Aa x.rules.length Ac].toArray 38))))
    have O9 := Hh (And.intro o9 (And.intro g9 at9))
    have V9 := Hh (Vr g9 R9.out.var (fun c => by have := (HR.out.rp.lt _ c).1; omega))
    obtain ⟨A9, c9, rfl, _⟩ := Xx o9
    clear o9 g9 at9)
 | ((with_reducible refine Zl 52 51 ?_); refine Zn 24 _ _ 26 (w.heap.size + 1) 1 [vc] (vp) (.slice A9 (ps.length + 1) c9) [] V9.out rfl size_pls rfl rfl rfl rfl rfl rfl ?_
    intro w10 p10
    have R10 := Hh (R9.out.pushP ⟨x.name, (tv.line : Int), (tv.col : Int), x.rules⟩ O9.out.1 O9.out.2.1 O9.out.2.2 ((D6.out.below (Za w5 (.cells [.string x.name, .int .i64 (tv.line : Int), .int .i64 (tv.col : Int), .slice Aa x.rules.length Ac].toArray 38))).mono fun k _ hk => ⟨by omega, fun c => by have := HR.out.rc.lt _ c; omega, fun c => by have := HR.out.rp.lt _ c; omega⟩) p10)
    clear p10))
     go_roundw
     case rel =>
       obtain ⟨h1, h2, h3, h4, h5, h6, h7⟩ := HT.out
       refine ⟨m, cs, ps ++ [⟨x.name, (tv.line : Int), (tv.col : Int), x.rules⟩], _, _, _, _, s2, R10.out, ?_, ?_, ?_, ?_⟩
       · omega
       · omega
       · rw [List.length_append]; simp only [List.length_cons, List.length_nil]; omega
       · rw [HQ.out, h1]; simp
     case measure =>
       obtain ⟨h1, h2, h3, h4, h5, h6, h7⟩ := HT.out
       have := R10.out.mv.at_.rem
       rw [this, h5]; omega
theorem text_cases (s : ByteArray) (h64 : s.size ≤ 65536) : (∃ E l c, scanV s = ([], E, l, c) ∧ E ≠ 0) ∨ (∃ L, scanV s = (L, 0, 0, 0) ∧ Ends L ∧ L.length ≤ s.size + 1) := by
 obtain ⟨L, E, p, hs⟩ : ∃ L E p, Ue s 0 [] = (L, E, p) := ⟨_, _, _, rfl⟩
 have hf := scan_tr s s.size 0 [] L E p (by omega) (by omega) (Bd.zero s) hs
 rw [scanV_of s h64 hs]
 by_cases hE : E = 0
 · obtain ⟨L2, h2, h3⟩ := hf.1 hE
   have e : L = L2 := h2
   subst e
   exact .inr ⟨L, by rw [if_pos hE], h3.sh.ends, by have := h3.len; omega⟩
 · exact .inl ⟨E, _, _, by rw [if_neg hE], hE⟩
def Zae (s : ByteArray) : List TokV := (scanV s).1
def textS (s : ByteArray) : St := if (scanV s).2.1 = 0 then .ok 0 0 else .bad (scanV s).2
def textN (s : ByteArray) : Nat := 8 * (Zae s).length + 20
def BeginPost (w : World) (s : ByteArray) (e : Ending) (w' : World) : Prop :=
 ∃ q c r K, e = .returned (.pointer (some ⟨q, 0, none⟩)) ∧ PAt w' q c r K (Zae s) (textS s) ∧ w.heap.size ≤ q ∧ w.heap.size ≤ c ∧ Below w.heap.size w w'
theorem xbegin (s : ByteArray) (w : World) (hs : s.size ≤ 65536) : Calls Tryz.prog 83 #[.string s] w (BeginPost w s) := by
 have hs2 : s.size ≤ 140737488355328 := by omega
 rcases text_cases s hs with ⟨E, l, c, hv, hE⟩ | ⟨L, hv, hL, _⟩
 · have hn := cNew_err s w hs2 E l c hv hE
   have HE := Hh (And.intro hE hv)
   clear hs hs2 hv hE
   unfold Zr at hn
   go_enter Tryz.func83, Tryz.ntmps83
   go_wp2_with (go_at_call 132; refine hn.mono ?_; rintro e w1 ⟨rfl, b1⟩; have B1 := Hh b1; clear b1)
   go_ret
   have e1 : textS s = .bad (E, l, c) := by unfold textS; rw [HE.out.2]; exact if_neg HE.out.1
   have W1 := Zb.made (w1.alloc (.cells #[.int .i64 E, .int .i64 (l : Int), .int .i64 (c : Int)] 29)) 185 #[.pointer none, .int .i64 E, .int .i64 (l : Int), .int .i64 (c : Int)]
   rw [World.size_alloc] at W1
   have hb := B1.out.size
   refine ⟨w1.heap.size + 1, w1.heap.size + 1, w1.heap.size + 1, 0, rfl, ?_, by omega, by omega, (B1.out.alloc hb _).alloc (by simp; omega) _⟩
   rw [e1]
   exact ⟨W1, fun a d e => (by cases e), fun F e => (by cases e; exact HE.out.1), by simp, by simp⟩
 · have hn := cNew_ok s w hs2 L hv hL
   have HE := Hh hv
   clear hs hs2 hv hL
   go_enter Tryz.func83, Tryz.ntmps83
   go_wp2_with (go_at_call 132; refine hn.mono ?_; rintro e w1 ⟨p, r, K, rfl, hc, hp, hr, b1⟩; have B1 := Hh (And.intro hc (And.intro hp (And.intro hr b1))); clear b1 hc hp hr; simp only [Zr, okF])
   go_ret
   obtain ⟨hc, hp, hr, b1⟩ := B1.out
   have e1 : textS s = .ok 0 0 := by unfold textS; rw [HE.out]; exact if_pos rfl
   have e2 : Zae s = L := by unfold Zae; rw [HE.out]
   have nb := Za w1 (.cells #[.int .i64 0, .int .i64 0, .int .i64 0] 29)
   have nb2 := Za (w1.alloc (.cells #[.int .i64 0, .int .i64 0, .int .i64 0] 29)) (.cells #[.pointer (some ⟨p, 0, none⟩), .int .i64 0, .int .i64 0, .int .i64 0] 185)
   have W1 := Zb.made (w1.alloc (.cells #[.int .i64 0, .int .i64 0, .int .i64 0] 29)) 185 #[.pointer (some ⟨p, 0, none⟩), .int .i64 0, .int .i64 0, .int .i64 0]
   rw [World.size_alloc] at W1
   have hb := b1.size
   have hi := hc.whole.inside
   have hri := hc.rin
   refine ⟨w1.heap.size + 1, p, r, K, rfl, ?_, by omega, by omega, (b1.alloc hb _).alloc (by simp; omega) _⟩
   rw [e1, e2]
   exact ⟨W1, fun a d e => (by cases e; exact ⟨by omega, by omega, (hc.below nb).below nb2⟩), fun F e => (by cases e), by simp; omega, by simp; omega⟩
theorem over_end (L : List TokV) (st : St) (h : (st.tok L).k = 0) : overS L st = st := by
 cases st with
 | ok a d => exact if_pos h
 | bad F => rfl
theorem over_not (L : List TokV) (st : St) (h : ¬ (st.tok L).k = 0) : overS L st = wrongS L st ∧ ∃ F, overS L st = .bad F ∧ F.1 ≠ 0 := by
 cases st with
 | ok a d => exact ⟨if_neg h, _, if_neg h, wrF_ne _⟩
 | bad F => exact absurd rfl h
theorem row_fa : (Tryz.prog.underlying 29).map TypeDesc.isRow = some true := by kernel_rfl
theorem size_fa : (Tryz.prog.info? 29).map (·.size) = some 3 := by kernel_rfl
theorem end_cell2 {P : Program} {fn : Func} {R : Ending → World → Prop} {a : Act} {w : World} (s1 T1 s2 T2 : Nat) (t1 t2 : TypeId) (g1 g2 : Nat) (vs us : List Value) (hres : fn.results = #[.cell s1 T1, .cell s2 T2]) (h1 : Zb w g1 t1 vs.toArray) (h2 : Zb w g2 t2 us.toArray)
   (hu1 : (P.underlying T1).map TypeDesc.isRow = some true) (hi1 : (P.info? T1).map (·.size) = some vs.length) (hu2 : (P.underlying T2).map TypeDesc.isRow = some true) (hi2 : (P.info? T2).map (·.size) = some us.length)
   (hp1 : a.tmps.getD s1 undef = .pointer (some ⟨g1, 0, none⟩)) (hp2 : a.tmps.getD s2 undef = .pointer (some ⟨g2, 0, none⟩)) (hd : a.defers = []) (hR : R (.returned (.tuple #[.agg vs.toArray, .agg us.toArray])) w) : bodyPost P fn R .ret a w := by
 obtain ⟨d1, hu1, hr1⟩ := Option.map_eq_some_iff.1 hu1
 obtain ⟨d2, hu2, hr2⟩ := Option.map_eq_some_iff.1 hu2
 refine bodyPost_ret (v := .tuple #[.agg vs.toArray, .agg us.toArray]) ?_ hd hR
 have hl1 := run_loadVar_mid (P := P) w g1 0 T1 vs d1 (by have := Zb.range (a := []) (b := vs) (c := []) (by simpa using h1); exact this) hu1 hr1 hi1
 have hl2 := run_loadVar_mid (P := P) w g2 0 T2 us d2 (by have := Zb.range (a := []) (b := us) (c := []) (by simpa using h2); exact this) hu2 hr2 hi2
 have hp1' : a.tmps[s1]?.getD undef = .pointer (some ⟨g1, 0, none⟩) := by simpa using hp1
 have hp2' : a.tmps[s2]?.getD undef = .pointer (some ⟨g2, 0, none⟩) := by simpa using hp2
 simp [results, hres, hp1', hp2', hl1, hl2, asAddr, Sem.run_bind, Sem.run_pure]
theorem put2 {w : World} {g : Nat} {t : TypeId} {a b : Value} (h : Zb w g t [a, b].toArray) (x y : Value) : Put w ((w.setCell ⟨g, 0, none⟩ x).setCell ⟨g, 1, none⟩ y) g t [x, y] :=
 ⟨by have e := Zb.setCells (g := g) (t := t) [] [x, y] [a, b] [] w rfl (by simpa using h); have e2 : Zb (w.setCells g 0 [x, y]) g t [x, y].toArray := by simpa using e
     exact e2, Zo.setCells (S := fun k => k = g) (g := g) rfl [x, y] 0 (Zo.refl _ w)⟩
theorem put3 {w : World} {g : Nat} {t : TypeId} {a b c : Value} (h : Zb w g t [a, b, c].toArray) (x y z : Value) : Put w (((w.setCell ⟨g, 0, none⟩ x).setCell ⟨g, 1, none⟩ y).setCell ⟨g, 2, none⟩ z) g t [x, y, z] := Zb.set3L (l := []) h x y z
theorem xfinF (w : World) (q c r K : Nat) (L : List TokV) (st : St) (va vb : Value) (ho : ∀ v ∈ [va, vb], v.oneCell' = true) (h : PAt w q c r K L st) :
   Calls Tryz.prog 84 #[.pointer (some ⟨q, 0, none⟩), .agg [va, vb].toArray] w (Yg w q c r K L (overS L st) (.tuple #[if (overS L st).good = true then .agg [va, vb].toArray else .agg [.slice none 0 0, .slice none 0 0].toArray, Zr (fltS (overS L st))])) := by
 have qin := h.whole.inside
 have cin := h.cin
 have rin := h.rin
 have n1 := Za w (.cells [va, vb].toArray 26)
 have n2 := Za (w.alloc (.cells [va, vb].toArray 26)) (.cells #[.slice none 0 0, .slice none 0 0] 26)
 have n3 := Za ((w.alloc (.cells [va, vb].toArray 26)).alloc (.cells #[.slice none 0 0, .slice none 0 0] 26)) (.cells #[.int .i64 0, .int .i64 0, .int .i64 0] 29)
 have M0 := Hh ((((Yo.start h).next n1).next n2).next n3)
 have X0 := Hh (((Zb.made w 26 [va, vb].toArray).alloc (.cells #[.slice none 0 0, .slice none 0 0] 26)).alloc (.cells #[.int .i64 0, .int .i64 0, .int .i64 0] 29))
 have R0 := Hh (show Zb (((w.alloc (.cells [va, vb].toArray 26)).alloc (.cells #[.slice none 0 0, .slice none 0 0] 26)).alloc (.cells #[.int .i64 0, .int .i64 0, .int .i64 0] 29)) (w.heap.size + 1) 26 ([.slice none 0 0, .slice none 0 0]).toArray from by have e := (Zb.made (w.alloc (.cells [va, vb].toArray 26)) 26 #[.slice none 0 0, .slice none 0 0]).alloc (.cells #[.int .i64 0, .int .i64 0, .int .i64 0] 29); rw [World.size_alloc] at e; exact e)
 have F0 := Hh (show Zb (((w.alloc (.cells [va, vb].toArray 26)).alloc (.cells #[.slice none 0 0, .slice none 0 0] 26)).alloc (.cells #[.int .i64 0, .int .i64 0, .int .i64 0] 29)) (w.heap.size + 1 + 1) 29 ([.int .i64 0, .int .i64 0, .int .i64 0] : List Value).toArray from by have e := Zb.made ((w.alloc (.cells [va, vb].toArray 26)).alloc (.cells #[.slice none 0 0, .slice none 0 0] 26)) 29 #[.int .i64 0, .int .i64 0, .int .i64 0]; rw [World.size_alloc, World.size_alloc] at e; exact e)
 clear n1 n2 n3
 have hcell := M0.out.at_.cell
 have hend := over_end L st
 have hnot := over_not L st
 have hwr : ∀ w, PAt w q c r K L st → Calls Tryz.prog 135 #[Xz c st] w fun e w' => e = .returned (Zr (wrongV L st)) ∧ Below w.heap.size w w' := fun w h => xWrong w q c r K L st h
 have hwn := wrong_note L st
 have hpk : ∀ w, PAt w q c r K L st → Calls Tryz.prog 133 #[Xz c st] w fun e w' => e = .returned (Ub (st.tok L)) ∧ Below w.heap.size w w' := fun w h => xPeek w q c r K L st h
 have hflt := h.flt
 generalize st.tok L = tv at *
 unfold Ub at hpk
 have hfd := fun w => tok_field tv.k tv.n (tv.line : Int) (tv.col : Int) tv.t w
 clear h
 by_cases hk : tv.k = 0
 · rw [hend hk]
   have k0 : (tv.k != 0) = false := by rw [hk]; rfl
   clear hend hnot hwn hwr hk
   cases st with
   | ok a d =>
     show Calls _ _ _ _ (Yg w q c r K L (.ok a d) (.tuple #[.agg [va, vb].toArray, Zr okF]))
     clear hflt
     go_enter Tryz.func84, Tryz.ntmps84
     go_wp2_with (first
 | (go_at_call 133; refine (hpk _ M0.out.at_).mono ?_; rintro e w1 ⟨rfl, b1⟩
    have X1 := Hh (X0.out.below b1 X0.out.inside)
    have R1 := Hh (R0.out.below b1 R0.out.inside)
    have F1 := Hh (F0.out.below b1 F0.out.inside)
    have M1 := Hh (M0.out.next b1)
    have hcell := M1.out.at_.cell
    have q1 : w1.cell? ⟨q, 1, none⟩ = some (.int .i64 0) := M1.out.at_.whole.read 1
    clear b1)
 | ((with_reducible refine Ze 32 ?_); refine Zd 26 _ 26 w.heap.size _ X1.out row_fi Jq rfl rfl rfl ?_)
 | ((with_reducible refine Zl 4 32 ?_); refine Zc 26 _ _ 26 (w.heap.size + 1) _ [va, vb] R1.out rfl Jq ho rfl rfl rfl rfl rfl ?_
    intro w2 p2
    have R2 := Hh p2.whole
    have F2 := Hh (p2.keeps.whole F1.out (by omega))
    have M2 := Hh (M1.out.put p2 (by omega) qin cin rin); clear p2)
 | ((with_reducible refine Zl 5 33 ?_); refine Zc 29 _ _ 29 (w.heap.size + 1 + 1) _ [.int .i64 0, .int .i64 0, .int .i64 0] F2.out rfl size_fa (by simp [Value.oneCell']) rfl rfl rfl rfl rfl ?_
    intro w3 p3
    have F3 := Hh p3.whole
    have R3 := Hh (p3.keeps.whole R2.out (by omega))
    have M3 := Hh (M2.out.put p3 (by omega) qin cin rin); clear p3))
     exact end_cell2 4 26 5 29 26 29 _ _ _ _ rfl R3.out F3.out row_fi Jq row_fa size_fa rfl rfl rfl ⟨rfl, M3.out⟩
   | bad F =>
     show Calls _ _ _ _ (Yg w q c r K L (.bad F) (.tuple #[.agg [.slice none 0 0, .slice none 0 0].toArray, Zr F]))
     obtain ⟨f0, f1, f2⟩ := F
     have hf0 := hflt _ rfl
     have z0 : (f0 != 0) = true := by rw [bne_iff_ne]; exact hf0
     clear hflt hf0
     go_enter Tryz.func84, Tryz.ntmps84
     go_wp2_with (first
 | (go_at_call 133; refine (hpk _ M0.out.at_).mono ?_; rintro e w1 ⟨rfl, b1⟩
    have X1 := Hh (X0.out.below b1 X0.out.inside)
    have R1 := Hh (R0.out.below b1 R0.out.inside)
    have F1 := Hh (F0.out.below b1 F0.out.inside)
    have M1 := Hh (M0.out.next b1)
    have hcell := M1.out.at_.cell
    have q1 : ∀ o, (w1.alloc o).cell? ⟨q, 1, none⟩ = some (.int .i64 f0) := fun o => (M1.out.at_.whole.alloc o).read 1
    have q2 : ∀ o, (w1.alloc o).cell? ⟨q, 2, none⟩ = some (.int .i64 (f1 : Int)) := fun o => (M1.out.at_.whole.alloc o).read 2
    have q3 : ∀ o, (w1.alloc o).cell? ⟨q, 3, none⟩ = some (.int .i64 (f2 : Int)) := fun o => (M1.out.at_.whole.alloc o).read 3
    have q0 : w1.cell? ⟨q, 1, none⟩ = some (.int .i64 f0) := M1.out.at_.whole.read 1
    have r0 : ∀ o, (w1.alloc o).cell? ⟨w.heap.size + 1, 0, none⟩ = some (.slice none 0 0) := fun o => (R1.out.alloc o).read 0
    have s0 : ∀ o, (w1.alloc o).frozen? ⟨w.heap.size + 1, 0, none⟩ = false := fun o => (R1.out.alloc o).thawed 0
    have r1 : ∀ o, (w1.alloc o).cell? ⟨w.heap.size + 1, 1, none⟩ = some (.slice none 0 0) := fun o => (R1.out.alloc o).read 1
    have s1 : ∀ o, (w1.alloc o).frozen? ⟨w.heap.size + 1, 1, none⟩ = false := fun o => (R1.out.alloc o).thawed 1
    have hn1 : ¬ (w1.heap.size = w.heap.size + 1) := by have := R1.out.inside; omega
    have hn2 : ¬ (w1.heap.size = w.heap.size + 1 + 1) := by have := F1.out.inside; omega
    have hn3 : ¬ (w.heap.size + 1 = q) := by omega
    have hn4 : ¬ (w.heap.size + 1 + 1 = q) := by omega
    have hn5 : ¬ (w1.heap.size = q) := by have := R1.out.inside; omega
    have hn6 : w.heap.size + 1 + 1 < w1.heap.size := F1.out.inside
    have t0 : ∀ o, (w1.alloc o).cell? ⟨w.heap.size + 1 + 1, 0, none⟩ = some (.int .i64 0) := fun o => (F1.out.alloc o).read 0
    have u0 : ∀ o, (w1.alloc o).frozen? ⟨w.heap.size + 1 + 1, 0, none⟩ = false := fun o => (F1.out.alloc o).thawed 0
    have t1 : ∀ o, (w1.alloc o).cell? ⟨w.heap.size + 1 + 1, 1, none⟩ = some (.int .i64 0) := fun o => (F1.out.alloc o).read 1
    have u1 : ∀ o, (w1.alloc o).frozen? ⟨w.heap.size + 1 + 1, 1, none⟩ = false := fun o => (F1.out.alloc o).thawed 1
    have t2 : ∀ o, (w1.alloc o).cell? ⟨w.heap.size + 1 + 1, 2, none⟩ = some (.int .i64 0) := fun o => (F1.out.alloc o).read 2
    have u2 : ∀ o, (w1.alloc o).frozen? ⟨w.heap.size + 1 + 1, 2, none⟩ = false := fun o => (F1.out.alloc o).thawed 2
    clear b1))
     go_region
     go_wp2
     have nb := Za w1 (.cells #[.slice none 0 0, .slice none 0 0] 26)
     have p1 := put2 (R1.out.alloc (.cells #[.slice none 0 0, .slice none 0 0] 26)) (.slice none 0 0) (.slice none 0 0)
     have p2 := put3 (p1.keeps.whole (F1.out.alloc (.cells #[.slice none 0 0, .slice none 0 0] 26)) (by omega)) (.int .i64 f0) (.int .i64 (f1 : Int)) (.int .i64 (f2 : Int))
     have M9 := ((((M1.out.next nb).put p1 (by omega) qin cin rin).put p2 (by omega) qin cin rin).drew)
     exact end_cell2 4 26 5 29 26 29 _ _ _ _ rfl (p2.keeps.whole p1.whole (by omega)).drew p2.whole.drew row_fi Jq row_fa size_fa rfl rfl rfl ⟨rfl, M9⟩
 · obtain ⟨e1, F, e2, hf0⟩ := hnot hk
   have k0 : (tv.k != 0) = true := by rw [bne_iff_ne]; exact hk
   have hnt : ∀ w, PAt w q c r K L st → Calls Tryz.prog 134 #[.pointer (some ⟨q, 0, none⟩), Zr (wrongV L st)] w (Yg w q c r K L (.bad F) (.tuple #[])) := fun w h => by have h1 := xNote w q c r K L st (wrongV L st) h; rw [hwn, ← e1, e2] at h1; exact h1
   rw [e2]
   show Calls _ _ _ _ (Yg w q c r K L (.bad F) (.tuple #[.agg [.slice none 0 0, .slice none 0 0].toArray, Zr F]))
   generalize wrongV L st = wv at *
   obtain ⟨f0, f1, f2⟩ := F
   have z0 : (f0 != 0) = true := by rw [bne_iff_ne]; exact hf0
   clear hend hnot hwn hk e1 e2 hf0 hflt
   go_enter Tryz.func84, Tryz.ntmps84
   go_wp2_with (first
 | (go_at_call 133; refine (hpk _ M0.out.at_).mono ?_; rintro e w1 ⟨rfl, b1⟩
    have X1 := Hh (X0.out.below b1 X0.out.inside)
    have R1 := Hh (R0.out.below b1 R0.out.inside)
    have F1 := Hh (F0.out.below b1 F0.out.inside)
    have M1 := Hh (M0.out.next b1)
    have hcell := M1.out.at_.cell
    clear b1)
 | (go_at_call 135; refine (hwr _ M1.out.at_).mono ?_; rintro e w2 ⟨rfl, b2⟩
    have X2 := Hh (X1.out.below b2 X1.out.inside)
    have R2 := Hh (R1.out.below b2 R1.out.inside)
    have F2 := Hh (F1.out.below b2 F1.out.inside)
    have M2 := Hh (M1.out.next b2); clear b2)
 | (go_at_call 134; refine (hnt _ M2.out.at_).mono ?_; rintro e w3 ⟨rfl, m3⟩
    have X3 := Hh (m3.keeps.whole X2.out (by omega))
    have R3 := Hh (m3.keeps.whole R2.out (by omega))
    have F3 := Hh (m3.keeps.whole F2.out (by omega))
    have M3 := Hh (M2.out.then m3)
    have q1 : ∀ o, (w3.alloc o).cell? ⟨q, 1, none⟩ = some (.int .i64 f0) := fun o => (M3.out.at_.whole.alloc o).read 1
    have q2 : ∀ o, (w3.alloc o).cell? ⟨q, 2, none⟩ = some (.int .i64 (f1 : Int)) := fun o => (M3.out.at_.whole.alloc o).read 2
    have q3 : ∀ o, (w3.alloc o).cell? ⟨q, 3, none⟩ = some (.int .i64 (f2 : Int)) := fun o => (M3.out.at_.whole.alloc o).read 3
    have q0 : w3.cell? ⟨q, 1, none⟩ = some (.int .i64 f0) := M3.out.at_.whole.read 1
    have r0 : ∀ o, (w3.alloc o).cell? ⟨w.heap.size + 1, 0, none⟩ = some (.slice none 0 0) := fun o => (R3.out.alloc o).read 0
    have s0 : ∀ o, (w3.alloc o).frozen? ⟨w.heap.size + 1, 0, none⟩ = false := fun o => (R3.out.alloc o).thawed 0
    have r1 : ∀ o, (w3.alloc o).cell? ⟨w.heap.size + 1, 1, none⟩ = some (.slice none 0 0) := fun o => (R3.out.alloc o).read 1
    have s1 : ∀ o, (w3.alloc o).frozen? ⟨w.heap.size + 1, 1, none⟩ = false := fun o => (R3.out.alloc o).thawed 1
    have hn1 : ¬ (w3.heap.size = w.heap.size + 1) := by have := R3.out.inside; omega
    have hn2 : ¬ (w3.heap.size = w.heap.size + 1 + 1) := by have := F3.out.inside; omega
    have hn3 : ¬ (w.heap.size + 1 = q) := by omega
    have hn4 : ¬ (w.heap.size + 1 + 1 = q) := by omega
    have hn5 : ¬ (w3.heap.size = q) := by have := R3.out.inside; omega
    have hn6 : w.heap.size + 1 + 1 < w3.heap.size := F3.out.inside
    have t0 : ∀ o, (w3.alloc o).cell? ⟨w.heap.size + 1 + 1, 0, none⟩ = some (.int .i64 0) := fun o => (F3.out.alloc o).read 0
    have u0 : ∀ o, (w3.alloc o).frozen? ⟨w.heap.size + 1 + 1, 0, none⟩ = false := fun o => (F3.out.alloc o).thawed 0
    have t1 : ∀ o, (w3.alloc o).cell? ⟨w.heap.size + 1 + 1, 1, none⟩ = some (.int .i64 0) := fun o => (F3.out.alloc o).read 1
    have u1 : ∀ o, (w3.alloc o).frozen? ⟨w.heap.size + 1 + 1, 1, none⟩ = false := fun o => (F3.out.alloc o).thawed 1
    have t2 : ∀ o, (w3.alloc o).cell? ⟨w.heap.size + 1 + 1, 2, none⟩ = some (.int .i64 0) := fun o => (F3.out.alloc o).read 2
    have u2 : ∀ o, (w3.alloc o).frozen? ⟨w.heap.size + 1 + 1, 2, none⟩ = false := fun o => (F3.out.alloc o).thawed 2
    clear m3))
   go_region
   go_wp2
   have nb := Za w3 (.cells #[.slice none 0 0, .slice none 0 0] 26)
   have p1 := put2 (R3.out.alloc (.cells #[.slice none 0 0, .slice none 0 0] 26)) (.slice none 0 0) (.slice none 0 0)
   have p2 := put3 (p1.keeps.whole (F3.out.alloc (.cells #[.slice none 0 0, .slice none 0 0] 26)) (by omega)) (.int .i64 f0) (.int .i64 (f1 : Int)) (.int .i64 (f2 : Int))
   have M9 := ((((M3.out.next nb).put p1 (by omega) qin cin rin).put p2 (by omega) qin cin rin).drew)
   exact end_cell2 4 26 5 29 26 29 _ _ _ _ rfl (p2.keeps.whole p1.whole (by omega)).drew p2.whole.drew row_fi Jq row_fa size_fa rfl rfl rfl ⟨rfl, M9⟩
def fileO (nk : Int) (s : ByteArray) : Fi × St := Vc nk (Zae s) (textN s) (textS s)
def parseF (nk : Int) (s : ByteArray) : Fi × (Int × Nat × Nat) := (if (overS (Zae s) (fileO nk s).2).good = true then (fileO nk s).1 else ⟨[], []⟩, fltS (overS (Zae s) (fileO nk s).2))
theorem text_rem (s : ByteArray) : Zw (Zae s) (textS s) ≤ (Zae s).length := by
 unfold textS
 split
 · exact Nat.sub_le _ _
 · exact Nat.zero_le _
theorem text_len (s : ByteArray) (h : s.size ≤ 65536) : (Zae s).length ≤ 65537 := by
 unfold Zae
 rcases text_cases s h with ⟨E, l, c, hv, _⟩ | ⟨L, hv, _, hl⟩
 · rw [hv]; exact Nat.zero_le _
 · rw [hv]; show L.length ≤ 65537; omega
def TopPost (w : World) (ds : Ds) (F : Int × Nat × Nat) (e : Ending) (w' : World) : Prop :=
 ∃ vs : List Value, e = .returned (.tuple #[.agg vs.toArray, Zr F]) ∧ Zh (fun k => w.heap.size ≤ k) w' ds vs ∧ Below w.heap.size w w'
theorem below_move {B : Nat} {w x y : World} {q c r K : Nat} {L : List TokV} {st : St} (h : Below B w x) (m : Yo x y q c r K L st) (hq : B ≤ q) (hc : B ≤ c) (hx : B ≤ x.heap.size) : Below B w y :=
 h.trans (m.keeps.below hx fun k hk => by omega)
theorem below_put {B : Nat} {w x y : World} {g : Nat} {t : TypeId} {vs : List Value} (h : Below B w x) (p : Put x y g t vs) (hg : B ≤ g) (hx : B ≤ x.heap.size) : Below B w y :=
 h.trans (p.keeps.below hx fun k hk => by omega)
theorem two_vals : ∀ (vs : List Value), vs.length = 2 → ∃ a b, vs = [a, b]
 | [a, b], _ => ⟨a, b, rfl⟩
theorem bthen2 {B : Nat} {w x y : World} (h : Below B w x) (k : Below x.heap.size x y) (hB : B ≤ x.heap.size) : Below B w y := h.trans (k.mono hB)
theorem xParse (s : ByteArray) (w : World) (hs : s.size ≤ 65536) : Calls Tryz.prog 30 #[.string s] w (TopPost w (parseF 5 s).1.ds (parseF 5 s).2) := by
 have hr := text_rem s
 have hl := text_len s hs
 have hbe : ∀ w, Calls Tryz.prog 83 #[.string s] w (BeginPost w s) := fun w => xbegin s w hs
 have hsub : ∀ w q c r K, PAt w q c r K (Zae s) (textS s) → Calls Tryz.prog 85 #[.pointer (some ⟨q, 0, none⟩)] w (Yl w q c r K (Zae s) (fileO 5 s).2 (fileO 5 s).1.ds) := fun w q c r K h => by
   have hN : textN s = 8 * (Zae s).length + 20 := rfl
   exact xfile (textN s) w q c r K _ _ h (by omega) (by omega)
 unfold BeginPost at hbe
 unfold parseF
 generalize fileO 5 s = o at *
 generalize Zae s = L at *
 generalize textS s = st at *
 clear hr hl hs
 have n1 := Za w (.cells #[.slice none 0 0, .slice none 0 0] 26)
 have n2 := Za (w.alloc (.cells #[.slice none 0 0, .slice none 0 0] 26)) (.cells #[.int .i64 0, .int .i64 0, .int .i64 0] 29)
 have R0 := Hh ((show Zb _ w.heap.size 26 ([.slice none 0 0, .slice none 0 0]).toArray from Zb.made w 26 #[.slice none 0 0, .slice none 0 0]).alloc (.cells #[.int .i64 0, .int .i64 0, .int .i64 0] 29))
 have F0 := Hh (show Zb ((w.alloc (.cells #[.slice none 0 0, .slice none 0 0] 26)).alloc (.cells #[.int .i64 0, .int .i64 0, .int .i64 0] 29)) (w.heap.size + 1) 29 ([.int .i64 0, .int .i64 0, .int .i64 0] : List Value).toArray from by have e := Zb.made (w.alloc (.cells #[.slice none 0 0, .slice none 0 0] 26)) 29 #[.int .i64 0, .int .i64 0, .int .i64 0]; rw [World.size_alloc] at e; exact e)
 have B0 := Hh (Xr n1 n2)
 have hz0 : ((w.alloc (.cells #[.slice none 0 0, .slice none 0 0] 26)).alloc (.cells #[.int .i64 0, .int .i64 0, .int .i64 0] 29)).heap.size = w.heap.size + 2 := by simp
 cases hg : (overS L o.2).good
 · rw [if_neg (by decide)]
   go_enter Tryz.func30, Tryz.ntmps30
   go_wp2_with (first
 | (go_at_call 83; refine (hbe _).mono ?_; rintro e w1 ⟨q, c, r, K, rfl, hp, hq, hc, b1⟩
    rw [hz0] at hq hc
    have hz1 : w.heap.size + 2 ≤ w1.heap.size := by have := b1.size; rw [hz0] at this; exact this
    have R1 := Hh (R0.out.below b1 R0.out.inside)
    have F1 := Hh (F0.out.below b1 F0.out.inside)
    have B1 := Hh (bthen2 B0.out b1 (by rw [hz0]; omega))
    have hq2 := hp.whole.inside
    have hc2 := hp.cin
    have P1 := Hh hp
    clear hp b1)
 | (go_at_call 85; refine (hsub _ q c r K P1.out).mono ?_; rintro e w2 ⟨vs, rfl, d2, m2⟩
    obtain ⟨va, vb, rfl⟩ := two_vals vs d2.len
    have R2 := Hh (m2.keeps.whole R1.out (by omega))
    have F2 := Hh (m2.keeps.whole F1.out (by omega))
    have B2 := Hh (below_move B1.out m2 (by omega) (by omega) (by omega))
    have P2 := Hh m2.at_
    have hz2 : w1.heap.size ≤ w2.heap.size := m2.keeps.size
    have D2 := Hh d2
    clear m2 d2)
 | (go_at_call 84; refine (xfinF _ q c r K L o.2 va vb D2.out.one P2.out).mono ?_; rintro e w3 ⟨e3, m3⟩
    rw [hg] at e3
    rw [if_neg (by decide)] at e3
    obtain rfl := e3
    have R3 := Hh (m3.keeps.whole R2.out (by omega))
    have F3 := Hh (m3.keeps.whole F2.out (by omega))
    have B3 := Hh (below_move B2.out m3 (by omega) (by omega) (by omega))
    have hz3 : w2.heap.size ≤ w3.heap.size := m3.keeps.size
    have D3 := Hh (D2.out.move m3 hq2 hc2)
    simp only [Zr]
    clear m3)
 | ((with_reducible refine Zl 2 11 ?_); refine Zc 26 _ _ 26 w.heap.size _ [.slice none 0 0, .slice none 0 0] R3.out rfl Jq (by simp [Value.oneCell']) rfl rfl rfl rfl rfl ?_
    intro w4 p4
    have R4 := Hh p4.whole
    have F4 := Hh (p4.keeps.whole F3.out (by omega))
    have B4 := Hh (below_put B3.out p4 (Nat.le_refl _) (by omega))
    have D4 := Hh (D3.out.put p4 (by omega))
    have hz4 : w3.heap.size ≤ w4.heap.size := p4.keeps.size
    clear p4)
 | ((with_reducible refine Zl 3 12 ?_); refine Zc 29 _ _ 29 (w.heap.size + 1) _ [.int .i64 (fltS (overS L o.2)).1, .int .i64 ((fltS (overS L o.2)).2.1 : Int), .int .i64 ((fltS (overS L o.2)).2.2 : Int)] F4.out rfl size_fa (by simp [Value.oneCell']) rfl rfl rfl rfl rfl ?_
    intro w5 p5
    have F5 := Hh p5.whole
    have R5 := Hh (p5.keeps.whole R4.out (by omega))
    have B5 := Hh (below_put B4.out p5 (by omega) (by omega))
    have D5 := Hh (D4.out.put p5 (by omega))
    clear p5))
   exact end_cell2 2 26 3 29 26 29 _ _ _ _ rfl R5.out F5.out row_fi Jq row_fa size_fa rfl rfl rfl ⟨_, rfl, (show Zh _ _ (Fi.mk [] []).ds _ from ⟨none, 0, [], _, rfl, Nat.zero_le _, .inl rfl, rfl, none, 0, [], _, rfl, Nat.zero_le _, .inl rfl, rfl, rfl⟩), B5.out⟩
 · rw [if_pos rfl]
   go_enter Tryz.func30, Tryz.ntmps30
   go_wp2_with (first
 | (go_at_call 83; refine (hbe _).mono ?_; rintro e w1 ⟨q, c, r, K, rfl, hp, hq, hc, b1⟩
    rw [hz0] at hq hc
    have hz1 : w.heap.size + 2 ≤ w1.heap.size := by have := b1.size; rw [hz0] at this; exact this
    have R1 := Hh (R0.out.below b1 R0.out.inside)
    have F1 := Hh (F0.out.below b1 F0.out.inside)
    have B1 := Hh (bthen2 B0.out b1 (by rw [hz0]; omega))
    have hq2 := hp.whole.inside
    have hc2 := hp.cin
    have P1 := Hh hp
    clear hp b1)
 | (go_at_call 85; refine (hsub _ q c r K P1.out).mono ?_; rintro e w2 ⟨vs, rfl, d2, m2⟩
    obtain ⟨va, vb, rfl⟩ := two_vals vs d2.len
    have R2 := Hh (m2.keeps.whole R1.out (by omega))
    have F2 := Hh (m2.keeps.whole F1.out (by omega))
    have B2 := Hh (below_move B1.out m2 (by omega) (by omega) (by omega))
    have P2 := Hh m2.at_
    have hz2 : w1.heap.size ≤ w2.heap.size := m2.keeps.size
    have D2 := Hh d2
    clear m2 d2)
 | (go_at_call 84; refine (xfinF _ q c r K L o.2 va vb D2.out.one P2.out).mono ?_; rintro e w3 ⟨e3, m3⟩
    rw [hg] at e3
    rw [if_pos rfl] at e3
    obtain rfl := e3
    have R3 := Hh (m3.keeps.whole R2.out (by omega))
    have F3 := Hh (m3.keeps.whole F2.out (by omega))
    have B3 := Hh (below_move B2.out m3 (by omega) (by omega) (by omega))
    have hz3 : w2.heap.size ≤ w3.heap.size := m3.keeps.size
    have D3 := Hh (D2.out.move m3 hq2 hc2)
    simp only [Zr]
    clear m3)
 | ((with_reducible refine Zl 2 11 ?_); refine Zc 26 _ _ 26 w.heap.size _ [va, vb] R3.out rfl Jq D2.out.one rfl rfl rfl rfl rfl ?_
    intro w4 p4
    have R4 := Hh p4.whole
    have F4 := Hh (p4.keeps.whole F3.out (by omega))
    have B4 := Hh (below_put B3.out p4 (Nat.le_refl _) (by omega))
    have D4 := Hh (D3.out.put p4 (by omega))
    have hz4 : w3.heap.size ≤ w4.heap.size := p4.keeps.size
    clear p4)
 | ((with_reducible refine Zl 3 12 ?_); refine Zc 29 _ _ 29 (w.heap.size + 1) _ [.int .i64 (fltS (overS L o.2)).1, .int .i64 ((fltS (overS L o.2)).2.1 : Int), .int .i64 ((fltS (overS L o.2)).2.2 : Int)] F4.out rfl size_fa (by simp [Value.oneCell']) rfl rfl rfl rfl rfl ?_
    intro w5 p5
    have F5 := Hh p5.whole
    have R5 := Hh (p5.keeps.whole R4.out (by omega))
    have B5 := Hh (below_put B4.out p5 (by omega) (by omega))
    have D5 := Hh (D4.out.put p5 (by omega))
    clear p5))
   exact end_cell2 2 26 3 29 26 29 _ _ _ _ rfl R5.out F5.out row_fi Jq row_fa size_fa rfl rfl rfl ⟨_, rfl, (D5.out.lower (by omega)), B5.out⟩
end Go.Proofs.YtljdgdphldckhaaGreat
namespace Go.Proofs.YtljdgdphldckhaaGreat
open Go
set_option linter.unusedSimpArgs false
set_option linter.unusedVariables false
structure Sc where
 place : Bool
 whn : Int
 each : Bool
abbrev Fa := Int × Int × Int
def faV (F : Fa) : Value := .agg #[.int .i64 F.1, .int .i64 F.2.1, .int .i64 F.2.2]
def orE (a b : Int) : Int := if a = 0 then b else a
def orF (a b : Fa) : Fa := if a.1 = 0 ∧ a.2.1 = 0 ∧ a.2.2 = 0 then b else a
def atF (e l c : Int) : Fa := if e = 0 then (0, 0, 0) else (e, l, c)
def outB (n lo hi : Int) : Bool := decide (n < lo) || decide (hi < n)
def Sc.entered (c : Sc) : Bool := c.place && (c.whn == 6)
def lSide (c : Sc) (n : Int) : Int := if (c.place && !c.entered && (n == 1 || n == 2)) = true then 24 else 0
def lTo (tk tl : Int) : Int := if (tk == 4 && outB tl 1 3) = true then 20 else 0
def Zag (s : Se) (k f : Int) : Bool := s.fs.any (fun x => x.kind == f) || (s.kind == k)
def lSelE (c : Sc) (s : Se) : Int :=
 if (!(c.each || c.entered) && Zag s 2 5) = true then 24
 else if (c.place && Zag s 1 4) = true then 24
 else if lSide c s.side ≠ 0 then lSide c s.side
 else if (s.wh == 3 && outB s.lane 1 3) = true then 20
 else if 4 < s.fs.length then 9 else 0
def Vz (c : Sc) : Ex → Int
 | .leaf k n s sd tk tl => if k = 2 ∨ k = 3 then lSelE c s else if k = 5 then lSide c sd else if k = 6 then orE (lSide c sd) (lTo tk tl) else 0
 | .bin op l r => orE (Vz c l) (Vz c r)
def lParts (c : Sc) (h : AH) : Int :=
 if h.kind = 1 ∨ h.kind = 2 ∨ h.kind = 12 then orE (lSelE c h.sel) (Vz c h.num)
 else if h.kind = 3 ∨ h.kind = 5 ∨ h.kind = 14 ∨ h.kind = 11 then lSelE c h.sel
 else if h.kind = 4 then orE (lSelE c h.sel) (lTo h.tk h.tl)
 else if h.kind = 6 then orE (lSide c h.side) (orE (lTo h.tk h.tl) (Vz c h.num))
 else if h.kind = 7 ∨ h.kind = 9 then orE (lSide c h.side) (Vz c h.num)
 else if h.kind = 8 then lSide c h.side
 else if h.kind = 13 ∨ h.kind = 15 then orE (lSide c h.side) (lTo h.tk h.tl)
 else if h.kind = 10 then orE (Vz c h.cl) (Vz c h.cr)
 else 0
def lAllows (c : Sc) (k : Int) : Bool := if k = 10 then true else if k = 12 ∨ k = 13 ∨ k = 14 ∨ k = 15 then c.whn == 5 else !(c.whn == 5)
def lStand (c : Sc) (i k : Int) : Int := if 12 ≤ i then 9 else if lAllows c k = false then 13 else if (k == 11 && c.each) = true then 8 else 0
def Jp (c : Sc) (i : Nat) : Acs → Fa
 | .nil => (0, 0, 0)
 | .cons h t e r =>
   if (if orE (lStand c i h.kind) (lParts c h) ≠ 0 then (orE (lStand c i h.kind) (lParts c h), h.line, h.col) else if h.kind = 10 then orF (Jp c 0 t) (Jp c 0 e) else if h.kind = 11 then Jp ⟨c.place, c.whn, true⟩ 0 t else (0, 0, 0)).1 = 0 then Jp c (i + 1) r
   else if orE (lStand c i h.kind) (lParts c h) ≠ 0 then (orE (lStand c i h.kind) (lParts c h), h.line, h.col) else if h.kind = 10 then orF (Jp c 0 t) (Jp c 0 e) else if h.kind = 11 then Jp ⟨c.place, c.whn, true⟩ 0 t else (0, 0, 0)
def lAct (c : Sc) (i : Int) (h : AH) (t e : Acs) : Fa :=
 if orE (lStand c i h.kind) (lParts c h) ≠ 0 then (orE (lStand c i h.kind) (lParts c h), h.line, h.col) else if h.kind = 10 then orF (Jp c 0 t) (Jp c 0 e) else if h.kind = 11 then Jp ⟨c.place, c.whn, true⟩ 0 t else (0, 0, 0)
theorem lActs_cons (c : Sc) (i : Nat) (h : AH) (t e r : Acs) : Jp c i (.cons h t e r) = if (lAct c i h t e).1 = 0 then Jp c (i + 1) r else lAct c i h t e := rfl
def exZ : Ex → Int
 | .leaf .. => 1
 | .bin _ l r => 1 + exZ l + exZ r
def acZ (h : AH) (t e : Int) (en : Nat) : Int :=
 if h.kind = 1 ∨ h.kind = 2 ∨ h.kind = 6 ∨ h.kind = 7 ∨ h.kind = 9 ∨ h.kind = 12 then exZ h.num + 1
 else if h.kind = 10 then exZ h.cl + exZ h.cr + t + 1 + (if 0 < en then e + 1 else 0)
 else if h.kind = 11 then t + 2 else 1
def Uu : Acs → Int
 | .nil => 0
 | .cons h t e r => acZ h (Uu t) (Uu e) e.len + Uu r
def wr (n : Int) : Int := IntKind.i64.wrap n
theorem wr_eq (n : Int) : wr n = if 9223372036854775808 ≤ n % 18446744073709551616 then n % 18446744073709551616 - 18446744073709551616 else n % 18446744073709551616 := by
 unfold wr
 simp [IntKind.wrap, IntKind.bits, IntKind.signed]
theorem wr_add (a b : Int) : wr (wr a + wr b) = wr (a + b) := by
 simp only [wr_eq]
 split <;> split <;> split <;> split <;> omega
theorem wr_addL (a b : Int) : wr (wr a + b) = wr (a + b) := by
 simp only [wr_eq]
 split <;> split <;> split <;> omega
theorem wr_small {n : Int} (h0 : -9223372036854775808 ≤ n) (h1 : n < 9223372036854775808) : wr n = n := by
 rw [wr_eq]; split <;> omega
def lBefore (place : Bool) (i : Int) (r : Ru) : Int :=
 if 4 ≤ i then 9 else if (if r.when_ = 6 then place else if r.when_ = 2 ∨ r.when_ = 3 then !place else true) = false then 13
 else if (r.when_ == 5 && outB r.stratum 1 3) = true then 12 else 0
def lBehind (r : Ru) : Int := if 96 < wr (Uu r.acts) then 3 else 0
def lRule (place : Bool) (i : Int) (r : Ru) : Fa := orF (atF (lBefore place i r) r.line r.col) (orF (Jp ⟨place, r.when_, false⟩ 0 r.acts) (atF (lBehind r) r.line r.col))
def lRules (place : Bool) : Nat → List Ru → Fa
 | _, [] => (0, 0, 0)
 | i, r :: l => if (lRule place i r).1 = 0 then lRules place (i + 1) l else lRule place i r
def lCard (c : Ca) : Fa := if (outB c.cost 0 9 || outB c.power (-20) 20) = true then (12, c.line, c.col) else lRules false 0 c.rules
def lPlace (p : Pl) : Fa := lRules true 0 p.rules
def lOne (most tw i : Int) (l c : Int) (f : Fa) : Fa := if most ≤ i then (9, l, c) else if i = tw then (11, l, c) else f
def lCards (tw : Int) : Nat → List Ca → Fa
 | _, [] => (0, 0, 0)
 | i, c :: l => if (lOne 128 tw i c.line c.col (lCard c)).1 = 0 then lCards tw (i + 1) l else lOne 128 tw i c.line c.col (lCard c)
def lPlaces (tw : Int) : Nat → List Pl → Fa
 | _, [] => (0, 0, 0)
 | i, p :: l => if (lOne 32 tw i p.line p.col (lPlace p)).1 = 0 then lPlaces tw (i + 1) l else lOne 32 tw i p.line p.col (lPlace p)
end Go.Proofs.YtljdgdphldckhaaGreat
namespace Go.Proofs.YtljdgdphldckhaaGreat
open Go Go.RowKit
set_option linter.unusedVariables false
set_option linter.unusedSimpArgs false
def scL (c : Sc) (st ln cl : Int) (A : Option Addr) (n k : Nat) : List Value := [.int .i64 c.whn, .int .i64 st, .int .i64 ln, .int .i64 cl, .slice A n k, .bool c.place, .bool c.each]
theorem Vl {w : World} {g : Nat} {t : TypeId} {a b c d e f : Value} (h : Zb w g t #[a, b, c, d, e, f]) : w.cell? ⟨g, 0, none⟩ = some a ∧ w.cell? ⟨g, 1, none⟩ = some b ∧ w.cell? ⟨g, 2, none⟩ = some c ∧ w.cell? ⟨g, 3, none⟩ = some d ∧ w.cell? ⟨g, 4, none⟩ = some e ∧ w.cell? ⟨g, 5, none⟩ = some f :=
 ⟨by rw [h.read]; rfl, by rw [h.read]; rfl, by rw [h.read]; rfl, by rw [h.read]; rfl, by rw [h.read]; rfl, by rw [h.read]; rfl⟩
theorem Yc {w : World} {g : Nat} {t : TypeId} {a b c d e f h : Value} (W : Zb w g t #[a, b, c, d, e, f, h]) :
   w.cell? ⟨g, 0, none⟩ = some a ∧ w.cell? ⟨g, 1, none⟩ = some b ∧ w.cell? ⟨g, 2, none⟩ = some c ∧ w.cell? ⟨g, 3, none⟩ = some d ∧ w.cell? ⟨g, 4, none⟩ = some e ∧ w.cell? ⟨g, 5, none⟩ = some f ∧ w.cell? ⟨g, 6, none⟩ = some h :=
 ⟨W.read 0, W.read 1, W.read 2, W.read 3, W.read 4, W.read 5, W.read 6⟩
theorem Yh : (Tryz.prog.underlying 29).map TypeDesc.isRow = some true := by kernel_rfl
theorem Zj : (Tryz.prog.info? 29).map (·.size) = some 3 := by kernel_rfl
theorem lOutside (n lo hi : Int) (w : World) : Calls Tryz.prog 91 #[.int .i64 n, .int .i64 lo, .int .i64 hi] w fun e w' => e = .returned (.bool (outB n lo hi)) ∧ Below w.heap.size w w' := by
 go_enter Tryz.func91, Tryz.ntmps91
 by_cases h1 : n < lo
 · go_wp2
   go_ret
   exact ⟨by simp [outB, h1], Below.refl _ _⟩
 · by_cases h2 : hi < n
   · go_wp2
     go_ret
     exact ⟨by simp [outB, h1, h2], Below.refl _ _⟩
   · go_wp2
     go_ret
     exact ⟨by simp [outB, h1, h2], Below.refl _ _⟩
theorem lFaultAt (e l c : Int) (w : World) : Calls Tryz.prog 185 #[.int .i64 e, .int .i64 l, .int .i64 c] w fun r w' => r = .returned (faV (atF e l c)) ∧ Below w.heap.size w w' := by
 go_enter Tryz.func185, Tryz.ntmps185
 by_cases h : e = 0
 · subst h
   go_wp2
   exact Zs 6 29 29 _ [.int .i64 0, .int .i64 0, .int .i64 0] rfl (Zb.made _ _ _) Yh Zj rfl rfl ⟨rfl, Za _ _⟩
 · have hb : (e == 0) = false := by simpa using h
   go_wp2
   exact Zs 6 29 29 _ [.int .i64 e, .int .i64 l, .int .i64 c] rfl (Zb.made _ _ _) Yh Zj rfl rfl ⟨by simp [faV, atF, h], Za _ _⟩
section
variable (c : Sc) (st ln cl : Int) (A : Option Addr) (rn rk : Nat)
theorem lEntered (w : World) : Calls Tryz.prog 276 #[.agg (scL c st ln cl A rn rk).toArray] w fun e w' => e = .returned (.bool c.entered) ∧ Below w.heap.size w w' := by
 obtain ⟨pl, wh, ea⟩ := c
 simp only [scL]
 go_enter Tryz.func276, Tryz.ntmps276
 cases pl
 · go_wp2
   go_ret
   exact ⟨rfl, Za _ _⟩
 · go_wp2
   go_ret
   exact ⟨by simp [Sc.entered], Za _ _⟩
theorem lAlways (w : World) : Calls Tryz.prog 187 #[.agg (scL c st ln cl A rn rk).toArray] w fun e w' => e = .returned (.bool (c.whn == 5)) ∧ Below w.heap.size w w' := by
 obtain ⟨pl, wh, ea⟩ := c
 simp only [scL]
 go_enter Tryz.func187, Tryz.ntmps187
 go_wp2
 go_ret
 exact ⟨rfl, Za _ _⟩
theorem lTriggered (w : World) : Calls Tryz.prog 186 #[.agg (scL c st ln cl A rn rk).toArray] w fun e w' => e = .returned (.bool (if c.whn = 6 then c.place else if c.whn = 2 ∨ c.whn = 3 then !c.place else true)) ∧ Below w.heap.size w w' := by
 obtain ⟨pl, wh, ea⟩ := c
 simp only [scL]
 go_enter Tryz.func186, Tryz.ntmps186
 by_cases h6 : wh = 6
 · subst h6
   go_wp2
   go_ret
   exact ⟨rfl, Za _ _⟩
 · have b6 : (wh == 6) = false := by simpa using h6
   by_cases h2 : wh = 2
   · subst h2
     go_wp2
     go_ret
     exact ⟨rfl, Za _ _⟩
   · have b2 : (wh == 2) = false := by simpa using h2
     by_cases h3 : wh = 3
     · subst h3
       go_wp2
       go_ret
       exact ⟨rfl, Za _ _⟩
     · have b3 : (wh == 3) = false := by simpa using h3
       go_wp2
       go_ret
       exact ⟨by simp [h6, h2, h3], Za _ _⟩
theorem lTo_any (tk tl : Int) (w : World) : Calls Tryz.prog 253 #[.agg [.int .i64 tk, .int .i64 tl].toArray] w fun e w' => e = .returned (.int .i64 (lTo tk tl)) ∧ Below w.heap.size w w' := by
 have ho := fun w => lOutside tl 1 3 w
 have hv : lTo tk tl = if (tk == 4 && outB tl 1 3) = true then 20 else 0 := rfl
 generalize outB tl 1 3 = q at *
 go_enter Tryz.func253, Tryz.ntmps253
 by_cases h4 : tk = 4
 · subst h4
   cases q <;>
   · go_wp2_with (go_at_call 91; refine (ho _).mono ?_; rintro e w1 ⟨rfl, b1⟩)
     go_ret
     exact ⟨by first | rfl | (rw [hv]; rfl), Xr (Za _ _) b1⟩
 · have b4 : (tk == 4) = false := by simpa using h4
   go_wp2
   go_ret
   exact ⟨by rw [hv]; simp [h4], Za _ _⟩
theorem lSide_any (n : Int) (w : World) : Calls Tryz.prog 254 #[.agg (scL c st ln cl A rn rk).toArray, .int .i64 n] w fun e w' => e = .returned (.int .i64 (lSide c n)) ∧ Below w.heap.size w w' := by
 have ho := fun w => lEntered c st ln cl A rn rk w
 have hv : lSide c n = if (c.place && !c.entered && (n == 1 || n == 2)) = true then 24 else 0 := rfl
 generalize c.entered = q at *
 obtain ⟨pl, wh, ea⟩ := c
 simp only [scL] at *
 go_enter Tryz.func254, Tryz.ntmps254
 cases pl
 · go_wp2
   go_ret
   exact ⟨by rw [hv]; simp, Za _ _⟩
 · cases q
   · by_cases h1 : n = 1
     · subst h1
       go_wp2_with (go_at_call 276; refine (ho _).mono ?_; rintro e w1 ⟨rfl, b1⟩)
       go_ret
       exact ⟨by first | rfl | (rw [hv]; rfl), Xr (Za _ _) b1⟩
     · have e1 : (n == 1) = false := by simpa using h1
       by_cases h2 : n = 2
       · subst h2
         go_wp2_with (go_at_call 276; refine (ho _).mono ?_; rintro e w1 ⟨rfl, b1⟩)
         go_ret
         exact ⟨by first | rfl | (rw [hv]; rfl), Xr (Za _ _) b1⟩
       · have e2 : (n == 2) = false := by simpa using h2
         go_wp2_with (go_at_call 276; refine (ho _).mono ?_; rintro e w1 ⟨rfl, b1⟩)
         go_ret
         exact ⟨by rw [hv]; simp [h1, h2], Xr (Za _ _) b1⟩
   · go_wp2_with (go_at_call 276; refine (ho _).mono ?_; rintro e w1 ⟨rfl, b1⟩)
     go_ret
     exact ⟨by rw [hv]; simp, Xr (Za _ _) b1⟩
theorem lAllows_any (k : Int) (w : World) : Calls Tryz.prog 250 #[.agg (scL c st ln cl A rn rk).toArray, .int .i64 k] w fun e w' => e = .returned (.bool (lAllows c k)) ∧ Below w.heap.size w w' := by
 have ho := fun w => lAlways c st ln cl A rn rk w
 have hv : lAllows c k = if k = 10 then true else if k = 12 ∨ k = 13 ∨ k = 14 ∨ k = 15 then c.whn == 5 else !(c.whn == 5) := rfl
 generalize (c.whn == 5) = q at *
 obtain ⟨pl, wh, ea⟩ := c
 simp only [scL] at *
 go_enter Tryz.func250, Tryz.ntmps250
 by_cases h0 : k = 10
 · subst h0
   go_wp2
   go_ret
   exact ⟨by first | rfl | (rw [hv]; rfl), Za _ _⟩
 · have b0 : (k == 10) = false := by simpa using h0
   by_cases hk : k = 12 ∨ k = 13 ∨ k = 14 ∨ k = 15
   · rcases hk with rfl | rfl | rfl | rfl <;>
     · go_wp2_with (go_at_call 187; refine (ho _).mono ?_; rintro e w1 ⟨rfl, b1⟩)
       go_ret
       exact ⟨by first | rfl | (rw [hv]; rfl), Xr (Za _ _) b1⟩
   · have b2 : (k == 12) = false := by rw [beq_eq_false_iff_ne]; omega
     have b3 : (k == 13) = false := by rw [beq_eq_false_iff_ne]; omega
     have b4 : (k == 14) = false := by rw [beq_eq_false_iff_ne]; omega
     have b5 : (k == 15) = false := by rw [beq_eq_false_iff_ne]; omega
     rw [if_neg h0, if_neg hk] at hv
     clear hk h0
     go_wp2_with (go_at_call 187; refine (ho _).mono ?_; rintro e w1 ⟨rfl, b1⟩)
     go_ret
     exact ⟨by rw [hv]; rfl, Xr (Za _ _) b1⟩
theorem lStand_any (i k : Int) (w : World) : Calls Tryz.prog 215 #[.agg (scL c st ln cl A rn rk).toArray, .int .i64 i, .int .i64 k] w fun e w' => e = .returned (.int .i64 (lStand c i k)) ∧ Below w.heap.size w w' := by
 have ho := fun w => lAllows_any c st ln cl A rn rk k w
 have hv : lStand c i k = if 12 ≤ i then 9 else if lAllows c k = false then 13 else if (k == 11 && c.each) = true then 8 else 0 := rfl
 generalize lAllows c k = q at *
 obtain ⟨pl, wh, ea⟩ := c
 simp only [scL] at *
 go_enter Tryz.func215, Tryz.ntmps215
 by_cases h0 : 12 ≤ i
 · go_wp2
   go_ret
   exact ⟨by rw [hv]; simp [h0], Za _ _⟩
 · cases q
   · go_wp2_with (go_at_call 250; refine (ho _).mono ?_; rintro e w1 ⟨rfl, b1⟩)
     go_ret
     exact ⟨by rw [hv]; simp [h0], Xr (Za _ _) b1⟩
   · by_cases h1 : k = 11
     · subst h1
       cases ea <;>
       · go_wp2_with (go_at_call 250; refine (ho _).mono ?_; rintro e w1 ⟨rfl, b1⟩; have W := (Zb.made w 194 #[_, _, _, _, _, _, _]).below b1 (Zb.made w 194 _).inside; obtain ⟨c0, c1, c2, c3, c4, c5, c6⟩ := Yc W)
         go_ret
         exact ⟨by rw [hv]; simp [h0], Xr (Za _ _) b1⟩
     · have b1 : (k == 11) = false := by simpa using h1
       go_wp2_with (go_at_call 250; refine (ho _).mono ?_; rintro e w1 ⟨rfl, b1⟩)
       go_ret
       exact ⟨by rw [hv]; simp [h0, h1], Xr (Za _ _) b1⟩
end
def Xp : List Int → Int
 | [] => 0
 | a :: r => if a = 0 then Xp r else a
theorem firstNZ_zero : ∀ {l : List Int}, (∀ j, j < l.length → l.getD j 0 = 0) → Xp l = 0
 | [], _ => rfl
 | a :: r, h => by
   have h0 : a = 0 := h 0 (by simp)
   unfold Xp
   rw [if_pos h0]
   exact firstNZ_zero fun j hj => by have := h (j + 1) (by simpa using hj); simpa using this
theorem firstNZ_at : ∀ {l : List Int} {k : Nat}, k < l.length → (∀ j, j < k → l.getD j 0 = 0) → l.getD k 0 ≠ 0 → Xp l = l.getD k 0
 | [], k, hk, _, _ => by cases hk
 | a :: r, 0, _, _, h => by
   have h0 : a ≠ 0 := h
   unfold Xp
   rw [if_neg h0]
   rfl
 | a :: r, k + 1, hk, h, hn => by
   have h0 : a = 0 := h 0 (by omega)
   unfold Xp
   rw [if_pos h0]
   have := firstNZ_at (l := r) (k := k) (by simpa using hk) (fun j hj => by have := h (j + 1) (by omega); simpa using this) (by simpa using hn)
   simpa using this
theorem orE2 (a b : Int) : Xp [a, b] = orE a b := by simp only [orE, Xp]; split <;> (try split) <;> omega
theorem orE3 (a b c : Int) : Xp [a, b, c] = orE a (orE b c) := by simp only [orE, Xp]; split <;> (try split) <;> (try split) <;> omega
theorem cell_ints {w : World} {g : Nat} {t : TypeId} {l : List Int} (h : Zb w g t (l.map (Value.int .i64)).toArray) {k : Nat} (hk : k < l.length) : w.cell? ⟨g, k, none⟩ = some (.int .i64 (l.getD k 0)) := by
 rw [Zb.read h k]
 simp [List.getD, hk]
theorem lOrE (l : List Int) (n m g : Nat) (w : World) (hn : l.length = n) (h64 : n ≤ 64) (hW : Zb w g 27 (l.map (Value.int .i64)).toArray) :
   Calls Tryz.prog 214 #[.slice (some ⟨g, 0, none⟩) n m] w fun e w' => e = .returned (.int .i64 (Xp l)) ∧ Below w.heap.size w w' := by
 have HW := Hh hW
 have HN := Hh hn
 clear hW hn
 have l64 : (n : Int) ≤ 64 := by omega
 obtain ⟨V, hV⟩ : ∃ V, V = Xp l := ⟨_, rfl⟩
 rw [← hV]
 have HV := Hh hV
 clear hV
 go_enter Tryz.func214, Tryz.ntmps214
 go_wp2
 go_loopw [8] (fun i wr => ∃ k : Nat, i = .int .i64 k ∧ k ≤ n ∧ Below w.heap.size w wr ∧ Hid (∀ j, j < k → l.getD j 0 = 0)) (fun i _ => n - (intOf i).toNat)
 case atStart => exact ⟨0, by go_num, Nat.zero_le _, Below.refl _ _, Hh fun j hj => by omega⟩
 case round =>
   obtain ⟨k, rfl, hk, hb, hz⟩ := hrel
   by_cases hlt : k < n
   · have hW := HW.out.below hb HW.out.inside
     have hin := hW.inside
     have hc := cell_ints hW (k := k) (by have := HN.out; omega)
     have hnz := fun q => firstNZ_at (l := l) (k := k) (by have := HN.out; omega) hz.out q
     rw [← HV.out] at hnz
     have hs : l.getD k 0 = 0 → Hid (∀ j, j < k + 1 → l.getD j 0 = 0) := fun q => Hh fun j hj => by
       rcases Nat.lt_succ_iff_lt_or_eq.1 hj with r | rfl
       · exact hz.out j r
       · exact q
     generalize l.getD k 0 = v at *
     have lk : (k : Int) < (n : Int) := by omega
     clear hW
     by_cases h0 : v = 0
     · have hs2 := hs h0
       clear hs
       subst h0
       clear hnz
       go_wp2
       go_roundw
       case rel => exact ⟨k + 1, by go_num, by omega, hb, hs2⟩
       case measure => simp [intOf]; omega
     · have hb0 : (v == 0) = false := by simpa using h0
       have hx := hnz h0
       subst hx
       clear hnz hs
       go_wp2
       go_ret
       exact ⟨rfl, hb⟩
   · have hx := firstNZ_zero (l := l) fun j hj => hz.out j (by have := HN.out; omega)
     rw [← HV.out] at hx
     subst hx
     go_wp2
     go_ret
     exact ⟨rfl, hb⟩
def faL (F : Fa) : List Value := [.int .i64 F.1, .int .i64 F.2.1, .int .i64 F.2.2]
def isZ (F : Fa) : Prop := F.1 = 0 ∧ F.2.1 = 0 ∧ F.2.2 = 0
instance (F : Fa) : Decidable (isZ F) := by unfold isZ; exact inferInstance
def Vs : List Fa → Fa
 | [] => (0, 0, 0)
 | a :: r => if isZ a then Vs r else a
theorem firstNF_zero : ∀ {l : List Fa}, (∀ j, j < l.length → isZ (l.getD j (0, 0, 0))) → Vs l = (0, 0, 0)
 | [], _ => rfl
 | a :: r, h => by
   have h0 : isZ a := h 0 (by simp)
   unfold Vs
   rw [if_pos h0]
   exact firstNF_zero fun j hj => by have := h (j + 1) (by simpa using hj); simpa using this
theorem firstNF_at : ∀ {l : List Fa} {k : Nat}, k < l.length → (∀ j, j < k → isZ (l.getD j (0, 0, 0))) → ¬ isZ (l.getD k (0, 0, 0)) → Vs l = l.getD k (0, 0, 0)
 | [], k, hk, _, _ => by cases hk
 | a :: r, 0, _, _, h => by
   have h0 : ¬ isZ a := h
   unfold Vs
   rw [if_neg h0]
   rfl
 | a :: r, k + 1, hk, h, hn => by
   have h0 : isZ a := h 0 (by omega)
   unfold Vs
   rw [if_pos h0]
   have := firstNF_at (l := r) (k := k) (by simpa using hk) (fun j hj => by have := h (j + 1) (by omega); simpa using this) (by simpa using hn)
   simpa using this
theorem orF_if (a b : Fa) : orF a b = if isZ a then b else a := rfl
theorem isZ_eq {a : Fa} (h : isZ a) : a = (0, 0, 0) := by obtain ⟨x, y, z⟩ := a; obtain ⟨h1, h2, h3⟩ := h; dsimp only at *; subst h1 h2 h3; rfl
theorem orF2 (a b : Fa) : Vs [a, b] = orF a b := by
 simp only [orF_if, Vs]; split <;> (try split) <;> first | rfl | (rename_i h; exact (isZ_eq h).symm)
theorem orF3 (a b c : Fa) : Vs [a, b, c] = orF a (orF b c) := by
 rw [orF_if a, ← orF2 b c]; rfl
theorem fa_at : ∀ {l : List Fa} {k : Nat}, k < l.length → ∀ j, j < 3 → (l.flatMap faL)[k * 3 + j]? = (faL (l.getD k (0, 0, 0)))[j]?
 | a :: r, 0, _, j, hj => by
   rcases (show j = 0 ∨ j = 1 ∨ j = 2 by omega) with rfl | rfl | rfl <;> rfl
 | a :: r, k + 1, hk, j, hj => by
   have := fa_at (l := r) (k := k) (by simpa using hk) j hj
   rw [show (k + 1) * 3 + j = (k * 3 + j) + 3 by omega]
   simpa [List.flatMap_cons, faL] using this
theorem cell_fas {w : World} {g : Nat} {t : TypeId} {l : List Fa} (h : Zb w g t (l.flatMap faL).toArray) {k : Nat} (hk : k < l.length) :
   w.cell? ⟨g, k * 3, none⟩ = some (.int .i64 (l.getD k (0, 0, 0)).1) ∧ w.cell? ⟨g, k * 3 + 1, none⟩ = some (.int .i64 (l.getD k (0, 0, 0)).2.1) ∧
     w.cell? ⟨g, k * 3 + 2, none⟩ = some (.int .i64 (l.getD k (0, 0, 0)).2.2) := by
 have key : ∀ j, j < 3 → w.cell? ⟨g, k * 3 + j, none⟩ = (faL (l.getD k (0, 0, 0)))[j]? := fun j hj => by
   rw [Zb.read h, ← fa_at hk j hj]; simp
 exact ⟨key 0 (by omega), key 1 (by omega), key 2 (by omega)⟩
theorem made2 (w : World) (o : Obj) (t : TypeId) (cs : Array Value) : Zb ((w.alloc o).alloc (.cells cs t)) (w.heap.size + 1) t cs := by
 have := Zb.made (w.alloc o) t cs; simpa using this
structure Fz (w : World) (wr : World) : Prop where
 a : Zb wr w.heap.size 29 #[.int .i64 0, .int .i64 0, .int .i64 0]
 b : Zb wr (w.heap.size + 1) 29 #[.int .i64 0, .int .i64 0, .int .i64 0]
 below : Below w.heap.size w wr
theorem Fz.alloc {w wr : World} (h : Fz w wr) (o : Obj) : Fz w (wr.alloc o) := ⟨h.a.alloc _, h.b.alloc _, h.below.trans ((Za _ _).mono h.below.size)⟩
theorem lOrF (l : List Fa) (n m g : Nat) (w : World) (hn : l.length = n) (h64 : n ≤ 64) (hW : Zb w g 29 (l.flatMap faL).toArray) :
   Calls Tryz.prog 88 #[.slice (some ⟨g, 0, none⟩) n m] w fun e w' => e = .returned (faV (Vs l)) ∧ Below w.heap.size w w' := by
 have HW := Hh hW
 have HN := Hh hn
 have HV : Hid (∃ V, V = Vs l) := Hh ⟨_, rfl⟩
 clear hW hn
 have l64 : (n : Int) ≤ 64 := by omega
 obtain ⟨V, hV⟩ := HV.out
 rw [← hV]
 have HV := Hh hV
 clear hV
 go_enter Tryz.func88, Tryz.ntmps88
 go_wp2
 go_loopw [8] (fun i wr => ∃ k : Nat, i = .int .i64 k ∧ k ≤ n ∧ Fz w wr ∧ Hid (∀ j, j < k → isZ (l.getD j (0, 0, 0)))) (fun i _ => n - (intOf i).toNat)
 case atStart => exact ⟨0, by go_num, Nat.zero_le _, ⟨(Zb.made _ _ _).alloc _, made2 _ _ _ _, (Za _ _).trans ((Za _ _).mono (Za _ _).size)⟩, Hh fun j hj => by omega⟩
 case round =>
   obtain ⟨k, rfl, hk, hF, hz⟩ := hrel
   obtain ⟨a0, a1, a2, f0, f1, f2⟩ := Zu hF.a
   obtain ⟨b0, b1, b2, _, _, _⟩ := Zu hF.b
   have hsz := hF.b.inside
   by_cases hlt : k < n
   · have hW := HW.out.below hF.below HW.out.inside
     have hin := hW.inside
     have hgw := HW.out.inside
     obtain ⟨d0, d1, d2⟩ := cell_fas hW (k := k) (by have := HN.out; omega)
     have hnz := fun q => firstNF_at (l := l) (k := k) (by have := HN.out; omega) hz.out q
     rw [← HV.out] at hnz
     have hs : isZ (l.getD k (0, 0, 0)) → Hid (∀ j, j < k + 1 → isZ (l.getD j (0, 0, 0))) := fun q => Hh fun j hj => by
       rcases Nat.lt_succ_iff_lt_or_eq.1 hj with r | rfl
       · exact hz.out j r
       · exact q
     generalize l.getD k (0, 0, 0) = v at *
     obtain ⟨v0, v1, v2⟩ := v
     dsimp only at d0 d1 d2
     have lk : (k : Int) < (n : Int) := by omega
     clear hW hz
     by_cases h0 : isZ (v0, v1, v2)
     · have hs2 := hs h0
       clear hs hnz
       obtain ⟨q0, q1, q2⟩ := h0
       dsimp only at q0 q1 q2
       subst q0 q1 q2
       go_wp2
       go_roundw
       case rel => exact ⟨k + 1, by go_num, by omega, hF.alloc _, hs2⟩
       case measure => simp [intOf]; omega
     · have hx := hnz h0
       subst hx
       clear hnz hs
       have hs0 : w.heap.size < wr.heap.size := by omega
       have hs0' : ¬ w.heap.size = wr.heap.size := by omega
       by_cases q0 : v0 = 0
       · by_cases q1 : v1 = 0
         · have q2 : v2 ≠ 0 := fun c => h0 ⟨q0, q1, c⟩
           have e2 : (v2 == 0) = false := by simpa using q2
           subst q0 q1
           clear h0
           go_wp2
           exact Zs 2 29 29 _ [_, _, _] rfl ((hF.a.set3 _ _ _).alloc _) Yh Zj rfl rfl ⟨rfl, (Below.set3 hF.below (Nat.le_refl _) _ _ _).alloc (by simpa using hF.below.size) _⟩
         · have e1 : (v1 == 0) = false := by simpa using q1
           subst q0
           clear h0
           go_wp2
           exact Zs 2 29 29 _ [_, _, _] rfl ((hF.a.set3 _ _ _).alloc _) Yh Zj rfl rfl ⟨rfl, (Below.set3 hF.below (Nat.le_refl _) _ _ _).alloc (by simpa using hF.below.size) _⟩
       · have e0 : (v0 == 0) = false := by simpa using q0
         clear h0
         go_wp2
         exact Zs 2 29 29 _ [_, _, _] rfl ((hF.a.set3 _ _ _).alloc _) Yh Zj rfl rfl ⟨rfl, (Below.set3 hF.below (Nat.le_refl _) _ _ _).alloc (by simpa using hF.below.size) _⟩
   · have hx := firstNF_zero (l := l) fun j hj => hz.out j (by have := HN.out; omega)
     rw [← HV.out] at hx
     subst hx
     go_wp2_with ((with_reducible refine Zl 2 17 ?_); refine Zc 29 _ _ 29 w.heap.size _ [.int .i64 0, .int .i64 0, .int .i64 0] hF.a rfl Zj (by simp [Value.oneCell']) rfl rfl rfl rfl rfl ?_; intro w9 p9; have P9 := Hh p9; clear p9)
     exact Zs 2 29 29 _ [.int .i64 0, .int .i64 0, .int .i64 0] rfl P9.out.whole Yh Zj rfl rfl ⟨rfl, hF.below.trans (P9.out.keeps.below hF.below.size fun q e => by omega)⟩
end Go.Proofs.YtljdgdphldckhaaGreat
