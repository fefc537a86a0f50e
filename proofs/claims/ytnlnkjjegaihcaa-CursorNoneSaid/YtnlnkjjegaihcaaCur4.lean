/-
  The contracts of package cursor's methods, on: Signed, Down, Up; and New. Condition: the cursor stands at a token of a text, whose tokens have one end, the last.
-/
import Derived.Test.YtnlnkjjegaihcaaCur3
namespace Go.Proofs.Ytnlnkjjegaihcaa
open Go.ChangeShapes Go.WideShapes Go.ChangeAt Go.RowKit
set_option linter.unusedVariables false
set_option linter.unusedSimpArgs false
theorem cUp (w : World) (p r K : Nat) (L : List TokV) (a d : Nat) (h : CurAt w p r K L a d) :
    Calls Try.prog 20 #[.pointer (some ⟨p, 0, none⟩)] w (CPost w p r K L a (d - 1) (.tuple #[])) := by
  have HC := Lib.hid h
  have c1 := h.look.c1
  have z1 := h.whole.thawed 1
  have hd := h.deep
  clear h
  by_cases h0 : 0 < d
  · have l0 : (0 : Int) < (d : Int) := by omega
    have l1 : (d : Int) ≤ 8 := by omega
    have H0 := Lib.hid h0
    have HD := Lib.hid hd
    clear hd
    go_enter Try.func20, Try.ntmps20
    go_wp2
    go_end0
    exact ⟨rfl, HC.out.deeper (d - 1) (by have := HD.out; omega) _ (by have := H0.out; rw [show ((d - 1 : Nat) : Int) = (d : Int) - 1 from by omega]), Keeps.setCell (S := fun k => k = p) (Keeps.refl _ _) rfl _⟩
  · obtain rfl : d = 0 := by omega
    go_enter Try.func20, Try.ntmps20
    go_wp2
    go_end0
    exact ⟨rfl, Moved.start HC.out⟩
theorem cDown (w : World) (p r K : Nat) (L : List TokV) (a d : Nat) (h : CurAt w p r K L a d) :
    Calls Try.prog 24 #[.pointer (some ⟨p, 0, none⟩)] w (CPost w p r K L a (downD d) (faultV (downF L a d))) := by
  have nb1 := new_block w (.cells #[.int .i64 0, .int .i64 0, .int .i64 0] 27)
  have h1 := h.below nb1
  have F0 := Whole.made w 27 #[.int .i64 0, .int .i64 0, .int .i64 0]
  have HM := Lib.hid ((Moved.start h).next nb1)
  have pin := h.whole.inside
  have rin := h.rin
  have hpw : ¬ (w.heap.size = p) := by omega
  have c1 := h1.look.c1
  have z1 := h1.whole.thawed 1
  have H1 := Lib.hid h1
  have hd := h.deep
  have HC := Lib.hid h
  clear h nb1 h1
  unfold downD downF
  by_cases h0 : d = 8
  · subst h0
    rw [if_pos rfl, if_pos rfl]
    have F0 := Lib.hid F0
    clear hd
    go_enter Try.func24, Try.ntmps24
    go_wp2_with (first
      | (go_at_call 34; refine (cStands _ _ _ _ _ _ _ _ H1.out.look).mono ?_; rintro e w1 ⟨rfl, rfl⟩)
      | (go_at_call 35; refine (cHere _ _ _ _ _ _ _ _ _ H1.out.look).mono ?_; rintro e w3 ⟨rfl, b3⟩; have W3 := Lib.hid (F0.out.below b3 (by simp)); obtain ⟨k0, k1, k2, f0, f1, f2⟩ := whole3 W3.out; have hz := W3.out.inside; have B3 := Lib.hid b3; clear b3; simp only [faultV]))
    have hF := whole3 (Whole.set3 W3.out (.int .i64 8) (.int .i64 ((curT L a).line : Int)) (.int .i64 ((curT L a).col : Int)))
    refine bodyPost_ret (v := faultV (8, (curT L a).line, (curT L a).col)) (by simp [results, Try.results24, go_sem, hF, faultV]) rfl ⟨rfl, ?_⟩
    exact (HM.out.next B3.out).on (keeps3 _ _ _ _ _) (Nat.le_refl _) pin rin
  · rw [if_neg h0, if_neg h0]
    have q0 : ((d : Int) == 8) = false := by rw [beq_eq_false_iff_ne]; omega
    have l1 : (d : Int) ≤ 7 := by omega
    have H0 := Lib.hid (And.intro h0 hd)
    clear h0 hd
    go_enter Try.func24, Try.ntmps24
    go_wp2_with (go_at_call 34; refine (cStands _ _ _ _ _ _ _ _ H1.out.look).mono ?_; rintro e w1 ⟨rfl, rfl⟩)
    refine bodyPost_ret (v := faultV okF) (by simp [results, Try.results24, go_sem, faultV, okF]) rfl ⟨rfl, ?_⟩
    have m1 : Moved w (w.setCell ⟨p, 1, none⟩ (.int .i64 ((d : Int) + 1))) p r K L a (d + 1) :=
      ⟨HC.out.deeper (d + 1) (by have := H0.out; omega) _ (by simp), Keeps.setCell (S := fun k => k = p) (Keeps.refl _ _) rfl _⟩
    exact m1.next (new_block _ _)
theorem CurAt.copy {w : World} {p r K : Nat} {L : List TokV} {a d : Nat} (h : CurAt w p r K L a d) (o n c : Nat) (ho : o = a * 5) (hn : n = L.length - a) (hc : c = K - a) :
    CurAt (w.alloc (.cells #[.slice (some ⟨r, o, none⟩) n c, .int .i64 (d : Int)] 58)) w.heap.size r K L a d := by
  subst ho hn hc
  have h1 := h.below (new_block w (.cells #[.slice (some ⟨r, a * 5, none⟩) (L.length - a) (K - a), .int .i64 (d : Int)] 58))
  exact ⟨Whole.made _ _ _, h1.row, h1.rin, by have := h.rin; omega, h.ends, h.inn, h.capL, h.capM, h.deep⟩
theorem look2 {w : World} {p r K : Nat} {L : List TokV} {a d : Nat} (h : CurAt w p r K L a d) {o n c : Nat} (ho : o = a * 5) (hn : n = L.length - a) (hc : c = K - a) :
    w.cell? ⟨p, 0, none⟩ = some (.slice (some ⟨r, o, none⟩) n c) ∧ w.cell? ⟨p, 1, none⟩ = some (.int .i64 (d : Int)) := by
  subst ho hn hc
  exact ⟨h.look.c0, h.look.c1⟩
theorem cSigned (w : World) (p r K : Nat) (L : List TokV) (a d : Nat) (h : CurAt w p r K L a d) :
    Calls Try.prog 18 #[.pointer (some ⟨p, 0, none⟩)] w (CPost w p r K L (signA L a) d (.tuple #[.int .i64 (signV L a), faultV (signF L a)])) := by
  have nb1 := new_block w (.cells #[.int .i64 0, .int .i64 0, .int .i64 0] 27)
  have h1 := h.below nb1
  have F0 := Lib.hid (Whole.made w 27 #[.int .i64 0, .int .i64 0, .int .i64 0])
  have HM := Lib.hid ((Moved.start h).next nb1)
  have pin := h.whole.inside
  have rin := h.rin
  have hpw : ¬ (w.heap.size = p) := by omega
  have hi := cIs _ p _ _ _ _ _ _ minus h1.look
  have H1 := Lib.hid h1
  clear h nb1 h1
  unfold signA signV signF
  unfold minus at hi ⊢
  cases hb : isT (curT L a) ⟨#[45]⟩
  · rw [hb] at hi
    rw [if_neg (by decide), if_neg (by decide), if_neg (by decide)]
    clear hb
    generalize hf : kindF L a 2 = f at *
    have hj := cInt _ p r K L a d H1.out
    have HF := Lib.hid hf
    clear hf
    have hj : ∀ w, CurAt w p r K L a d → Calls Try.prog 17 #[.pointer (some ⟨p, 0, none⟩)] w (CPost w p r K L (kindA L a 2) d (.tuple #[.int .i64 (intV L a), faultV f])) := fun w h => by rw [← HF.out]; exact cInt w p r K L a d h
    obtain ⟨f1, f2, f3⟩ := f
    go_enter Try.func18, Try.ntmps18
    go_wp2_with (first
      | (go_at_call 13; refine hi.mono ?_; rintro e w2 ⟨rfl, b2⟩; have M2 := Lib.hid (HM.out.next b2); have F2 := Lib.hid (F0.out.below b2 F0.out.inside); clear b2)
      | (go_at_call 17; refine (hj _ M2.out.at_).mono ?_; rintro e w3 ⟨rfl, m3⟩; have W0 := Lib.hid (m3.keeps.whole F2.out hpw); obtain ⟨g0, g1, g2, z0, z1, z2⟩ := whole3 W0.out; have hz := W0.out.inside; have M3 := Lib.hid (M2.out.then m3); clear m3; simp only [faultV]))
    have hF := whole3 (Whole.set3 W0.out (.int .i64 f1) (.int .i64 (f2 : Int)) (.int .i64 (f3 : Int)))
    refine bodyPost_ret (v := .tuple #[.int .i64 (intV L a), faultV (f1, f2, f3)]) (by simp [results, Try.results18, go_sem, hF, faultV]) rfl ⟨rfl, ?_⟩
    exact M3.out.on (keeps3 _ _ _ _ _) (Nat.le_refl _) pin rin
  · rw [hb] at hi
    rw [if_pos rfl, if_pos rfl, if_pos rfl]
    clear hb
    obtain ⟨o, n, c, ho, hn, hc⟩ : ∃ o n c, o = a * 5 ∧ n = L.length - a ∧ c = K - a := ⟨_, _, _, rfl, rfl, rfl⟩
    have HO := Lib.hid (And.intro ho (And.intro hn hc))
    generalize hbn : onA L a = b at *
    have HB := Lib.hid hbn
    have hk : kindA L b 2 = if (curT L b).k = 2 then onA L b else b := rfl
    have hv : intV L b = if (curT L b).k = 2 then (curT L b).n else 0 := rfl
    have hf : kindF L b 2 = if (curT L b).k = 2 then okF else wrF (curT L b) := rfl
    have hnx : ∀ w q, CurAt w q r K L a d → Calls Try.prog 21 #[.pointer (some ⟨q, 0, none⟩)] w (CPost w q r K L b d (tokA (curT L a))) := fun w q h => by rw [← HB.out]; exact cNext w q r K L a d h
    have hj := fun w q (h : CurAt w q r K L b d) => cInt w q r K L b d h
    have HN := Lib.hid hnx
    clear hnx ho hn hc hbn
    rw [hf]
    by_cases h2 : (curT L b).k = 2
    · rw [if_pos h2] at hk hv hf ⊢
      rw [if_pos h2, if_pos h2]
      have hnum := H1.out.ends.num b
      rw [hk, hv, hf] at hj
      have HJ := Lib.hid hj
      clear hj hk hv hf h2
      generalize hm : (curT L b).n = m at *
      have HE := Lib.hid hm
      obtain ⟨m0, m9⟩ := hnum
      clear hm
      generalize hbn : onA L b = b2 at *
      obtain ⟨o2, n2, c2, ho, hn, hc⟩ : ∃ o n c, o = b2 * 5 ∧ n = L.length - b2 ∧ c = K - b2 := ⟨_, _, _, rfl, rfl, rfl⟩
      have HB2 := Lib.hid (And.intro ho (And.intro hn hc))
      clear ho hn hc hbn
      go_enter Try.func18, Try.ntmps18
      go_wp2_with (first
        | (go_at_call 13; refine hi.mono ?_; rintro e w2 ⟨rfl, b2⟩; have M2 := Lib.hid (HM.out.next b2); have F2 := Lib.hid (F0.out.below b2 F0.out.inside); obtain ⟨c0, c1⟩ := look2 M2.out.at_ HO.out.1 HO.out.2.1 HO.out.2.2; have hp2 := M2.out.at_.whole.inside; clear b2)
        | (go_at_call 21; refine (HN.out _ _ (M2.out.at_.copy o n c HO.out.1 HO.out.2.1 HO.out.2.2)).mono ?_; rintro e w3 ⟨rfl, m3⟩; have N3 := Lib.hid m3; clear m3; simp only [tokA])
        | (go_at_call 17; refine (HJ.out _ _ N3.out.at_).mono ?_; rintro e w4 ⟨rfl, m4⟩; have N4 := Lib.hid (N3.out.then m4); have hG := F2.out.inside; have M4 := Lib.hid ((M2.out.next (new_block _ _)).on N4.out.keeps (Nat.le_of_lt hG) pin rin); have F4 := Lib.hid (N4.out.keeps.whole (F2.out.alloc _) (Nat.ne_of_lt hG)); obtain ⟨d0, d1⟩ := look2 N4.out.at_ HB2.out.1 HB2.out.2.1 HB2.out.2.2; obtain ⟨p0, p1⟩ := look2 M4.out.at_ HO.out.1 HO.out.2.1 HO.out.2.2; have t0 := M4.out.at_.whole.thawed 0; have t1 := M4.out.at_.whole.thawed 1; have hp4 := M4.out.at_.whole.inside; obtain ⟨g0, g1, g2, z0, z1, z2⟩ := whole3 F4.out; have hz := F4.out.inside; have hq4 := N4.out.at_.whole.inside; have hN := Lib.hid hG; clear m4 hG; simp only [faultV, okF]))
      have hne : w.heap.size ≠ p := hpw
      have hF := whole3 ((Whole.set3 ((F4.out.aside (p := ⟨p, 0, none⟩) hne (.slice (some ⟨r, o2, none⟩) n2 c2)).aside (p := ⟨p, 1, none⟩) hne (.int .i64 (d : Int))) (.int .i64 0) (.int .i64 0) (.int .i64 0)).alloc (.cells #[.int .i64 0, .int .i64 0, .int .i64 0] 27))
      refine bodyPost_ret (v := .tuple #[.int .i64 (-m), faultV okF]) (by simp [results, Try.results18, go_sem, hF, faultV, okF]) rfl ⟨rfl, ?_⟩
      obtain ⟨e1, e2, e3⟩ := HB2.out
      have m5 : Moved w ((w4.setCell ⟨p, 0, none⟩ (.slice (some ⟨r, o2, none⟩) n2 c2)).setCell ⟨p, 1, none⟩ (.int .i64 (d : Int))) p r K L b2 d :=
        ⟨(M4.out.at_.moved b2 N4.out.at_.inn _ (by rw [e1, e2, e3])).deeper d M4.out.at_.deep _ rfl, (M4.out.keeps.setCell rfl _).setCell rfl _⟩
      exact m5.on ((keeps3 _ _ _ _ _).alloc _) (Nat.le_refl _) pin rin
    · rw [if_neg h2] at hk hv hf ⊢
      rw [if_neg h2, if_neg h2]
      rw [hk, hv, hf] at hj
      have HJ := Lib.hid hj
      have hne := wrF_ne (curT L b)
      clear hj hk hv hf h2
      generalize hm : wrF (curT L b) = f at *
      obtain ⟨f1, f2, f3⟩ := f
      have HE := Lib.hid hm
      have q0 : (f1 != 0) = true := by rw [bne_iff_ne]; exact hne
      clear hm hne
      go_enter Try.func18, Try.ntmps18
      go_wp2_with (first
        | (go_at_call 13; refine hi.mono ?_; rintro e w2 ⟨rfl, b2⟩; have M2 := Lib.hid (HM.out.next b2); have F2 := Lib.hid (F0.out.below b2 F0.out.inside); obtain ⟨c0, c1⟩ := look2 M2.out.at_ HO.out.1 HO.out.2.1 HO.out.2.2; have hp2 := M2.out.at_.whole.inside; clear b2)
        | (go_at_call 21; refine (HN.out _ _ (M2.out.at_.copy o n c HO.out.1 HO.out.2.1 HO.out.2.2)).mono ?_; rintro e w3 ⟨rfl, m3⟩; have N3 := Lib.hid m3; clear m3; simp only [tokA])
        | (go_at_call 17; refine (HJ.out _ _ N3.out.at_).mono ?_; rintro e w4 ⟨rfl, m4⟩; have N4 := Lib.hid (N3.out.then m4); have hG := F2.out.inside; have M4 := Lib.hid ((M2.out.next (new_block _ _)).on N4.out.keeps (Nat.le_of_lt hG) pin rin); have F4 := Lib.hid (N4.out.keeps.whole (F2.out.alloc _) (Nat.ne_of_lt hG)); obtain ⟨g0, g1, g2, z0, z1, z2⟩ := whole3 F4.out; have hz := F4.out.inside; clear m4 hG; simp only [faultV]))
      go_region
      all_goals
        go_wp2
        have hF := whole3 (((Whole.set3 F4.out (.int .i64 f1) (.int .i64 (f2 : Int)) (.int .i64 (f3 : Int))).alloc (.cells #[.int .i64 f1, .int .i64 (f2 : Int), .int .i64 (f3 : Int)] 27)).drew)
        refine bodyPost_ret (v := .tuple #[.int .i64 0, faultV (f1, f2, f3)]) (by simp [results, Try.results18, go_sem, hF, faultV]) rfl ⟨rfl, ?_⟩
        exact M4.out.on (((keeps3 _ _ _ _ _).alloc _).drew) (Nat.le_refl _) pin rin
theorem own5_all {w : World} {base : Nat} {e : TypeId} {v : Value} {xs : List Value} {n : Nat} (h : w.ownsRow base e 5 v n xs) (hn : 0 < n) :
    ∃ g c, v = .slice (some ⟨g, 0, none⟩) n c ∧ base ≤ g ∧ g < w.heap.size ∧ n ≤ c ∧ c ≤ 9223372036854775807 ∧ ∀ j, j < xs.length → w.cell? ⟨g, j, none⟩ = xs[j]? := by
  obtain ⟨g, c, rfl, hg, hc⟩ := own5_at h hn
  obtain ⟨A, c', hv, h1, h2, _⟩ := own_form h
  injection hv with _ _ e3
  subst e3
  unfold maxLen at h2
  exact ⟨g, c, rfl, (h.lt g rfl).1, hg, h1, by omega, hc⟩
theorem CurAt.made {w1 y : World} {g K G : Nat} {L : List TokV} (hrow : ∀ j, j < (tokCs L).length → w1.cell? ⟨g, j, none⟩ = (tokCs L)[j]?) (hg : g < w1.heap.size) (hk : Keeps (fun k => k = G) w1 y) (hG : g ≠ G) (hL : Ends L) (h1 : L.length ≤ K) (h2 : K ≤ 9223372036854775807) :
    CurAt (y.alloc (.cells #[.slice (some ⟨g, 0, none⟩) L.length K, .int .i64 0] 58)) y.heap.size g K L 0 0 := by
  have hs := hk.size
  refine ⟨by simpa using Whole.made y 58 #[.slice (some ⟨g, 0, none⟩) L.length K, .int .i64 0], fun j hj => ?_, by simp; omega, by omega, hL, hL.pos, h1, h2, by omega⟩
  have k2 := hk.alloc (.cells #[.slice (some ⟨g, 0, none⟩) L.length K, .int .i64 0] 58)
  exact (World.cell?_of_block (a := ⟨g, j, none⟩) (k2.block g hg hG)).trans (hrow j hj)
/-- What New leaves for a text without a fault. -/
def NewPost (L : List TokV) (w : World) (e : Ending) (w' : World) : Prop :=
  ∃ p r K, e = .returned (.tuple #[.pointer (some ⟨p, 0, none⟩), faultV okF]) ∧ CurAt w' p r K L 0 0 ∧ w.heap.size ≤ p ∧ w.heap.size ≤ r ∧ Below w.heap.size w w'
theorem cNew_err (s : ByteArray) (w : World) (hs : s.size ≤ 140737488355328) (E : Int) (l c : Nat) (hv : scanV s = ([], E, l, c)) (hE : E ≠ 0) :
    Calls Try.prog 7 #[.string s] w fun e w' => e = .returned (.tuple #[.pointer none, faultV (E, l, c)]) ∧ Below w.heap.size w w' := by
  have HV := Lib.hid hv
  have q0 : (E != 0) = true := by rw [bne_iff_ne]; exact hE
  have F0 := Lib.hid (Whole.made w 27 #[.int .i64 0, .int .i64 0, .int .i64 0])
  clear hv hE
  go_enter Try.func7, Try.ntmps7
  go_wp2_with (go_at_call 25; refine (tkScan s _ (by omega)).mono ?_; rintro e w1 ⟨v, rfl, o1, b1⟩; rw [HV.out] at o1 ⊢; obtain ⟨A1, c1, rfl, hl1, _⟩ := own5_reads o1; have F1 := Lib.hid (F0.out.below b1 (by simp)); obtain ⟨g0, g1, g2, z0, z1, z2⟩ := whole3 F1.out; have hz := F1.out.inside; have B1 := Lib.hid b1; clear o1 b1; simp only [faultV])
  go_region
  all_goals
    go_wp2
    have hF := whole3 (((Whole.set3 F1.out (.int .i64 E) (.int .i64 (l : Int)) (.int .i64 (c : Int))).alloc (.cells #[.int .i64 E, .int .i64 (l : Int), .int .i64 (c : Int)] 27)).drew)
    refine bodyPost_ret (v := .tuple #[.pointer none, faultV (E, l, c)]) (by simp [results, Try.results7, go_sem, hF, faultV]) rfl ⟨rfl, ?_⟩
    exact below_drew1 ((Below.set3 (bthen (new_block _ _) B1.out) (Nat.le_refl _) _ _ _).alloc (by simp; omega) _)
theorem cNew_ok (s : ByteArray) (w : World) (hs : s.size ≤ 140737488355328) (L : List TokV) (hv : scanV s = (L, 0, 0, 0)) (hL : Ends L) :
    Calls Try.prog 7 #[.string s] w (NewPost L w) := by
  have HV := Lib.hid hv
  have F0 := Lib.hid (Whole.made w 27 #[.int .i64 0, .int .i64 0, .int .i64 0])
  have hpos := hL.pos
  have HL := Lib.hid hL
  clear hv hL
  go_enter Try.func7, Try.ntmps7
  go_wp2_with (go_at_call 25; refine (tkScan s _ (by omega)).mono ?_; rintro e w1 ⟨v, rfl, o1, b1⟩; rw [HV.out] at o1 ⊢; obtain ⟨g, K, rfl, r1, r2, r3, r4, r5⟩ := own5_all o1 hpos; have F1 := Lib.hid (F0.out.below b1 (by simp)); obtain ⟨g0, g1, g2, z0, z1, z2⟩ := whole3 F1.out; have hz := F1.out.inside; have B1 := Lib.hid b1; have R5 := Lib.hid r5; clear o1 b1 r5; simp only [faultV])
  have hk : Keeps (fun k => k = w.heap.size) w1 ((((w1.setCell ⟨w.heap.size, 0, none⟩ (.int .i64 0)).setCell ⟨w.heap.size, 1, none⟩ (.int .i64 0)).setCell ⟨w.heap.size, 2, none⟩ (.int .i64 0)).alloc (.cells #[.int .i64 0, .int .i64 0, .int .i64 0] 27)) := (keeps3 _ _ _ _ _).alloc _
  have hF := whole3 (((Whole.set3 F1.out (.int .i64 0) (.int .i64 0) (.int .i64 0)).alloc (.cells #[.int .i64 0, .int .i64 0, .int .i64 0] 27)).alloc (.cells #[.slice (some ⟨g, 0, none⟩) L.length K, .int .i64 0] 58))
  have hgs : w.heap.size + 1 ≤ g := by simpa using r1
  have hc := CurAt.made R5.out r2 hk (by omega) HL.out r3 r4
  have hb : Below w.heap.size w ((((w1.setCell ⟨w.heap.size, 0, none⟩ (.int .i64 0)).setCell ⟨w.heap.size, 1, none⟩ (.int .i64 0)).setCell ⟨w.heap.size, 2, none⟩ (.int .i64 0)).alloc (.cells #[.int .i64 0, .int .i64 0, .int .i64 0] 27)) :=
    (Below.set3 (bthen (new_block _ _) B1.out) (Nat.le_refl _) _ _ _).alloc (by simp; omega) _
  refine bodyPost_ret (v := .tuple #[.pointer (some ⟨w1.heap.size + 1, 0, none⟩), faultV okF]) (by simp [results, Try.results7, go_sem, hF, faultV, okF]) rfl ⟨w1.heap.size + 1, g, K, rfl, ?_, by omega, by omega, hb.alloc hb.size _⟩
  simpa using hc
end Go.Proofs.Ytnlnkjjegaihcaa
