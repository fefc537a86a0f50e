/-
  Texts Prg4. No conditions but those that each theorem names.
-/
import Derived.Test.YtjacgcjjdebbbaaGreatQD13
namespace Go.Proofs.YtjacgcjjdebbbaaGreat
open Go.ChangeShapes Go.WideShapes Go.ChangeAt Go.RowKit
set_option linter.unusedVariables false
set_option linter.unusedSimpArgs false
theorem pExec_at (w : World) (p : Nat) (A B C : Option Addr) (n s m c d g k : Nat) (f : Nat → IV) (hI : Vx w A n f) (hc : Ck w p A B C n s m c d g (Yo f k) (Yn f k) (Wh f k)) (hn : n ≤ 1000) (hs : (s : Int) ≤ 1000) (hm : (m : Int) ≤ 1000) (hk : k < n) (h0 : 0 ≤ Yn f k) :
   Calls Tryz.prog 36 #[.pointer (some ⟨p, 0, none⟩), .int .i64 (k : Int), .agg #[.int .i64 (f k).op, .int .i64 (f k).a, .int .i64 (f k).b, .int .i64 (f k).c]] w fun r w' => r = .returned (.int .i64 (oneF f n s m k)) ∧ Zg (fun j => j = p) w w' ∧
     (oneF f n s m k = 0 → Ck w' p A B C n s m c d g (Yo f (k + 1)) (Yn f (k + 1)) (Wh f (k + 1))) := by
 have hob := open_bd f k
 have hdb := deep_bd f k
 have hhb := high_bd f k
 have he : Yo f k = -1 ∨ ∃ j : Nat, Yo f k = j ∧ j < k ∧ ∃ y : Addr, A = some y ∧ y.block < w.heap.size ∧ w.cell? ⟨(y.add (j * 4)).block, (y.add (j * 4)).off + 2, none⟩ = some (.int .i64 (f (Yo f k).toNat).b) := by
   rcases hob with h | h
   · exact .inl h
   · refine .inr ⟨(Yo f k).toNat, by omega, by omega, ?_⟩
     obtain ⟨y, hA, hy, _, _, y2, _⟩ := hI.get (i := (Yo f k).toNat) (by omega) (Below.refl _ w)
     exact ⟨y, hA, hy, y2⟩
 have hbb : -9223372036854775808 ≤ (f (Yo f k).toNat).b ∧ (f (Yo f k).toNat).b ≤ 9223372036854775807 := by
   obtain ⟨_, _, _, _, hw⟩ := hI (Yo f k).toNat (by rcases hob with h | h <;> omega)
   exact wf_bd hw.2.2.1
 exact pExecute w p A B C n s m c d g k (Yo f k) (Yn f k) (Wh f k) _ (f k) hc hn hs hm hk he hbb h0 (by omega) (by omega) (by omega)
theorem Vx.keeps0 {S : Nat → Prop} {w : World} {A : Option Addr} {len : Nat} {f : Nat → IV} (h : Vx w A len f) {w' : World} (hb : Zg S w w') (hs : 0 < len → ∀ x, A = some x → ¬ S x.block) : Vx w' A len f := by
 by_cases h0 : 0 < len
 · exact h.keeps hb (hs h0)
 · intro i hi; omega
set_option maxHeartbeats 3200000 in
theorem pCheckM (w : World) (p : Nat) (A B C : Option Addr) (n s m c d g : Nat) (f : Nat → IV) (hI : Vx w A n f) (hc : Ck w p A B C n s m c d g (-1) 0 0) (hA : 0 < n → ∀ x, A = some x → x.block ≠ p) (hn : n ≤ 1000) (hs : (s : Int) ≤ 1000) (hm : (m : Int) ≤ 1000) :
   Calls Tryz.prog 18 #[.pointer (some ⟨p, 0, none⟩)] w fun e w' => e = .returned (chkV (Ws f n s m)) ∧ Zg (fun j => j = p) w w' ∧
     ((Ws f n s m).1 = 0 → Ck w' p A B C n s m c d g (Yo f n) (Yn f n) (Wh f n)) := by
 have cE := fun k x (h1 : Zg (fun j => j = p) w x) => pExec_at x p A B C n s m c d g k f (hI.keeps0 h1 hA)
 have CE := Hh cE
 have HI := Hh hI
 have HA := Hh hA
 have hp : p < w.heap.size := hc.inside
 have hCH : Hid (Ws f n s m = if 96 < n then (3, 96) else chkF f n s m n 0) := Hh rfl
 obtain ⟨G, hG⟩ : ∃ G, Ws f n s m = G := ⟨_, rfl⟩
 rw [hG]
 have HG := Hh hG
 have HC := Hh hc
 obtain ⟨c0, c1, c2, c3, c4, c5, _⟩ := pwhole6 hc
 clear hG hI hA hc cE
 by_cases h96 : 96 < n
 · have l96 : (96 : Int) < (n : Int) := by omega
   have hg : Hid (G = (3, 96)) := Hh (by rw [← HG.out, hCH.out, if_pos h96])
   go_enter Tryz.func18, Tryz.ntmps18
   go_wp2
   go_ret2
   exact ⟨rII hg.out, Zg.refl _ _, fun c => by rw [hg.out] at c; cases c⟩
 · have l96 : (n : Int) ≤ 96 := by omega
   have HG2 : Hid (chkF f n s m n 0 = G) := Hh (by rw [← HG.out, hCH.out, if_neg h96])
   clear hCH HG
   go_enter Tryz.func18, Tryz.ntmps18
   go_wp2
   clear c0 c1 c2 c3 c4 c5
   go_loopw [22] (fun i wr => ∃ k : Nat, k ≤ n ∧ i = .int .i64 (k : Int) ∧ chkF f n s m (n - k) k = G ∧ 0 ≤ Yn f k ∧ Zg (fun j => j = p) w wr ∧ Ck wr p A B C n s m c d g (Yo f k) (Yn f k) (Wh f k)) (fun i _ => n - (intOf i).toNat)
   case atStart => exact ⟨0, by omega, rfl, HG2.out, by simp [Yn], Zg.refl _ _, HC.out⟩
   case round =>
     obtain ⟨k, hk, rfl, hch, hd0, hkp, hck⟩ := hrel
     have KP := Hh hkp
     have CK := Hh hck
     clear hkp hck
     by_cases hkn : k < n
     · have l1 : decide ((k : Int) < n) = true := by simp [hkn]
       have hIr : Vx wr A n f := HI.out.keeps0 KP.out HA.out
       obtain ⟨x, rfl, hx, x0, x1, x2, x3, _⟩ := hIr.get hkn (Below.refl _ wr)
       clear hIr
       have T0 := Hh (OneB.start wr 93 (f k).cells)
       unfold IV.cells at T0
       have C1 := Hh (CE.out k _ (KP.out.trans (Zg.of_below T0.out.below)) (CK.out.below T0.out.below) hn hs hm hkn hd0)
       have HO0 := Hh (one_deep (f := f) (n := n) (s := s) (m := m) (k := k))
       have HO1 := Hh (chk_step (f := f) (s := s) (m := m) hkn)
       have HO2 := Hh (chk_bad (f := f) (s := s) (m := m) hkn)
       have HCH := Hh hch
       clear hch hd0
       generalize f k = y at *
       obtain ⟨y0, y1, y2, y3⟩ := y
       simp only at x0 x1 x2 x3 C1 T0
       by_cases h0 : oneF f n s m k = 0
       · rw [h0] at C1
         have H0 := Hh h0
         clear h0
         go_wp2_with (first
 | (go_at_call 36; refine (C1.out).mono ?_; rintro e w5 ⟨rfl, k5, h5⟩
    have K5 := Hh ((KP.out.trans (Zg.of_below T0.out.below)).trans k5)
    have H5 := Hh (h5 (by simp))
    clear k5 h5))
         go_roundw
         case rel => exact ⟨k + 1, by omega, by go_num, by rw [← HO1.out H0.out]; exact HCH.out, HO0.out H0.out, K5.out, H5.out⟩
         case measure => simp [intOf]; omega
       · have g0 : (oneF f n s m k != 0) = true := by simpa using h0
         have H0 := Hh h0
         clear h0
         generalize hq : oneF f n s m k = q1 at *
         have HQ := Hh hq
         clear hq
         go_wp2_with (first
 | (go_at_call 36; refine (C1.out).mono ?_; rintro e w5 ⟨rfl, k5, h5⟩
    have K5 := Hh ((KP.out.trans (Zg.of_below T0.out.below)).trans k5)
    clear k5 h5))
         go_ret2
         have hg : G = (q1, (k : Int)) := by rw [← HCH.out, HO2.out H0.out]
         exact ⟨rII hg, K5.out, fun c => absurd (by rw [hg] at c; exact c) H0.out⟩
     · obtain rfl : k = n := by omega
       rw [chk_end] at hch
       have HCH := Hh hch
       clear hch
       obtain ⟨c0, c1, c2, c3, c4, c5, _⟩ := pwhole6 CK.out
       have hob := open_bd f k
       by_cases h1 : 0 ≤ Yo f k
       · have hg : Hid (G = (16, (k : Int))) := Hh (by rw [← HCH.out, if_pos (.inl h1)])
         have g1 : (Yo f k != -1) = true := by simp; omega
         clear h1 hob
         go_wp2
         go_ret2
         exact ⟨rII hg.out, KP.out, fun c => by rw [hg.out] at c; cases c⟩
       · have h1' : Yo f k = -1 := by omega
         rw [h1'] at c3
         by_cases h2 : 0 < Yn f k
         · have hg : Hid (G = (16, (k : Int))) := Hh (by rw [← HCH.out, if_pos (.inr h2)])
           clear h1 h1' hob
           go_wp2
           go_ret2
           exact ⟨rII hg.out, KP.out, fun c => by rw [hg.out] at c; cases c⟩
         · have hg : Hid (G = (0, 0)) := Hh (by rw [← HCH.out, if_neg (by omega)])
           have h2' : Yn f k ≤ 0 := by omega
           clear h1 h1' hob h2
           go_wp2
           go_ret2
           exact ⟨rII hg.out, KP.out, fun _ => CK.out⟩
theorem Vx.old {w : World} {A : Option Addr} {len : Nat} {f : Nat → IV} (h : Vx w A len f) {p : Nat} (hp : w.heap.size ≤ p) : 0 < len → ∀ x, A = some x → x.block ≠ p := by
 intro h0 x hA
 obtain ⟨y, hA', hy, _⟩ := h 0 h0
 rw [hA] at hA'; cases hA'; omega
set_option maxHeartbeats 3200000 in
theorem pCheck (w : World) (A B C : Option Addr) (n s m c d g : Nat) (f : Nat → IV) (hI : Vx w A n f) (hn : n ≤ 1000) (hs : (s : Int) ≤ 1000) (hm : (m : Int) ≤ 1000) :
   Calls Tryz.prog 7 #[Vf A B C n s m c d g] w fun e w' => e = .returned (chkV (Ws f n s m)) ∧ Below w.heap.size w w' := by
 have T0 := Hh (Two.start w 27 #[.slice A n c, .slice B s d, .slice C m g] 62 #[.slice A n c, .slice B s d, .slice C m g, .int .i64 (-1), .int .i64 0, .int .i64 0])
 have CM := Hh (pCheckM _ (w.heap.size + 1) A B C n s m c d g f (hI.below T0.out.below) T0.out.k1 (hI.old (by omega)) hn hs hm)
 unfold Vf
 unfold chkV at CM ⊢
 generalize Ws f n s m = G at *
 obtain ⟨G1, G2⟩ := G
 simp only at CM ⊢
 clear hI
 go_enter Tryz.func7, Tryz.ntmps7
 go_wp2_with (go_at_call 18; refine CM.out.mono ?_; rintro e w5 ⟨rfl, k5, _⟩
              have B5 := Hh (T0.out.below.trans (k5.below (B := w.heap.size) T0.out.below.size (by rintro k rfl; omega)))
              clear k5)
 go_ret2
 exact ⟨rfl, B5.out⟩
set_option maxHeartbeats 3200000 in
theorem pDeep (w : World) (A B C : Option Addr) (n s m c d g : Nat) (f : Nat → IV) (hI : Vx w A n f) (hn : n ≤ 1000) (hs : (s : Int) ≤ 1000) (hm : (m : Int) ≤ 1000) :
   Calls Tryz.prog 9 #[Vf A B C n s m c d g] w fun e w' => e = .returned (.int .i64 (mostF f n s m)) ∧ Below w.heap.size w w' := by
 have T0 := Hh (Two.start w 27 #[.slice A n c, .slice B s d, .slice C m g] 62 #[.slice A n c, .slice B s d, .slice C m g, .int .i64 (-1), .int .i64 0, .int .i64 0])
 have CM := Hh (pCheckM _ (w.heap.size + 1) A B C n s m c d g f (hI.below T0.out.below) T0.out.k1 (hI.old (by omega)) hn hs hm)
 have hm0 : Hid (mostF f n s m = if (Ws f n s m).1 = 0 then Wh f n else 0) := Hh rfl
 unfold Vf
 unfold chkV at CM
 generalize mostF f n s m = M at *
 generalize Ws f n s m = G at *
 obtain ⟨G1, G2⟩ := G
 simp only at CM hm0
 clear hI
 by_cases h0 : G1 = 0
 · subst h0
   have HM : Hid (Wh f n = M) := Hh (by rw [hm0.out, if_pos rfl])
   clear hm0
   go_enter Tryz.func9, Tryz.ntmps9
   go_wp2_with (go_at_call 18; refine CM.out.mono ?_; rintro e w5 ⟨rfl, k5, h5⟩
                have B5 := Hh (T0.out.below.trans (k5.below (B := w.heap.size) T0.out.below.size (by rintro k rfl; omega)))
                obtain ⟨c0, c1, c2, c3, c4, c5, _⟩ := pwhole6 (h5 (by simp))
                clear k5 h5)
   go_ret
   exact ⟨rI HM.out, B5.out⟩
 · have HM : Hid (0 = M) := Hh (by rw [hm0.out, if_neg h0])
   have g0 : (G1 != 0) = true := by simpa using h0
   clear hm0 h0
   go_enter Tryz.func9, Tryz.ntmps9
   go_wp2_with (go_at_call 18; refine CM.out.mono ?_; rintro e w5 ⟨rfl, k5, _⟩
                have B5 := Hh (T0.out.below.trans (k5.below (B := w.heap.size) T0.out.below.size (by rintro k rfl; omega)))
                clear k5)
   go_ret
   exact ⟨rI HM.out, B5.out⟩
end Go.Proofs.YtjacgcjjdebbbaaGreat
