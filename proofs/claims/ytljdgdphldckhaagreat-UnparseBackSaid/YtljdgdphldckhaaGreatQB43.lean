/-
  Texts UnpLen2. No conditions but those that each theorem names.
-/
import Derived.Test.YtljdgdphldckhaaGreatQB42
namespace Go.Proofs.YtljdgdphldckhaaGreat
open Go
set_option linter.unusedSimpArgs false
set_option linter.unusedVariables false
theorem kB_len (b : Bool) (X : List ByteArray) : Wl (kB b X) ≤ Wl X + 4 := by
 unfold kB
 have e1 : Wh.size = 1 := rfl
 have e2 : Wi.size = 1 := rfl
 split
 · simp only [Yx, Xk, Xr, e1, e2]; omega
 · omega
theorem sign_size {op : Int} (h1 : 1 ≤ op) (h3 : op ≤ 3) : (wd wSign op).size = 1 := by
 have h : op = 1 ∨ op = 2 ∨ op = 3 := by omega
 rcases h with rfl | rfl | rfl <;> rfl
theorem kEx_bin {op : Int} (h1 : 1 ≤ op) (h3 : op ≤ 3) (l r : Ex) : Wl (kEx (.bin op l r)) ≤ Wl (kEx l) + Wl (kEx r) + 10 := by
 have e : kEx (.bin op l r) = kB (Vs false op l) (kEx l) ++ ([wd wSign op] ++ kB (Vs true op r) (kEx r)) := rfl
 rw [e]
 simp only [Yx, Xk, Xr, sign_size h1 h3]
 have := kB_len (Vs false op l) (kEx l)
 have := kB_len (Vs true op r) (kEx r)
 omega
theorem sum_size {k : Nat} (h0 : k ≠ 0) (h : k ≤ 2) : (wd Un (k : Int)).size = 1 := by
 have h : k = 1 ∨ k = 2 := by omega
 rcases h with rfl | rfl <;> rfl
section
variable {L : List TokV} {nk : Int}
theorem find_le (ws : List ByteArray) (st : St) : Zd L ws st ≤ ws.length := by
 cases st with
 | ok a d => exact Zat (Zp L a) ws
 | bad F => exact Nat.zero_le _
theorem p_exprs (hR : Vb L) : ∀ n : Nat,
   (∀ st, 4 * Zs L st + 3 ≤ n → Ja L st (Yg nk L n st).2 (Wl (kEx (Yg nk L n st).1))) ∧
   (∀ x, 4 * Zs L x.2 ≤ n → (Uq nk L n x).2.good = true → x.2.good = true ∧ Wl (kEx (Uq nk L n x).1) + WS L (Uq nk L n x).2 ≤ Wl (kEx x.1) + WS L x.2) ∧
   (∀ st, 4 * Zs L st + 2 ≤ n → Ja L st (Vh nk L n st).2 (Wl (kEx (Vh nk L n st).1))) ∧
   (∀ x, 4 * Zs L x.2 ≤ n → (Ud nk L n x).2.good = true → x.2.good = true ∧ Wl (kEx (Ud nk L n x).1) + WS L (Ud nk L n x).2 ≤ Wl (kEx x.1) + WS L x.2) ∧
   (∀ st, 4 * Zs L st + 1 ≤ n → Ja L st (Wo nk L n st).2 (Wl (kEx (Wo nk L n st).1)))
 | 0 => ⟨fun st h => by omega, fun x _ h => ⟨h, Nat.le_refl _⟩, fun st h => by omega, fun x _ h => ⟨h, Nat.le_refl _⟩, fun st h => by omega⟩
 | n + 1 => by
   obtain ⟨i1, i2, i3, i4, i5⟩ := p_exprs hR n
   refine ⟨fun st hn h => ?_, fun x hn h => ?_, fun st hn h => ?_, fun x hn h => ?_, fun st hn h => ?_⟩
   · rw [Yg] at h ⊢
     have r1 := rem_prod L nk n st
     obtain ⟨g1, q1⟩ := i2 _ (by omega) h
     obtain ⟨g2, q2⟩ := i3 st (by omega) g1
     exact ⟨g2, by omega⟩
   · rw [Uq] at h ⊢
     by_cases h0 : Zd L Un x.2 = 0
     · rw [if_pos h0] at h ⊢; exact ⟨h, Nat.le_refl _⟩
     · rw [if_neg h0] at h ⊢
       have r1 := Vn L h0
       have r2 := rem_prod L nk n (Zt L Un x.2)
       obtain ⟨g1, q1⟩ := i2 _ (by dsimp only; omega) h
       dsimp only at g1 q1
       obtain ⟨g2, q2⟩ := i3 _ (by omega) g1
       obtain ⟨g3, q3⟩ := p_found h0 g2
       have hle := find_le (L := L) Un x.2
       have hle : Zd L Un x.2 ≤ 2 := hle
       have hb := kEx_bin (op := (Zd L Un x.2 : Nat)) (by omega) (by omega) x.1 (Vh nk L n (Zt L Un x.2)).1
       rw [sum_size h0 hle] at q3
       exact ⟨g3, by omega⟩
   · rw [Vh] at h ⊢
     have r1 := rem_fact L nk n st
     obtain ⟨g1, q1⟩ := i4 _ (by omega) h
     obtain ⟨g2, q2⟩ := i5 st (by omega) g1
     exact ⟨g2, by omega⟩
   · rw [Ud] at h ⊢
     by_cases h0 : isS L Wf x.2 = true
     · rw [if_pos h0] at h ⊢
       have r1 := rem_took L h0
       have r2 := rem_fact L nk n (Xz L Wf x.2)
       obtain ⟨g1, q1⟩ := i4 _ (by dsimp only; omega) h
       dsimp only at g1 q1
       obtain ⟨g2, q2⟩ := i5 _ (by omega) g1
       obtain ⟨g3, q3⟩ := p_took h0 g2
       have hb := kEx_bin (op := 3) (by omega) (by omega) x.1 (Wo nk L n (Xz L Wf x.2)).1
       have e1 : Wf.size = 1 := rfl
       rw [e1] at q3
       exact ⟨g3, by omega⟩
     · rw [if_neg h0] at h ⊢; exact ⟨h, Nat.le_refl _⟩
   · rw [Wo] at h ⊢
     by_cases ho : isS L Wh st = true
     · rw [if_pos ho] at h ⊢
       dsimp only at h ⊢
       have r1 := rem_downed L ho
       obtain ⟨g1, q1⟩ := p_rise Wi _ h
       obtain ⟨g2, q2⟩ := i1 _ (by omega) g1
       obtain ⟨g3, q3⟩ := p_down Wh _ g2
       exact ⟨g3, by omega⟩
     · rw [if_neg ho] at h ⊢
       by_cases h0 : Zd L Yj st = 0
       · rw [if_pos h0] at h ⊢
         dsimp only at h ⊢
         obtain ⟨g1, q1⟩ := p_sign hR _ h
         refine ⟨g1, ?_⟩
         have e : kEx (.leaf 1 (Zaz L st) zSe 0 0 0) = [Vc (Zaz L st)] := rfl
         rw [e, lenB_one]; omega
       · rw [if_neg h0] at h ⊢
         have hle : Zd L Yj st ≤ 5 := find_le (L := L) Yj st
         have p0 := p_found h0
         by_cases h12 : Zd L Yj st = 1 ∨ Zd L Yj st = 2
         · rw [if_pos h12] at h ⊢
           dsimp only at h ⊢
           obtain ⟨g1, q1⟩ := p_sel hR n _ h
           obtain ⟨g2, q2⟩ := p0 g1
           refine ⟨g2, ?_⟩
           have e : kEx (.leaf ((Zd L Yj st : Nat) + 1) 0 (Wp nk L n (Zt L Yj st)).1 0 0 0) = [wd Yj (Zd L Yj st : Nat)] ++ kSel (Wp nk L n (Zt L Yj st)).1 := by
             show kLeaf _ _ _ _ _ _ = _
             unfold kLeaf
             rw [if_neg (by omega), if_pos (by omega)]
             congr 2
             rw [show ((Zd L Yj st : Nat) : Int) + 1 - 1 = (Zd L Yj st : Nat) from by omega]
           rw [e, Yx, lenB_one]; omega
         · rw [if_neg h12] at h ⊢
           by_cases h3 : Zd L Yj st = 3
           · rw [if_pos h3] at h ⊢
             dsimp only at h ⊢
             obtain ⟨g2, q2⟩ := p0 h
             refine ⟨g2, ?_⟩
             have e : kEx (.leaf 4 0 zSe 0 0 0) = [wd Yj 3] := rfl
             rw [h3] at q2
             have e3 : ((3 : Nat) : Int) = 3 := rfl
             rw [e3] at q2
             rw [e, lenB_one]; omega
           · rw [if_neg h3] at h ⊢
             by_cases h4 : Zd L Yj st = 4
             · rw [if_pos h4] at h ⊢
               dsimp only at h ⊢
               obtain ⟨g1, q1⟩ := Zbk Zk _ h
               obtain ⟨g2, q2⟩ := p0 g1
               refine ⟨g2, ?_⟩
               have e : kEx (.leaf 5 0 zSe (Zd L Zk (Zt L Yj st) : Nat) 0 0) = [wd Yj 4, wd Zk (Zd L Zk (Zt L Yj st) : Nat)] := rfl
               rw [h4] at q2
               have e3 : ((4 : Nat) : Int) = 4 := rfl
               rw [e3] at q2
               rw [e]; simp only [Xk, Xr]; omega
             · rw [if_neg h4] at h ⊢
               dsimp only at h ⊢
               obtain ⟨g1, q1⟩ := p_to hR _ h
               obtain ⟨g3, q3⟩ := Zbk Zk _ g1
               obtain ⟨g2, q2⟩ := p0 g3
               refine ⟨g2, ?_⟩
               have h5 : Zd L Yj st = 5 := by omega
               have e : ∀ a b c : Int, kEx (.leaf 6 0 zSe a b c) = [wd Yj 5, wd Zk a] ++ kTo b c := fun _ _ _ => rfl
               rw [h5] at q2
               have e3 : ((5 : Nat) : Int) = 5 := rfl
               rw [e3] at q2
               rw [e]; simp only [Yx, Xk, Xr]; omega
theorem p_expr (hR : Vb L) {n : Nat} {st : St} (hn : 4 * Zs L st + 3 ≤ n) : Ja L st (Yg nk L n st).2 (Wl (kEx (Yg nk L n st).1)) := (p_exprs hR n).1 st hn
theorem kA1 {h : AH}  (c : h.kind = 1 ∨ h.kind = 2 ∨ h.kind = 12) : Zaq h = kSel h.sel ++ kEx h.num := by unfold Zaq; rw [if_pos c]
theorem kA2 {h : AH} (n1 : ¬ (h.kind = 1 ∨ h.kind = 2 ∨ h.kind = 12)) (c : h.kind = 3 ∨ h.kind = 5 ∨ h.kind = 14) : Zaq h = kSel h.sel := by unfold Zaq; rw [if_neg n1, if_pos c]
theorem kA3 {h : AH} (n1 : ¬ (h.kind = 1 ∨ h.kind = 2 ∨ h.kind = 12)) (n2 : ¬ (h.kind = 3 ∨ h.kind = 5 ∨ h.kind = 14)) (c : h.kind = 4) : Zaq h = kSel h.sel ++ kTo h.tk h.tl := by unfold Zaq; rw [if_neg n1, if_neg n2, if_pos c]
theorem kA4 {h : AH} (n1 : ¬ (h.kind = 1 ∨ h.kind = 2 ∨ h.kind = 12)) (n2 : ¬ (h.kind = 3 ∨ h.kind = 5 ∨ h.kind = 14)) (n3 : ¬ (h.kind = 4)) (c : h.kind = 6) : Zaq h = [qN h.name, wd Zk h.side] ++ (kTo h.tk h.tl ++ kEx h.num) := by unfold Zaq; rw [if_neg n1, if_neg n2, if_neg n3, if_pos c]
theorem kA5 {h : AH} (n1 : ¬ (h.kind = 1 ∨ h.kind = 2 ∨ h.kind = 12)) (n2 : ¬ (h.kind = 3 ∨ h.kind = 5 ∨ h.kind = 14)) (n3 : ¬ (h.kind = 4)) (n4 : ¬ (h.kind = 6)) (c : h.kind = 7 ∨ h.kind = 9) : Zaq h = [wd Zk h.side] ++ kEx h.num := by unfold Zaq; rw [if_neg n1, if_neg n2, if_neg n3, if_neg n4, if_pos c]
theorem kA6 {h : AH} (n1 : ¬ (h.kind = 1 ∨ h.kind = 2 ∨ h.kind = 12)) (n2 : ¬ (h.kind = 3 ∨ h.kind = 5 ∨ h.kind = 14)) (n3 : ¬ (h.kind = 4)) (n4 : ¬ (h.kind = 6)) (n5 : ¬ (h.kind = 7 ∨ h.kind = 9)) (c : h.kind = 8) : Zaq h = [wd Zk h.side, wd Zav h.how] := by unfold Zaq; rw [if_neg n1, if_neg n2, if_neg n3, if_neg n4, if_neg n5, if_pos c]
theorem kA7 {h : AH} (n1 : ¬ (h.kind = 1 ∨ h.kind = 2 ∨ h.kind = 12)) (n2 : ¬ (h.kind = 3 ∨ h.kind = 5 ∨ h.kind = 14)) (n3 : ¬ (h.kind = 4)) (n4 : ¬ (h.kind = 6)) (n5 : ¬ (h.kind = 7 ∨ h.kind = 9)) (n6 : ¬ (h.kind = 8)) : Zaq h = [wd Zk h.side] ++ kTo h.tk h.tl := by unfold Zaq; rw [if_neg n1, if_neg n2, if_neg n3, if_neg n4, if_neg n5, if_neg n6]
theorem p_plain (hR : Vb L) {n k : Nat} {l c : Int} {st : St} (hk : 1 ≤ k ∧ k ≤ 15 ∧ k ≠ 10 ∧ k ≠ 11) (hn : 4 * Zs L st + 3 ≤ n) :
   Ja L st (Xc nk L n (AH.zero k l c) k st).2 (Wl (Zaq (Xc nk L n (AH.zero k l c) k st).1)) ∧ (Xc nk L n (AH.zero k l c) k st).1.kind = k := by
 unfold Xc
 by_cases c1 : k = 1 ∨ k = 2 ∨ k = 12
 · rw [if_pos c1]
   refine ⟨fun h => ?_, rfl⟩
   dsimp only at h ⊢
   have r := Zaf L nk n st
   obtain ⟨g1, q1⟩ := p_expr hR (by omega) h
   obtain ⟨g2, q2⟩ := p_sel hR n _ g1
   refine ⟨g2, ?_⟩
   rw [kA1  (by show ((k : Int) = 1 ∨ (k : Int) = 2 ∨ (k : Int) = 12); omega), Yx]
   dsimp only
   omega
 · rw [if_neg c1]
   have n1 : ¬ ((k : Int) = 1 ∨ (k : Int) = 2 ∨ (k : Int) = 12) := by omega
   by_cases c2 : k = 3 ∨ k = 5 ∨ k = 14
   · rw [if_pos c2]
     refine ⟨fun h => ?_, rfl⟩
     dsimp only at h ⊢
     obtain ⟨g2, q2⟩ := p_sel hR n _ h
     refine ⟨g2, ?_⟩
     rw [kA2 n1 (by show ((k : Int) = 3 ∨ (k : Int) = 5 ∨ (k : Int) = 14); omega)]
     exact q2
   · rw [if_neg c2]
     have n2 : ¬ ((k : Int) = 3 ∨ (k : Int) = 5 ∨ (k : Int) = 14) := by omega
     by_cases c3 : k = 4
     · rw [if_pos c3]
       refine ⟨fun h => ?_, rfl⟩
       dsimp only at h ⊢
       obtain ⟨g1, q1⟩ := p_to hR _ h
       obtain ⟨g2, q2⟩ := p_sel hR n _ g1
       refine ⟨g2, ?_⟩
       rw [kA3 n1 n2 (by show (k : Int) = 4; omega), Yx]
       dsimp only
       omega
     · rw [if_neg c3]
       have n3 : ¬ (k : Int) = 4 := by omega
       by_cases c4 : k = 6
       · rw [if_pos c4]
         refine ⟨fun h => ?_, rfl⟩
         dsimp only at h ⊢
         have r1 := rem_to L (Yn L Zk (We L st))
         have r2 := Xo L Zk (We L st)
         have r3 := Uu L st
         obtain ⟨g0, q0⟩ := p_expr hR (by omega) h
         obtain ⟨g1, q1⟩ := p_to hR _ g0
         obtain ⟨g2, q2⟩ := Zbk Zk _ g1
         obtain ⟨g3, q3⟩ := p_name _ g2
         refine ⟨g3, ?_⟩
         rw [kA4 n1 n2 n3 (by show (k : Int) = 6; omega)]
         simp only [Yx, Xk, Xr, qN_size]
         omega
       · rw [if_neg c4]
         have n4 : ¬ (k : Int) = 6 := by omega
         by_cases c5 : k = 7 ∨ k = 9
         · rw [if_pos c5]
           refine ⟨fun h => ?_, rfl⟩
           dsimp only at h ⊢
           have r2 := Xo L Zk st
           obtain ⟨g0, q0⟩ := p_expr hR (by omega) h
           obtain ⟨g2, q2⟩ := Zbk Zk _ g0
           refine ⟨g2, ?_⟩
           rw [kA5 n1 n2 n3 n4 (by show ((k : Int) = 7 ∨ (k : Int) = 9); omega)]
           simp only [Yx, Xk, Xr]
           omega
         · rw [if_neg c5]
           have n5 : ¬ ((k : Int) = 7 ∨ (k : Int) = 9) := by omega
           by_cases c6 : k = 8
           · rw [if_pos c6]
             refine ⟨fun h => ?_, rfl⟩
             dsimp only at h ⊢
             obtain ⟨g0, q0⟩ := Zbk Zav _ h
             obtain ⟨g2, q2⟩ := Zbk Zk _ g0
             refine ⟨g2, ?_⟩
             rw [kA6 n1 n2 n3 n4 n5 (by show (k : Int) = 8; omega)]
             simp only [Yx, Xk, Xr]
             omega
           · rw [if_neg c6]
             have n6 : ¬ (k : Int) = 8 := by omega
             have c7 : k = 13 ∨ k = 15 := by omega
             rw [if_pos c7]
             refine ⟨fun h => ?_, rfl⟩
             dsimp only at h ⊢
             obtain ⟨g0, q0⟩ := p_to hR _ h
             obtain ⟨g2, q2⟩ := Zbk Zk _ g0
             refine ⟨g2, ?_⟩
             rw [kA7 n1 n2 n3 n4 n5 n6]
             simp only [Yx, Xk, Xr]
             omega
theorem p_cond (hR : Vb L) {n : Nat} {h0 : AH} {st : St} (hn : 4 * Zs L st + 3 ≤ n) : Ja L st (Xv nk L n h0 st).2 (Wl (kCond (Xv nk L n h0 st).1)) := by
 intro h
 unfold Xv at h ⊢
 dsimp only at h ⊢
 have r1 := rem_expr L nk n st
 have r2 := Xo L wOp (Yg nk L n st).2
 obtain ⟨g1, q1⟩ := p_expr hR (by omega) h
 obtain ⟨g2, q2⟩ := Zbk wOp _ g1
 obtain ⟨g3, q3⟩ := p_expr hR hn g2
 refine ⟨g3, ?_⟩
 unfold kCond
 simp only [Yx, Xk, Xr]
 omega
def kRest (h : AH) (t e : List ByteArray) (no : Bool) : List ByteArray := if h.kind = 10 then kCond h ++ (kBlk t ++ kElse no e) else if h.kind = 11 then kSel h.sel ++ kBlk t else Zaq h ++ [sSemi]
theorem kRest_11 {h : AH} {t e : List ByteArray} {no : Bool} (hk : h.kind = 11) : kRest h t e no = kSel h.sel ++ kBlk t := by
 unfold kRest
 rw [if_neg (by omega), if_pos hk]
theorem kBlk_len (X : List ByteArray) : Wl (kBlk X) = Wl X + 4 := by
 unfold kBlk
 have e1 : Yv.size = 1 := rfl
 have e2 : Yw.size = 1 := rfl
 simp only [Yx, Xk, Xr, e1, e2]; omega
theorem kElse_len (no : Bool) (X : List ByteArray) : Wl (kElse no X) ≤ Wl (kBlk X) + 5 := by
 unfold kElse
 have e1 : Wx.size = 4 := rfl
 split
 · simp only [Xr]; omega
 · simp only [Yx, Xk, Xr, e1]; omega
theorem p_acts (hR : Vb L) : ∀ n : Nat,
   (∀ st, 4 * Zs L st + 1 ≤ n → Ja L st (Xs nk L n st).2 (Wl (Uw (Xs nk L n st).1))) ∧
   (∀ (k : Nat) (l c : Int) st, 1 ≤ k ∧ k ≤ 15 → 4 * Zs L st + 4 ≤ n → Ja L st (Vl nk L n (AH.zero k l c) k st).st (Wl (kRest (Vl nk L n (AH.zero k l c) k st).h (Uw (Vl nk L n (AH.zero k l c) k st).thn) (Uw (Vl nk L n (AH.zero k l c) k st).els) (Vl nk L n (AH.zero k l c) k st).els.isNil)) ∧
     (Vl nk L n (AH.zero k l c) k st).h.kind = k) ∧
   (∀ st, 4 * Zs L st + 3 ≤ n → Ja L st (Yl nk L n st).2 (Wl (kBlk (Uw (Yl nk L n st).1))))
 | 0 => ⟨fun st h => by omega, fun k l c st _ h => by omega, fun st h => by omega⟩
 | n + 1 => by
   obtain ⟨i1, i2, i3⟩ := p_acts hR n
   refine ⟨fun st hn => ?_, fun k l c st hk hn => ?_, fun st hn h => ?_⟩
   · rw [Xs]
     by_cases h0 : Zd L Yr st = 0
     · rw [if_pos h0]; exact p_refl st
     · rw [if_neg h0]
       dsimp only
       have r1 := Vn L h0
       have r2 := rem_act L nk n (AH.zero (Zd L Yr st) (st.tok L).line (st.tok L).col) (Zd L Yr st) (Zt L Yr st)
       have hle : Zd L Yr st ≤ 15 := find_le (L := L) Yr st
       obtain ⟨a1, a2⟩ := i2 (Zd L Yr st) (st.tok L).line (st.tok L).col (Zt L Yr st) ⟨by omega, hle⟩ (by omega)
       intro h
       obtain ⟨g1, q1⟩ := i1 _ (by omega) h
       obtain ⟨g2, q2⟩ := a1 g1
       obtain ⟨g3, q3⟩ := p_found h0 g2
       refine ⟨g3, ?_⟩
       unfold Uw
       have e : ∀ (h : AH) (t e : List ByteArray) (no : Bool), kAct h t e no = [wd Yr h.kind] ++ kRest h t e no := fun _ _ _ _ => rfl
       rw [e, a2]
       simp only [Yx, Xk, Xr]
       omega
   · rw [Vl]
     by_cases h10 : k = 10
     · rw [if_pos h10]
       subst h10
       have r1 := rem_cond L nk n (AH.zero (10 : Nat) l c) st
       have r2 := rem_block L nk n (Xv nk L n (AH.zero (10 : Nat) l c) st).2
       have e10 : (Xv nk L n (AH.zero (10 : Nat) l c) st).1.kind = 10 := rfl
       by_cases he : isS L Wx (Yl nk L n (Xv nk L n (AH.zero (10 : Nat) l c) st).2).2 = true
       · rw [if_pos he]
         refine ⟨fun h => ?_, rfl⟩
         dsimp only at h ⊢
         have r3 := rem_took L he
         obtain ⟨g1, q1⟩ := i3 _ (by omega) h
         obtain ⟨g2, q2⟩ := p_took he g1
         obtain ⟨g3, q3⟩ := i3 _ (by omega) g2
         obtain ⟨g4, q4⟩ := p_cond hR (by omega) g3
         refine ⟨g4, ?_⟩
         unfold kRest
         rw [if_pos e10]
         have e1 : Wx.size = 4 := rfl
         rw [e1] at q2
         have hel := kElse_len (Yl nk L n (Xz L Wx (Yl nk L n (Xv nk L n (AH.zero (10 : Nat) l c) st).2).2)).1.isNil (Uw (Yl nk L n (Xz L Wx (Yl nk L n (Xv nk L n (AH.zero (10 : Nat) l c) st).2).2)).1)
         simp only [Yx]
         omega
       · rw [if_neg he]
         refine ⟨fun h => ?_, rfl⟩
         dsimp only at h ⊢
         obtain ⟨g3, q3⟩ := i3 _ (by omega) h
         obtain ⟨g4, q4⟩ := p_cond hR (by omega) g3
         refine ⟨g4, ?_⟩
         unfold kRest
         rw [if_pos e10]
         have e : kElse (Acs.nil).isNil (Uw .nil) = [] := rfl
         rw [e]
         simp only [Yx, Xr]
         omega
     · rw [if_neg h10]
       by_cases h11 : k = 11
       · rw [if_pos h11]
         subst h11
         have r1 := Zaf L nk n st
         refine ⟨fun h => ?_, rfl⟩
         dsimp only at h ⊢
         obtain ⟨g3, q3⟩ := i3 _ (by omega) h
         obtain ⟨g4, q4⟩ := p_sel hR n _ g3
         refine ⟨g4, ?_⟩
         rw [kRest_11 rfl]
         simp only [Yx]
         omega
       · rw [if_neg h11]
         obtain ⟨a1, a2⟩ := p_plain (nk := nk) (l := l) (c := c) hR (n := n) (k := k) (st := st) ⟨hk.1, hk.2, h10, h11⟩ (by omega)
         refine ⟨fun h => ?_, a2⟩
         dsimp only at h ⊢
         obtain ⟨g3, q3⟩ := p_want sSemi _ h
         obtain ⟨g4, q4⟩ := a1 g3
         refine ⟨g4, ?_⟩
         unfold kRest
         rw [a2, if_neg (by omega), if_neg (by omega)]
         simp only [Yx, lenB_one]
         omega
   · rw [Yl] at h ⊢
     dsimp only at h ⊢
     have r1 := rem_down L Yv st
     obtain ⟨g1, q1⟩ := p_rise Yw _ h
     obtain ⟨g2, q2⟩ := i1 _ (by omega) g1
     obtain ⟨g3, q3⟩ := p_down Yv _ g2
     refine ⟨g3, ?_⟩
     rw [kBlk_len]
     omega
theorem p_str (hR : Vb L) (k : Nat) (st : St) : Ja L st (strS L k st) (Wl (if k = 5 then [Vc (strN L k st)] else [])) := by
 unfold strS strN
 by_cases h5 : k = 5
 · rw [if_pos h5, if_pos h5, if_pos h5, lenB_one]
   exact p_less (p_int hR st) (by omega)
 · rw [if_neg h5, if_neg h5]
   exact p_refl st
theorem p_rules (hR : Vb L) : ∀ (n : Nat) (st : St), 4 * Zs L st + 2 ≤ n → Ja L st (Vf nk L n st).2 (Wl ((Vf nk L n st).1.flatMap kRu))
 | 0, st, h => by omega
 | n + 1, st, hn => by
   rw [Vf]
   by_cases h0 : Zd L Yd st = 0
   · rw [if_pos h0]; exact p_refl st
   · rw [if_neg h0]
     intro h
     dsimp only at h ⊢
     have r1 := Vn L h0
     have r2 := rem_str L (Zd L Yd st) (Zt L Yd st)
     have r3 := Xq L Yv (strS L (Zd L Yd st) (Zt L Yd st))
     have r4 := rem_acts L nk n (Yk L Yv (strS L (Zd L Yd st) (Zt L Yd st)))
     have r5 := Xq L Yw (Xs nk L n (Yk L Yv (strS L (Zd L Yd st) (Zt L Yd st)))).2
     obtain ⟨g1, q1⟩ := p_rules hR n _ (by omega) h
     obtain ⟨g2, q2⟩ := p_want Yw _ g1
     obtain ⟨g3, q3⟩ := (p_acts (nk := nk) hR n).1 _ (by omega) g2
     obtain ⟨g4, q4⟩ := p_want Yv _ g3
     obtain ⟨g5, q5⟩ := p_str hR _ _ g4
     obtain ⟨g6, q6⟩ := p_found h0 g5
     refine ⟨g6, ?_⟩
     have er : ∀ r : Ru, kRu r = [wd Yd r.when_] ++ ((if r.when_ = 5 then [Vc r.stratum] else []) ++ kBlk (Uw r.acts)) := fun _ => rfl
     rw [List.flatMap_cons, Yx, er]
     dsimp only
     have e : (if ((Zd L Yd st : Nat) : Int) = 5 then [Vc (strN L (Zd L Yd st) (Zt L Yd st))] else []) = if Zd L Yd st = 5 then [Vc (strN L (Zd L Yd st) (Zt L Yd st))] else [] := by
       by_cases h5 : Zd L Yd st = 5
       · rw [if_pos h5, if_pos (by omega)]
       · rw [if_neg h5, if_neg (by omega)]
     rw [e]
     simp only [Yx, lenB_one, kBlk_len]
     omega
theorem p_body (hR : Vb L) {n : Nat} {st : St} (hn : 4 * Zs L st + 2 ≤ n) : Ja L st (Uy nk L n st).2 (Wl (kBody (Uy nk L n st).1)) := by
 intro h
 unfold Uy at h ⊢
 dsimp only at h ⊢
 have r1 := Xq L Yv st
 obtain ⟨g1, q1⟩ := p_want Yw _ h
 obtain ⟨g2, q2⟩ := p_rules hR n _ (by omega) g1
 obtain ⟨g3, q3⟩ := p_want Yv _ g2
 refine ⟨g3, ?_⟩
 unfold kBody
 simp only [Yx, lenB_one]
 omega
theorem p_card (hR : Vb L) {n : Nat} {l c : Int} {st : St} (hn : 4 * Zs L st + 2 ≤ n) : Ja L st (Ub nk L n l c st).2 (Wl (kCa (Ub nk L n l c st).1) - ((wd Ys 1).size + 1)) := by
 intro h
 unfold Ub at h ⊢
 dsimp only at h ⊢
 have r1 := Uu L st
 have r2 := Xq L Jn (We L st)
 have r3 := rem_int L (Yk L Jn (We L st))
 have r4 := Xq L Ut (intS L (Yk L Jn (We L st)))
 have r5 := rem_sign L (Yk L Ut (intS L (Yk L Jn (We L st))))
 obtain ⟨g1, q1⟩ := p_body hR (by omega) h
 obtain ⟨g2, q2⟩ := p_sign hR _ g1
 obtain ⟨g3, q3⟩ := p_want Ut _ g2
 obtain ⟨g4, q4⟩ := p_int hR _ g3
 obtain ⟨g5, q5⟩ := p_want Jn _ g4
 obtain ⟨g6, q6⟩ := p_name _ g5
 refine ⟨g6, ?_⟩
 unfold kCa
 simp only [Yx, Xk, Xr, qN_size]
 omega
theorem p_place (hR : Vb L) {n : Nat} {l c : Int} {st : St} (hn : 4 * Zs L st + 2 ≤ n) : Ja L st (Wz nk L n l c st).2 (Wl (kPl (Wz nk L n l c st).1) - ((wd Ys 2).size + 1)) := by
 intro h
 unfold Wz at h ⊢
 dsimp only at h ⊢
 have r1 := Uu L st
 obtain ⟨g1, q1⟩ := p_body hR (by omega) h
 obtain ⟨g6, q6⟩ := p_name _ g1
 refine ⟨g6, ?_⟩
 unfold kPl
 simp only [Yx, Xk, Xr, qN_size]
 omega
def lenFi (f : Fi) : Nat := (f.cards.map fun c => Wl (kCa c) + 1).sum + (f.places.map fun p => Wl (kPl p) + 1).sum
theorem kCa_len (c : Ca) : (wd Ys 1).size + 1 ≤ Wl (kCa c) := by unfold kCa; simp only [Yx, Xk, Xr]; omega
theorem kPl_len (p : Pl) : (wd Ys 2).size + 1 ≤ Wl (kPl p) := by unfold kPl; simp only [Yx, Xk, Xr]; omega
theorem p_file (hR : Vb L) : ∀ (n : Nat) (st : St), 4 * Zs L st + 1 ≤ n → Ja L st (Wm nk L n st).2 (lenFi (Wm nk L n st).1)
 | 0, st, h => by omega
 | n + 1, st, hn => by
   rw [Wm]
   by_cases h0 : Zd L Ys st = 0
   · rw [if_pos h0]; exact p_refl st
   · rw [if_neg h0]
     have r1 := Vn L h0
     have p0 := p_found h0
     by_cases h1 : Zd L Ys st = 1
     · rw [if_pos h1]
       intro h
       dsimp only at h ⊢
       have r2 := rem_card L nk n (st.tok L).line (st.tok L).col (Zt L Ys st)
       obtain ⟨g1, q1⟩ := p_file hR n _ (by omega) h
       obtain ⟨g2, q2⟩ := p_card hR (by omega) g1
       obtain ⟨g3, q3⟩ := p0 g2
       refine ⟨g3, ?_⟩
       rw [h1] at q3
       have e3 : ((1 : Nat) : Int) = 1 := rfl
       rw [e3] at q3
       have := kCa_len (Ub nk L n (st.tok L).line (st.tok L).col (Zt L Ys st)).1
       unfold lenFi at q1 ⊢
       simp only [List.map_cons, List.sum_cons]
       omega
     · rw [if_neg h1]
       have h2 : Zd L Ys st = 2 := by have : Zd L Ys st ≤ 2 := find_le (L := L) Ys st; omega
       intro h
       dsimp only at h ⊢
       have r2 := rem_place L nk n (st.tok L).line (st.tok L).col (Zt L Ys st)
       obtain ⟨g1, q1⟩ := p_file hR n _ (by omega) h
       obtain ⟨g2, q2⟩ := p_place hR (by omega) g1
       obtain ⟨g3, q3⟩ := p0 g2
       refine ⟨g3, ?_⟩
       rw [h2] at q3
       have e3 : ((2 : Nat) : Int) = 2 := rfl
       rw [e3] at q3
       have := kPl_len (Wz nk L n (st.tok L).line (st.tok L).col (Zt L Ys st)).1
       unfold lenFi at q1 ⊢
       simp only [List.map_cons, List.sum_cons]
       omega
end
end Go.Proofs.YtljdgdphldckhaaGreat
