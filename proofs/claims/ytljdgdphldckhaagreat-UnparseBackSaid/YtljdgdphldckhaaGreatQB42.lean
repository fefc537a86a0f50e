/-
  Texts UnpLen. No conditions but those that each theorem names.
-/
import Derived.Test.YtljdgdphldckhaaGreatQB32
import Derived.Test.YtljdgdphldckhaaGreatQB41
namespace Go.Proofs.YtljdgdphldckhaaGreat
open Go
set_option linter.unusedSimpArgs false
set_option linter.unusedVariables false
def wt (v : TokV) : Nat := v.t.size + 9
def wtL (l : List TokV) : Nat := (l.map wt).sum
def WS (L : List TokV) : St → Nat
 | .ok a _ => wtL (L.drop a)
 | .bad _ => 0
def Ja (L : List TokV) (a b : St) (c : Nat) : Prop := b.good = true → a.good = true ∧ c + WS L b ≤ WS L a
theorem lenB_one (t : ByteArray) : Wl [t] = t.size + 1 := by simp [Wl]
theorem Xk (t : ByteArray) (k : List ByteArray) : Wl (t :: k) = t.size + 1 + Wl k := by simp [Wl]
theorem Xr : Wl [] = 0 := rfl
theorem cur_k {L : List TokV} {a : Nat} (h : (Zp L a).k ≠ 0) : wtL (L.drop a) = wt (Zp L a) + wtL (L.drop (a + 1)) ∧ onA L a = a + 1 := by
 have hl : a < L.length := by
   apply Classical.byContradiction
   intro hn
   apply h
   have e : Zp L a = zTok := by unfold Zp; rw [List.getElem?_eq_none (by omega)]; rfl
   rw [e]; rfl
 refine ⟨?_, by unfold onA; rw [if_neg h]⟩
 have e : Zp L a = L[a] := by unfold Zp; rw [List.getElem?_eq_getElem hl]; rfl
 unfold wtL
 rw [List.drop_eq_getElem_cons hl, List.map_cons, List.sum_cons, e]
theorem ba_same {s t : ByteArray} (h : s.toList = t.toList) : s = t := by
 rw [ByteArray.toList_eq, ByteArray.toList_eq] at h
 exact ByteArray.ext (Array.toList_inj.1 h)
theorem isT_tok {v : TokV} {t : ByteArray} (h : isT v t = true) : v.k ≠ 0 ∧ v.t = t := by
 unfold isT at h
 simp only [Bool.and_eq_true, Bool.or_eq_true, beq_iff_eq] at h
 exact ⟨by omega, ba_same h.2⟩
theorem wd_succ (t : ByteArray) (r : List ByteArray) (i : Nat) (hi : i ≠ 0) : wd (t :: r) ((i + 1 : Nat) : Int) = wd r (i : Int) := by
 unfold wd
 obtain ⟨j, rfl⟩ : ∃ j, i = j + 1 := ⟨i - 1, by omega⟩
 have e1 : (((j + 1 + 1 : Nat) : Int)).toNat - 1 = j + 1 := by omega
 have e2 : (((j + 1 : Nat) : Int)).toNat - 1 = j := by omega
 rw [e1, e2]; rfl
theorem idx_tok {v : TokV} : ∀ {ws : List ByteArray}, Xg v ws ≠ 0 → v.k ≠ 0 ∧ v.t = wd ws (Xg v ws)
 | [], h => absurd rfl h
 | t :: r, h => by
   unfold Xg at h ⊢
   by_cases h1 : isT v t = true
   · rw [if_pos h1]; exact ⟨(isT_tok h1).1, (isT_tok h1).2⟩
   · rw [if_neg h1] at h ⊢
     by_cases h2 : Xg v r = 0
     · rw [if_pos h2] at h; exact absurd rfl h
     · rw [if_neg h2]
       obtain ⟨h3, h4⟩ := idx_tok h2
       exact ⟨h3, by rw [wd_succ t r _ h2]; exact h4⟩
theorem putS_two : ∀ {n : Int}, 0 ≤ n → n ≤ 99 → (Vc n).size ≤ 2 := by
 have h : ∀ i : Fin 100, (Vc ((i.val : Nat) : Int)).size ≤ 2 := by decide +kernel
 intro n h1 h2
 have := h ⟨n.toNat, by omega⟩
 rwa [show ((n.toNat : Nat) : Int) = n from by omega] at this
theorem putS_tri : ∀ {n : Int}, 0 ≤ n → n ≤ 99 → (Vc (-n)).size ≤ 3 := by
 have h : ∀ i : Fin 100, (Vc (-((i.val : Nat) : Int))).size ≤ 3 := by decide +kernel
 intro n h1 h2
 have := h ⟨n.toNat, by omega⟩
 rwa [show ((n.toNat : Nat) : Int) = n from by omega] at this
section
variable {L : List TokV} {nk : Int}
theorem p_refl (st : St) : Ja L st st 0 := fun h => ⟨h, by omega⟩
theorem p_trans {a b c : St} {x y : Nat} (h : Ja L a b x) (k : Ja L b c y) : Ja L a c (x + y) := fun g => by
 obtain ⟨g1, p1⟩ := k g
 obtain ⟨g2, p2⟩ := h g1
 exact ⟨g2, by omega⟩
theorem p_less {a b : St} {x y : Nat} (h : Ja L a b x) (hy : y ≤ x) : Ja L a b y := fun g => by
 obtain ⟨g1, p1⟩ := h g
 exact ⟨g1, by omega⟩
theorem p_wrong (a b : St) (x : Nat) : Ja L a (wrongS L b) x := by
 intro h
 cases b <;> cases h
theorem p_found {ws : List ByteArray} {st : St} (h0 : Zd L ws st ≠ 0) : Ja L st (Zt L ws st) ((wd ws (Zd L ws st)).size + 9) := by
 intro hg
 cases st with
 | bad F => cases hg
 | ok a d =>
   have h0' : Xg (Zp L a) ws ≠ 0 := h0
   obtain ⟨hk, ht⟩ := idx_tok h0'
   obtain ⟨h1, h2⟩ := cur_k hk
   refine ⟨rfl, ?_⟩
   have e : Zt L ws (.ok a d) = .ok (onA L a) d := if_neg h0'
   rw [e, h2]
   show (wd ws (Xg (Zp L a) ws : Nat)).size + 9 + wtL (L.drop (a + 1)) ≤ wtL (L.drop a)
   rw [h1, ← ht]; unfold wt; omega
theorem Zbk (ws : List ByteArray) (st : St) : Ja L st (Yn L ws st) ((wd ws (Zd L ws st)).size + 9) := by
 unfold Yn
 by_cases h0 : Zd L ws st = 0
 · rw [if_pos h0]; exact p_wrong _ _ _
 · rw [if_neg h0]; exact p_found h0
theorem p_took {t : ByteArray} {st : St} (h0 : isS L t st = true) : Ja L st (Xz L t st) (t.size + 9) := by
 intro hg
 cases st with
 | bad F => cases hg
 | ok a d =>
   have h0' : isT (Zp L a) t = true := h0
   obtain ⟨hk, ht⟩ := isT_tok h0'
   obtain ⟨h1, h2⟩ := cur_k hk
   refine ⟨rfl, ?_⟩
   show t.size + 9 + wtL (L.drop (Zal L a t)) ≤ wtL (L.drop a)
   unfold Zal
   rw [if_pos h0', h2, h1, ← ht]; unfold wt; omega
theorem p_want (t : ByteArray) (st : St) : Ja L st (Yk L t st) (t.size + 9) := by
 unfold Yk
 by_cases h0 : isS L t st = true
 · rw [if_pos h0]; exact p_took h0
 · rw [if_neg h0]; exact p_wrong _ _ _
theorem p_note {st : St} {F : Int × Nat × Nat} {a d : Nat} {c : Nat} (h : F.1 = 0 → Ja L st (.ok a d) c) : Ja L st (Vo F (.ok a d)) c := by
 have e : Vo F (.ok a d) = if F.1 = 0 then .ok a d else .bad F := rfl
 rw [e]
 by_cases h0 : F.1 = 0
 · rw [if_pos h0]; exact h h0
 · rw [if_neg h0]; intro g; cases g
theorem kind_of {a k : Nat} (hk : (k : Int) ≠ 0) (h : (Up L a k).1 = 0) : (Zp L a).k = k := by
 unfold Up at h
 by_cases h1 : (Zp L a).k = k
 · exact h1
 · rw [if_neg h1] at h; exact absurd h (wrF_ne _)
theorem p_int (hR : Vb L) (st : St) : Ja L st (intS L st) ((Vc (intN L st)).size + 7) := by
 cases st with
 | bad F => intro g; cases g
 | ok a d =>
   refine p_note fun h0 => ?_
   have hk : (Zp L a).k = 2 := kind_of (k := 2) (by decide) h0
   obtain ⟨h1, h2⟩ := cur_k (L := L) (a := a) (by rw [hk]; decide)
   have hn := hR.int a hk
   have ev : intN L (.ok a d) = (Zp L a).n := by show intV L a = _; unfold intV; rw [if_pos hk]
   have hs := putS_two hn.1 hn.2
   intro _
   refine ⟨rfl, ?_⟩
   have ea : Uv L a 2 = a + 1 := by unfold Uv; rw [if_pos hk, h2]
   rw [ev, ea]
   show _ + wtL (L.drop (a + 1)) ≤ wtL (L.drop a)
   rw [h1]; unfold wt; omega
theorem p_name (st : St) : Ja L st (We L st) ((Zba L st).size + 9) := by
 cases st with
 | bad F => intro g; cases g
 | ok a d =>
   refine p_note fun h0 => ?_
   have hk : (Zp L a).k = 3 := kind_of (k := 3) (by decide) h0
   obtain ⟨h1, h2⟩ := cur_k (L := L) (a := a) (by rw [hk]; decide)
   have ev : Zba L (.ok a d) = (Zp L a).t := by show nameV L a = _; unfold nameV; rw [if_pos hk]
   intro _
   refine ⟨rfl, ?_⟩
   have ea : Uv L a 3 = a + 1 := by unfold Uv; rw [if_pos hk, h2]
   rw [ev, ea]
   show _ + wtL (L.drop (a + 1)) ≤ wtL (L.drop a)
   rw [h1]; unfold wt; omega
theorem p_sign (hR : Vb L) (st : St) : Ja L st (Zah L st) ((Vc (Zaz L st)).size + 6) := by
 cases st with
 | bad F => intro g; cases g
 | ok a d =>
   refine p_note fun h0 => ?_
   by_cases hm : isT (Zp L a) minus = true
   · obtain ⟨hk, ht⟩ := isT_tok hm
     obtain ⟨h1, h2⟩ := cur_k hk
     have h0' : (Up L (onA L a) 2).1 = 0 := by unfold signF at h0; rw [if_pos hm] at h0; exact h0
     rw [h2] at h0'
     have hk2 : (Zp L (a + 1)).k = 2 := kind_of (k := 2) (by decide) h0'
     obtain ⟨h3, h4⟩ := cur_k (L := L) (a := a + 1) (by rw [hk2]; decide)
     have hn := hR.int (a + 1) hk2
     have ev : Zaz L (.ok a d) = -(Zp L (a + 1)).n := by show signV L a = _; unfold signV; rw [if_pos hm, h2, if_pos hk2]
     have hs := putS_tri hn.1 hn.2
     intro _
     refine ⟨rfl, ?_⟩
     have ea : signA L a = a + 1 + 1 := by unfold signA; rw [if_pos hm, h2]; first | rw [if_pos hk2, h4] | (unfold Uv; rw [if_pos hk2, h4])
     rw [ev, ea]
     show _ + wtL (L.drop (a + 1 + 1)) ≤ wtL (L.drop a)
     rw [h1, h3]; unfold wt; omega
   · have h0' : (Up L a 2).1 = 0 := by unfold signF at h0; rw [if_neg hm] at h0; exact h0
     have hk : (Zp L a).k = 2 := kind_of (k := 2) (by decide) h0'
     obtain ⟨h1, h2⟩ := cur_k (L := L) (a := a) (by rw [hk]; decide)
     have hn := hR.int a hk
     have ev : Zaz L (.ok a d) = (Zp L a).n := by show signV L a = _; unfold signV; rw [if_neg hm]; unfold intV; rw [if_pos hk]
     have hs := putS_two hn.1 hn.2
     intro _
     refine ⟨rfl, ?_⟩
     have ea : signA L a = a + 1 := by unfold signA; rw [if_neg hm]; unfold Uv; rw [if_pos hk, h2]
     rw [ev, ea]
     show _ + wtL (L.drop (a + 1)) ≤ wtL (L.drop a)
     rw [h1]; unfold wt; omega
theorem p_down (t : ByteArray) (st : St) : Ja L st (Ux L t st) (t.size + 9) := by
 unfold Ux
 have h : Ja L st (deepS L t st) 0 := by
   cases st with
   | bad F => intro g; cases g
   | ok a d =>
     show Ja L _ (if isT (Zp L a) t = true then Vo (downF L a d) (St.ok a (downD d)) else St.ok a d) 0
     split
     · exact p_note fun _ g => ⟨rfl, by show 0 + WS L (.ok a _) ≤ WS L (.ok a d); exact Nat.le_of_eq (Nat.zero_add _)⟩
     · exact p_refl _
 have := p_trans h (p_want t (deepS L t st))
 rwa [Nat.zero_add] at this
theorem p_rise (t : ByteArray) (st : St) : Ja L st (riseS L t st) (t.size + 9) := by
 unfold riseS
 intro g
 have g1 : (Yk L t st).good = true := by
   generalize Yk L t st = q at *
   cases q with
   | ok a d => rfl
   | bad F => cases g
 obtain ⟨g2, p⟩ := p_want t st g1
 refine ⟨g2, ?_⟩
 have e : WS L (upS (Yk L t st)) = WS L (Yk L t st) := by
   generalize Yk L t st = q
   cases q <;> rfl
 rw [e]; exact p
theorem p_filter (hR : Vb L) (st : St) (h0 : Zd L Zq st ≠ 0) : Ja L st (Wc nk L (Zd L Zq st) (Zt L Zq st)).2 (Wl (kFl (Wc nk L (Zd L Zq st) (Zt L Zq st)).1)) := by
 have hle : Zd L Zq st ≤ 4 := by
   cases st with
   | ok a d => exact Zat (Zp L a) Zq
   | bad F => exact absurd rfl h0
 have p0 := p_found h0
 intro hg
 unfold Wc at hg ⊢
 generalize Zd L Zq st = k at *
 by_cases h12 : k = 1 ∨ k = 2
 · rw [if_pos h12] at hg ⊢
   dsimp only at hg ⊢
   obtain ⟨g1, q1⟩ := p_sign hR _ hg
   obtain ⟨g2, q2⟩ := Zbk wOp _ g1
   obtain ⟨g3, q3⟩ := p0 g2
   refine ⟨g3, ?_⟩
   unfold kFl
   dsimp only
   rw [if_pos (by omega)]
   simp only [Xk, Xr]
   omega
 · rw [if_neg h12] at hg ⊢
   by_cases h3 : k = 3
   · rw [if_pos h3] at hg ⊢
     dsimp only at hg ⊢
     obtain ⟨g2, q2⟩ := p_name _ hg
     obtain ⟨g3, q3⟩ := p0 g2
     refine ⟨g3, ?_⟩
     subst h3
     unfold kFl
     dsimp only
     rw [if_neg (by omega), if_pos rfl]
     simp only [Xk, Xr, qN_size]
     have e3 : ((3 : Nat) : Int) = 3 := rfl
     rw [e3] at q3
     omega
   · rw [if_neg h3] at hg ⊢
     dsimp only at hg ⊢
     obtain ⟨g2, q2⟩ := Zbk Ww _ hg
     obtain ⟨g3, q3⟩ := p0 g2
     refine ⟨g3, ?_⟩
     have hk4 : k = 4 := by
       have : k ≠ 0 := h0
       omega
     subst hk4
     have hm : Zd L Ww (Zt L Zq st) ≠ 0 := by
       intro h
       unfold Yn at hg
       rw [if_pos h] at hg
       generalize Zt L Zq st = q at *
       cases q <;> cases hg
     rw [if_neg hm]
     unfold kFl
     dsimp only
     rw [if_neg (by omega), if_neg (by omega)]
     have e : 3 + ((Zd L Ww (Zt L Zq st) : Nat) : Int) - 3 = (Zd L Ww (Zt L Zq st) : Nat) := by omega
     rw [e]
     simp only [Xk, Xr]
     have e3 : ((4 : Nat) : Int) = 4 := rfl
     rw [e3] at q3
     omega
theorem p_filters (hR : Vb L) : ∀ (n : Nat) (st : St), Ja L st (Yu nk L n st).2 (Wl (kFls (Yu nk L n st).1))
 | 0, st => p_refl st
 | n + 1, st => by
   rw [Yu]
   by_cases h0 : Zd L Zq st = 0
   · rw [if_pos h0]; exact p_refl st
   · rw [if_neg h0]
     dsimp only
     have h := p_trans (p_filter (nk := nk) hR st h0) (p_filters hR n (Wc nk L (Zd L Zq st) (Zt L Zq st)).2)
     refine p_less h ?_
     show Wl (kFl _ ++ kFls _) ≤ _
     rw [Yx]
     exact Nat.le_refl _
theorem p_where (hR : Vb L) (st : St) : Ja L st (Zbe L st) (Wl ([wd Zk (Us L st).1, wd Yy (Us L st).2.1] ++ (if (Us L st).2.1 = 3 then [Vc (Us L st).2.2] else []))) := by
 intro h
 unfold Zbe at h ⊢
 unfold Us
 dsimp only
 by_cases h3 : Zd L Yy (Yn L Zk st) = 3
 · rw [if_pos h3] at h ⊢
   obtain ⟨g1, q1⟩ := p_int hR _ h
   obtain ⟨g2, q2⟩ := Zbk Yy _ g1
   obtain ⟨g3, q3⟩ := Zbk Zk _ g2
   refine ⟨g3, ?_⟩
   rw [if_pos (by omega), if_pos h3]
   simp only [Yx, Xk, Xr]
   omega
 · simp only [if_neg h3] at h ⊢
   obtain ⟨g2, q2⟩ := Zbk Yy _ h
   obtain ⟨g3, q3⟩ := Zbk Zk _ g2
   refine ⟨g3, ?_⟩
   rw [if_neg (by omega)]
   simp only [Yx, Xk, Xr]
   omega
theorem s1_size (c : UInt8) : (⟨#[c]⟩ : ByteArray).size = 1 := rfl
theorem p_sel (hR : Vb L) (n : Nat) (st : St) : Ja L st (Wp nk L n st).2 (Wl (kSel (Wp nk L n st).1)) := by
 intro h
 unfold Wp at h ⊢
 by_cases h3 : Zd L Vj st = 3
 · rw [if_pos h3] at h ⊢
   dsimp only at h ⊢
   obtain ⟨g1, q1⟩ := p_want Wi _ h
   obtain ⟨g2, q2⟩ := Zbk Wq _ g1
   obtain ⟨g3, q3⟩ := p_filters (nk := nk) hR n _ g2
   obtain ⟨g4, q4⟩ := p_where hR _ g3
   obtain ⟨g5, q5⟩ := Zbk Vj st g4
   refine ⟨g5, ?_⟩
   unfold kSel
   dsimp only
   rw [if_neg (by decide)]
   simp only [Yx, Xk, Xr, s1_size] at q4 ⊢
   have e1 : Wi.size = 1 := rfl
   rw [e1] at q1
   omega
 · rw [if_neg h3] at h ⊢
   dsimp only at h ⊢
   obtain ⟨g5, q5⟩ := Zbk Vj st h
   refine ⟨g5, ?_⟩
   unfold kSel
   dsimp only
   have hle : Zd L Vj st ≤ 3 := by
     cases st with
     | ok a d => exact Zat (Zp L a) Vj
     | bad F => exact Nat.zero_le _
   have hz : Zd L Vj st ≠ 0 := by
     intro hz
     unfold Yn at h
     rw [if_pos hz] at h
     cases st <;> cases h
   rw [if_pos (by omega), lenB_one]
   omega
theorem p_to (hR : Vb L) (st : St) : Ja L st (toS L st) (Wl (kTo (toK L st) (toL L st))) := by
 intro h
 unfold toS at h ⊢
 unfold toK toL kTo
 by_cases h4 : Zd L wTo st = 4
 · rw [if_pos h4] at h ⊢
   obtain ⟨g1, q1⟩ := p_int hR _ h
   obtain ⟨g2, q2⟩ := Zbk wTo _ g1
   refine ⟨g2, ?_⟩
   rw [if_pos (by omega), if_pos h4]
   simp only [Yx, Xk, Xr]
   omega
 · simp only [if_neg h4] at h ⊢
   obtain ⟨g2, q2⟩ := Zbk wTo _ h
   refine ⟨g2, ?_⟩
   rw [if_neg (by omega)]
   simp only [Yx, Xk, Xr]
   omega
end
end Go.Proofs.YtljdgdphldckhaaGreat
