/-
  Texts UnpVal. No conditions but those that each theorem names.
-/
import Derived.Test.YtljdgdphldckhaaGreatQA29
set_option maxRecDepth 20000
set_option maxHeartbeats 12800000
namespace Go.Proofs.YtljdgdphldckhaaGreat
open Go
set_option linter.unusedSimpArgs false
set_option linter.unusedVariables false
structure Zab (L : List TokV) : Prop where
 int : ∀ a, (Ye L a).k = 2 → 0 ≤ (Ye L a).n ∧ (Ye L a).n ≤ 99
 name : ∀ a, (Ye L a).k = 3 → NameOK (Ye L a).t
def AtD (d : Nat) (st : St) : Prop := ∃ a, st = .ok a d
theorem note_good {F : Int × Nat × Nat} {a d : Nat} (h : (Ug F (.ok a d)).good = true) : F.1 = 0 ∧ Ug F (.ok a d) = .ok a d := by
 have e : Ug F (.ok a d) = if F.1 = 0 then .ok a d else .bad F := rfl
 rw [e] at h ⊢
 by_cases h0 : F.1 = 0
 · rw [if_pos h0]; exact ⟨h0, rfl⟩
 · rw [if_neg h0] at h; cases h
section
variable {L : List TokV} {nk : Int}
theorem Uh {ws : List ByteArray} {st : St} {d : Nat} (h : (Yu L ws st).good = true) (ha : AtD d st) : AtD d (Yu L ws st) ∧ 1 ≤ (Zm L ws st : Int) ∧ (Zm L ws st : Int) ≤ ws.length := by
 obtain ⟨a, rfl⟩ := ha
 unfold Yu at h ⊢
 by_cases h0 : Zm L ws (.ok a d) = 0
 · rw [if_pos h0] at h; cases h
 · rw [if_neg h0]
   have h0' : ¬ idxW (Ye L a) ws = 0 := h0
   have hle := idxW_le (Ye L a) ws
   refine ⟨⟨onA L a, ?_⟩, ?_, ?_⟩
   · show (if idxW (Ye L a) ws = 0 then St.ok a d else .ok (onA L a) d) = _
     rw [if_neg h0']
   · have : Zm L ws (.ok a d) = idxW (Ye L a) ws := rfl
     omega
   · have : Zm L ws (.ok a d) = idxW (Ye L a) ws := rfl
     omega
theorem Zap {ws : List ByteArray} {st : St} {d : Nat} (ha : AtD d st) : AtD d (Yf L ws st) := by
 obtain ⟨a, rfl⟩ := ha
 show AtD d (if idxW (Ye L a) ws = 0 then St.ok a d else .ok (onA L a) d)
 split
 · exact ⟨_, rfl⟩
 · exact ⟨_, rfl⟩
theorem take_at {t : ByteArray} {st : St} {d : Nat} (ha : AtD d st) : AtD d (Wc L t st) := by
 obtain ⟨a, rfl⟩ := ha; exact ⟨_, rfl⟩
theorem want_at {t : ByteArray} {st : St} {d : Nat} (h : (Yz L t st).good = true) (ha : AtD d st) : AtD d (Yz L t st) := by
 unfold Yz at h ⊢
 split at h
 · rename_i h0; rw [if_pos h0]; exact take_at ha
 · obtain ⟨a, rfl⟩ := ha; cases h
theorem int_at (hR : Zab L) {st : St} {d : Nat} (h : (intS L st).good = true) (ha : AtD d st) : AtD d (intS L st) ∧ 0 ≤ intN L st ∧ intN L st ≤ 99 := by
 obtain ⟨a, rfl⟩ := ha
 obtain ⟨h0, e⟩ := note_good h
 have hk : (Ye L a).k = 2 := by
   unfold Zao at h0
   split at h0
   · assumption
   · exact absurd h0 (wrF_ne _)
 refine ⟨⟨_, e⟩, ?_⟩
 have e2 : intN L (.ok a d) = (Ye L a).n := by show intV L a = _; unfold intV; rw [if_pos hk]
 rw [e2]; exact hR.int a hk
theorem name_at (hR : Zab L) {st : St} {d : Nat} (h : (Wm L st).good = true) (ha : AtD d st) : AtD d (Wm L st) ∧ NameOK (nameN L st) := by
 obtain ⟨a, rfl⟩ := ha
 obtain ⟨h0, e⟩ := note_good h
 have hk : (Ye L a).k = 3 := by
   unfold Zao at h0
   split at h0
   · assumption
   · exact absurd h0 (wrF_ne _)
 refine ⟨⟨_, e⟩, ?_⟩
 have e2 : nameN L (.ok a d) = (Ye L a).t := by show nameV L a = _; unfold nameV; rw [if_pos hk]
 rw [e2]; exact hR.name a hk
theorem sign_at (hR : Zab L) {st : St} {d : Nat} (h : (Jx L st).good = true) (ha : AtD d st) : AtD d (Jx L st) ∧ -99 ≤ signN L st ∧ signN L st ≤ 99 := by
 obtain ⟨a, rfl⟩ := ha
 obtain ⟨h0, e⟩ := note_good h
 refine ⟨⟨_, e⟩, ?_⟩
 show -99 ≤ signV L a ∧ signV L a ≤ 99
 unfold signF Zao at h0
 unfold signV intV
 by_cases hm : isT (Ye L a) minus = true
 · rw [if_pos hm] at h0 ⊢
   by_cases hk : (Ye L (onA L a)).k = 2
   · rw [if_pos hk]; have := hR.int _ hk; omega
   · rw [if_neg hk]; omega
 · rw [if_neg hm] at h0 ⊢
   by_cases hk : (Ye L a).k = 2
   · rw [if_pos hk]; have := hR.int _ hk; omega
   · rw [if_neg hk]; omega
theorem down_at {t : ByteArray} {st : St} {d : Nat} (h : (Jc L t st).good = true) (ha : AtD d st) : AtD (d + 1) (Jc L t st) ∧ d ≠ 8 := by
 obtain ⟨a, rfl⟩ := ha
 unfold Jc at h ⊢
 have hg := Vi h
 have hd : deepS L t (.ok a d) = if isT (Ye L a) t = true then Ug (downF L a d) (.ok a (downD d)) else .ok a d := rfl
 rw [hd] at h hg ⊢
 by_cases ht : isT (Ye L a) t = true
 · rw [if_pos ht] at h hg ⊢
   obtain ⟨h0, e⟩ := note_good hg
   have h8 : d ≠ 8 := by
     intro h8
     unfold downF at h0
     rw [if_pos h8] at h0
     exact absurd h0 (by simp)
   rw [e] at h ⊢
   have e1 : downD d = d + 1 := by unfold downD; rw [if_neg h8]
   rw [e1] at h ⊢
   exact ⟨want_at h ⟨_, rfl⟩, h8⟩
 · rw [if_neg ht] at h
   unfold Yz at h
   have : ¬ isS L t (.ok a d) = true := ht
   rw [if_neg this] at h
   cases h
theorem rise_at {t : ByteArray} {st : St} {d : Nat} (h : (riseS L t st).good = true) (ha : AtD (d + 1) st) : AtD d (riseS L t st) := by
 unfold riseS at h ⊢
 obtain ⟨b, e⟩ := want_at (good_up h) ha
 rw [e]; exact ⟨b, rfl⟩
theorem good_sign : ∀ {s : St}, (Jx L s).good = true → s.good = true
 | .ok a d, _ => rfl
 | .bad F, h => h
theorem good_int : ∀ {s : St}, (intS L s).good = true → s.good = true
 | .ok a d, _ => rfl
 | .bad F, h => h
theorem filter_val (hR : Zab L) {k : Nat} (hk : 1 ≤ k ∧ k ≤ 4) {st : St} {d : Nat} (h : (Ve nk L k st).2.good = true) (ha : AtD d st) : AtD d (Ve nk L k st).2 ∧ VFl (Ve nk L k st).1 := by
 unfold Ve at h ⊢
 by_cases h12 : k = 1 ∨ k = 2
 · rw [if_pos h12] at h ⊢
   have h' : (Jx L (Yu L wOp st)).good = true := h
   obtain ⟨a1, f1, f2⟩ := Uh (good_sign h') ha
   obtain ⟨a2, f3, f4⟩ := sign_at hR h' a1
   exact ⟨a2, .inl ⟨(by show (k : Int) = 1 ∨ (k : Int) = 2; omega), ⟨f1, f2⟩, ⟨f3, f4⟩, rfl⟩⟩
 · rw [if_neg h12] at h ⊢
   by_cases h3 : k = 3
   · rw [if_pos h3] at h ⊢
     obtain ⟨a1, f1⟩ := name_at hR h ha
     exact ⟨a1, .inr (.inl ⟨rfl, rfl, rfl, f1⟩)⟩
   · rw [if_neg h3] at h ⊢
     have h' : (Yu L Us st).good = true := h
     obtain ⟨a1, f1, f2⟩ := Uh h' ha
     have f2' : (Zm L Us st : Int) ≤ 2 := f2
     refine ⟨a1, .inr (.inr ⟨?_, rfl, rfl, rfl⟩)⟩
     dsimp only
     rw [if_neg (by omega)]; omega
theorem filters_val (hR : Zab L) : ∀ (n : Nat) (st : St) (d : Nat), (Xc nk L n st).2.good = true → AtD d st → AtD d (Xc nk L n st).2 ∧ ∀ f ∈ (Xc nk L n st).1, VFl f
 | 0, st, d, h, ha => ⟨ha, fun f hf => by cases hf⟩
 | n + 1, st, d, h, ha => by
   rw [Xc] at h ⊢
   by_cases h0 : Zm L Yn st = 0
   · rw [if_pos h0]; exact ⟨ha, fun f hf => by cases hf⟩
   · rw [if_neg h0] at h ⊢
     dsimp only at h ⊢
     have hle : Zm L Yn st ≤ 4 := by obtain ⟨a, rfl⟩ := ha; exact idxW_le (Ye L a) Yn
     have hg := good_filters h
     obtain ⟨a1, v1⟩ := filter_val hR ⟨by omega, hle⟩ hg (Zap ha)
     obtain ⟨a2, v2⟩ := filters_val hR n _ d h a1
     refine ⟨a2, fun f hf => ?_⟩
     rcases List.mem_cons.1 hf with rfl | hf
     · exact v1
     · exact v2 f hf
theorem where_val (hR : Zab L) {st : St} {d : Nat} (h : (whereS L st).good = true) (ha : AtD d st) :
   AtD d (whereS L st) ∧ (1 ≤ (whereN L st).1 ∧ (whereN L st).1 ≤ 3) ∧ (1 ≤ (whereN L st).2.1 ∧ (whereN L st).2.1 ≤ 4) ∧ (0 ≤ (whereN L st).2.2 ∧ (whereN L st).2.2 ≤ 99) ∧ ((whereN L st).2.1 ≠ 3 → (whereN L st).2.2 = 0) := by
 unfold whereS at h ⊢
 unfold whereN
 dsimp only
 by_cases h3 : Zm L Wr (Yu L Zt st) = 3
 · rw [if_pos h3] at h ⊢
   have g1 := good_int h
   obtain ⟨a1, f1⟩ := Uh (Jb g1) ha
   obtain ⟨a2, f2⟩ := Uh g1 a1
   obtain ⟨a3, f3⟩ := int_at hR h a2
   rw [if_pos h3]
   exact ⟨a3, f1, f2, f3, fun hh => by omega⟩
 · rw [if_neg h3] at h ⊢
   obtain ⟨a1, f1⟩ := Uh (Jb h) ha
   obtain ⟨a2, f2⟩ := Uh h a1
   rw [if_neg h3]
   exact ⟨a2, f1, f2, by omega, fun _ => rfl⟩
theorem sel_val (hR : Zab L) {n : Nat} {st : St} {d : Nat} (h : (Wt nk L n st).2.good = true) (ha : AtD d st) : AtD d (Wt nk L n st).2 ∧ VSe (Wt nk L n st).1 := by
 unfold Wt at h ⊢
 by_cases h3 : Zm L Uv st = 3
 · rw [if_pos h3] at h ⊢
   dsimp only at h ⊢
   have g1 := Vi h
   have g2 := good_filters (Jb g1)
   have g3 : (Yu L Uv st).good = true := by
     unfold whereS at g2
     split at g2
     · exact Jb (Jb (good_int g2))
     · exact Jb (Jb g2)
   obtain ⟨a1, _⟩ := Uh g3 ha
   obtain ⟨a2, f2, f3, f4, f5⟩ := where_val hR g2 a1
   obtain ⟨a3, f6⟩ := filters_val hR n _ d (Jb g1) a2
   obtain ⟨a4, f7⟩ := Uh g1 a3
   exact ⟨want_at h a4, .inr ⟨rfl, f2, f3, f4, f5, f6, f7⟩⟩
 · rw [if_neg h3] at h ⊢
   obtain ⟨a1, f1, f2⟩ := Uh h ha
   have f2' : (Zm L Uv st : Int) ≤ 3 := f2
   refine ⟨a1, .inl ⟨?_, rfl, rfl, rfl, rfl, rfl⟩⟩
   dsimp only; omega
theorem to_val (hR : Zab L) {st : St} {d : Nat} (h : (toS L st).good = true) (ha : AtD d st) : AtD d (toS L st) ∧ VTo (toK L st) (toL L st) := by
 unfold toS at h ⊢
 unfold toK toL
 by_cases h4 : Zm L wTo st = 4
 · rw [if_pos h4] at h ⊢
   obtain ⟨a1, _⟩ := Uh (good_int h) ha
   obtain ⟨a2, f⟩ := int_at hR h a1
   rw [if_pos h4]
   exact ⟨a2, .inr ⟨by omega, f⟩⟩
 · rw [if_neg h4] at h ⊢
   obtain ⟨a1, f1, f2⟩ := Uh h ha
   have f2' : (Zm L wTo st : Int) ≤ 4 := f2
   rw [if_neg h4]
   exact ⟨a1, .inl ⟨by omega, rfl⟩⟩
def GE (d : Nat) (x : Ex) : Prop := VEx x ∧ pD x + d ≤ 8
def GP (d : Nat) (x : Ex) : Prop := VEx x ∧ pD x + d ≤ 8 ∧ (x.isSum = true → pD x + 1 + d ≤ 8)
def GF (d : Nat) (x : Ex) : Prop := VEx x ∧ pD x + d ≤ 8 ∧ (x.isBin = true → pD x + 1 + d ≤ 8)
theorem GF.gp {d : Nat} {x : Ex} (h : GF d x) : GP d x := ⟨h.1, h.2.1, fun hs => h.2.2 (isSum_bin hs)⟩
theorem GP.ge {d : Nat} {x : Ex} (h : GP d x) : GE d x := ⟨h.1, h.2.1⟩
theorem kd_bd {b : Bool} {n d : Nat} (h : n + d ≤ 8) (h2 : b = true → n + 1 + d ≤ 8) : kD b n + d ≤ 8 := by
 unfold kD; split
 · rename_i hb; have := h2 hb; omega
 · exact h
theorem ge_bin {d : Nat} {op : Int} {l r : Ex} (ho : 1 ≤ op ∧ op ≤ 2) (hl : GE d l) (hr : GP d r) : GE d (.bin op l r) := by
 obtain ⟨m1, m2⟩ := must_sum (show op ≠ 3 from by omega) l r
 refine ⟨⟨⟨ho.1, by omega⟩, hl.1, hr.1⟩, ?_⟩
 rw [pD, m1, m2]
 have := kd_bd (b := r.isSum) hr.2.1 hr.2.2
 have h1 : kD false (pD l) = pD l := rfl
 have := hl.2
 omega
theorem gp_bin {d : Nat} {l r : Ex} (hl : GP d l) (hr : GF d r) : GP d (.bin 3 l r) := by
 obtain ⟨m1, m2⟩ := must_times l r
 refine ⟨⟨by decide, hl.1, hr.1⟩, ?_, fun h => by cases h⟩
 rw [pD, m1, m2]
 have := kd_bd (b := l.isSum) hl.2.1 hl.2.2
 have := kd_bd (b := r.isBin) hr.2.1 hr.2.2
 omega
theorem good_prodL {n : Nat} : ∀ {x : Ex × St}, (Jy nk L n x).2.good = true → x.2.good = true
 | (e, .ok a d), _ => rfl
 | (e, .bad F), h => by rw [(exprs_bad n).2.2.2.1 e F] at h; exact h
theorem good_exprL {n : Nat} : ∀ {x : Ex × St}, (Zaa nk L n x).2.good = true → x.2.good = true
 | (e, .ok a d), _ => rfl
 | (e, .bad F), h => by rw [(exprs_bad n).2.1 e F] at h; exact h
theorem exprs_val (hR : Zab L) : ∀ n : Nat,
   (∀ st d, 4 * Zw L st + 3 ≤ n → d ≤ 8 → (Yq nk L n st).2.good = true → AtD d st → AtD d (Yq nk L n st).2 ∧ GE d (Yq nk L n st).1) ∧
   (∀ x d, 4 * Zw L x.2 ≤ n → d ≤ 8 → (Zaa nk L n x).2.good = true → AtD d x.2 → GE d x.1 → AtD d (Zaa nk L n x).2 ∧ GE d (Zaa nk L n x).1) ∧
   (∀ st d, 4 * Zw L st + 2 ≤ n → d ≤ 8 → (Vy nk L n st).2.good = true → AtD d st → AtD d (Vy nk L n st).2 ∧ GP d (Vy nk L n st).1) ∧
   (∀ x d, 4 * Zw L x.2 ≤ n → d ≤ 8 → (Jy nk L n x).2.good = true → AtD d x.2 → GP d x.1 → AtD d (Jy nk L n x).2 ∧ GP d (Jy nk L n x).1) ∧
   (∀ st d, 4 * Zw L st + 1 ≤ n → d ≤ 8 → (Vt nk L n st).2.good = true → AtD d st → AtD d (Vt nk L n st).2 ∧ GF d (Vt nk L n st).1)
 | 0 => by
   refine ⟨fun st d h => by omega, fun x d _ _ _ ha hg => ⟨ha, hg⟩, fun st d h => by omega, fun x d _ _ _ ha hg => ⟨ha, hg⟩, fun st d h => by omega⟩
 | n + 1 => by
   obtain ⟨i1, i2, i3, i4, i5⟩ := exprs_val hR n
   refine ⟨fun st d hn hd h ha => ?_, fun x d hn hd h ha hg => ?_, fun st d hn hd h ha => ?_, fun x d hn hd h ha hg => ?_, fun st d hn hd h ha => ?_⟩
   · rw [Yq] at h ⊢
     have r1 := rem_prod L nk n st
     obtain ⟨a1, g1⟩ := i3 st d (by omega) hd (good_exprL h) ha
     exact i2 _ d (by omega) hd h a1 g1.ge
   · rw [Zaa] at h ⊢
     by_cases h0 : Zm L wSum x.2 = 0
     · rw [if_pos h0]; exact ⟨ha, hg⟩
     · rw [if_neg h0] at h ⊢
       have r1 := Ul L h0
       have r2 := rem_prod L nk n (Yf L wSum x.2)
       have hp := good_exprL h
       obtain ⟨a1, g1⟩ := i3 _ d (by omega) hd hp (Zap ha)
       have hle : Zm L wSum x.2 ≤ 2 := by obtain ⟨a, e⟩ := ha; rw [e]; exact idxW_le (Ye L a) wSum
       exact i2 _ d (by dsimp only; omega) hd h a1 (ge_bin ⟨by omega, by omega⟩ hg g1)
   · rw [Vy] at h ⊢
     have r1 := rem_fact L nk n st
     obtain ⟨a1, g1⟩ := i5 st d (by omega) hd (good_prodL h) ha
     exact i4 _ d (by omega) hd h a1 g1.gp
   · rw [Jy] at h ⊢
     by_cases h0 : isS L Uy x.2 = true
     · rw [if_pos h0] at h ⊢
       have r1 := rem_took L h0
       have r2 := rem_fact L nk n (Wc L Uy x.2)
       have hp := good_prodL h
       obtain ⟨a1, g1⟩ := i5 _ d (by omega) hd hp (take_at ha)
       exact i4 _ d (by dsimp only; omega) hd h a1 (gp_bin hg g1)
     · rw [if_neg h0]; exact ⟨ha, hg⟩
   · rw [Vt] at h ⊢
     have leaf0 : ∀ {kind n' : Int} {sel : Se} {side tk tl : Int}, VLeaf kind n' sel side tk tl → GF d (.leaf kind n' sel side tk tl) := fun hv => ⟨hv, by rw [pD]; omega, fun hh => by cases hh⟩
     by_cases ho : isS L Vo st = true
     · rw [if_pos ho] at h ⊢
       dsimp only at h ⊢
       have r1 := rem_downed L ho
       have g0 := Vi (good_up h)
       obtain ⟨a1, h8⟩ := down_at (good_expr g0) ha
       obtain ⟨a2, g1⟩ := i1 _ (d + 1) (by omega) (by omega) g0 a1
       exact ⟨rise_at h a2, g1.1, by have := g1.2; omega, fun _ => by have := g1.2; omega⟩
     · rw [if_neg ho] at h ⊢
       by_cases h0 : Zm L Vb st = 0
       · rw [if_pos h0] at h ⊢
         obtain ⟨a1, f1⟩ := sign_at hR h ha
         exact ⟨a1, leaf0 (.inl ⟨rfl, f1, rfl, rfl, rfl, rfl⟩)⟩
       · rw [if_neg h0] at h ⊢
         have hle : Zm L Vb st ≤ 5 := by obtain ⟨a, e⟩ := ha; rw [e]; exact idxW_le (Ye L a) Vb
         by_cases h12 : Zm L Vb st = 1 ∨ Zm L Vb st = 2
         · rw [if_pos h12] at h ⊢
           obtain ⟨a1, f1⟩ := sel_val hR h (Zap ha)
           exact ⟨a1, leaf0 (.inr (.inl ⟨by omega, rfl, f1, rfl, rfl, rfl⟩))⟩
         · rw [if_neg h12] at h ⊢
           by_cases h3 : Zm L Vb st = 3
           · rw [if_pos h3]; exact ⟨Zap ha, leaf0 (.inr (.inr (.inl ⟨rfl, rfl, rfl, rfl, rfl, rfl⟩)))⟩
           · rw [if_neg h3] at h ⊢
             by_cases h4 : Zm L Vb st = 4
             · rw [if_pos h4] at h ⊢
               obtain ⟨a1, f1⟩ := Uh h (Zap ha)
               exact ⟨a1, leaf0 (.inr (.inr (.inr (.inl ⟨rfl, rfl, rfl, f1, rfl, rfl⟩))))⟩
             · rw [if_neg h4] at h ⊢
               obtain ⟨a1, f1⟩ := Uh (good_to h) (Zap ha)
               obtain ⟨a2, f2⟩ := to_val hR h a1
               exact ⟨a2, leaf0 (.inr (.inr (.inr (.inr ⟨rfl, rfl, rfl, f1, f2⟩))))⟩
theorem expr_val (hR : Zab L) {n : Nat} {st : St} {d : Nat} (hn : 4 * Zw L st + 3 ≤ n) (hd : d ≤ 8) (h : (Yq nk L n st).2.good = true) (ha : AtD d st) : AtD d (Yq nk L n st).2 ∧ VEx (Yq nk L n st).1 ∧ pD (Yq nk L n st).1 + d ≤ 8 :=
 (exprs_val hR n).1 st d hn hd h ha
theorem plain_val (hR : Zab L) {n k : Nat} {l c : Int} {st : St} {d : Nat} (hk : 1 ≤ k ∧ k ≤ 15 ∧ k ≠ 10 ∧ k ≠ 11) (hn : 4 * Zw L st + 3 ≤ n) (hd : d ≤ 8) (h : (Xh nk L n (AH.zero k l c) k st).2.good = true) (ha : AtD d st) :
   AtD d (Xh nk L n (AH.zero k l c) k st).2 ∧ VPlain d (Xh nk L n (AH.zero k l c) k st).1 := by
 unfold Xh at h ⊢
 unfold VPlain
 by_cases c1 : k = 1 ∨ k = 2 ∨ k = 12
 · rw [if_pos c1] at h ⊢
   dsimp only at h ⊢
   have r := Zak L nk n st
   obtain ⟨a1, f1⟩ := sel_val hR (good_expr h) ha
   obtain ⟨a2, f2⟩ := expr_val hR (by omega) hd h a1
   exact ⟨a2, .inl ⟨by show ((k : Int) = 1 ∨ (k : Int) = 2 ∨ (k : Int) = 12); omega, rfl, f1, f2⟩⟩
 · rw [if_neg c1] at h ⊢
   by_cases c2 : k = 3 ∨ k = 5 ∨ k = 14
   · rw [if_pos c2] at h ⊢
     dsimp only at h ⊢
     obtain ⟨a1, f1⟩ := sel_val hR h ha
     exact ⟨a1, .inr (.inl ⟨by show ((k : Int) = 3 ∨ (k : Int) = 5 ∨ (k : Int) = 14); omega, rfl, f1⟩)⟩
   · rw [if_neg c2] at h ⊢
     by_cases c3 : k = 4
     · rw [if_pos c3] at h ⊢
       dsimp only at h ⊢
       obtain ⟨a1, f1⟩ := sel_val hR (good_to h) ha
       obtain ⟨a2, f2⟩ := to_val hR h a1
       exact ⟨a2, .inr (.inr (.inl ⟨by show (k : Int) = 4; omega, rfl, f1, f2⟩))⟩
     · rw [if_neg c3] at h ⊢
       by_cases c4 : k = 6
       · rw [if_pos c4] at h ⊢
         dsimp only at h ⊢
         have g1 := good_expr h
         have g2 := good_to g1
         have r1 := rem_to L (Yu L Zt (Wm L st))
         have r2 := Xk L Zt (Wm L st)
         have r3 := Jk L st
         obtain ⟨a1, f1⟩ := name_at hR (Jb g2) ha
         obtain ⟨a2, f2⟩ := Uh g2 a1
         obtain ⟨a3, f3⟩ := to_val hR g1 a2
         obtain ⟨a4, f4⟩ := expr_val hR (by omega) hd h a3
         exact ⟨a4, .inr (.inr (.inr (.inl ⟨by show (k : Int) = 6; omega, rfl, f1, f2, f3, f4⟩)))⟩
       · rw [if_neg c4] at h ⊢
         by_cases c5 : k = 7 ∨ k = 9
         · rw [if_pos c5] at h ⊢
           dsimp only at h ⊢
           have r2 := Xk L Zt st
           obtain ⟨a2, f2⟩ := Uh (good_expr h) ha
           obtain ⟨a4, f4⟩ := expr_val hR (by omega) hd h a2
           exact ⟨a4, .inr (.inr (.inr (.inr (.inl ⟨by show ((k : Int) = 7 ∨ (k : Int) = 9); omega, rfl, f2, f4⟩))))⟩
         · rw [if_neg c5] at h ⊢
           by_cases c6 : k = 8
           · rw [if_pos c6] at h ⊢
             dsimp only at h ⊢
             obtain ⟨a2, f2⟩ := Uh (Jb h) ha
             obtain ⟨a3, f3⟩ := Uh h a2
             exact ⟨a3, .inr (.inr (.inr (.inr (.inr (.inl ⟨by show (k : Int) = 8; omega, rfl, f2, f3⟩)))))⟩
           · rw [if_neg c6] at h ⊢
             have c7 : k = 13 ∨ k = 15 := by omega
             rw [if_pos c7] at h ⊢
             dsimp only at h ⊢
             obtain ⟨a2, f2⟩ := Uh (good_to h) ha
             obtain ⟨a3, f3⟩ := to_val hR h a2
             exact ⟨a3, .inr (.inr (.inr (.inr (.inr (.inr ⟨by show ((k : Int) = 13 ∨ (k : Int) = 15); omega, rfl, f2, f3⟩)))))⟩
theorem cond_val (hR : Zab L) {n : Nat} {l c : Int} {st : St} {d : Nat} (hn : 4 * Zw L st + 3 ≤ n) (hd : d ≤ 8) (h : (Wf nk L n (AH.zero 10 l c) st).2.good = true) (ha : AtD d st) :
   AtD d (Wf nk L n (AH.zero 10 l c) st).2 ∧ VCond d (Wf nk L n (AH.zero 10 l c) st).1 := by
 unfold Wf at h ⊢
 dsimp only at h ⊢
 have r1 := rem_expr L nk n st
 have r2 := Xk L wOp (Yq nk L n st).2
 have g1 := good_expr h
 obtain ⟨a1, f1⟩ := expr_val hR hn hd (Jb g1) ha
 obtain ⟨a2, f2⟩ := Uh g1 a1
 obtain ⟨a3, f3⟩ := expr_val hR (by omega) hd h a2
 exact ⟨a3, rfl, f2, f1, f3⟩
def VAO (d : Nat) (x : AO) : Prop := (d < 8 ∧ VCond d x.h ∧ VActs (d + 1) x.thn ∧ VActs (d + 1) x.els) ∨ (d < 8 ∧ VEach x.h ∧ VActs (d + 1) x.thn ∧ x.els = .nil) ∨ (VPlain d x.h ∧ x.thn = .nil ∧ x.els = .nil)
theorem acts_val (hR : Zab L) : ∀ n : Nat,
   (∀ st d, 4 * Zw L st + 1 ≤ n → d ≤ 8 → (Xs nk L n st).2.good = true → AtD d st → AtD d (Xs nk L n st).2 ∧ VActs d (Xs nk L n st).1) ∧
   (∀ (k : Nat) (l c : Int) st d, 1 ≤ k ∧ k ≤ 15 → 4 * Zw L st + 4 ≤ n → d ≤ 8 → (Ud nk L n (AH.zero k l c) k st).st.good = true → AtD d st →
     AtD d (Ud nk L n (AH.zero k l c) k st).st ∧ VAO d (Ud nk L n (AH.zero k l c) k st)) ∧
   (∀ st d, 4 * Zw L st + 3 ≤ n → d ≤ 8 → (Yx nk L n st).2.good = true → AtD d st → AtD d (Yx nk L n st).2 ∧ VActs (d + 1) (Yx nk L n st).1 ∧ d < 8)
 | 0 => ⟨fun st d h => by omega, fun k l c st d _ h => by omega, fun st d h => by omega⟩
 | n + 1 => by
   obtain ⟨i1, i2, i3⟩ := acts_val hR n
   refine ⟨fun st d hn hd h ha => ?_, fun k l c st d hk hn hd h ha => ?_, fun st d hn hd h ha => ?_⟩
   · rw [Xs] at h ⊢
     by_cases h0 : Zm L Xv st = 0
     · rw [if_pos h0]; exact ⟨ha, trivial⟩
     · rw [if_neg h0] at h ⊢
       dsimp only at h ⊢
       have r1 := Ul L h0
       have r2 := rem_act L nk n (AH.zero (Zm L Xv st) (st.tok L).line (st.tok L).col) (Zm L Xv st) (Yf L Xv st)
       have hle : Zm L Xv st ≤ 15 := by obtain ⟨a, e⟩ := ha; rw [e]; exact idxW_le (Ye L a) Xv
       obtain ⟨a1, f1⟩ := i2 _ _ _ _ d ⟨by omega, hle⟩ (by omega) hd (good_acts h) (Zap ha)
       obtain ⟨a2, f2⟩ := i1 _ d (by omega) hd h a1
       exact ⟨a2, f1, f2⟩
   · rw [Ud] at h ⊢
     by_cases h10 : k = 10
     · rw [if_pos h10] at h ⊢
       subst h10
       have r1 := rem_cond L nk n (AH.zero (10 : Nat) l c) st
       have r2 := rem_block L nk n (Wf nk L n (AH.zero (10 : Nat) l c) st).2
       by_cases he : isS L Zah (Yx nk L n (Wf nk L n (AH.zero (10 : Nat) l c) st).2).2 = true
       · rw [if_pos he] at h ⊢
         dsimp only at h ⊢
         have r3 := rem_took L he
         have g1 := good_take (good_block h)
         obtain ⟨a1, f1⟩ := cond_val hR (by omega) hd (good_block g1) ha
         obtain ⟨a2, f2, f3⟩ := i3 _ d (by omega) hd g1 a1
         obtain ⟨a3, f4, _⟩ := i3 _ d (by omega) hd h (take_at a2)
         exact ⟨a3, .inl ⟨f3, f1, f2, f4⟩⟩
       · rw [if_neg he] at h ⊢
         dsimp only at h ⊢
         obtain ⟨a1, f1⟩ := cond_val hR (by omega) hd (good_block h) ha
         obtain ⟨a2, f2, f3⟩ := i3 _ d (by omega) hd h a1
         exact ⟨a2, .inl ⟨f3, f1, f2, trivial⟩⟩
     · rw [if_neg h10] at h ⊢
       by_cases h11 : k = 11
       · rw [if_pos h11] at h ⊢
         subst h11
         dsimp only at h ⊢
         have r1 := Zak L nk n st
         obtain ⟨a1, f1⟩ := sel_val hR (good_block h) ha
         obtain ⟨a2, f2, f3⟩ := i3 _ d (by omega) hd h a1
         exact ⟨a2, .inr (.inl ⟨f3, ⟨rfl, f1⟩, f2, rfl⟩)⟩
       · rw [if_neg h11] at h ⊢
         dsimp only at h ⊢
         obtain ⟨a1, f1⟩ := plain_val hR ⟨hk.1, hk.2, h10, h11⟩ (by omega) hd (Vi h) ha
         exact ⟨want_at h a1, .inr (.inr ⟨f1, rfl, rfl⟩)⟩
   · rw [Yx] at h ⊢
     dsimp only at h ⊢
     have g1 := Vi (good_up h)
     have r1 := rem_down L Xt st
     obtain ⟨a1, h8⟩ := down_at (good_acts g1) ha
     obtain ⟨a2, f2⟩ := i1 _ (d + 1) (by omega) (by omega) g1 a1
     exact ⟨rise_at h a2, f2, by omega⟩
theorem rules_val (hR : Zab L) : ∀ (n : Nat) (st : St), 4 * Zw L st + 2 ≤ n → (Vw nk L n st).2.good = true → AtD 0 st → AtD 0 (Vw nk L n st).2 ∧ ∀ r ∈ (Vw nk L n st).1, VRu r
 | 0, st, h, _, _ => by omega
 | n + 1, st, hn, h, ha => by
   rw [Vw] at h ⊢
   by_cases h0 : Zm L Xf st = 0
   · rw [if_pos h0]; exact ⟨ha, fun r hr => by cases hr⟩
   · rw [if_neg h0] at h ⊢
     dsimp only at h ⊢
     have r1 := Ul L h0
     have r2 := rem_str L (Zm L Xf st) (Yf L Xf st)
     have r3 := Xw L Xt (strS L (Zm L Xf st) (Yf L Xf st))
     have r4 := rem_acts L nk n (Yz L Xt (strS L (Zm L Xf st) (Yf L Xf st)))
     have r5 := Xw L We (Xs nk L n (Yz L Xt (strS L (Zm L Xf st) (Yf L Xf st)))).2
     have g1 := good_rules h
     have g2 := Vi g1
     have g3 := good_acts g2
     have g4 := Vi g3
     have hle : Zm L Xf st ≤ 6 := by obtain ⟨a, e⟩ := ha; rw [e]; exact idxW_le (Ye L a) Xf
     have hs : AtD 0 (strS L (Zm L Xf st) (Yf L Xf st)) ∧ (0 ≤ strN L (Zm L Xf st) (Yf L Xf st) ∧ strN L (Zm L Xf st) (Yf L Xf st) ≤ 99) ∧ (Zm L Xf st ≠ 5 → strN L (Zm L Xf st) (Yf L Xf st) = 0) := by
       unfold strS strN at *
       by_cases h5 : Zm L Xf st = 5
       · rw [if_pos h5] at g4 ⊢
         rw [if_pos h5]
         obtain ⟨a1, f1⟩ := int_at hR g4 (Zap ha)
         exact ⟨a1, f1, fun hh => absurd h5 hh⟩
       · rw [if_neg h5, if_neg h5]
         exact ⟨Zap ha, by omega, fun _ => rfl⟩
     obtain ⟨a1, f1, f2⟩ := hs
     obtain ⟨a2, f3⟩ := (acts_val hR n).1 _ 0 (by omega) (by omega) g2 (want_at g3 a1)
     obtain ⟨a3, f4⟩ := rules_val hR n _ (by omega) h (want_at g1 a2)
     refine ⟨a3, fun r hr => ?_⟩
     rcases List.mem_cons.1 hr with rfl | hr
     · exact ⟨⟨by dsimp only; omega, by dsimp only; omega⟩, f1, fun hh => f2 (fun h5 => hh (by dsimp only; omega)), f3⟩
     · exact f4 r hr
theorem body_val (hR : Zab L) {n : Nat} {st : St} (hn : 4 * Zw L st + 2 ≤ n) (h : (Jg nk L n st).2.good = true) (ha : AtD 0 st) : AtD 0 (Jg nk L n st).2 ∧ ∀ r ∈ (Jg nk L n st).1, VRu r := by
 unfold Jg at h ⊢
 dsimp only at h ⊢
 have r1 := Xw L Xt st
 have g1 := Vi h
 obtain ⟨a1, f1⟩ := rules_val hR n _ (by omega) g1 (want_at (good_rules g1) ha)
 exact ⟨want_at h a1, f1⟩
theorem card_val (hR : Zab L) {n : Nat} {l c : Int} {st : St} (hn : 4 * Zw L st + 2 ≤ n) (h : (Uj nk L n l c st).2.good = true) (ha : AtD 0 st) : AtD 0 (Uj nk L n l c st).2 ∧ VCa (Uj nk L n l c st).1 := by
 unfold Uj at h ⊢
 dsimp only at h ⊢
 have r1 := Jk L st
 have r2 := Xw L sCost (Wm L st)
 have r3 := rem_int L (Yz L sCost (Wm L st))
 have r4 := Xw L sPower (intS L (Yz L sCost (Wm L st)))
 have r5 := rem_sign L (Yz L sPower (intS L (Yz L sCost (Wm L st))))
 have g1 := good_body h
 have g2 := good_sign g1
 have g3 := Vi g2
 have g4 := good_int g3
 have g5 := Vi g4
 obtain ⟨a1, f1⟩ := name_at hR g5 ha
 obtain ⟨a2, f2⟩ := int_at hR g3 (want_at g4 a1)
 obtain ⟨a3, f3⟩ := sign_at hR g1 (want_at g2 a2)
 obtain ⟨a4, f4⟩ := body_val hR (by omega) h a3
 exact ⟨a4, f1, f2, f3, f4⟩
theorem place_val (hR : Zab L) {n : Nat} {l c : Int} {st : St} (hn : 4 * Zw L st + 2 ≤ n) (h : (Vj nk L n l c st).2.good = true) (ha : AtD 0 st) : AtD 0 (Vj nk L n l c st).2 ∧ VPl (Vj nk L n l c st).1 := by
 unfold Vj at h ⊢
 dsimp only at h ⊢
 have r1 := Jk L st
 obtain ⟨a1, f1⟩ := name_at hR (good_body h) ha
 obtain ⟨a4, f4⟩ := body_val hR (by omega) h a1
 exact ⟨a4, f1, f4⟩
theorem file_val (hR : Zab L) : ∀ (n : Nat) (st : St), 4 * Zw L st + 1 ≤ n → (Vc nk L n st).2.good = true → AtD 0 st → AtD 0 (Vc nk L n st).2 ∧ VFi (Vc nk L n st).1
 | 0, st, h, _, _ => by omega
 | n + 1, st, hn, h, ha => by
   rw [Vc] at h ⊢
   by_cases h0 : Zm L Ws st = 0
   · rw [if_pos h0]; exact ⟨ha, (fun c hc => by cases hc), fun p hp => by cases hp⟩
   · rw [if_neg h0] at h ⊢
     have r1 := Ul L h0
     by_cases h1 : Zm L Ws st = 1
     · rw [if_pos h1] at h ⊢
       dsimp only at h ⊢
       have r2 := rem_card L nk n (st.tok L).line (st.tok L).col (Yf L Ws st)
       obtain ⟨a1, f1⟩ := card_val hR (by omega) (good_file h) (Zap ha)
       obtain ⟨a2, f2, f3⟩ := file_val hR n _ (by omega) h a1
       refine ⟨a2, fun c hc => ?_, f3⟩
       rcases List.mem_cons.1 hc with rfl | hc
       · exact f1
       · exact f2 c hc
     · rw [if_neg h1] at h ⊢
       dsimp only at h ⊢
       have r2 := rem_place L nk n (st.tok L).line (st.tok L).col (Yf L Ws st)
       obtain ⟨a1, f1⟩ := place_val hR (by omega) (good_file h) (Zap ha)
       obtain ⟨a2, f2, f3⟩ := file_val hR n _ (by omega) h a1
       refine ⟨a2, f2, fun p hp => ?_⟩
       rcases List.mem_cons.1 hp with rfl | hp
       · exact f1
       · exact f3 p hp
end
end Go.Proofs.YtljdgdphldckhaaGreat
