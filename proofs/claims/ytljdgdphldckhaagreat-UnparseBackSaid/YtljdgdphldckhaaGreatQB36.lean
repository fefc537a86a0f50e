/-
  Texts UnpWr. No conditions but those that each theorem names.
-/
import Derived.Test.YtljdgdphldckhaaGreatQB34
import Derived.Test.YtljdgdphldckhaaGreatQB35
namespace Go.Proofs.YtljdgdphldckhaaGreat
open Go
set_option linter.unusedSimpArgs false
set_option linter.unusedVariables false
def lFl (f : Fl) : List Int :=
 if f.kind = 1 ∨ f.kind = 2 then bL (wd Zq f.kind) ++ 32 :: (bL (wd wOp f.op) ++ 32 :: Zai f.n) else if f.kind = 3 then bL (wd Zq 3) ++ 32 :: lName f.name
 else bL (wd Zq 4) ++ 32 :: bL (wd Ww (f.kind - 3))
def lFls (l : List Fl) : List Int := l.flatMap fun f => 32 :: lFl f
def lSel (s : Se) : List Int :=
 if s.kind = 1 ∨ s.kind = 2 then bL (wd Vj s.kind)
 else 40 :: (bL (wd Zk s.side) ++ 32 :: (bL (wd Yy s.wh) ++ ((if s.wh = 3 then 32 :: Zai s.lane else []) ++ (lFls s.fs ++ 32 :: (bL (wd Wq s.pick) ++ [41])))))
def lTo (k l : Int) : List Int := if k = 4 then bL (wd wTo 4) ++ 32 :: Zai l else bL (wd wTo k)
def lB (b : Bool) (X : List Int) : List Int := if b = true then 40 :: (X ++ [41]) else X
def lLeaf (kind n : Int) (sel : Se) (side tk tl : Int) : List Int :=
 if kind = 1 then Zai n else if kind = 2 ∨ kind = 3 then bL (wd Yj (kind - 1)) ++ 32 :: lSel sel else if kind = 4 then bL (wd Yj 3)
 else if kind = 5 then bL (wd Yj 4) ++ 32 :: bL (wd Zk side) else bL (wd Yj 5) ++ 32 :: (bL (wd Zk side) ++ 32 :: lTo tk tl)
def cOp (op : Int) : Int := if op = 3 then 42 else if op = 1 then 43 else 45
def lE : Ex → List Int
 | .leaf kind n sel side tk tl => lLeaf kind n sel side tk tl
 | .bin op l r => lB (Vs false op l) (lE l) ++ 32 :: cOp op :: 32 :: lB (Vs true op r) (lE r)
theorem sc_pm {c : Int} (hc : c = 123 ∨ c = 125 ∨ c = 40 ∨ c = 41 ∨ c = 59 ∨ c = 43 ∨ c = 45 ∨ c = 42 ∨ c = 61) {t : ByteArray} (ht : strOfNums [c] = t) : Scn true [c] [pM t] := by subst ht; exact sc_mark1 hc
theorem sc_open : Scn true [40] [pM Wh] := sc_pm (by decide) rfl
theorem sc_close : Scn true [41] [pM Wi] := sc_pm (by decide) rfl
theorem sc_brace : Scn true [123] [pM Yv] := sc_pm (by decide) rfl
theorem sc_unbrace : Scn true [125] [pM Yw] := sc_pm (by decide) rfl
theorem sc_semi : Scn true [59] [pM sSemi] := sc_pm (by decide) rfl
theorem sc_fl {f : Fl} (hv : VFl f) : Scn false (lFl f) (tFl f) := by
 unfold lFl tFl
 rcases hv with ⟨hk, ho, hn, _⟩ | ⟨hk, _, _, hm⟩ | ⟨hk, _⟩
 · simp only [if_pos hk]
   exact (sc_filter (by omega) (by omega)).sp ((sc_op ho.1 ho.2).sp (sc_sign hn.1 hn.2))
 · have n1 : ¬ (f.kind = 1 ∨ f.kind = 2) := by omega
   simp only [if_neg n1, if_pos hk]
   exact (sc_filter (by decide) (by decide)).sp (sc_name hm).weak
 · have n1 : ¬ (f.kind = 1 ∨ f.kind = 2) := by omega
   have n2 : ¬ f.kind = 3 := by omega
   simp only [if_neg n1, if_neg n2]
   exact (sc_filter (by decide) (by decide)).sp (sc_meit (by omega) (by omega))
theorem Scn.lead {c : Bool} {Y : List Int} {T : List PT} (h : Scn c Y T) : Scn c (32 :: Y) T := (Scn.blank (.inl rfl)).then h
theorem sc_fls {c : Bool} {Y : List Int} {T : List PT} (h : Scn c (32 :: Y) T) : ∀ l : List Fl, (∀ f ∈ l, VFl f) → Scn c (lFls l ++ 32 :: Y) (tFls l ++ T) ∧ ∃ r, lFls l ++ 32 :: Y = 32 :: r
 | [], _ => ⟨h, Y, rfl⟩
 | f :: l, hv => by
   obtain ⟨ih, r, hr⟩ := sc_fls h l (fun g hg => hv g (by simp [hg]))
   have e : lFls (f :: l) ++ 32 :: Y = 32 :: (lFl f ++ (lFls l ++ 32 :: Y)) := by unfold lFls; simp
   rw [e, tFls_cons, List.append_assoc]
   exact ⟨((sc_fl (hv f (by simp))).app ih (.inr ⟨32, r, hr, .inl rfl⟩)).lead, _, rfl⟩
theorem sc_selT {s : Se} (hv : VSe s) : Scn false (lSel s) (tSel s) := by
 unfold lSel tSel
 rcases hv with ⟨hk, _⟩ | ⟨hk, h1, h2, h3, h4, h5, h6⟩
 · rw [if_pos hk, if_pos hk]; exact sc_sel (by omega) (by omega)
 · have n1 : ¬ (s.kind = 1 ∨ s.kind = 2) := by omega
   rw [if_neg n1, if_neg n1]
   have e1 : Scn true (32 :: (bL (wd Wq s.pick) ++ [41])) [pw Wq s.pick, pM Wi] := ((sc_pick h6.1 h6.2).app sc_close (.inr ⟨41, [], rfl, .inr (.inr (.inl rfl))⟩)).lead
   obtain ⟨e2, r, hr⟩ := sc_fls e1 s.fs h5
   have e3 : Scn true ((if s.wh = 3 then 32 :: Zai s.lane else []) ++ (lFls s.fs ++ 32 :: (bL (wd Wq s.pick) ++ [41]))) (tWh s ++ (tFls s.fs ++ [pw Wq s.pick, pM Wi])) ∧
       ∃ r, (if s.wh = 3 then 32 :: Zai s.lane else []) ++ (lFls s.fs ++ 32 :: (bL (wd Wq s.pick) ++ [41])) = 32 :: r := by
     unfold tWh
     split
     · exact ⟨((sc_int h3.1 h3.2).app e2 (.inr ⟨32, r, hr, .inl rfl⟩)).lead, _, rfl⟩
     · exact ⟨e2, r, hr⟩
   obtain ⟨e3, r3, hr3⟩ := e3
   have e4 := (sc_side h1.1 h1.2).sp ((sc_where h2.1 h2.2).app e3 (.inr ⟨32, r3, hr3, .inl rfl⟩))
   exact (sc_open.then e4).weak
theorem sc_toT {k l : Int} (hv : VTo k l) : Scn false (lTo k l) (tTo k l) := by
 unfold lTo tTo
 rcases hv with ⟨hk, _⟩ | ⟨hk, hl⟩
 · have n1 : ¬ k = 4 := by omega
   rw [if_neg n1, if_neg n1]; exact sc_to hk.1 (by omega)
 · rw [if_pos hk, if_pos hk]; exact (sc_to (by decide) (by decide)).sp (sc_int hl.1 hl.2)
theorem sc_leaf {kind n : Int} {sel : Se} {side tk tl : Int} (hv : VLeaf kind n sel side tk tl) : Scn false (lLeaf kind n sel side tk tl) (tLeaf kind n sel side tk tl) := by
 unfold lLeaf tLeaf
 rcases hv with ⟨hk, hn, _⟩ | ⟨hk, _, hs, _⟩ | ⟨hk, _⟩ | ⟨hk, _, _, hs, _⟩ | ⟨hk, _, _, hs, ht⟩
 · simp only [if_pos hk]; exact sc_sign hn.1 hn.2
 · have n1 : ¬ kind = 1 := by omega
   simp only [if_neg n1, if_pos hk]; exact (sc_fact (by omega) (by omega)).sp (sc_selT hs)
 · have n1 : ¬ kind = 1 := by omega
   have n2 : ¬ (kind = 2 ∨ kind = 3) := by omega
   simp only [if_neg n1, if_neg n2, if_pos hk]; exact sc_fact (by decide) (by decide)
 · have n1 : ¬ kind = 1 := by omega
   have n2 : ¬ (kind = 2 ∨ kind = 3) := by omega
   have n3 : ¬ kind = 4 := by omega
   simp only [if_neg n1, if_neg n2, if_neg n3, if_pos hk]
   exact (sc_fact (by decide) (by decide)).sp (sc_side hs.1 hs.2)
 · have n1 : ¬ kind = 1 := by omega
   have n2 : ¬ (kind = 2 ∨ kind = 3) := by omega
   have n3 : ¬ kind = 4 := by omega
   have n4 : ¬ kind = 5 := by omega
   simp only [if_neg n1, if_neg n2, if_neg n3, if_neg n4]
   exact (sc_fact (by decide) (by decide)).sp ((sc_side hs.1 hs.2).sp (sc_toT ht))
theorem sc_brk {b : Bool} {X : List Int} {T : List PT} (h : Scn false X T) : Scn false (lB b X) (brk b T) := by
 unfold lB brk
 split
 · exact (sc_open.then (h.app sc_close (.inr ⟨41, [], rfl, .inr (.inr (.inl rfl))⟩))).weak
 · exact h
theorem sc_pOp {op : Int} (h1 : 1 ≤ op) (h2 : op ≤ 3) : Scn true [cOp op] [pOp op] := by
 have h : op = 1 ∨ op = 2 ∨ op = 3 := by omega
 rcases h with rfl | rfl | rfl
 · exact sc_pm (by decide) rfl
 · exact sc_pm (by decide) rfl
 · exact sc_pm (by decide) rfl
theorem sc_ex : ∀ x : Ex, VEx x → Scn false (lE x) (tE x)
 | .leaf kind n sel side tk tl, hv => sc_leaf hv
 | .bin op l r, hv => by
   have h := (sc_brk (b := Vs false op l) (sc_ex l hv.2.1)).sp ((sc_pOp hv.1.1 hv.1.2).then (sc_brk (b := Vs true op r) (sc_ex r hv.2.2)).lead)
   exact h
def lArgs (h : AH) : List Int :=
 if h.kind = 1 ∨ h.kind = 2 ∨ h.kind = 12 then lSel h.sel ++ 32 :: lE h.num
 else if h.kind = 3 ∨ h.kind = 5 ∨ h.kind = 14 then lSel h.sel
 else if h.kind = 4 then lSel h.sel ++ 32 :: lTo h.tk h.tl
 else if h.kind = 6 then lName h.name ++ 32 :: (bL (wd Zk h.side) ++ 32 :: (lTo h.tk h.tl ++ 32 :: lE h.num))
 else if h.kind = 7 ∨ h.kind = 9 then bL (wd Zk h.side) ++ 32 :: lE h.num
 else if h.kind = 8 then bL (wd Zk h.side) ++ 32 :: bL (wd Zav h.how)
 else bL (wd Zk h.side) ++ 32 :: lTo h.tk h.tl
def lBlk (X : List Int) : List Int := 123 :: 32 :: (X ++ [125])
def lElse (no : Bool) (e : List Int) : List Int := if no = true then [] else 32 :: (bL Wx ++ 32 :: lBlk e)
def lAct (h : AH) (t e : List Int) (no : Bool) : List Int :=
 bL (wd Yr h.kind) ++ 32 :: (if h.kind = 10 then lE h.cl ++ 32 :: (bL (wd wOp h.cop) ++ 32 :: (lE h.cr ++ 32 :: (lBlk t ++ lElse no e))) else if h.kind = 11 then lSel h.sel ++ 32 :: lBlk t else lArgs h ++ [59])
def lActs : Acs → List Int
 | .nil => []
 | .cons h t e r => lAct h (lActs t) (lActs e) e.isNil ++ 32 :: lActs r
theorem sc_args {h : AH} {d : Nat} (hv : VPlain d h) : Scn false (lArgs h) (Jl h) := by
 unfold lArgs Jl
 rcases hv with ⟨hk, he, v1, v2, v3⟩ | ⟨hk, he, v1⟩ | ⟨hk, he, v1, v2⟩ | ⟨hk, he, v1, v2, v3, v4, v5⟩ | ⟨hk, he, v1, v2, v3⟩ | ⟨hk, he, v1, v2⟩ | ⟨hk, he, v1, v2⟩
 · simp only [if_pos hk]
   exact (sc_selT v1).sp (sc_ex _ v2)
 · have n1 : ¬ (h.kind = 1 ∨ h.kind = 2 ∨ h.kind = 12) := by omega
   simp only [if_neg n1, if_pos hk]
   exact sc_selT v1
 · have n1 : ¬ (h.kind = 1 ∨ h.kind = 2 ∨ h.kind = 12) := by omega
   have n2 : ¬ (h.kind = 3 ∨ h.kind = 5 ∨ h.kind = 14) := by omega
   simp only [if_neg n1, if_neg n2, if_pos hk]
   exact (sc_selT v1).sp (sc_toT v2)
 · have n1 : ¬ (h.kind = 1 ∨ h.kind = 2 ∨ h.kind = 12) := by omega
   have n2 : ¬ (h.kind = 3 ∨ h.kind = 5 ∨ h.kind = 14) := by omega
   have n3 : ¬ h.kind = 4 := by omega
   simp only [if_neg n1, if_neg n2, if_neg n3, if_pos hk]
   exact (sc_name v1).sp ((sc_side v2.1 v2.2).sp ((sc_toT v3).sp (sc_ex _ v4)))
 · have n1 : ¬ (h.kind = 1 ∨ h.kind = 2 ∨ h.kind = 12) := by omega
   have n2 : ¬ (h.kind = 3 ∨ h.kind = 5 ∨ h.kind = 14) := by omega
   have n3 : ¬ h.kind = 4 := by omega
   have n4 : ¬ h.kind = 6 := by omega
   simp only [if_neg n1, if_neg n2, if_neg n3, if_neg n4, if_pos hk]
   exact (sc_side v1.1 v1.2).sp (sc_ex _ v2)
 · have n1 : ¬ (h.kind = 1 ∨ h.kind = 2 ∨ h.kind = 12) := by omega
   have n2 : ¬ (h.kind = 3 ∨ h.kind = 5 ∨ h.kind = 14) := by omega
   have n3 : ¬ h.kind = 4 := by omega
   have n4 : ¬ h.kind = 6 := by omega
   have n5 : ¬ (h.kind = 7 ∨ h.kind = 9) := by omega
   simp only [if_neg n1, if_neg n2, if_neg n3, if_neg n4, if_neg n5, if_pos hk]
   exact (sc_side v1.1 v1.2).sp (sc_how v2.1 v2.2)
 · have n1 : ¬ (h.kind = 1 ∨ h.kind = 2 ∨ h.kind = 12) := by omega
   have n2 : ¬ (h.kind = 3 ∨ h.kind = 5 ∨ h.kind = 14) := by omega
   have n3 : ¬ h.kind = 4 := by omega
   have n4 : ¬ h.kind = 6 := by omega
   have n5 : ¬ (h.kind = 7 ∨ h.kind = 9) := by omega
   have n6 : ¬ h.kind = 8 := by omega
   simp only [if_neg n1, if_neg n2, if_neg n3, if_neg n4, if_neg n5, if_neg n6]
   exact (sc_side v1.1 v1.2).sp (sc_toT v2)
theorem sc_blk {X : List Int} {T : List PT} (h : Scn true X T) : Scn true (lBlk X) (tBlk T) := by
 have h2 : Scn true (32 :: (X ++ [125])) (T ++ [pM Yw]) := (h.then sc_unbrace).lead
 exact sc_brace.then h2
theorem sc_acts : ∀ (x : Acs) (d : Nat), Zar d x → Scn true (lActs x) (Xw x)
 | .nil, d, _ => Scn.nil
 | .cons h t e r, d, hv => by
   have hk := acts_kind hv
   obtain ⟨v, vr⟩ := hv
   have ir := sc_acts r d vr
   rw [lActs, Xw]
   suffices ha : Scn true (lAct h (lActs t) (lActs e) e.isNil) (tAct h (Xw t) (Xw e) e.isNil) from ha.sp ir
   unfold lAct tAct
   have key : ∀ X T, Scn true X T → Scn true (bL (wd Yr h.kind) ++ 32 :: X) (pw Yr h.kind :: T) := fun X T hh => (sc_act hk.1 hk.2).sp hh
   refine key _ _ ?_
   rcases v with ⟨_, vc, vt, ve⟩ | ⟨_, vc, vt, rfl⟩ | ⟨vp, rfl, rfl⟩
   · have h10 := vc.kind
     simp only [if_pos h10]
     have it := sc_blk (sc_acts t _ vt)
     have ie := sc_blk (sc_acts e _ ve)
     have el : Scn true (lElse e.isNil (lActs e)) (tElse e.isNil (Xw e)) := by
       unfold lElse tElse
       split
       · exact Scn.nil
       · exact (sc_else.sp ie).lead
     exact (sc_ex _ vc.2.2.1.1).sp ((sc_op vc.2.1.1 vc.2.1.2).sp ((sc_ex _ vc.2.2.2.1).sp (it.then el)))
   · have h11 := vc.kind
     have n10 : ¬ h.kind = 10 := by omega
     simp only [if_neg n10, if_pos h11]
     exact (sc_selT vc.2).sp (sc_blk (sc_acts t _ vt))
   · have hkp := vp.kind.2.2
     simp only [if_neg hkp.1, if_neg hkp.2]
     exact (sc_args vp).app sc_semi (.inr ⟨59, [], rfl, .inr (.inr (.inr rfl))⟩)
def lRu (r : Ru) : List Int := bL (wd Yd r.when_) ++ ((if r.when_ = 5 then 32 :: Zai r.stratum else []) ++ 32 :: lBlk (lActs r.acts))
def lRus (l : List Ru) : List Int := l.flatMap fun r => lRu r ++ [32]
def lBody (l : List Ru) : List Int := 123 :: 32 :: (lRus l ++ [125])
def lCa (c : Ca) : List Int := bL (wd Ys 1) ++ 32 :: (lName c.name ++ 32 :: (bL Jn ++ 32 :: (Zai c.cost ++ 32 :: (bL Ut ++ 32 :: (Zai c.power ++ 32 :: lBody c.rules)))))
def lPl (p : Pl) : List Int := bL (wd Ys 2) ++ 32 :: (lName p.name ++ 32 :: lBody p.rules)
def lFi (f : Fi) : List Int := (f.cards.flatMap fun c => lCa c ++ [10]) ++ f.places.flatMap fun p => lPl p ++ [10]
theorem sc_ru {r : Ru} (hv : VRu r) : Scn true (lRu r) (tRu r) := by
 obtain ⟨h1, h2, h3, h4⟩ := hv
 have e1 := (sc_blk (sc_acts r.acts 0 h4)).lead
 unfold lRu tRu tStr
 split
 · exact (sc_when h1.1 h1.2).app (((sc_int h2.1 h2.2).app e1 (.inr ⟨32, _, rfl, .inl rfl⟩)).lead) (.inr ⟨32, _, rfl, .inl rfl⟩)
 · exact (sc_when h1.1 h1.2).app e1 (.inr ⟨32, _, rfl, .inl rfl⟩)
theorem sc_rus : ∀ l : List Ru, (∀ r ∈ l, VRu r) → Scn true (lRus l) (tRus l)
 | [], _ => Scn.nil
 | r :: l, hv => by
   have h := (sc_ru (hv r (by simp))).sp (sc_rus l (fun q hq => hv q (by simp [hq])))
   have e : lRus (r :: l) = lRu r ++ 32 :: lRus l := by unfold lRus; simp
   rw [e, tRus_cons]; exact h
theorem sc_body {l : List Ru} (hv : ∀ r ∈ l, VRu r) : Scn true (lBody l) (tBody l) := sc_blk (sc_rus l hv)
theorem sc_ca {c : Ca} (hv : VCa c) : Scn true (lCa c) (tCa c) :=
 (sc_file (by decide) (by decide)).sp ((sc_name hv.1).sp (sc_cost.sp ((sc_int hv.2.1.1 hv.2.1.2).sp (sc_power.sp ((sc_sign hv.2.2.1.1 hv.2.2.1.2).sp (sc_body hv.2.2.2))))))
theorem sc_pl {p : Pl} (hv : VPl p) : Scn true (lPl p) (tPl p) := (sc_file (by decide) (by decide)).sp ((sc_name hv.1).sp (sc_body hv.2))
theorem sc_all {α : Type} (f : α → List Int) (g : α → List PT) : ∀ l : List α, (∀ x ∈ l, Scn true (f x) (g x)) → Scn true (l.flatMap fun x => f x ++ [10]) (l.flatMap g)
 | [], _ => Scn.nil
 | x :: l, h => by
   rw [List.flatMap_cons, List.flatMap_cons, List.append_assoc]
   refine (h x (by simp)).then ?_
   exact (Scn.blank (.inr rfl)).then (sc_all f g l (fun y hy => h y (by simp [hy])))
theorem sc_fi {f : Fi} (hv : VFi f) : Scn true (lFi f) (tFi f) :=
 (sc_all lCa tCa f.cards (fun c hc => sc_ca (hv.1 c hc))).then (sc_all lPl tPl f.places (fun p hp => sc_pl (hv.2 p hp)))
theorem lAct_sim {x y : AH} (h : AHSim false x y) (t e : List Int) (no : Bool) : lAct x t e no = lAct y t e no := by
 obtain ⟨h, _⟩ := h
 rw [h]; rfl
theorem lActs_sim (x : Acs) : ∀ y : Acs, Uo false x y → lActs x = lActs y := by
 induction x with
 | nil =>
   intro y h
   cases y with
   | nil => rfl
   | cons h' t' e' r' => exact h.elim
 | cons h t e r it ie ir =>
   intro y hs
   cases y with
   | nil => exact hs.elim
   | cons h' t' e' r' =>
     obtain ⟨h1, h2, h3, h4⟩ := hs
     rw [lActs, lActs, lAct_sim h1, it t' h2, ie e' h3, ir r' h4, Uo.isNil h3]
theorem lRus_sim : ∀ (x y : List Ru), RusSim false x y → lRus x = lRus y
 | [], [], _ => rfl
 | x :: l, y :: m, h => by
   have e : lRu x = lRu y := by unfold lRu; rw [h.1.1, h.1.2.1, lActs_sim _ _ h.1.2.2.2]
   have e2 : ∀ (z : Ru) (k : List Ru), lRus (z :: k) = lRu z ++ [32] ++ lRus k := fun z k => by unfold lRus; simp
   rw [e2, e2, e, lRus_sim l m h.2]
theorem lCas_sim : ∀ (x y : List Ca), CasSim false x y → (x.flatMap fun c => lCa c ++ [10]) = y.flatMap fun c => lCa c ++ [10]
 | [], [], _ => rfl
 | x :: l, y :: m, h => by
   obtain ⟨⟨h1, h2, h3, _, h4⟩, hl⟩ := h
   have e : lCa x = lCa y := by unfold lCa lBody; rw [h1, h2, h3, lRus_sim _ _ h4]
   rw [List.flatMap_cons, List.flatMap_cons, e, lCas_sim l m hl]
theorem lPls_sim : ∀ (x y : List Pl), PlsSim false x y → (x.flatMap fun c => lPl c ++ [10]) = y.flatMap fun c => lPl c ++ [10]
 | [], [], _ => rfl
 | x :: l, y :: m, h => by
   obtain ⟨⟨h1, _, h4⟩, hl⟩ := h
   have e : lPl x = lPl y := by unfold lPl lBody; rw [h1, lRus_sim _ _ h4]
   rw [List.flatMap_cons, List.flatMap_cons, e, lPls_sim l m hl]
theorem lFi_sim {x y : Fi} (h : FiSim false x y) : lFi x = lFi y := by unfold lFi; rw [lCas_sim _ _ h.1, lPls_sim _ _ h.2]
end Go.Proofs.YtljdgdphldckhaaGreat
