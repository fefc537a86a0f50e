/-
  Texts PutL. No conditions but those that each theorem names.
-/
import Derived.Test.YtljdgdphldckhaaGreatQB32
import Derived.Test.YtljdgdphldckhaaGreatQB36
namespace Go.Proofs.YtljdgdphldckhaaGreat
open Go
set_option linter.unusedSimpArgs false
set_option linter.unusedVariables false
def sp (lo : Bool) : List Int := if lo = true then [32] else []
def Vi (k : List ByteArray) (l : List Int) : Prop := ∀ s : List Int × Bool, Zl s k = (s.1 ++ sp s.2 ++ l, true)
def Zbd (k : List ByteArray) (l : List Int) : Prop := ∀ s : List Int × Bool, s.2 = true → Zl s k = (s.1 ++ l, true)
def PutsA (k : List ByteArray) (l : List Int) : Prop := ∀ s : List Int × Bool, s.2 = true → (Zl s k).1 ++ [32] = s.1 ++ 32 :: l ∧ (Zl s k).2 = true
def plainT (t : ByteArray) : Bool := decide (bL t ≠ [59]) && decide (bL t ≠ [41]) && decide (bL t ≠ [40])
theorem putsB_one (s : List Int × Bool) (t : ByteArray) : Zl s [t] = put1 s (bL t) := rfl
theorem Xy {t : ByteArray} (h : plainT t = true) : Vi [t] (bL t) := by
 intro s
 unfold plainT at h
 simp only [Bool.and_eq_true, decide_eq_true_eq] at h
 obtain ⟨⟨h1, h2⟩, h3⟩ := h
 obtain ⟨x, lo⟩ := s
 rw [putsB_one]
 unfold put1 spB sp
 cases lo <;> simp [h1, h2, h3]
theorem Vi.lead {k : List ByteArray} {l : List Int} (h : Vi k l) : Zbd k (32 :: l) := by
 intro s hs
 rw [h s, hs]
 simp [sp]
theorem Zbd.nil : Zbd [] [] := by
 intro s hs
 obtain ⟨x, lo⟩ := s
 cases hs
 simp [Zl, putsF]
theorem Zbd.app {k1 k2 : List ByteArray} {l1 l2 : List Int} (h1 : Zbd k1 l1) (h2 : Zbd k2 l2) : Zbd (k1 ++ k2) (l1 ++ l2) := by
 intro s hs
 rw [Zw, h1 s hs, h2 _ rfl]
 simp
theorem Vi.then {k1 k2 : List ByteArray} {l1 l2 : List Int} (h1 : Vi k1 l1) (h2 : Zbd k2 l2) : Vi (k1 ++ k2) (l1 ++ l2) := by
 intro s
 rw [Zw, h1 s, h2 _ rfl]
 simp
theorem Vi.seq {k1 k2 : List ByteArray} {l1 l2 : List Int} (h1 : Vi k1 l1) (h2 : Vi k2 l2) : Vi (k1 ++ k2) (l1 ++ 32 :: l2) := h1.then h2.lead
theorem b_close : bL Wi = [41] := by decide +kernel
theorem b_open : bL Wh = [40] := by decide +kernel
theorem b_semi : bL sSemi = [59] := by decide +kernel
theorem Vi.close {k : List ByteArray} {l : List Int} (h : Vi k l) : Vi (k ++ [Wi]) (l ++ [41]) := by
 intro s
 rw [Zw, h s, putsB_one, b_close]
 simp [put1, spB]
theorem Zbd.close {k : List ByteArray} {l : List Int} (h : Zbd k l) : Zbd (k ++ [Wi]) (l ++ [41]) := by
 intro s hs
 rw [Zw, h s hs, putsB_one, b_close]
 simp [put1, spB]
theorem Vi.semi {k : List ByteArray} {l : List Int} (h : Vi k l) : Vi (k ++ [sSemi]) (l ++ [59]) := by
 intro s
 rw [Zw, h s, putsB_one, b_semi]
 simp [put1, spB]
theorem Vi.opened {k : List ByteArray} {l : List Int} (h : Vi k l) : Vi ([Wh] ++ k) (40 :: l) := by
 intro s
 obtain ⟨x, lo⟩ := s
 rw [Zw, putsB_one, b_open, h]
 cases lo <;> simp [put1, spB, sp]
theorem PutsA.nil : PutsA [] [] := fun s hs => ⟨by simp [Zl, putsF], by simpa [Zl, putsF] using hs⟩
theorem PutsA.cons {k1 k2 : List ByteArray} {l1 l2 : List Int} (h1 : Vi k1 l1) (h2 : PutsA k2 l2) : PutsA (k1 ++ k2) (l1 ++ 32 :: l2) := by
 intro s hs
 rw [Zw, h1 s, hs]
 obtain ⟨a, b⟩ := h2 (s.1 ++ sp true ++ l1, true) rfl
 refine ⟨?_, b⟩
 rw [a]
 simp [sp]
theorem puts_brace : bL Yv = [123] := by decide +kernel
theorem puts_unbrace : bL Yw = [125] := by decide +kernel
theorem PutsA.block {k : List ByteArray} {l : List Int} (h : PutsA k l) : Vi ([Yv] ++ (k ++ [Yw])) (123 :: 32 :: (l ++ [125])) := by
 intro s
 rw [Zw, Xy (by decide +kernel : plainT Yv = true) s, Zw]
 obtain ⟨a, b⟩ := h (s.1 ++ sp s.2 ++ bL Yv, true) rfl
 generalize Zl (s.1 ++ sp s.2 ++ bL Yv, true) k = q at *
 obtain ⟨x, lo⟩ := q
 cases b
 rw [Xy (by decide +kernel : plainT Yw = true)]
 rw [puts_brace] at a
 rw [puts_unbrace]
 simp only at a ⊢
 have e : sp true = [32] := rfl
 rw [e, a]
 simp
theorem Vq : ∀ ws : List ByteArray, (ws.all plainT = true) → ∀ k : Int, 1 ≤ k → k ≤ ws.length → plainT (wd ws k) = true := by
 intro ws h k h1 h2
 have hl : k.toNat - 1 < ws.length := by omega
 have e : wd ws k = ws[k.toNat - 1] := by unfold wd; rw [List.getElem?_eq_getElem hl]; rfl
 rw [e]
 exact List.all_eq_true.1 h _ (List.getElem_mem hl)
theorem pw_sel {k : Int} (h1 : 1 ≤ k) (h2 : k ≤ 2) : Vi [wd Vj k] (bL (wd Vj k)) := by
 have h : k = 1 ∨ k = 2 := by omega
 rcases h with rfl | rfl
 · exact Xy (by decide +kernel)
 · exact Xy (by decide +kernel)
theorem pw_side {k : Int} (h : 1 ≤ k ∧ k ≤ 3) : Vi [wd Zk k] (bL (wd Zk k)) := Xy (Vq Zk (by decide +kernel) k h.1 (by show _ ≤ ((3 : Nat) : Int); omega))
theorem pw_where {k : Int} (h : 1 ≤ k ∧ k ≤ 4) : Vi [wd Yy k] (bL (wd Yy k)) := Xy (Vq Yy (by decide +kernel) k h.1 (by show _ ≤ ((4 : Nat) : Int); omega))
theorem pw_filter {k : Int} (h : 1 ≤ k ∧ k ≤ 4) : Vi [wd Zq k] (bL (wd Zq k)) := Xy (Vq Zq (by decide +kernel) k h.1 (by show _ ≤ ((4 : Nat) : Int); omega))
theorem pw_meit {k : Int} (h : 1 ≤ k ∧ k ≤ 2) : Vi [wd Ww k] (bL (wd Ww k)) := Xy (Vq Ww (by decide +kernel) k h.1 (by show _ ≤ ((2 : Nat) : Int); omega))
theorem pw_pick {k : Int} (h : 1 ≤ k ∧ k ≤ 5) : Vi [wd Wq k] (bL (wd Wq k)) := Xy (Vq Wq (by decide +kernel) k h.1 (by show _ ≤ ((5 : Nat) : Int); omega))
theorem pw_to {k : Int} (h : 1 ≤ k ∧ k ≤ 4) : Vi [wd wTo k] (bL (wd wTo k)) := Xy (Vq wTo (by decide +kernel) k h.1 (by show _ ≤ ((4 : Nat) : Int); omega))
theorem pw_how {k : Int} (h : 1 ≤ k ∧ k ≤ 4) : Vi [wd Zav k] (bL (wd Zav k)) := Xy (Vq Zav (by decide +kernel) k h.1 (by show _ ≤ ((4 : Nat) : Int); omega))
theorem pw_op {k : Int} (h : 1 ≤ k ∧ k ≤ 6) : Vi [wd wOp k] (bL (wd wOp k)) := Xy (Vq wOp (by decide +kernel) k h.1 (by show _ ≤ ((6 : Nat) : Int); omega))
theorem pw_fact {k : Int} (h : 1 ≤ k ∧ k ≤ 5) : Vi [wd Yj k] (bL (wd Yj k)) := Xy (Vq Yj (by decide +kernel) k h.1 (by show _ ≤ ((5 : Nat) : Int); omega))
theorem pw_act {k : Int} (h : 1 ≤ k ∧ k ≤ 15) : Vi [wd Yr k] (bL (wd Yr k)) := Xy (Vq Yr (by decide +kernel) k h.1 (by show _ ≤ ((15 : Nat) : Int); omega))
theorem pw_when {k : Int} (h : 1 ≤ k ∧ k ≤ 6) : Vi [wd Yd k] (bL (wd Yd k)) := Xy (Vq Yd (by decide +kernel) k h.1 (by show _ ≤ ((6 : Nat) : Int); omega))
theorem pw_file {k : Int} (h : 1 ≤ k ∧ k ≤ 2) : Vi [wd Ys k] (bL (wd Ys k)) := Xy (Vq Ys (by decide +kernel) k h.1 (by show _ ≤ ((2 : Nat) : Int); omega))
theorem pw_num {n : Int} (h1 : -99 ≤ n) (h2 : n ≤ 99) : Vi [Vc n] (Zai n) := by
 have h : ∀ i : Fin 199, plainT (Vc ((i.val : Nat) - 99 : Int)) = true ∧ bL (Vc ((i.val : Nat) - 99 : Int)) = Zai ((i.val : Nat) - 99 : Int) := by decide +kernel
 have := h ⟨(n + 99).toNat, by omega⟩
 rw [show (((n + 99).toNat : Nat) - 99 : Int) = n from by omega] at this
 have p := Xy this.1
 rwa [this.2] at p
theorem bL_appQ (s t : ByteArray) : bL (s ++ t) = bL s ++ bL t := by
 have h1 := bL_bd s
 have h2 := bL_bd t
 have e : strOfNums (bL s ++ bL t) = s ++ t := by
   conv => rhs; rw [← str_bL s, ← str_bL t]
   unfold strOfNums
   apply ByteArray.ext
   simp [ByteArray.data_append]
 rw [← e]
 exact bL_str _ (by intro x hx; rcases List.mem_append.1 hx with hx | hx; exact h1 x hx; exact h2 x hx)
theorem pw_name (nm : ByteArray) : Vi [qN nm] (lName nm) := by
 have e : bL (qN nm) = lName nm := by
   unfold qN lName
   rw [bL_appQ, bL_appQ, show bL (⟨#[34]⟩ : ByteArray) = [34] from by decide +kernel]
   simp
 have hp : plainT (qN nm) = true := by
   unfold plainT
   rw [e]
   unfold lName
   simp
 have := Xy hp
 rwa [e] at this
theorem pk_fl {f : Fl} (hv : VFl f) : Vi (kFl f) (lFl f) := by
 unfold kFl lFl
 rcases hv with ⟨hk, ho, hn, _⟩ | ⟨hk, _, _, hm⟩ | ⟨hk, _⟩
 · simp only [if_pos hk]
   exact (pw_filter (k := f.kind) (by omega)).seq ((pw_op ho).seq (pw_num hn.1 hn.2))
 · have n1 : ¬ (f.kind = 1 ∨ f.kind = 2) := by omega
   simp only [if_neg n1, if_pos hk]
   exact (pw_filter (by decide)).seq (pw_name _)
 · have n1 : ¬ (f.kind = 1 ∨ f.kind = 2) := by omega
   have n2 : ¬ f.kind = 3 := by omega
   simp only [if_neg n1, if_neg n2]
   exact (pw_filter (by decide)).seq (pw_meit (by omega))
theorem pk_fls : ∀ {l : List Fl}, (∀ f ∈ l, VFl f) → Zbd (kFls l) (lFls l)
 | [], _ => Zbd.nil
 | f :: l, h => (pk_fl (h f (by simp))).lead.app (pk_fls fun g hg => h g (by simp [hg]))
theorem pk_sel {s : Se} (hv : VSe s) : Vi (kSel s) (lSel s) := by
 unfold kSel lSel
 rcases hv with ⟨hk, _⟩ | ⟨hk, h1, h2, h3, h4, h5, h6⟩
 · simp only [if_pos hk]
   exact pw_sel (by omega) (by omega)
 · have n1 : ¬ (s.kind = 1 ∨ s.kind = 2) := by omega
   simp only [if_neg n1]
   have hl : Zbd (if s.wh = 3 then [Vc s.lane] else []) (if s.wh = 3 then 32 :: Zai s.lane else []) := by
     split
     · exact (pw_num (by omega) (by omega)).lead
     · exact Zbd.nil
   have hp : Zbd ([wd Wq s.pick] ++ [Wi]) (32 :: (bL (wd Wq s.pick) ++ [41])) := (pw_pick h6).lead.close
   have := ((pw_side h1).then (((pw_where h2).lead.app (hl.app ((pk_fls h5).app hp))))).opened
   have e1 : ([⟨#[40]⟩] ++ [wd Zk s.side, wd Yy s.wh] ++ (if s.wh = 3 then [Vc s.lane] else []) ++ kFls s.fs ++ [wd Wq s.pick, ⟨#[41]⟩] : List ByteArray) = [Wh] ++ ([wd Zk s.side] ++ ([wd Yy s.wh] ++ ((if s.wh = 3 then [Vc s.lane] else []) ++ (kFls s.fs ++ ([wd Wq s.pick] ++ [Wi]))))) := by
     simp [Wh, Wi]
   rw [e1]
   simpa using this
theorem pk_to {k l : Int} (hv : VTo k l) : Vi (kTo k l) (lTo k l) := by
 unfold kTo lTo
 rcases hv with ⟨hk, _⟩ | ⟨rfl, hl⟩
 · have n1 : ¬ k = 4 := by omega
   simp only [if_neg n1, List.append_nil]
   exact pw_to (by omega)
 · simp only [if_true]
   exact (pw_to (by decide)).seq (pw_num (by omega) (by omega))
theorem pk_leaf {kind n : Int} {sel : Se} {side tk tl : Int} (hv : VLeaf kind n sel side tk tl) : Vi (kLeaf kind n sel side tk tl) (lLeaf kind n sel side tk tl) := by
 unfold kLeaf lLeaf
 rcases hv with ⟨hk, hn, _⟩ | ⟨hk, _, hs, _⟩ | ⟨hk, _⟩ | ⟨hk, _, _, hs, _⟩ | ⟨hk, _, _, hs, ht⟩
 · simp only [if_pos hk]; exact pw_num hn.1 hn.2
 · have n1 : ¬ kind = 1 := by omega
   simp only [if_neg n1, if_pos hk]
   exact (pw_fact (by omega)).seq (pk_sel hs)
 · have n1 : ¬ kind = 1 := by omega
   have n2 : ¬ (kind = 2 ∨ kind = 3) := by omega
   simp only [if_neg n1, if_neg n2, if_pos hk]
   exact pw_fact (by decide)
 · have n1 : ¬ kind = 1 := by omega
   have n2 : ¬ (kind = 2 ∨ kind = 3) := by omega
   have n3 : ¬ kind = 4 := by omega
   simp only [if_neg n1, if_neg n2, if_neg n3, if_pos hk]
   exact (pw_fact (by decide)).seq (pw_side hs)
 · have n1 : ¬ kind = 1 := by omega
   have n2 : ¬ (kind = 2 ∨ kind = 3) := by omega
   have n3 : ¬ kind = 4 := by omega
   have n4 : ¬ kind = 5 := by omega
   simp only [if_neg n1, if_neg n2, if_neg n3, if_neg n4]
   exact (pw_fact (by decide)).seq ((pw_side hs).seq (pk_to ht))
theorem pk_b {b : Bool} {k : List ByteArray} {l : List Int} (h : Vi k l) : Vi (kB b k) (lB b l) := by
 unfold kB lB
 split
 · exact h.close.opened
 · exact h
theorem pw_sign {op : Int} (h1 : 1 ≤ op) (h2 : op ≤ 3) : Vi [wd wSign op] [cOp op] := by
 have h : op = 1 ∨ op = 2 ∨ op = 3 := by omega
 rcases h with rfl | rfl | rfl
 · exact Xy (t := ⟨#[43]⟩) (by decide +kernel)
 · exact Xy (t := ⟨#[45]⟩) (by decide +kernel)
 · exact Xy (t := ⟨#[42]⟩) (by decide +kernel)
theorem pk_ex : ∀ x : Ex, VEx x → Vi (kEx x) (lE x)
 | .leaf kind n sel side tk tl, hv => pk_leaf hv
 | .bin op l r, hv => (pk_b (b := Vs false op l) (pk_ex l hv.2.1)).seq ((pw_sign hv.1.1 hv.1.2).seq (pk_b (b := Vs true op r) (pk_ex r hv.2.2)))
theorem pk_args {h : AH} {d : Nat} (hv : VPlain d h) : Vi (Zaq h) (lArgs h) := by
 unfold Zaq lArgs
 rcases hv with ⟨hk, _, v1, v2, _⟩ | ⟨hk, _, v1⟩ | ⟨hk, _, v1, v2⟩ | ⟨hk, _, v1, v2, v3, v4, _⟩ | ⟨hk, _, v1, v2, _⟩ | ⟨hk, _, v1, v2⟩ | ⟨hk, _, v1, v2⟩
 · simp only [if_pos hk]
   exact (pk_sel v1).seq (pk_ex _ v2)
 · have n1 : ¬ (h.kind = 1 ∨ h.kind = 2 ∨ h.kind = 12) := by omega
   simp only [if_neg n1, if_pos hk]
   exact pk_sel v1
 · have n1 : ¬ (h.kind = 1 ∨ h.kind = 2 ∨ h.kind = 12) := by omega
   have n2 : ¬ (h.kind = 3 ∨ h.kind = 5 ∨ h.kind = 14) := by omega
   simp only [if_neg n1, if_neg n2, if_pos hk]
   exact (pk_sel v1).seq (pk_to v2)
 · have n1 : ¬ (h.kind = 1 ∨ h.kind = 2 ∨ h.kind = 12) := by omega
   have n2 : ¬ (h.kind = 3 ∨ h.kind = 5 ∨ h.kind = 14) := by omega
   have n3 : ¬ (h.kind = 4) := by omega
   simp only [if_neg n1, if_neg n2, if_neg n3, if_pos hk]
   exact (pw_name _).seq ((pw_side v2).seq ((pk_to v3).seq (pk_ex _ v4)))
 · have n1 : ¬ (h.kind = 1 ∨ h.kind = 2 ∨ h.kind = 12) := by omega
   have n2 : ¬ (h.kind = 3 ∨ h.kind = 5 ∨ h.kind = 14) := by omega
   have n3 : ¬ (h.kind = 4) := by omega
   have n4 : ¬ (h.kind = 6) := by omega
   simp only [if_neg n1, if_neg n2, if_neg n3, if_neg n4, if_pos hk]
   exact (pw_side v1).seq (pk_ex _ v2)
 · have n1 : ¬ (h.kind = 1 ∨ h.kind = 2 ∨ h.kind = 12) := by omega
   have n2 : ¬ (h.kind = 3 ∨ h.kind = 5 ∨ h.kind = 14) := by omega
   have n3 : ¬ (h.kind = 4) := by omega
   have n4 : ¬ (h.kind = 6) := by omega
   have n5 : ¬ (h.kind = 7 ∨ h.kind = 9) := by omega
   simp only [if_neg n1, if_neg n2, if_neg n3, if_neg n4, if_neg n5, if_pos hk]
   exact (pw_side v1).seq (pw_how v2)
 · have n1 : ¬ (h.kind = 1 ∨ h.kind = 2 ∨ h.kind = 12) := by omega
   have n2 : ¬ (h.kind = 3 ∨ h.kind = 5 ∨ h.kind = 14) := by omega
   have n3 : ¬ (h.kind = 4) := by omega
   have n4 : ¬ (h.kind = 6) := by omega
   have n5 : ¬ (h.kind = 7 ∨ h.kind = 9) := by omega
   have n6 : ¬ (h.kind = 8) := by omega
   simp only [if_neg n1, if_neg n2, if_neg n3, if_neg n4, if_neg n5, if_neg n6]
   exact (pw_side v1).seq (pk_to v2)
theorem pw_else : Vi [Wx] (bL Wx) := Xy (by decide +kernel)
theorem pk_acts : ∀ (x : Acs) (d : Nat), Zar d x → PutsA (Uw x) (lActs x)
 | .nil, d, _ => PutsA.nil
 | .cons h t e r, d, hv => by
   have hk := acts_kind hv
   obtain ⟨v, vr⟩ := hv
   rw [Uw, lActs]
   refine PutsA.cons ?_ (pk_acts r d vr)
   unfold kAct lAct
   refine (pw_act hk).seq ?_
   rcases v with ⟨_, vc, vt, ve⟩ | ⟨_, vc, vt, rfl⟩ | ⟨vp, rfl, rfl⟩
   · have h10 := vc.kind
     simp only [if_pos h10]
     have it := (pk_acts t _ vt).block
     have ie := (pk_acts e _ ve).block
     have el : Zbd (kElse e.isNil (Uw e)) (lElse e.isNil (lActs e)) := by
       unfold kElse lElse
       split
       · exact Zbd.nil
       · exact (pw_else.seq ie).lead
     have hc : Vi (kCond h) (lE h.cl ++ 32 :: (bL (wd wOp h.cop) ++ 32 :: lE h.cr)) := (pk_ex _ vc.2.2.1.1).seq ((pw_op vc.2.1).seq (pk_ex _ vc.2.2.2.1))
     have := hc.seq (it.then el)
     simpa [lBlk, kBlk] using this
   · have h11 := vc.kind
     have n10 : ¬ h.kind = 10 := by omega
     simp only [if_neg n10, if_pos h11]
     exact (pk_sel vc.2).seq (pk_acts t _ vt).block
   · have hkp := vp.kind.2.2
     simp only [if_neg hkp.1, if_neg hkp.2]
     exact (pk_args vp).semi
theorem pk_ru {r : Ru} (hv : VRu r) : Vi (kRu r) (lRu r) := by
 obtain ⟨h1, h2, h3, h4⟩ := hv
 unfold kRu lRu
 have hl : Zbd (if r.when_ = 5 then [Vc r.stratum] else []) (if r.when_ = 5 then 32 :: Zai r.stratum else []) := by
   split
   · exact (pw_num (by omega) (by omega)).lead
   · exact Zbd.nil
 exact (pw_when h1).then (hl.app (pk_acts r.acts 0 h4).block.lead)
theorem pk_rus : ∀ l : List Ru, (∀ r ∈ l, VRu r) → PutsA (l.flatMap kRu) (lRus l)
 | [], _ => PutsA.nil
 | r :: l, hv => by
   have h := PutsA.cons (pk_ru (hv r (by simp))) (pk_rus l fun q hq => hv q (by simp [hq]))
   have e : lRus (r :: l) = lRu r ++ 32 :: lRus l := by unfold lRus; simp
   rw [e, List.flatMap_cons]; exact h
theorem pk_body {l : List Ru} (hv : ∀ r ∈ l, VRu r) : Vi (kBody l) (lBody l) := (pk_rus l hv).block
theorem pw_cost : Vi [Jn] (bL Jn) := Xy (by decide +kernel)
theorem pw_power : Vi [Ut] (bL Ut) := Xy (by decide +kernel)
theorem pk_ca {c : Ca} (hv : VCa c) : Vi (kCa c) (lCa c) :=
 (pw_file (k := 1) (by decide)).seq ((pw_name c.name).seq (pw_cost.seq ((pw_num (n := c.cost) (by have := hv.2.1; omega) (by have := hv.2.1; omega)).seq (pw_power.seq ((pw_num hv.2.2.1.1 hv.2.2.1.2).seq (pk_body hv.2.2.2))))))
theorem pk_pl {p : Pl} (hv : VPl p) : Vi (kPl p) (lPl p) := (pw_file (k := 2) (by decide)).seq ((pw_name p.name).seq (pk_body hv.2))
def fdS (s : List Int × Bool) : List Int × Bool := (s.1 ++ [10], false)
def lineS {α : Type} (k : α → List ByteArray) (s : List Int × Bool) (x : α) : List Int × Bool := fdS (Zl s (k x))
def fileT (s : List Int × Bool) (f : Fi) : List Int × Bool := f.places.foldl (lineS kPl) (f.cards.foldl (lineS kCa) s)
theorem lines_are {α : Type} (k : α → List ByteArray) (l : α → List Int) : ∀ (xs : List α) (t : List Int), (∀ x ∈ xs, Vi (k x) (l x)) → xs.foldl (lineS k) (t, false) = (t ++ xs.flatMap fun x => l x ++ [10], false)
 | [], t, _ => by simp
 | x :: xs, t, h => by
   have e : lineS k (t, false) x = (t ++ (l x ++ [10]), false) := by
     unfold lineS fdS
     rw [h x (by simp) (t, false)]
     simp [sp]
   rw [List.foldl_cons, e, lines_are k l xs _ (fun y hy => h y (by simp [hy]))]
   simp
theorem fileT_is {f : Fi} (hv : VFi f) : fileT ([], false) f = (lFi f, false) := by
 unfold fileT lFi
 rw [lines_are kCa lCa f.cards [] (fun c hc => pk_ca (hv.1 c hc)), lines_are kPl lPl f.places _ (fun p hp => pk_pl (hv.2 p hp))]
 simp
end Go.Proofs.YtljdgdphldckhaaGreat
