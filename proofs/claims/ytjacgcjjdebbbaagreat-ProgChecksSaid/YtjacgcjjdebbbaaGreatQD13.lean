/-
  Texts Prg3. No conditions but those that each theorem names.
-/
import Derived.Test.YtjacgcjjdebbbaaGreatQD12
namespace Go.Proofs.YtjacgcjjdebbbaaGreat
open Go.ChangeShapes Go.WideShapes Go.ChangeAt Go.RowKit
set_option linter.unusedVariables false
set_option linter.unusedSimpArgs false
def hgtF (op h : Int) : Int := if h < tkF op then -1 else h - tkF op + ptF op
set_option maxHeartbeats 3200000 in
theorem pMoves (w : World) (p : Nat) (A B C : Option Addr) (n s m c d g : Nat) (e h t op : Int) (hc : Ck w p A B C n s m c d g e h t) (h0 : 0 ≤ h) (h1 : h ≤ 1000) (ht0 : 0 ≤ t) (ht1 : t ≤ 1000) (o1 : 1 ≤ op) (o2 : op ≤ 26) :
   Calls Tryz.prog 64 #[.pointer (some ⟨p, 0, none⟩), .int .i64 op] w (Stepped w p (Vb op (hgtF op h)) (fun w' => Ck w' p A B C n s m c d g e (hgtF op h) (max t (hgtF op h)))) := by
 have hp : p < w.heap.size := hc.inside
 have HC := Hh hc
 have CS := Hh (fun w => pStack op w o1 o2)
 have htk := tk_bd op
 have hpt := pt_bd op
 have hp9 : 0 < ptF op ↔ op < 10 := by unfold ptF; split <;> omega
 have hhg : hgtF op h = if h < tkF op then -1 else h - tkF op + ptF op := rfl
 have hmv : Vb op (hgtF op h) = decide (0 ≤ hgtF op h ∧ (9 < op → hgtF op h ≤ 0)) := rfl
 generalize hgtF op h = h' at *
 generalize Vb op h' = mv at *
 generalize tkF op = tk at *
 generalize ptF op = pt at *
 clear hc
 by_cases hlt : h < tk
 · rw [if_pos hlt] at hhg
   have HV : Hid (mv = false) := Hh (by rw [hmv, hhg]; simp)
   clear hmv hhg hp9
   go_enter Tryz.func64, Tryz.ntmps64
   go_wp2_with (go_at_call 100; refine (CS.out _).mono ?_; rintro e1 w1 ⟨rfl, b1⟩
                have HC1 := Hh (HC.out.below b1)
                have K1 := Hh (Zg.of_below (S := fun j => j = p) b1)
                obtain ⟨c0, c1, c2, c3, c4, c5, f3, f4, f5⟩ := pwhole6 HC1.out
                clear b1)
   go_ret
   exact ⟨rB HV.out.symm, K1.out, fun c => by rw [HV.out] at c; cases c⟩
 · rw [if_neg hlt] at hhg
   have hh0 : 0 ≤ h' := by omega
   have hge : tk ≤ h := by omega
   have HH := Hh hhg
   by_cases hp0 : 0 < pt
   · have HV : Hid (mv = true) := Hh (by rw [hmv]; simp; omega)
     clear hmv hhg hp9 hlt
     go_enter Tryz.func64, Tryz.ntmps64
     go_wp2_with (go_at_call 100; refine (CS.out _).mono ?_; rintro e1 w1 ⟨rfl, b1⟩
                  have HC1 := Hh (HC.out.below b1)
                  have K1 := Hh (Zg.of_below (S := fun j => j = p) b1)
                  obtain ⟨c0, c1, c2, c3, c4, c5, f3, f4, f5⟩ := pwhole6 HC1.out
                  clear b1)
     go_region
     all_goals go_wp2
     go_ret
     have hv2 : h + (pt - tk) = h' := by have := HH.out; omega
     rw [hv2]
     exact ⟨rB HV.out.symm, ((K1.out.setCell (p := ⟨p, 4, none⟩) rfl _).setCell (p := ⟨p, 5, none⟩) rfl _).drew, fun _ => ((HC1.out.setH _).setT _).drewN 1⟩
   · obtain rfl : pt = 0 := by omega
     have o9 : 9 < op := by omega
     have HM : Hid (mv = decide (h' ≤ 0)) := Hh (by rw [hmv]; simp [hh0, o9])
     clear hmv hhg hp9 hlt
     go_enter Tryz.func64, Tryz.ntmps64
     go_wp2_with (go_at_call 100; refine (CS.out _).mono ?_; rintro e1 w1 ⟨rfl, b1⟩
                  have HC1 := Hh (HC.out.below b1)
                  have K1 := Hh (Zg.of_below (S := fun j => j = p) b1)
                  obtain ⟨c0, c1, c2, c3, c4, c5, f3, f4, f5⟩ := pwhole6 HC1.out
                  clear b1)
     go_region
     all_goals go_wp2
     go_ret
     have hv2 : h + -tk = h' := by have := HH.out; omega
     have hb : (h' == 0) = mv := by rw [HM.out, Bool.eq_iff_iff]; simp; omega
     simp only [hv2]
     exact ⟨rB hb, ((K1.out.setCell (p := ⟨p, 4, none⟩) rfl _).setCell (p := ⟨p, 5, none⟩) rfl _).drew, fun _ => ((HC1.out.setH _).setT _).drewN 1⟩
set_option maxHeartbeats 3200000 in
theorem pExecute (w : World) (p : Nat) (A B C : Option Addr) (n s m c d g k : Nat) (e h t bb : Int) (x : IV) (hc : Ck w p A B C n s m c d g e h t) (hn : n ≤ 1000) (hs : (s : Int) ≤ 1000) (hm : (m : Int) ≤ 1000) (hk : k < n)
   (he : e = -1 ∨ ∃ j : Nat, e = j ∧ j < k ∧ ∃ y : Addr, A = some y ∧ y.block < w.heap.size ∧ w.cell? ⟨(y.add (j * 4)).block, (y.add (j * 4)).off + 2, none⟩ = some (.int .i64 bb))
   (hbb : -9223372036854775808 ≤ bb ∧ bb ≤ 9223372036854775807) (h0 : 0 ≤ h) (h1 : h ≤ 1000) (ht0 : 0 ≤ t) (ht1 : t ≤ 1000) :
   Calls Tryz.prog 36 #[.pointer (some ⟨p, 0, none⟩), .int .i64 (k : Int), .agg x.cells] w fun r w' => r = .returned (.int .i64 (Vg x n s m k e (hgtF x.op h) bb)) ∧ Zg (fun j => j = p) w w' ∧
     (Vg x n s m k e (hgtF x.op h) bb = 0 → Ck w' p A B C n s m c d g (opnF x.op k e) (hgtF x.op h) (max t (hgtF x.op h))) := by
 have T0 := Hh (OneB.start w 93 x.cells)
 have hp : p < w.heap.size := hc.inside
 have HC := Hh (hc.below T0.out.below)
 have hcr : ∀ w1, Ck w1 p A B C n s m c d g e h t → _ := fun w1 hw => pRefers w1 p A B C n s m c d g e h t x hw hs hm
 have hcl : ∀ w1, Ck w1 p A B C n s m c d g e h t → _ := fun w1 hw => pLeads w1 p A B C n s m c d g k e h t x hw (by omega) hk
 have he1 : ∀ w1, Below w.heap.size w w1 → (e = -1 ∨ ∃ j : Nat, e = j ∧ j < k ∧ ∃ y : Addr, A = some y ∧ y.block < w1.heap.size ∧ w1.cell? ⟨(y.add (j * 4)).block, (y.add (j * 4)).off + 2, none⟩ = some (.int .i64 bb)) := by
   intro w1 hb
   rcases he with h | ⟨j, hj, hjk, y, hA, hy, hcell⟩
   · exact .inl h
   · exact .inr ⟨j, hj, hjk, y, hA, Nat.lt_of_lt_of_le hy hb.size, by rw [hb.cell (p := ⟨(y.add (j * 4)).block, (y.add (j * 4)).off + 2, none⟩) (by rw [Wr]; exact hy)]; exact hcell⟩
 have hcn : ∀ w1, Ck w1 p A B C n s m c d g e h t → Below w.heap.size w w1 → _ := fun w1 hw hb => pNests w1 p A B C n s m c d g k e h t bb x hw hn hk (he1 w1 hb) hbb
 have hcm : ∀ w1 e', Ck w1 p A B C n s m c d g e' h t → 1 ≤ x.op → x.op ≤ 26 → _ := fun w1 e' hw o1 o2 => pMoves w1 p A B C n s m c d g e' h t x.op hw h0 h1 ht0 ht1 o1 o2
 obtain ⟨op, a, b, cc⟩ := x
 unfold IV.cells at T0 HC hcr hcl hcn ⊢
 simp only at T0 HC hcr hcl hcn hcm ⊢
 have hov : Vg ⟨op, a, b, cc⟩ n s m k e (hgtF op h) bb = if op < 1 ∨ 26 < op then 13 else if Wy ⟨op, a, b, cc⟩ s m = false then 12 else if Wz ⟨op, a, b, cc⟩ k n = false then 12 else if Xx op a bb e k = false then 12 else if Vb op (hgtF op h) = false then 16 else 0 := rfl
 obtain ⟨G, hG⟩ : ∃ G, Vg ⟨op, a, b, cc⟩ n s m k e (hgtF op h) bb = G := ⟨_, rfl⟩
 rw [hG] at hov ⊢
 generalize Wy ⟨op, a, b, cc⟩ s m = q1 at *
 generalize Wz ⟨op, a, b, cc⟩ k n = q2 at *
 generalize Xx op a bb e k = q3 at *
 generalize Vb op (hgtF op h) = q4 at *
 generalize opnF op k e = oo at *
 generalize hgtF op h = hh at *
 have CR := Hh hcr
 have CL := Hh hcl
 have CN := Hh hcn
 have CM := Hh hcm
 have K0 := Hh (Zg.of_below (S := fun j => j = p) T0.out.below)
 clear hc hcr hcl hcn hcm he he1 hG
 by_cases hop : op < 1 ∨ 26 < op
 · rw [if_pos hop] at hov
   subst hov
   rcases hop with ho | ho
   all_goals
     go_enter Tryz.func36, Tryz.ntmps36
     go_wp2
     go_ret
     exact ⟨rfl, K0.out, fun c => by cases c⟩
 · rw [if_neg hop] at hov
   have o1 : 1 ≤ op := by omega
   have o26 : op ≤ 26 := by omega
   clear hop
   cases q1 with
   | false =>
     obtain rfl : G = 12 := by simpa using hov
     clear hov
     go_enter Tryz.func36, Tryz.ntmps36
     go_wp2_with (first
 | (go_at_call 61; refine (CR.out _ HC.out).mono ?_; rintro e1 w1 ⟨rfl, b1⟩
    have T1 := Hh (T0.out.next b1)
    have HC1 := Hh (HC.out.below b1)
    obtain ⟨i0, i1, i2, i3⟩ := Yj T1.out.k0
    clear b1))
     go_ret
     exact ⟨rfl, Zg.of_below T1.out.below, fun c => by cases c⟩
   | true =>
   cases q2 with
   | false =>
     obtain rfl : G = 12 := by simpa using hov
     clear hov
     go_enter Tryz.func36, Tryz.ntmps36
     go_wp2_with (first
 | (go_at_call 61; refine (CR.out _ HC.out).mono ?_; rintro e1 w1 ⟨rfl, b1⟩
    have T1 := Hh (T0.out.next b1)
    have HC1 := Hh (HC.out.below b1)
    obtain ⟨i0, i1, i2, i3⟩ := Yj T1.out.k0
    clear b1)
 | (go_at_call 62; refine (CL.out _ HC1.out).mono ?_; rintro e1 w2 ⟨rfl, b2⟩
    have T2 := Hh (T1.out.next b2)
    have HC2 := Hh (HC1.out.below b2)
    obtain ⟨i0, i1, i2, i3⟩ := Yj T2.out.k0
    clear b2))
     go_ret
     exact ⟨rfl, Zg.of_below T2.out.below, fun c => by cases c⟩
   | true =>
   cases q3 with
   | false =>
     obtain rfl : G = 12 := by simpa using hov
     clear hov
     go_enter Tryz.func36, Tryz.ntmps36
     go_wp2_with (first
 | (go_at_call 61; refine (CR.out _ HC.out).mono ?_; rintro e1 w1 ⟨rfl, b1⟩
    have T1 := Hh (T0.out.next b1)
    have HC1 := Hh (HC.out.below b1)
    obtain ⟨i0, i1, i2, i3⟩ := Yj T1.out.k0
    clear b1)
 | (go_at_call 62; refine (CL.out _ HC1.out).mono ?_; rintro e1 w2 ⟨rfl, b2⟩
    have T2 := Hh (T1.out.next b2)
    have HC2 := Hh (HC1.out.below b2)
    obtain ⟨i0, i1, i2, i3⟩ := Yj T2.out.k0
    clear b2)
 | (go_at_call 63; refine (CN.out _ HC2.out T2.out.below).mono ?_; rintro e1 w3 ⟨rfl, k3, h3⟩
    have K3 := Hh ((Zg.of_below (S := fun j => j = p) T2.out.below).trans k3)
    obtain ⟨i0, i1, i2, i3⟩ := Yj (k3.whole T2.out.k0 (show ¬ (w.heap.size = p) by omega))
    have H3 := Hh h3
    clear k3 h3))
     go_ret
     exact ⟨rfl, K3.out, fun c => by cases c⟩
   | true =>
   cases q4 with
   | false =>
     obtain rfl : G = 16 := by simpa using hov
     clear hov
     go_enter Tryz.func36, Tryz.ntmps36
     go_wp2_with (first
 | (go_at_call 61; refine (CR.out _ HC.out).mono ?_; rintro e1 w1 ⟨rfl, b1⟩
    have T1 := Hh (T0.out.next b1)
    have HC1 := Hh (HC.out.below b1)
    obtain ⟨i0, i1, i2, i3⟩ := Yj T1.out.k0
    clear b1)
 | (go_at_call 62; refine (CL.out _ HC1.out).mono ?_; rintro e1 w2 ⟨rfl, b2⟩
    have T2 := Hh (T1.out.next b2)
    have HC2 := Hh (HC1.out.below b2)
    obtain ⟨i0, i1, i2, i3⟩ := Yj T2.out.k0
    clear b2)
 | (go_at_call 63; refine (CN.out _ HC2.out T2.out.below).mono ?_; rintro e1 w3 ⟨rfl, k3, h3⟩
    have K3 := Hh ((Zg.of_below (S := fun j => j = p) T2.out.below).trans k3)
    obtain ⟨i0, i1, i2, i3⟩ := Yj (k3.whole T2.out.k0 (show ¬ (w.heap.size = p) by omega))
    have H3 := Hh (h3 (by simp))
    clear k3 h3)
 | (go_at_call 64; refine (CM.out _ _ H3.out o1 o26).mono ?_; rintro e1 w4 ⟨rfl, k4, h4⟩
    have K4 := Hh (K3.out.trans k4)
    have H4 := Hh h4
    clear k4 h4))
     go_ret
     exact ⟨rfl, K4.out, fun c => by cases c⟩
   | true =>
     obtain rfl : G = 0 := by simpa using hov
     clear hov
     go_enter Tryz.func36, Tryz.ntmps36
     go_wp2_with (first
 | (go_at_call 61; refine (CR.out _ HC.out).mono ?_; rintro e1 w1 ⟨rfl, b1⟩
    have T1 := Hh (T0.out.next b1)
    have HC1 := Hh (HC.out.below b1)
    obtain ⟨i0, i1, i2, i3⟩ := Yj T1.out.k0
    clear b1)
 | (go_at_call 62; refine (CL.out _ HC1.out).mono ?_; rintro e1 w2 ⟨rfl, b2⟩
    have T2 := Hh (T1.out.next b2)
    have HC2 := Hh (HC1.out.below b2)
    obtain ⟨i0, i1, i2, i3⟩ := Yj T2.out.k0
    clear b2)
 | (go_at_call 63; refine (CN.out _ HC2.out T2.out.below).mono ?_; rintro e1 w3 ⟨rfl, k3, h3⟩
    have K3 := Hh ((Zg.of_below (S := fun j => j = p) T2.out.below).trans k3)
    obtain ⟨i0, i1, i2, i3⟩ := Yj (k3.whole T2.out.k0 (show ¬ (w.heap.size = p) by omega))
    have H3 := Hh (h3 (by simp))
    clear k3 h3)
 | (go_at_call 64; refine (CM.out _ _ H3.out o1 o26).mono ?_; rintro e1 w4 ⟨rfl, k4, h4⟩
    have K4 := Hh (K3.out.trans k4)
    have H4 := Hh (h4 (by simp))
    clear k4 h4))
     go_ret
     exact ⟨rfl, K4.out, fun _ => H4.out⟩
end Go.Proofs.YtjacgcjjdebbbaaGreat
