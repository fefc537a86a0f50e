/-
  Texts Lint6. No conditions but those that each theorem names.
-/
import Derived.Test.YtabegjepejgllaaGreatQL35
namespace Go.Proofs.YtabegjepejgllaaGreat
open Go Go.RowKit
set_option linter.unusedVariables false
set_option linter.unusedSimpArgs false
set_option maxRecDepth 20000
set_option maxHeartbeats 3200000
theorem six : ∀ vs : List Value, vs.length = 6 → ∃ a b c d e f, vs = [a, b, c, d, e, f]
 | [a, b, c, d, e, f], _ => ⟨a, b, c, d, e, f, rfl⟩
theorem lPart_else (whn st ln cl : Int) (pl ea : Bool) (A : Option Addr) (rn rk : Nat) (aln acl sd tk tl how cop : Int) (nm : ByteArray) (a0 a1 a2 a3 a4 a5 n0 n1 n2 n3 n4 n5 n6 n7 n8 n9 n10 n11 p0 p1 p2 p3 p4 p5 p6 p7 p8 p9 p10 p11 q0 q1 q2 q3 q4 q5 q6 q7 q8 q9 q10 q11 u v : Value) (k : Int) (w : World) (h1 : (k == 1) = false) (h2 : (k == 2) = false) (h12 : (k == 12) = false) (h3 : (k == 3) = false) (h5 : (k == 5) = false) (h14 : (k == 14) = false) (h11 : (k == 11) = false) (h4 : (k == 4) = false) (h6 : (k == 6) = false) (h7 : (k == 7) = false) (h9 : (k == 9) = false) (h8 : (k == 8) = false) (h13 : (k == 13) = false) (h15 : (k == 15) = false) (h10 : (k == 10) = false) :
   Calls Tryz.prog 217 #[.agg ([.int .i64 whn, .int .i64 st, .int .i64 ln, .int .i64 cl, .slice A rn rk, .bool pl, .bool ea] : List Value).toArray, .agg ([.int .i64 k, .int .i64 aln, .int .i64 acl, a0, a1, a2, a3, a4, a5, n0, n1, n2, n3, n4, n5, n6, n7, n8, n9, n10, n11, .int .i64 sd, .int .i64 tk, .int .i64 tl, .int .i64 how, .string nm, .int .i64 cop, p0, p1, p2, p3, p4, p5, p6, p7, p8, p9, p10, p11, q0, q1, q2, q3, q4, q5, q6, q7, q8, q9, q10, q11, u, v] : List Value).toArray] w fun e w' => e = .returned (.int .i64 0) ∧ Below w.heap.size w w' := by
 have T := Hh (Env.start w)
 go_enter Tryz.func217, Tryz.ntmps217
 go_wp2_with (first
 | ((with_reducible refine Zg 2 ?_); refine wpList_boxE T.out 195 _ ([.int .i64 whn, .int .i64 st, .int .i64 ln, .int .i64 cl, .slice A rn rk, .bool pl, .bool ea]) rfl rfl rfl ?_; intro wa g0 tn; have T := Hh tn; clear tn; obtain ⟨fc0, fc1, fc2, fc3, fc4, fc5, fc6⟩ := Zc (T.out.get 0 rfl))
 | ((with_reducible refine Zg 3 ?_); refine wpList_boxE T.out 57 _ ([.int .i64 k, .int .i64 aln, .int .i64 acl, a0, a1, a2, a3, a4, a5, n0, n1, n2, n3, n4, n5, n6, n7, n8, n9, n10, n11, .int .i64 sd, .int .i64 tk, .int .i64 tl, .int .i64 how, .string nm, .int .i64 cop, p0, p1, p2, p3, p4, p5, p6, p7, p8, p9, p10, p11, q0, q1, q2, q3, q4, q5, q6, q7, q8, q9, q10, q11, u, v]) rfl rfl rfl ?_; intro wb g1 tn; have T := Hh tn; clear tn; obtain ⟨fc0, fc1, fc2, fc3, fc4, fc5, fc6⟩ := Zc (T.out.get 0 rfl); have fd0 : wb.cell? ⟨g1, 0, none⟩ = some (.int .i64 k) := (T.out.get 1 rfl).read 0))
 go_ret
 exact ⟨rfl, T.out.below⟩
section
variable (c : Sc) (st ln cl : Int) (A : Option Addr) (rn rk : Nat)
theorem lParts_any (h : AH) (tn en : Nat) (t e : Ds) (w : World) (N : Nat → Prop) (ys : List Value) (hd : Zi N w (h.dsr tn t en e) ys) :
   Calls Tryz.prog 217 #[.agg (scL c st ln cl A rn rk).toArray, .agg ys.toArray] w fun e w' => e = .returned (.int .i64 (lParts c h)) ∧ Below w.heap.size w w' := by
 obtain ⟨sel, num, pl, pr, thn, els, rfl, h1, h2, h3, h4, _, _⟩ := act_of hd
 clear hd
 have hsel := fun x (hb : Below w.heap.size w x) => lSel_any c st ln cl A rn rk h.sel x N sel (h1.below hb)
 have hnum := fun x (hb : Below w.heap.size w x) => lExpr_any c st ln cl A rn rk h.num x N num (h2.below hb)
 have hcl := fun x (hb : Below w.heap.size w x) => lExpr_any c st ln cl A rn rk h.cl x N pl (h3.below hb)
 have hcr := fun x (hb : Below w.heap.size w x) => lExpr_any c st ln cl A rn rk h.cr x N pr (h4.below hb)
 have hside := fun x => lSide_any c st ln cl A rn rk h.side x
 have hto := fun x => lTo_any h.tk h.tl x
 have e1 : sel.length = 6 := by rw [h1.len, Se.ds_len]
 have e2 : num.length = 12 := by rw [h2.len, Ex.ds_len]
 have e3 : pl.length = 12 := by rw [h3.len, Ex.ds_len]
 have e4 : pr.length = 12 := by rw [h4.len, Ex.ds_len]
 clear h1 h2 h3 h4
 obtain ⟨a0, a1, a2, a3, a4, a5, rfl⟩ := six sel e1
 obtain ⟨n0, n1, n2, n3, n4, n5, n6, n7, n8, n9, n10, n11, rfl⟩ := twelve num e2
 obtain ⟨p0, p1, p2, p3, p4, p5, p6, p7, p8, p9, p10, p11, rfl⟩ := twelve pl e3
 obtain ⟨q0, q1, q2, q3, q4, q5, q6, q7, q8, q9, q10, q11, rfl⟩ := twelve pr e4
 clear e1 e2 e3 e4
 obtain ⟨kind, aln, acl, hs, hn, sd, tk, tl, how, nm, cop, xl, xr⟩ := h
 dsimp only at *
 unfold scL at *
 obtain ⟨pla, whn, ea⟩ := c
 dsimp only at *
 simp only [Zr, List.cons_append, List.nil_append]
 by_cases k1 : kind = 1
 · subst k1
   exact (lPart_1 _ _ _ _ _ _ _ _ _ _ _ _ _ _ _ _ _ _ _ _ _ _ _ _ _ _ _ _ _ _ _ _ _ _ _ _ _ _ _ _ _ _ _ _ _ _ _ _ _ _ _ _ _ _ _ _ _ _ _ _ _ w _ _ hsel hnum).mono fun e w' ⟨he, hb⟩ => ⟨by rw [he, orE2]; rfl, hb⟩
 by_cases k2 : kind = 2
 · subst k2
   exact (lPart_2 _ _ _ _ _ _ _ _ _ _ _ _ _ _ _ _ _ _ _ _ _ _ _ _ _ _ _ _ _ _ _ _ _ _ _ _ _ _ _ _ _ _ _ _ _ _ _ _ _ _ _ _ _ _ _ _ _ _ _ _ _ w _ _ hsel hnum).mono fun e w' ⟨he, hb⟩ => ⟨by rw [he, orE2]; rfl, hb⟩
 by_cases k12 : kind = 12
 · subst k12
   exact (lPart_12 _ _ _ _ _ _ _ _ _ _ _ _ _ _ _ _ _ _ _ _ _ _ _ _ _ _ _ _ _ _ _ _ _ _ _ _ _ _ _ _ _ _ _ _ _ _ _ _ _ _ _ _ _ _ _ _ _ _ _ _ _ w _ _ hsel hnum).mono fun e w' ⟨he, hb⟩ => ⟨by rw [he, orE2]; rfl, hb⟩
 by_cases k3 : kind = 3
 · subst k3
   exact (lPart_3 _ _ _ _ _ _ _ _ _ _ _ _ _ _ _ _ _ _ _ _ _ _ _ _ _ _ _ _ _ _ _ _ _ _ _ _ _ _ _ _ _ _ _ _ _ _ _ _ _ _ _ _ _ _ _ _ _ _ _ _ _ w _ hsel).mono fun e w' ⟨he, hb⟩ => ⟨by rw [he]; rfl, hb⟩
 by_cases k5 : kind = 5
 · subst k5
   exact (lPart_5 _ _ _ _ _ _ _ _ _ _ _ _ _ _ _ _ _ _ _ _ _ _ _ _ _ _ _ _ _ _ _ _ _ _ _ _ _ _ _ _ _ _ _ _ _ _ _ _ _ _ _ _ _ _ _ _ _ _ _ _ _ w _ hsel).mono fun e w' ⟨he, hb⟩ => ⟨by rw [he]; rfl, hb⟩
 by_cases k14 : kind = 14
 · subst k14
   exact (lPart_14 _ _ _ _ _ _ _ _ _ _ _ _ _ _ _ _ _ _ _ _ _ _ _ _ _ _ _ _ _ _ _ _ _ _ _ _ _ _ _ _ _ _ _ _ _ _ _ _ _ _ _ _ _ _ _ _ _ _ _ _ _ w _ hsel).mono fun e w' ⟨he, hb⟩ => ⟨by rw [he]; rfl, hb⟩
 by_cases k11 : kind = 11
 · subst k11
   exact (lPart_11 _ _ _ _ _ _ _ _ _ _ _ _ _ _ _ _ _ _ _ _ _ _ _ _ _ _ _ _ _ _ _ _ _ _ _ _ _ _ _ _ _ _ _ _ _ _ _ _ _ _ _ _ _ _ _ _ _ _ _ _ _ w _ hsel).mono fun e w' ⟨he, hb⟩ => ⟨by rw [he]; rfl, hb⟩
 by_cases k4 : kind = 4
 · subst k4
   exact (lPart_4 _ _ _ _ _ _ _ _ _ _ _ _ _ _ _ _ _ _ _ _ _ _ _ _ _ _ _ _ _ _ _ _ _ _ _ _ _ _ _ _ _ _ _ _ _ _ _ _ _ _ _ _ _ _ _ _ _ _ _ _ _ w _ _ hsel hto).mono fun e w' ⟨he, hb⟩ => ⟨by rw [he, orE2]; rfl, hb⟩
 by_cases k6 : kind = 6
 · subst k6
   exact (lPart_6 _ _ _ _ _ _ _ _ _ _ _ _ _ _ _ _ _ _ _ _ _ _ _ _ _ _ _ _ _ _ _ _ _ _ _ _ _ _ _ _ _ _ _ _ _ _ _ _ _ _ _ _ _ _ _ _ _ _ _ _ _ w _ _ _ hside hto hnum).mono fun e w' ⟨he, hb⟩ => ⟨by rw [he, orE3]; rfl, hb⟩
 by_cases k7 : kind = 7
 · subst k7
   exact (lPart_7 _ _ _ _ _ _ _ _ _ _ _ _ _ _ _ _ _ _ _ _ _ _ _ _ _ _ _ _ _ _ _ _ _ _ _ _ _ _ _ _ _ _ _ _ _ _ _ _ _ _ _ _ _ _ _ _ _ _ _ _ _ w _ _ hside hnum).mono fun e w' ⟨he, hb⟩ => ⟨by rw [he, orE2]; rfl, hb⟩
 by_cases k9 : kind = 9
 · subst k9
   exact (lPart_9 _ _ _ _ _ _ _ _ _ _ _ _ _ _ _ _ _ _ _ _ _ _ _ _ _ _ _ _ _ _ _ _ _ _ _ _ _ _ _ _ _ _ _ _ _ _ _ _ _ _ _ _ _ _ _ _ _ _ _ _ _ w _ _ hside hnum).mono fun e w' ⟨he, hb⟩ => ⟨by rw [he, orE2]; rfl, hb⟩
 by_cases k8 : kind = 8
 · subst k8
   exact (lPart_8 _ _ _ _ _ _ _ _ _ _ _ _ _ _ _ _ _ _ _ _ _ _ _ _ _ _ _ _ _ _ _ _ _ _ _ _ _ _ _ _ _ _ _ _ _ _ _ _ _ _ _ _ _ _ _ _ _ _ _ _ _ w _ hside).mono fun e w' ⟨he, hb⟩ => ⟨by rw [he]; rfl, hb⟩
 by_cases k13 : kind = 13
 · subst k13
   exact (lPart_13 _ _ _ _ _ _ _ _ _ _ _ _ _ _ _ _ _ _ _ _ _ _ _ _ _ _ _ _ _ _ _ _ _ _ _ _ _ _ _ _ _ _ _ _ _ _ _ _ _ _ _ _ _ _ _ _ _ _ _ _ _ w _ _ hside hto).mono fun e w' ⟨he, hb⟩ => ⟨by rw [he, orE2]; rfl, hb⟩
 by_cases k15 : kind = 15
 · subst k15
   exact (lPart_15 _ _ _ _ _ _ _ _ _ _ _ _ _ _ _ _ _ _ _ _ _ _ _ _ _ _ _ _ _ _ _ _ _ _ _ _ _ _ _ _ _ _ _ _ _ _ _ _ _ _ _ _ _ _ _ _ _ _ _ _ _ w _ _ hside hto).mono fun e w' ⟨he, hb⟩ => ⟨by rw [he, orE2]; rfl, hb⟩
 by_cases k10 : kind = 10
 · subst k10
   exact (lPart_10 _ _ _ _ _ _ _ _ _ _ _ _ _ _ _ _ _ _ _ _ _ _ _ _ _ _ _ _ _ _ _ _ _ _ _ _ _ _ _ _ _ _ _ _ _ _ _ _ _ _ _ _ _ _ _ _ _ _ _ _ _ w _ _ hcl hcr).mono fun e w' ⟨he, hb⟩ => ⟨by rw [he, orE2]; rfl, hb⟩
 have hv : lParts ⟨pla, whn, ea⟩ ⟨kind, aln, acl, hs, hn, sd, tk, tl, how, nm, cop, xl, xr⟩ = 0 := by
   unfold lParts
   dsimp only
   rw [if_neg (by omega), if_neg (by omega), if_neg (by omega), if_neg (by omega), if_neg (by omega), if_neg (by omega), if_neg (by omega), if_neg (by omega)]
 rw [hv]
 exact lPart_else _ _ _ _ _ _ _ _ _ _ _ _ _ _ _ _ _ _ _ _ _ _ _ _ _ _ _ _ _ _ _ _ _ _ _ _ _ _ _ _ _ _ _ _ _ _ _ _ _ _ _ _ _ _ _ _ _ _ _ _ _ kind w (by rw [beq_eq_false_iff_ne]; exact k1) (by rw [beq_eq_false_iff_ne]; exact k2) (by rw [beq_eq_false_iff_ne]; exact k12) (by rw [beq_eq_false_iff_ne]; exact k3) (by rw [beq_eq_false_iff_ne]; exact k5) (by rw [beq_eq_false_iff_ne]; exact k14) (by rw [beq_eq_false_iff_ne]; exact k11) (by rw [beq_eq_false_iff_ne]; exact k4) (by rw [beq_eq_false_iff_ne]; exact k6) (by rw [beq_eq_false_iff_ne]; exact k7) (by rw [beq_eq_false_iff_ne]; exact k9) (by rw [beq_eq_false_iff_ne]; exact k8) (by rw [beq_eq_false_iff_ne]; exact k13) (by rw [beq_eq_false_iff_ne]; exact k15) (by rw [beq_eq_false_iff_ne]; exact k10)
end
end Go.Proofs.YtabegjepejgllaaGreat
