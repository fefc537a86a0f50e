/-
  Texts Lint6, Lint7, Lint8, Lint9, Lint10, Lint11. No conditions but those that each theorem names.
-/
import Derived.Test.YtljdgdphldckhaaGreatQA37
import Derived.Test.YtljdgdphldckhaaGreatQA38
set_option maxRecDepth 20000
set_option maxHeartbeats 12800000
namespace Go.Proofs.YtljdgdphldckhaaGreat
open Go Go.RowKit
set_option linter.unusedVariables false
set_option linter.unusedSimpArgs false
theorem six : ∀ vs : List Value, vs.length = 6 → ∃ a b c d e f, vs = [a, b, c, d, e, f]
 | [a, b, c, d, e, f], _ => ⟨a, b, c, d, e, f, rfl⟩
theorem lPart_else (whn st ln cl : Int) (pl ea : Bool) (A : Option Addr) (rn rk : Nat) (aln acl sd tk tl how cop : Int) (nm : ByteArray) (a0 a1 a2 a3 a4 a5 n0 n1 n2 n3 n4 n5 n6 n7 n8 n9 n10 n11 p0 p1 p2 p3 p4 p5 p6 p7 p8 p9 p10 p11 q0 q1 q2 q3 q4 q5 q6 q7 q8 q9 q10 q11 u v : Value) (k : Int) (w : World) (h1 : (k == 1) = false) (h2 : (k == 2) = false) (h12 : (k == 12) = false) (h3 : (k == 3) = false) (h5 : (k == 5) = false) (h14 : (k == 14) = false) (h11 : (k == 11) = false) (h4 : (k == 4) = false) (h6 : (k == 6) = false) (h7 : (k == 7) = false) (h9 : (k == 9) = false) (h8 : (k == 8) = false) (h13 : (k == 13) = false) (h15 : (k == 15) = false) (h10 : (k == 10) = false) :
   Calls Tryz.prog 216 #[.agg ([.int .i64 whn, .int .i64 st, .int .i64 ln, .int .i64 cl, .slice A rn rk, .bool pl, .bool ea] : List Value).toArray, .agg ([.int .i64 k, .int .i64 aln, .int .i64 acl, a0, a1, a2, a3, a4, a5, n0, n1, n2, n3, n4, n5, n6, n7, n8, n9, n10, n11, .int .i64 sd, .int .i64 tk, .int .i64 tl, .int .i64 how, .string nm, .int .i64 cop, p0, p1, p2, p3, p4, p5, p6, p7, p8, p9, p10, p11, q0, q1, q2, q3, q4, q5, q6, q7, q8, q9, q10, q11, u, v] : List Value).toArray] w fun e w' => e = .returned (.int .i64 0) ∧ Below w.heap.size w w' := by
 have T := Hh (Env.start w)
 go_enter Tryz.func216, Tryz.ntmps216
 go_wp2_with (first
 | ((with_reducible refine Ze 2 ?_); refine Zg T.out 194 _ ([.int .i64 whn, .int .i64 st, .int .i64 ln, .int .i64 cl, .slice A rn rk, .bool pl, .bool ea]) rfl rfl rfl ?_; intro wa g0 tn; have T := Hh tn; clear tn; obtain ⟨fc0, fc1, fc2, fc3, fc4, fc5, fc6⟩ := Yc (T.out.get 0 rfl))
 | ((with_reducible refine Ze 3 ?_); refine Zg T.out 57 _ ([.int .i64 k, .int .i64 aln, .int .i64 acl, a0, a1, a2, a3, a4, a5, n0, n1, n2, n3, n4, n5, n6, n7, n8, n9, n10, n11, .int .i64 sd, .int .i64 tk, .int .i64 tl, .int .i64 how, .string nm, .int .i64 cop, p0, p1, p2, p3, p4, p5, p6, p7, p8, p9, p10, p11, q0, q1, q2, q3, q4, q5, q6, q7, q8, q9, q10, q11, u, v]) rfl rfl rfl ?_; intro wb g1 tn; have T := Hh tn; clear tn; obtain ⟨fc0, fc1, fc2, fc3, fc4, fc5, fc6⟩ := Yc (T.out.get 0 rfl); have fd0 : wb.cell? ⟨g1, 0, none⟩ = some (.int .i64 k) := (T.out.get 1 rfl).read 0))
 go_ret
 exact ⟨rfl, T.out.below⟩
section
variable (c : Sc) (st ln cl : Int) (A : Option Addr) (rn rk : Nat)
theorem lParts_any (h : AH) (tn en : Nat) (t e : Ds) (w : World) (N : Nat → Prop) (ys : List Value) (hd : Zh N w (h.dsr tn t en e) ys) :
   Calls Tryz.prog 216 #[.agg (scL c st ln cl A rn rk).toArray, .agg ys.toArray] w fun e w' => e = .returned (.int .i64 (lParts c h)) ∧ Below w.heap.size w w' := by
 obtain ⟨sel, num, pl, pr, thn, els, rfl, h1, h2, h3, h4, _, _⟩ := act_of hd
 clear hd
 have hsel := fun x (hb : Below w.heap.size w x) => lSel_any c st ln cl A rn rk h.sel x N sel (h1.below hb)
 have hnum := fun x (hb : Below w.heap.size w x) => lExpr_any c st ln cl A rn rk h.num x N num (h2.below hb)
 have hcl := fun x (hb : Below w.heap.size w x) => lExpr_any c st ln cl A rn rk h.cl x N pl (h3.below hb)
 have hcr := fun x (hb : Below w.heap.size w x) => lExpr_any c st ln cl A rn rk h.cr x N pr (h4.below hb)
 have hside := fun x => lSide_any c st ln cl A rn rk h.side x
 have hto := fun x => lTo_any h.tk h.tl x
 have e1 : sel.length = 6 := by rw [h1.len, Se.ds_len]
 have e2 : num.length = 12 := by rw [h2.len, Ex.ds_len]
 have e3 : pl.length = 12 := by rw [h3.len, Ex.ds_len]
 have e4 : pr.length = 12 := by rw [h4.len, Ex.ds_len]
 clear h1 h2 h3 h4
 obtain ⟨a0, a1, a2, a3, a4, a5, rfl⟩ := six sel e1
 obtain ⟨n0, n1, n2, n3, n4, n5, n6, n7, n8, n9, n10, n11, rfl⟩ := twelve num e2
 obtain ⟨p0, p1, p2, p3, p4, p5, p6, p7, p8, p9, p10, p11, rfl⟩ := twelve pl e3
 obtain ⟨q0, q1, q2, q3, q4, q5, q6, q7, q8, q9, q10, q11, rfl⟩ := twelve pr e4
 clear e1 e2 e3 e4
 obtain ⟨kind, aln, acl, hs, hn, sd, tk, tl, how, nm, cop, xl, xr⟩ := h
 dsimp only at *
 unfold scL at *
 obtain ⟨pla, whn, ea⟩ := c
 dsimp only at *
 simp only [Zz, List.cons_append, List.nil_append]
 by_cases k1 : kind = 1
 · subst k1
   exact (lPart_1 _ _ _ _ _ _ _ _ _ _ _ _ _ _ _ _ _ _ _ _ _ _ _ _ _ _ _ _ _ _ _ _ _ _ _ _ _ _ _ _ _ _ _ _ _ _ _ _ _ _ _ _ _ _ _ _ _ _ _ _ _ w _ _ hsel hnum).mono fun e w' ⟨he, hb⟩ => ⟨by rw [he, orE2]; rfl, hb⟩
 by_cases k2 : kind = 2
 · subst k2
   exact (lPart_2 _ _ _ _ _ _ _ _ _ _ _ _ _ _ _ _ _ _ _ _ _ _ _ _ _ _ _ _ _ _ _ _ _ _ _ _ _ _ _ _ _ _ _ _ _ _ _ _ _ _ _ _ _ _ _ _ _ _ _ _ _ w _ _ hsel hnum).mono fun e w' ⟨he, hb⟩ => ⟨by rw [he, orE2]; rfl, hb⟩
 by_cases k12 : kind = 12
 · subst k12
   exact (lPart_12 _ _ _ _ _ _ _ _ _ _ _ _ _ _ _ _ _ _ _ _ _ _ _ _ _ _ _ _ _ _ _ _ _ _ _ _ _ _ _ _ _ _ _ _ _ _ _ _ _ _ _ _ _ _ _ _ _ _ _ _ _ w _ _ hsel hnum).mono fun e w' ⟨he, hb⟩ => ⟨by rw [he, orE2]; rfl, hb⟩
 by_cases k3 : kind = 3
 · subst k3
   exact (lPart_3 _ _ _ _ _ _ _ _ _ _ _ _ _ _ _ _ _ _ _ _ _ _ _ _ _ _ _ _ _ _ _ _ _ _ _ _ _ _ _ _ _ _ _ _ _ _ _ _ _ _ _ _ _ _ _ _ _ _ _ _ _ w _ hsel).mono fun e w' ⟨he, hb⟩ => ⟨by rw [he]; rfl, hb⟩
 by_cases k5 : kind = 5
 · subst k5
   exact (lPart_5 _ _ _ _ _ _ _ _ _ _ _ _ _ _ _ _ _ _ _ _ _ _ _ _ _ _ _ _ _ _ _ _ _ _ _ _ _ _ _ _ _ _ _ _ _ _ _ _ _ _ _ _ _ _ _ _ _ _ _ _ _ w _ hsel).mono fun e w' ⟨he, hb⟩ => ⟨by rw [he]; rfl, hb⟩
 by_cases k14 : kind = 14
 · subst k14
   exact (lPart_14 _ _ _ _ _ _ _ _ _ _ _ _ _ _ _ _ _ _ _ _ _ _ _ _ _ _ _ _ _ _ _ _ _ _ _ _ _ _ _ _ _ _ _ _ _ _ _ _ _ _ _ _ _ _ _ _ _ _ _ _ _ w _ hsel).mono fun e w' ⟨he, hb⟩ => ⟨by rw [he]; rfl, hb⟩
 by_cases k11 : kind = 11
 · subst k11
   exact (lPart_11 _ _ _ _ _ _ _ _ _ _ _ _ _ _ _ _ _ _ _ _ _ _ _ _ _ _ _ _ _ _ _ _ _ _ _ _ _ _ _ _ _ _ _ _ _ _ _ _ _ _ _ _ _ _ _ _ _ _ _ _ _ w _ hsel).mono fun e w' ⟨he, hb⟩ => ⟨by rw [he]; rfl, hb⟩
 by_cases k4 : kind = 4
 · subst k4
   exact (lPart_4 _ _ _ _ _ _ _ _ _ _ _ _ _ _ _ _ _ _ _ _ _ _ _ _ _ _ _ _ _ _ _ _ _ _ _ _ _ _ _ _ _ _ _ _ _ _ _ _ _ _ _ _ _ _ _ _ _ _ _ _ _ w _ _ hsel hto).mono fun e w' ⟨he, hb⟩ => ⟨by rw [he, orE2]; rfl, hb⟩
 by_cases k6 : kind = 6
 · subst k6
   exact (lPart_6 _ _ _ _ _ _ _ _ _ _ _ _ _ _ _ _ _ _ _ _ _ _ _ _ _ _ _ _ _ _ _ _ _ _ _ _ _ _ _ _ _ _ _ _ _ _ _ _ _ _ _ _ _ _ _ _ _ _ _ _ _ w _ _ _ hside hto hnum).mono fun e w' ⟨he, hb⟩ => ⟨by rw [he, orE3]; rfl, hb⟩
 by_cases k7 : kind = 7
 · subst k7
   exact (lPart_7 _ _ _ _ _ _ _ _ _ _ _ _ _ _ _ _ _ _ _ _ _ _ _ _ _ _ _ _ _ _ _ _ _ _ _ _ _ _ _ _ _ _ _ _ _ _ _ _ _ _ _ _ _ _ _ _ _ _ _ _ _ w _ _ hside hnum).mono fun e w' ⟨he, hb⟩ => ⟨by rw [he, orE2]; rfl, hb⟩
 by_cases k9 : kind = 9
 · subst k9
   exact (lPart_9 _ _ _ _ _ _ _ _ _ _ _ _ _ _ _ _ _ _ _ _ _ _ _ _ _ _ _ _ _ _ _ _ _ _ _ _ _ _ _ _ _ _ _ _ _ _ _ _ _ _ _ _ _ _ _ _ _ _ _ _ _ w _ _ hside hnum).mono fun e w' ⟨he, hb⟩ => ⟨by rw [he, orE2]; rfl, hb⟩
 by_cases k8 : kind = 8
 · subst k8
   exact (lPart_8 _ _ _ _ _ _ _ _ _ _ _ _ _ _ _ _ _ _ _ _ _ _ _ _ _ _ _ _ _ _ _ _ _ _ _ _ _ _ _ _ _ _ _ _ _ _ _ _ _ _ _ _ _ _ _ _ _ _ _ _ _ w _ hside).mono fun e w' ⟨he, hb⟩ => ⟨by rw [he]; rfl, hb⟩
 by_cases k13 : kind = 13
 · subst k13
   exact (lPart_13 _ _ _ _ _ _ _ _ _ _ _ _ _ _ _ _ _ _ _ _ _ _ _ _ _ _ _ _ _ _ _ _ _ _ _ _ _ _ _ _ _ _ _ _ _ _ _ _ _ _ _ _ _ _ _ _ _ _ _ _ _ w _ _ hside hto).mono fun e w' ⟨he, hb⟩ => ⟨by rw [he, orE2]; rfl, hb⟩
 by_cases k15 : kind = 15
 · subst k15
   exact (lPart_15 _ _ _ _ _ _ _ _ _ _ _ _ _ _ _ _ _ _ _ _ _ _ _ _ _ _ _ _ _ _ _ _ _ _ _ _ _ _ _ _ _ _ _ _ _ _ _ _ _ _ _ _ _ _ _ _ _ _ _ _ _ w _ _ hside hto).mono fun e w' ⟨he, hb⟩ => ⟨by rw [he, orE2]; rfl, hb⟩
 by_cases k10 : kind = 10
 · subst k10
   exact (lPart_10 _ _ _ _ _ _ _ _ _ _ _ _ _ _ _ _ _ _ _ _ _ _ _ _ _ _ _ _ _ _ _ _ _ _ _ _ _ _ _ _ _ _ _ _ _ _ _ _ _ _ _ _ _ _ _ _ _ _ _ _ _ w _ _ hcl hcr).mono fun e w' ⟨he, hb⟩ => ⟨by rw [he, orE2]; rfl, hb⟩
 have hv : lParts ⟨pla, whn, ea⟩ ⟨kind, aln, acl, hs, hn, sd, tk, tl, how, nm, cop, xl, xr⟩ = 0 := by
   unfold lParts
   dsimp only
   rw [if_neg (by omega), if_neg (by omega), if_neg (by omega), if_neg (by omega), if_neg (by omega), if_neg (by omega), if_neg (by omega), if_neg (by omega)]
 rw [hv]
 exact lPart_else _ _ _ _ _ _ _ _ _ _ _ _ _ _ _ _ _ _ _ _ _ _ _ _ _ _ _ _ _ _ _ _ _ _ _ _ _ _ _ _ _ _ _ _ _ _ _ _ _ _ _ _ _ _ _ _ _ _ _ _ _ kind w (by rw [beq_eq_false_iff_ne]; exact k1) (by rw [beq_eq_false_iff_ne]; exact k2) (by rw [beq_eq_false_iff_ne]; exact k12) (by rw [beq_eq_false_iff_ne]; exact k3) (by rw [beq_eq_false_iff_ne]; exact k5) (by rw [beq_eq_false_iff_ne]; exact k14) (by rw [beq_eq_false_iff_ne]; exact k11) (by rw [beq_eq_false_iff_ne]; exact k4) (by rw [beq_eq_false_iff_ne]; exact k6) (by rw [beq_eq_false_iff_ne]; exact k7) (by rw [beq_eq_false_iff_ne]; exact k9) (by rw [beq_eq_false_iff_ne]; exact k8) (by rw [beq_eq_false_iff_ne]; exact k13) (by rw [beq_eq_false_iff_ne]; exact k15) (by rw [beq_eq_false_iff_ne]; exact k10)
end
theorem Jn : (Tryz.prog.info? 29).map (fun i => i.zero.map Value.cells) = some (some ([.int .i64 0, .int .i64 0, .int .i64 0] : List Value).toArray) := by kernel_rfl
theorem lrow_sc : (Tryz.prog.underlying 194).map TypeDesc.isRow = some true := by kernel_rfl
theorem Jo : (Tryz.prog.info? 194).map (·.size) = some 7 := by kernel_rfl
theorem lrow_ac : (Tryz.prog.underlying 57).map TypeDesc.isRow = some true := by kernel_rfl
theorem Ja : (Tryz.prog.info? 57).map (·.size) = some 53 := by kernel_rfl
theorem Zb.nth {w : World} {g : Nat} {t : TypeId} {l : List Value} (h : Zb w g t l.toArray) (i : Nat) {v : Value} (hv : l[i]? = some v) : w.cell? ⟨g, i, none⟩ = some v := by
 rw [h.read, List.getElem?_toArray]; exact hv
theorem Zb.range0 {w : World} {g : Nat} {t : TypeId} {l : List Value} (h : Zb w g t l.toArray) : w.rangeAt g 0 l := by
 have := Zb.range (a := []) (b := l) (c := []) (by simpa using h); exact this
theorem Yr {P : Program} {md : Region.Mode} {ops : Array Oper} {Q : Exit → Act → World → Prop} {S : World → Prop} {i k : Nat} {oi : Oper} {v : Value} {fuel : Nat} {listed : Array Bool} {l : List Value} {d : List Deferred} {w : World} (hi : ops[i]? = some oi) (hd : oi.dst = some k)
   (hs : Region.noSelect ops = true) (hf : Region.free md ops listed i = true) (hr : (Region.ready md ops listed).contains i = true)
   (hQ : ∀ c a w, Q (.panic c) (a.put oi.dst v) w → Q (.panic c) a w) (hy : YieldsIf P ops S oi v ⟨l.toArray, d⟩) (hS : S w)
   (h : wpAnyH P md ops Q S fuel (listed.setIfInBounds i true) ⟨(l.set k v).toArray, d⟩ w) : wpAnyH P md ops Q S (fuel + 1) listed ⟨l.toArray, d⟩ w := by
 refine wpAnyH_take hi hs hf hr hQ hy hS ?_
 rw [hd]
 simpa [Act.put] using h
theorem faL_one (F : Fa) : ∀ v ∈ faL F, v.oneCell' = true := by simp [faL, Value.oneCell']
theorem lsize_bool : (Tryz.prog.info? 4).map (·.size) = some 1 := by kernel_rfl
theorem put3L {w : World} {g : Nat} {t : TypeId} {a b c : Value} (h : Zb w g t #[a, b, c]) (x0 x1 x2 : Value) : Put w (((w.setCell ⟨g, 0, none⟩ x0).setCell ⟨g, 1, none⟩ x1).setCell ⟨g, 2, none⟩ x2) g t [x0, x1, x2] :=
 ⟨Zb.set3 h x0 x1 x2, (((Zo.refl (fun k => k = g) w).setCell (p := ⟨g, 0, none⟩) rfl x0).setCell (p := ⟨g, 1, none⟩) rfl x1).setCell (p := ⟨g, 2, none⟩) rfl x2⟩
theorem flatB {w x : World} {g0 g1 g2 : Nat} {whn st ln cl : Int} {pl ea : Bool} {A U V : Option Addr} {rn rk tn uc en vc : Nat} {ys : List Value} (h51 : ys[51]? = some (.slice U tn uc)) (h52 : ys[52]? = some (.slice V en vc)) (h : ∃ a b c, Env w [(g0, 194, [.int .i64 whn, .int .i64 st, .int .i64 ln, .int .i64 cl, .slice A rn rk, .bool pl, .bool ea]), (g1, 57, ys), (g2, 29, [a, b, c])] [] [] x) : (∃ a b c, Env w [(g0, 194, [.int .i64 whn, .int .i64 st, .int .i64 ln, .int .i64 cl, .slice A rn rk, .bool pl, .bool ea]), (g1, 57, ys), (g2, 29, [a, b, c])] [] [] x) ∧ x.cell? ⟨g0, 0, none⟩ = some (.int .i64 whn) ∧ x.cell? ⟨g0, 1, none⟩ = some (.int .i64 st) ∧ x.cell? ⟨g0, 2, none⟩ = some (.int .i64 ln) ∧ x.cell? ⟨g0, 3, none⟩ = some (.int .i64 cl) ∧ x.cell? ⟨g0, 4, none⟩ = some (.slice A rn rk) ∧ x.cell? ⟨g0, 5, none⟩ = some (.bool pl) ∧ x.cell? ⟨g0, 6, none⟩ = some (.bool ea) ∧ x.cell? ⟨g1, 51, none⟩ = some (.slice U tn uc) ∧ x.cell? ⟨g1, 52, none⟩ = some (.slice V en vc) := by
 obtain ⟨a, b, c, h1⟩ := id h
 have W0 := h1.get 0 rfl
 have W1 := h1.get 1 rfl
 exact ⟨h, W0.read 0, W0.read 1, W0.read 2, W0.read 3, W0.read 4, W0.read 5, W0.read 6, W1.nth 51 h51, W1.nth 52 h52⟩
theorem ES_call {w x y : World} {g0 g1 g2 : Nat} {l m : List Value} {s t u : TypeId} (h : ∃ a b c, Env w [(g0, s, l), (g1, t, m), (g2, u, [a, b, c])] [] [] x) (b : Below x.heap.size x y) : ∃ a b c, Env w [(g0, s, l), (g1, t, m), (g2, u, [a, b, c])] [] [] y := by
 obtain ⟨a, d, c, h1⟩ := h
 exact ⟨a, d, c, h1.call b⟩
theorem ES_below {w x : World} {g0 g1 g2 : Nat} {l m : List Value} {s t u : TypeId} (h : ∃ a b c, Env w [(g0, s, l), (g1, t, m), (g2, u, [a, b, c])] [] [] x) : Below w.heap.size w x := by
 obtain ⟨a, d, c, h1⟩ := h
 exact h1.below
theorem lAct_raw (whn st ln cl : Int) (pl ea : Bool) (A : Option Addr) (rn rk : Nat) (aln acl : Int) (U V : Option Addr) (tn uc en vc : Nat) (ys : List Value) (k : Int) (i : Int) (w : World) (s1 s2 : Int) (hyl : ys.length = 53) (h0 : ys[0]? = some (.int .i64 k)) (h1 : ys[1]? = some (.int .i64 aln)) (h2 : ys[2]? = some (.int .i64 acl)) (h51 : ys[51]? = some (.slice U tn uc)) (h52 : ys[52]? = some (.slice V en vc))
   (hst : ∀ x, Calls Tryz.prog 215 #[.agg ([.int .i64 whn, .int .i64 st, .int .i64 ln, .int .i64 cl, .slice A rn rk, .bool pl, .bool ea] : List Value).toArray, .int .i64 i, .int .i64 k] x fun e w' => e = .returned (.int .i64 s1) ∧ Below x.heap.size x w')
   (hpa : ∀ x, Below w.heap.size w x → Calls Tryz.prog 216 #[.agg ([.int .i64 whn, .int .i64 st, .int .i64 ln, .int .i64 cl, .slice A rn rk, .bool pl, .bool ea] : List Value).toArray, .agg ys.toArray] x fun e w' => e = .returned (.int .i64 s2) ∧ Below x.heap.size x w')
   (F G H : Fa) (hth : k = 10 → ∀ x, Below w.heap.size w x → Calls Tryz.prog 142 #[.agg ([.int .i64 whn, .int .i64 st, .int .i64 ln, .int .i64 cl, .slice A rn rk, .bool pl, .bool ea] : List Value).toArray, .slice U tn uc] x fun e w' => e = .returned (faV F) ∧ Below x.heap.size x w')
   (hel : k = 10 → ∀ x, Below w.heap.size w x → Calls Tryz.prog 142 #[.agg ([.int .i64 whn, .int .i64 st, .int .i64 ln, .int .i64 cl, .slice A rn rk, .bool pl, .bool ea] : List Value).toArray, .slice V en vc] x fun e w' => e = .returned (faV G) ∧ Below x.heap.size x w')
   (hea : k = 11 → ∀ x, Below w.heap.size w x → Calls Tryz.prog 142 #[.agg ([.int .i64 whn, .int .i64 st, .int .i64 ln, .int .i64 cl, .slice A rn rk, .bool pl, .bool true] : List Value).toArray, .slice U tn uc] x fun e w' => e = .returned (faV H) ∧ Below x.heap.size x w') :
   Calls Tryz.prog 188 #[.agg ([.int .i64 whn, .int .i64 st, .int .i64 ln, .int .i64 cl, .slice A rn rk, .bool pl, .bool ea] : List Value).toArray, .int .i64 i, .agg ys.toArray] w fun e w' => e = .returned (faV (if Xp [s1, s2] ≠ 0 then (Xp [s1, s2], aln, acl) else if k = 10 then Vs [F, G] else if k = 11 then H else (0, 0, 0))) ∧ Below w.heap.size w w' := by
 have hor := fun x g (hW : Zb x g 27 #[.int .i64 s1, .int .i64 s2]) => lOrE [s1, s2] 2 2 g x rfl (by omega) hW
 have SY : (Tryz.prog.info? 57).map (·.size) = some ys.length := by rw [hyl]; exact Ja
 have T := Hh (Env.start w)
 generalize Xp [s1, s2] = z at *
 obtain ⟨R, hR⟩ : ∃ R, R = (if z ≠ 0 then (z, aln, acl) else if k = 10 then Vs [F, G] else if k = 11 then H else (0, 0, 0)) := ⟨_, rfl⟩
 rw [← hR]
 have HR := Hh hR
 clear hR
 have HY := Hh (And.intro h0 (And.intro h1 (And.intro h2 (And.intro h51 h52))))
 clear h0 h1 h2 h51 h52
 go_enter Tryz.func188, Tryz.ntmps188
 go_upto_region 1 with (first
 | ((with_reducible refine Ze 3 ?_); refine Zg T.out 194 _ ([.int .i64 whn, .int .i64 st, .int .i64 ln, .int .i64 cl, .slice A rn rk, .bool pl, .bool ea]) rfl rfl rfl ?_; intro wa g0 tn; have T := Hh tn; clear tn)
 | ((with_reducible refine Ze 5 ?_); refine Zg T.out 57 _ (ys) rfl rfl rfl ?_; intro wb g1 tn; have T := Hh tn; clear tn)
 | ((with_reducible refine Ze 6 ?_); refine Zi T.out 29 _ rfl rfl Jn ?_; intro wc g2 tn; have T := Hh tn; clear tn))
 refine wp_region_held_drew (S := fun x => Env w [(g0, 194, [.int .i64 whn, .int .i64 st, .int .i64 ln, .int .i64 cl, .slice A rn rk, .bool pl, .bool ea]), (g1, 57, ys), (g2, 29, [.int .i64 0, .int .i64 0, .int .i64 0])] [] [] x) (by kernel_rfl) T.out.drew (fun hS => ?_)
 refine Yr (i := 0) (v := .agg ([.int .i64 whn, .int .i64 st, .int .i64 ln, .int .i64 cl, .slice A rn rk, .bool pl, .bool ea] : List Value).toArray) rfl rfl (by kernel_rfl) (by kernel_rfl) (by kernel_rfl) (fun _ _ _ h => h) (Vv rfl rfl rfl (fun y hy => (Env.get hy 0 rfl).range0) lrow_sc Jo) hS ?_
 try simp only [Qy1, Qx1]
 refine Yr (i := 1) (v := .int .i64 i) rfl rfl (by kernel_rfl) (by kernel_rfl) (by kernel_rfl) (fun _ _ _ h => h) (yield_move rfl rfl rfl) hS ?_
 try simp only [Qy1, Qx1]
 refine Yr (i := 2) (v := .pointer (some ⟨g1, 0, none⟩)) rfl rfl (by kernel_rfl) (by kernel_rfl) (by kernel_rfl) (fun _ _ _ h => h) (Or.inl ⟨by rfl, fun y hy => by go_simp⟩) hS ?_
 try simp only [Qy1, Qx1]
 refine Yr (i := 3) (v := .int .i64 k) rfl rfl (by kernel_rfl) (by kernel_rfl) (by kernel_rfl) (fun _ _ _ h => h) (Or.inl ⟨by rfl, fun y hy => by have c0 := (Env.get hy 1 rfl).nth 0 HY.out.1; go_simp⟩) hS ?_
 try simp only [Qy1, Qx1]
 refine Yr (i := 5) (v := .agg ([.int .i64 whn, .int .i64 st, .int .i64 ln, .int .i64 cl, .slice A rn rk, .bool pl, .bool ea] : List Value).toArray) rfl rfl (by kernel_rfl) (by kernel_rfl) (by kernel_rfl) (fun _ _ _ h => h) (Vv rfl rfl rfl (fun y hy => (Env.get hy 0 rfl).range0) lrow_sc Jo) hS ?_
 try simp only [Qy1, Qx1]
 refine Yr (i := 6) (v := .agg ys.toArray) rfl rfl (by kernel_rfl) (by kernel_rfl) (by kernel_rfl) (fun _ _ _ h => h) (Vv rfl rfl rfl (fun y hy => (Env.get hy 1 rfl).range0) lrow_ac SY) hS ?_
 try simp only [Qy1, Qx1]
 refine wpAnyH_ready (rs := [4]) (by kernel_rfl) (by simp) (AllReadyH.cons rfl (fun K hK => ?_) AllReadyH.nil)
 go_simp
 go_at_call 215
 refine (hst _).mono ?_
 rintro e wf ⟨rfl, bn⟩
 try go_wp2
 refine hK.out _ _ (hS.call bn) (fun hS => ?_)
 clear hK K bn
 try simp only [Act.put, Qz1, Qy1, Qx1]
 refine wpAnyH_ready (rs := [7]) (by kernel_rfl) (by simp) (AllReadyH.cons rfl (fun K hK => ?_) AllReadyH.nil)
 go_simp
 go_at_call 216
 refine (hpa _ hS.below).mono ?_
 rintro e wf ⟨rfl, bn⟩
 try go_wp2
 refine hK.out _ _ (hS.call bn) (fun hS => ?_)
 clear hK K bn
 try simp only [Act.put, Qz1, Qy1, Qx1]
 refine wpAnyH_ready (rs := [8]) (by kernel_rfl) (by simp) (AllReadyH.cons rfl (fun K hK => ?_) AllReadyH.nil)
 go_simp
 refine hK.out _ _ (hS.call (Za _ _)) (fun hS2 => ?_)
 clear hK K
 try simp only [Act.put, Qz1, Qy1, Qx1]
 refine wpAnyH_ready (rs := [9]) (by kernel_rfl) (by simp) (AllReadyH.cons rfl (fun K hK => ?_) AllReadyH.nil)
 go_simp
 go_at_call 214
 refine (hor _ _ (Zb.made _ _ _)).mono ?_
 rintro e we ⟨rfl, bn⟩
 try go_wp2
 refine hK.out _ _ (hS2.call bn) (fun hS => ?_)
 clear hK K bn hS2
 try simp only [Act.put, Qz1, Qy1, Qx1]
 refine wpAnyH_ready (rs := [10]) (by kernel_rfl) (by simp) (AllReadyH.cons rfl (fun K hK => ?_) AllReadyH.nil)
 go_simp
 refine hK.out _ _ hS (fun hS => ?_)
 clear hK K
 try simp only [Act.put, Qz1, Qy1, Qx1]
 refine wpAnyH_done (by kernel_rfl) ?_ _
 have T := Hh hS
 clear hS
 by_cases hz : z ≠ 0
 · have hR := HR.out
   rw [if_pos hz] at hR
   subst hR
   have bz : (z == 0) = false := by simpa using hz
   have hat : atF z aln acl = (z, aln, acl) := if_neg hz
   have hfa := fun x => lFaultAt z aln acl x
   rw [hat] at hfa
   clear hz hat hth hel hea
   clear hst hpa hor HR
   have fd1 : we.cell? ⟨g1, 1, none⟩ = some (.int .i64 aln) := (T.out.get 1 rfl).nth 1 HY.out.2.1
   have fd2 : we.cell? ⟨g1, 2, none⟩ = some (.int .i64 acl) := (T.out.get 1 rfl).nth 2 HY.out.2.2.1
   go_wp2_with (first
 | (go_at_call 185; refine (hfa _).mono ?_; rintro e wf ⟨rfl, bn⟩; have T := Hh (T.out.call bn); clear bn)
 | ((with_reducible refine Zl 6 25 ?_); refine Zc 29 _ _ 29 g2 _ (faL (z, aln, acl)) (T.out.get 2 rfl) rfl Zj (faL_one _) rfl rfl rfl rfl rfl ?_; intro wd p; have T := Hh (T.out.put 2 rfl p); clear p))
   exact Zs 6 29 29 g2 _ rfl (T.out.get 2 rfl) Yh Zj rfl rfl ⟨rfl, T.out.below⟩
 · have hR := HR.out
   rw [if_neg hz] at hR
   obtain rfl : z = 0 := by omega
   clear hz
   by_cases h10 : k = 10
   · rw [if_pos h10] at hR
     subst h10
     have hth1 := hth rfl
     have hel1 := hel rfl
     clear hea hth hel
     clear hst hpa hor HR
     have hof := fun x g (hW : Zb x g 29 ([F, G].flatMap faL).toArray) => lOrF [F, G] 2 2 g x rfl (by omega) hW
     generalize Vs [F, G] = FG at *
     subst hR
     have fd0 : we.cell? ⟨g1, 0, none⟩ = some (.int .i64 10) := (T.out.get 1 rfl).nth 0 HY.out.1
     go_upto_region 7 with (fail)
     obtain ⟨fc0, fc1, fc2, fc3, fc4, fc5, fc6⟩ := Yc (T.out.get 0 rfl)
     have fd51 : we.cell? ⟨g1, 51, none⟩ = some (.slice U tn uc) := (T.out.get 1 rfl).nth 51 HY.out.2.2.2.1
     have fd52 : we.cell? ⟨g1, 52, none⟩ = some (.slice V en vc) := (T.out.get 1 rfl).nth 52 HY.out.2.2.2.2
     obtain ⟨e0, e1, e2, z0, z1, z2⟩ := Zu (T.out.get 2 rfl)
     go_region_held3 (fun x => (∃ a b c, Env w [(g0, 194, [.int .i64 whn, .int .i64 st, .int .i64 ln, .int .i64 cl, .slice A rn rk, .bool pl, .bool ea]), (g1, 57, ys), (g2, 29, [a, b, c])] [] [] x) ∧ x.cell? ⟨g0, 0, none⟩ = some (.int .i64 whn) ∧ x.cell? ⟨g0, 1, none⟩ = some (.int .i64 st) ∧ x.cell? ⟨g0, 2, none⟩ = some (.int .i64 ln) ∧ x.cell? ⟨g0, 3, none⟩ = some (.int .i64 cl) ∧ x.cell? ⟨g0, 4, none⟩ = some (.slice A rn rk) ∧ x.cell? ⟨g0, 5, none⟩ = some (.bool pl) ∧ x.cell? ⟨g0, 6, none⟩ = some (.bool ea) ∧ x.cell? ⟨g1, 51, none⟩ = some (.slice U tn uc) ∧ x.cell? ⟨g1, 52, none⟩ = some (.slice V en vc)) (first
 | assumption
 | exact flatB HY.out.2.2.2.1 HY.out.2.2.2.2 ⟨_, _, _, T.out⟩
 | exact flatB HY.out.2.2.2.1 HY.out.2.2.2.2 ⟨_, _, _, T.out.drew⟩
 | exact flatB HY.out.2.2.2.1 HY.out.2.2.2.2 (ES_call (by first | assumption | exact And.left (by assumption)) bn)
 | exact flatB HY.out.2.2.2.1 HY.out.2.2.2.2 (ES_call (by first | assumption | exact And.left (by assumption)) (Za _ _))
 | exact flatB HY.out.2.2.2.1 HY.out.2.2.2.2 ⟨_, _, _, HE.out.put 2 rfl (put3L (HE.out.get 2 rfl) _ _ _)⟩) (first
 | (go_at_call 142; (with_reducible refine (hth1 _ (ES_below (by first | assumption | exact And.left (by assumption)))).mono ?_); rintro e wf ⟨rfl, bn⟩; simp only [faV])
 | (go_at_call 142; (with_reducible refine (hel1 _ (ES_below (by first | assumption | exact And.left (by assumption)))).mono ?_); rintro e wg ⟨rfl, bn⟩; simp only [faV])
 | (go_at_call 88; refine (hof _ _ (Zb.made _ _ _)).mono ?_; rintro e wh ⟨rfl, bn⟩; obtain ⟨x0, x1, x2, hE⟩ := ES_call (by first | assumption | exact And.left (by assumption)) bn; have HE := Hh hE; obtain ⟨e0, e1, e2, z0, z1, z2⟩ := Zu (hE.get 2 rfl); clear hE; simp only [faV]))
     all_goals
       have TT := HE.out.put 2 rfl (put3L (HE.out.get 2 rfl) (.int .i64 R.1) (.int .i64 R.2.1) (.int .i64 R.2.2))
       go_wp2
       exact Zs 6 29 29 g2 _ rfl (TT.get 2 rfl) Yh Zj rfl rfl ⟨rfl, TT.below⟩
   · rw [if_neg h10] at hR
     have b10 : (k == 10) = false := by simpa using h10
     by_cases h11 : k = 11
     · rw [if_pos h11] at hR
       subst h11 hR
       have hea1 := hea rfl
       clear hth hel hea h10 b10
       clear hst hpa hor
       have fd0 : we.cell? ⟨g1, 0, none⟩ = some (.int .i64 11) := (T.out.get 1 rfl).nth 0 HY.out.1
       go_wp2_with (first
 | ((with_reducible refine Wa ?_); refine Zn 4 _ (.const (.bool true)) 194 g0 6 [.int .i64 whn, .int .i64 st, .int .i64 ln, .int .i64 cl, .slice A rn rk, .bool pl] (.bool ea) (.bool true) [] (T.out.get 0 rfl) rfl lsize_bool rfl rfl rfl rfl rfl rfl ?_; intro wd p; have T := Hh (T.out.put 0 rfl p); clear p; obtain ⟨fc0, fc1, fc2, fc3, fc4, fc5, fc6⟩ := Yc (T.out.get 0 rfl); have fd51 : wd.cell? ⟨g1, 51, none⟩ = some (.slice U tn uc) := (T.out.get 1 rfl).nth 51 HY.out.2.2.2.1)
 | (go_at_call 142; refine (hea1 _ T.out.below).mono ?_; rintro e wf ⟨rfl, bn⟩; have T := Hh (T.out.call bn); clear bn)
 | ((with_reducible refine Zl 6 47 ?_); refine Zc 29 _ _ 29 g2 _ (faL R) (T.out.get 2 rfl) rfl Zj (faL_one _) rfl rfl rfl rfl rfl ?_; intro wd p; have T := Hh (T.out.put 2 rfl p); clear p))
       exact Zs 6 29 29 g2 _ rfl (T.out.get 2 rfl) Yh Zj rfl rfl ⟨rfl, T.out.below⟩
     · rw [if_neg h11] at hR
       subst hR
       have b11 : (k == 11) = false := by simpa using h11
       clear hth hel hea h10 h11
       clear hst hpa hor
       have fd0 : we.cell? ⟨g1, 0, none⟩ = some (.int .i64 k) := (T.out.get 1 rfl).nth 0 HY.out.1
       go_wp2_with (first
 | ((with_reducible refine Zl 6 28 ?_); refine Zc 29 _ _ 29 g2 _ ([.int .i64 0, .int .i64 0, .int .i64 0]) (T.out.get 2 rfl) rfl Zj (by simp [Value.oneCell']) rfl rfl rfl rfl rfl ?_; intro wd p; have T := Hh (T.out.put 2 rfl p); clear p))
       exact Zs 6 29 29 g2 _ rfl (T.out.get 2 rfl) Yh Zj rfl rfl ⟨rfl, T.out.below⟩
def LAsOK (l : Acs) : Prop := ∀ (c : Sc) (st ln cl : Int) (A : Option Addr) (rn rk : Nat) (w : World) (N : Nat → Prop) (v : Value), Zh N w (.row l.len l.ds .nil) [v] →
 Calls Tryz.prog 142 #[.agg (scL c st ln cl A rn rk).toArray, v] w fun e w' => e = .returned (faV (Jp c 0 l)) ∧ Below w.heap.size w w'
theorem lAct_any (c : Sc) (st ln cl : Int) (A : Option Addr) (rn rk : Nat) (h : AH) (t e : Acs) (ht : LAsOK t) (he : LAsOK e) (i : Int) (w : World) (N : Nat → Prop) (ys : List Value) (hd : Zh N w (h.dsr t.len t.ds e.len e.ds) ys) :
   Calls Tryz.prog 188 #[.agg (scL c st ln cl A rn rk).toArray, .int .i64 i, .agg ys.toArray] w fun r w' => r = .returned (faV (lAct c i h t e)) ∧ Below w.heap.size w w' := by
 have hpa := fun x (hb : Below w.heap.size w x) => lParts_any c st ln cl A rn rk h t.len e.len t.ds e.ds x N ys (hd.below hb)
 have hst := fun x => lStand_any c st ln cl A rn rk i h.kind x
 obtain ⟨sel, num, pl, pr, thn, els, rfl, h1, h2, h3, h4, h5, h6⟩ := act_of hd
 clear hd
 have hth := fun x (hb : Below w.heap.size w x) => ht c st ln cl A rn rk x N thn (h5.below hb)
 have hea := fun x (hb : Below w.heap.size w x) => ht ⟨c.place, c.whn, true⟩ st ln cl A rn rk x N thn (h5.below hb)
 have hel := fun x (hb : Below w.heap.size w x) => he c st ln cl A rn rk x N els (h6.below hb)
 obtain ⟨U, uc, _, rfl, _⟩ := h5.inRow
 obtain ⟨V, vc, _, rfl, _⟩ := h6.inRow
 have e1 : sel.length = 6 := by rw [h1.len, Se.ds_len]
 have e2 : num.length = 12 := by rw [h2.len, Ex.ds_len]
 have e3 : pl.length = 12 := by rw [h3.len, Ex.ds_len]
 have e4 : pr.length = 12 := by rw [h4.len, Ex.ds_len]
 obtain ⟨c0, c1, c2, _, _, _, _, _, _, c51, c52⟩ := actV_at (k := h.kind) (l := h.line) (c := h.col) (sd := h.side) (tk := h.tk) (tl := h.tl) (how := h.how) (nm := h.name) (cop := h.cop) (thn := .slice U t.len uc) (els := .slice V e.len vc) e1 e2 e3 e4
 have hyl : (Zz h.kind h.line h.col sel num h.side h.tk h.tl h.how h.name h.cop pl pr (.slice U t.len uc) (.slice V e.len vc)).length = 53 := by simp [Zz, e1, e2, e3, e4]
 clear h1 h2 h3 h4 h5 h6
 have hv : lAct c i h t e = if Xp [lStand c i h.kind, lParts c h] ≠ 0 then (Xp [lStand c i h.kind, lParts c h], h.line, h.col) else if h.kind = 10 then Vs [Jp c 0 t, Jp c 0 e] else if h.kind = 11 then Jp ⟨c.place, c.whn, true⟩ 0 t else (0, 0, 0) := by
   rw [orE2, orF2]; rfl
 rw [hv]
 generalize Zz h.kind h.line h.col sel num h.side h.tk h.tl h.how h.name h.cop pl pr (.slice U t.len uc) (.slice V e.len vc) = ys at *
 exact lAct_raw _ _ _ _ _ _ _ _ _ _ _ _ _ _ _ _ _ ys h.kind i w _ _ hyl c0 c1 c2 c51 c52 hst hpa _ _ _ (fun _ => hth) (fun _ => hel) (fun _ => hea)
def Acs.dropA : Acs → Nat → Acs
 | x, 0 => x
 | .nil, _ => .nil
 | .cons _ _ _ r, n + 1 => r.dropA n
theorem Acs.drop_at : ∀ (l : Acs) (k : Nat) (u : AH × Acs × Acs), l.at? k = some u → l.dropA k = .cons u.1 u.2.1 u.2.2 (l.dropA (k + 1))
 | .nil, k, u, h => by cases k <;> cases h
 | .cons h t e r, 0, u, hu => by
   have hu : some (h, t, e) = some u := hu
   injection hu with hu
   subst hu
   show Acs.cons h t e r = .cons h t e (r.dropA 0)
   cases r <;> rfl
 | .cons h t e r, k + 1, u, hu => Acs.drop_at r k u hu
theorem Acs.drop_end : ∀ (l : Acs) (k : Nat), l.len ≤ k → l.dropA k = .nil
 | .nil, 0, _ => rfl
 | .nil, k + 1, _ => rfl
 | .cons h t e r, 0, hl => by unfold Acs.len at hl; omega
 | .cons h t e r, k + 1, hl => Acs.drop_end r k (by unfold Acs.len at hl; omega)
def zAc : List Value := [.int .i64 0, .int .i64 0, .int .i64 0, .int .i64 0, .int .i64 0, .int .i64 0, .int .i64 0, .slice none 0 0, .int .i64 0, .int .i64 0, .int .i64 0, .int .i64 0, .int .i64 0, .int .i64 0, .int .i64 0, .slice none 0 0, .int .i64 0, .int .i64 0, .int .i64 0, .int .i64 0, .slice none 0 0, .int .i64 0, .int .i64 0, .int .i64 0, .int .i64 0, .string ⟨#[]⟩, .int .i64 0, .int .i64 0, .int .i64 0, .int .i64 0, .int .i64 0, .int .i64 0, .int .i64 0, .slice none 0 0, .int .i64 0, .int .i64 0, .int .i64 0, .int .i64 0, .slice none 0 0, .int .i64 0, .int .i64 0, .int .i64 0, .int .i64 0, .int .i64 0, .int .i64 0, .slice none 0 0, .int .i64 0, .int .i64 0, .int .i64 0, .int .i64 0, .slice none 0 0, .slice none 0 0, .slice none 0 0]
theorem lz_ac : (Tryz.prog.info? 57).map (fun i => i.zero.map Value.cells) = some (some zAc.toArray) := by kernel_rfl
theorem lActs_walk (l : Acs) (hall : ∀ k u, l.at? k = some u → LAsOK u.2.1 ∧ LAsOK u.2.2) : LAsOK l := by
 intro c st ln cl A rn rk w N v hv
 obtain ⟨B, bc, xs, rfl, hn, hw, hd⟩ := hv.inRow
 clear hv
 obtain ⟨n, hn0⟩ : ∃ n, n = l.len := ⟨_, rfl⟩
 rw [← hn0] at hn ⊢
 have HN := Hh hn0
 have HW := Hh (And.intro hw hd)
 have HA := Hh hall
 obtain ⟨R, hR⟩ : ∃ R, R = Jp c 0 l := ⟨_, rfl⟩
 rw [← hR]
 have HV := Hh hR
 clear hw hd hall hn0 hR
 have l63 : (n : Int) ≤ 9223372036854775807 := by omega
 obtain ⟨pl, whn, ea⟩ := c
 have hax := fun (h : AH) (t e : Acs) (ht : LAsOK t) (he : LAsOK e) (i : Int) (w : World) (N : Nat → Prop) (ys : List Value) hd => lAct_any ⟨pl, whn, ea⟩ st ln cl A rn rk h t e ht he i w N ys hd
 dsimp only [scL] at *
 have HX := Hh hax
 clear hax
 have T := Hh (Env.start w)
 go_enter Tryz.func142, Tryz.ntmps142
 go_wp2_with (first
 | ((with_reducible refine Ze 2 ?_); refine Zg T.out 194 _ ([.int .i64 whn, .int .i64 st, .int .i64 ln, .int .i64 cl, .slice A rn rk, .bool pl, .bool ea]) rfl rfl rfl ?_; intro wa g0 tn; have T := Hh tn; clear tn)
 | ((with_reducible refine Ze 4 ?_); refine Zi T.out 29 _ rfl rfl Jn ?_; intro wb g1 tn; have T := Hh tn; clear tn))
 go_loopw [10] (fun i wr => ∃ m : Nat, i = .int .i64 m ∧ m ≤ n ∧ Env w [(g0, 194, [.int .i64 whn, .int .i64 st, .int .i64 ln, .int .i64 cl, .slice A rn rk, .bool pl, .bool ea]), (g1, 29, [.int .i64 0, .int .i64 0, .int .i64 0])] [] [] wr ∧ Hid (R = Jp ⟨pl, whn, ea⟩ m (l.dropA m))) (fun i _ => n - (intOf i).toNat)
 case atStart => exact ⟨0, by go_num, Nat.zero_le _, T.out, Hh (by rw [HV.out]; cases l <;> rfl)⟩
 case round =>
   obtain ⟨m, rfl, hm, hT, hz⟩ := hrel
   have T := Hh hT
   clear hT
   by_cases hlt : m < n
   · obtain ⟨u, hu⟩ := Acs.at_some l m (by rw [← HN.out]; exact hlt)
     obtain ⟨g, ys, rfl, hg, hR, hy⟩ := act_at HW.out.1 HW.out.2 hu
     have hyl : ys.length = 53 := by rw [hy.len, AH.dsr_len]
     have hz2 := hz.out
     rw [Acs.drop_at l m u hu, lActs_cons] at hz2
     have hx := fun x (hb : Below w.heap.size w x) => HX.out u.1 u.2.1 u.2.2 (HA.out m u hu).1 (HA.out m u hu).2 (m : Int) x N ys (hy.below hb)
     generalize lAct ⟨pl, whn, ea⟩ (m : Int) u.1 u.2.1 u.2.2 = X at *
     have HR : Hid (∀ y, Below w.heap.size w y → y.rangeAt g (m * 53) ys) := Hh fun y hb j v hv => (World.cell?_of_block (a := ⟨g, m * 53 + j, none⟩) (hb.block g hg)).trans (hR j v hv)
     have HY := Hh hy
     clear hy hR hu hz
     obtain ⟨x0, x1, x2⟩ := X
     unfold faV at hx
     dsimp only at hx hz2
     have lk : (m : Int) < (n : Int) := by omega
     by_cases h0 : x0 = 0
     · rw [if_pos h0] at hz2
       have HZ := Hh hz2
       clear hz2
       subst h0
       go_wp2_with (first
 | ((with_reducible refine Ze 14 ?_); refine Ym 57 _ g (m * 53) ys (HR.out _ T.out.below) lrow_ac (by rw [hyl]; exact Ja) rfl rfl rfl ?_)
 | ((with_reducible refine Ze 6 ?_); refine Zi T.out 57 _ rfl rfl lz_ac ?_; intro wc g2 tn; have T := Hh tn; clear tn)
 | ((with_reducible refine Zl 6 14 ?_); refine Zc 57 _ _ 57 g2 _ (ys) (T.out.get 2 rfl) hyl (by rw [hyl]; exact Ja) HY.out.one rfl rfl rfl rfl rfl ?_; intro wd p; have T := Hh (T.out.put 2 rfl p); clear p)
 | ((with_reducible refine Ze 15 ?_); refine Zd 194 _ 194 g0 ([.int .i64 whn, .int .i64 st, .int .i64 ln, .int .i64 cl, .slice A rn rk, .bool pl, .bool ea]) (T.out.get 0 rfl) lrow_sc Jo rfl rfl rfl ?_)
 | ((with_reducible refine Ze 17 ?_); refine Zd 57 _ 57 g2 (ys) (T.out.get 2 rfl) lrow_ac (by rw [hyl]; exact Ja) rfl rfl rfl ?_)
 | (go_at_call 188; refine (hx _ T.out.below).mono ?_; rintro e we ⟨rfl, bn⟩; have T := Hh (T.out.call bn); clear bn)
 | ((with_reducible refine Ze 7 ?_); refine Zi T.out 29 _ rfl rfl Jn ?_; intro wf g3 tn; have T := Hh tn; clear tn)
 | ((with_reducible refine Zl 7 18 ?_); refine Zc 29 _ _ 29 g3 _ ([.int .i64 0, .int .i64 x1, .int .i64 x2]) (T.out.get 3 rfl) rfl Zj (by simp [Value.oneCell']) rfl rfl rfl rfl rfl ?_; intro wd p; have T := Hh (T.out.put 3 rfl p); clear p; obtain ⟨y0, y1, y2, _, _, _⟩ := Zu (T.out.get 3 rfl))
 | ((with_reducible refine Ze 22 ?_); refine Zd 29 _ 29 g3 ([.int .i64 0, .int .i64 x1, .int .i64 x2]) (T.out.get 3 rfl) Yh Zj rfl rfl rfl ?_)
 | ((with_reducible refine Zl 4 22 ?_); refine Zc 29 _ _ 29 g1 _ ([.int .i64 0, .int .i64 x1, .int .i64 x2]) (T.out.get 1 rfl) rfl Zj (by simp [Value.oneCell']) rfl rfl rfl rfl rfl ?_; intro wd p; have T := Hh (T.out.put 1 rfl p); clear p))
       go_roundw
       case rel => exact ⟨m + 1, by go_num, by omega, T.out.less (bs := [_, _]) (cs := [_, _]) (ts := []) (us := []), HZ⟩
       case measure => simp [intOf]; omega
     · rw [if_neg h0] at hz2
       subst hz2
       have hb0 : (x0 == 0) = false := by simpa using h0
       clear h0
       go_wp2_with (first
 | ((with_reducible refine Ze 14 ?_); refine Ym 57 _ g (m * 53) ys (HR.out _ T.out.below) lrow_ac (by rw [hyl]; exact Ja) rfl rfl rfl ?_)
 | ((with_reducible refine Ze 6 ?_); refine Zi T.out 57 _ rfl rfl lz_ac ?_; intro wc g2 tn; have T := Hh tn; clear tn)
 | ((with_reducible refine Zl 6 14 ?_); refine Zc 57 _ _ 57 g2 _ (ys) (T.out.get 2 rfl) hyl (by rw [hyl]; exact Ja) HY.out.one rfl rfl rfl rfl rfl ?_; intro wd p; have T := Hh (T.out.put 2 rfl p); clear p)
 | ((with_reducible refine Ze 15 ?_); refine Zd 194 _ 194 g0 ([.int .i64 whn, .int .i64 st, .int .i64 ln, .int .i64 cl, .slice A rn rk, .bool pl, .bool ea]) (T.out.get 0 rfl) lrow_sc Jo rfl rfl rfl ?_)
 | ((with_reducible refine Ze 17 ?_); refine Zd 57 _ 57 g2 (ys) (T.out.get 2 rfl) lrow_ac (by rw [hyl]; exact Ja) rfl rfl rfl ?_)
 | (go_at_call 188; refine (hx _ T.out.below).mono ?_; rintro e we ⟨rfl, bn⟩; have T := Hh (T.out.call bn); clear bn)
 | ((with_reducible refine Ze 7 ?_); refine Zi T.out 29 _ rfl rfl Jn ?_; intro wf g3 tn; have T := Hh tn; clear tn)
 | ((with_reducible refine Zl 7 18 ?_); refine Zc 29 _ _ 29 g3 _ ([.int .i64 x0, .int .i64 x1, .int .i64 x2]) (T.out.get 3 rfl) rfl Zj (by simp [Value.oneCell']) rfl rfl rfl rfl rfl ?_; intro wd p; have T := Hh (T.out.put 3 rfl p); clear p; obtain ⟨y0, y1, y2, _, _, _⟩ := Zu (T.out.get 3 rfl))
 | ((with_reducible refine Ze 22 ?_); refine Zd 29 _ 29 g3 ([.int .i64 x0, .int .i64 x1, .int .i64 x2]) (T.out.get 3 rfl) Yh Zj rfl rfl rfl ?_)
 | ((with_reducible refine Zl 4 22 ?_); refine Zc 29 _ _ 29 g1 _ ([.int .i64 x0, .int .i64 x1, .int .i64 x2]) (T.out.get 1 rfl) rfl Zj (by simp [Value.oneCell']) rfl rfl rfl rfl rfl ?_; intro wd p; have T := Hh (T.out.put 1 rfl p); clear p))
       exact Zs 4 29 29 g1 ([.int .i64 x0, .int .i64 x1, .int .i64 x2]) rfl (T.out.get 1 rfl) Yh Zj rfl rfl ⟨rfl, T.out.below⟩
   · have hz2 := hz.out
     rw [Acs.drop_end l m (by have := HN.out; omega)] at hz2
     have hz2 : R = (0, 0, 0) := hz2
     subst hz2
     clear hz
     go_wp2_with (first
 | ((with_reducible refine Zl 4 24 ?_); refine Zc 29 _ _ 29 g1 _ ([.int .i64 0, .int .i64 0, .int .i64 0]) (T.out.get 1 rfl) rfl Zj (by simp [Value.oneCell']) rfl rfl rfl rfl rfl ?_; intro wd p; have T := Hh (T.out.put 1 rfl p); clear p))
     exact Zs 4 29 29 g1 ([.int .i64 0, .int .i64 0, .int .i64 0]) rfl (T.out.get 1 rfl) Yh Zj rfl rfl ⟨rfl, T.out.below⟩
theorem lActs_ok (l : Acs) : LAsOK l :=
 lActs_walk l fun k u hu =>
   have h := Acs.at_lt l k u hu
   ⟨lActs_ok u.2.1, lActs_ok u.2.2⟩
termination_by SizeOf.sizeOf l
decreasing_by
 · exact (Acs.at_lt l k u hu).1
 · exact (Acs.at_lt l k u hu).2
def exKind : Ex → Int
 | .leaf k _ _ _ _ _ => k
 | .bin _ _ _ => 7
def exKids : Ex → List Ex
 | .leaf _ _ _ _ _ _ => []
 | .bin _ l r => [l, r]
def sumZ : List Ex → Int
 | [] => 0
 | x :: r => exZ x + sumZ r
theorem sumZ_snoc (x : Ex) : ∀ l : List Ex, sumZ (l ++ [x]) = sumZ l + exZ x
 | [] => by simp [sumZ]
 | y :: l => by show exZ y + sumZ (l ++ [x]) = exZ y + sumZ l + exZ x; rw [sumZ_snoc x l]; omega
theorem exZ_eq (x : Ex) : exZ x = if exKind x = 7 then 1 + sumZ (exKids x) else 1 := by
 cases x with
 | leaf k n s sd tk tl => show (1 : Int) = if k = 7 then 1 + 0 else 1; split <;> rfl
 | bin op l r => show 1 + exZ l + exZ r = if (7 : Int) = 7 then 1 + (exZ l + (exZ r + 0)) else 1; rw [if_pos rfl]; omega
theorem ex_parts {N : Nat → Prop} {w : World} {x : Ex} {vs : List Value} (h : Zh N w x.ds vs) : vs[0]? = some (.int .i64 (exKind x)) ∧ ∃ C kc xs, vs[11]? = some (.slice C (exKids x).length kc) ∧ Ji N w C xs ∧ Zh N w (lxsDs (exKids x)) xs := by
 cases x with
 | leaf k n s sd tk tl =>
   obtain ⟨_, rfl, _, rfl, h⟩ := h
   obtain ⟨sv, _, rfl, hs, h⟩ := Zh.split (x := s.ds) h
   obtain ⟨_, rfl, _, rfl, _, rfl, C, kc, xs, _, rfl, _, hw, hd, rfl⟩ := h
   have hl : sv.length = 6 := by rw [hs.len, Se.ds_len]
   exact ⟨rfl, C, kc, xs, by simp [List.getElem?_append, hl, exKids], hw, hd⟩
 | bin op l r =>
   obtain ⟨_, rfl, _, rfl, h⟩ := h
   obtain ⟨sv, _, rfl, hs, h⟩ := Zh.split (x := zSe.ds) h
   obtain ⟨_, rfl, _, rfl, _, rfl, C, kc, xs, _, rfl, _, hw, hd, rfl⟩ := h
   have hl : sv.length = 6 := by rw [hs.len, Se.ds_len]
   exact ⟨rfl, C, kc, xs, by simp [List.getElem?_append, hl, exKids], hw, by show Zh N w (l.ds.app (r.ds.app .nil)) xs; rw [Ds.app_nil]; exact hd⟩
def LZOK (x : Ex) : Prop := ∀ (w : World) (N : Nat → Prop) (vs : List Value), Zh N w x.ds vs →
 Calls Tryz.prog 189 #[.agg vs.toArray] w fun e w' => e = .returned (.int .i64 (Go.Proofs.YtljdgdphldckhaaGreat.wr (exZ x))) ∧ Below w.heap.size w w'
theorem lExSize_walk (x : Ex) (IH : ∀ y ∈ exKids x, LZOK y) : LZOK x := by
 intro w N vs h
 obtain ⟨c0, C, kc, xs, c11, hw, hd⟩ := ex_parts h
 have hv := exZ_eq x
 have hxl : (exKids x).length ≤ 2 := by cases x <;> simp [exKids]
 generalize exZ x = V at *
 generalize exKind x = kk at *
 generalize exKids x = K at *
 obtain ⟨kn, hkn⟩ : ∃ kn, kn = K.length := ⟨_, rfl⟩
 rw [← hkn] at hxl c11
 have HK := Hh hkn
 have HW := Hh (And.intro hw hd)
 have HI := Hh IH
 have HC := Hh (And.intro c0 c11)
 have l2 : (kn : Int) ≤ 2 := by omega
 clear hkn hw hd IH c0 c11 h
 have T := Hh (Env.start w)
 go_enter Tryz.func189, Tryz.ntmps189
 by_cases h7 : kk = 7
 · subst h7
   rw [if_pos rfl] at hv
   have HV := Hh hv
   clear hv
   go_wp2_with (((with_reducible refine Ze 1 ?_); refine Zg T.out 51 _ (vs) rfl rfl rfl ?_; intro wa g0 tn; have T := Hh tn; clear tn; have fd0 : wa.cell? ⟨g0, 0, none⟩ = some (.int .i64 7) := (T.out.get 0 rfl).nth 0 HC.out.1; have fd11 : wa.cell? ⟨g0, 11, none⟩ = some (.slice C kn kc) := (T.out.get 0 rfl).nth 11 HC.out.2))
   go_loopw [3, 12] (fun s i wy => ∃ m : Nat, i = .int .i64 m ∧ m ≤ kn ∧ s = .int .i64 (Go.Proofs.YtljdgdphldckhaaGreat.wr (1 + sumZ (K.take m))) ∧ Env w [(g0, 51, vs)] [] [] wy) (fun _ i _ => kn - (intOf i).toNat)
   case atStart => exact ⟨0, by go_num, Nat.zero_le _, by rw [List.take_zero]; rfl, T.out⟩
   case round =>
     obtain ⟨m, rfl, hm, rfl, hT⟩ := hrel
     have T := Hh hT
     clear hT
     by_cases hlt : m < kn
     · have hk1 : m < K.length := by rw [← HK.out]; exact hlt
       obtain ⟨pre, ys, post, hxs, hp, hy⟩ := lxs_at HW.out.2 m hk1
       have hyl : ys.length = 12 := by rw [hy.len, Ex.ds_len]
       obtain ⟨g, rfl, hg, hc⟩ := HW.out.1.reads (by rw [hxs]; simp; omega)
       have hx := HI.out (K[m]'hk1) (List.getElem_mem hk1)
       have hR : w.rangeAt g (m * 12) ys := Zam (by rw [hxs] at hc; exact hc) hp
       have HR : Hid (∀ y, Below w.heap.size w y → y.rangeAt g (m * 12) ys) := Hh fun y hb j v hv => (World.cell?_of_block (a := ⟨g, m * 12 + j, none⟩) (hb.block g hg)).trans (hR j v hv)
       have hsum : IntKind.i64.wrap (Go.Proofs.YtljdgdphldckhaaGreat.wr (1 + sumZ (K.take m)) + Go.Proofs.YtljdgdphldckhaaGreat.wr (exZ (K[m]'hk1))) = Go.Proofs.YtljdgdphldckhaaGreat.wr (1 + sumZ (K.take (m + 1))) := by
         rw [show K.take (m + 1) = K.take m ++ [K[m]'hk1] from by rw [List.take_add_one, List.getElem?_eq_getElem hk1]; rfl, sumZ_snoc]
         rw [show (1 : Int) + (sumZ (K.take m) + exZ (K[m]'hk1)) = 1 + sumZ (K.take m) + exZ (K[m]'hk1) from by omega]
         exact wr_add _ _
       unfold LZOK at hx
       generalize K[m] = y0 at *
       have HY := Hh hy
       generalize Go.Proofs.YtljdgdphldckhaaGreat.wr (1 + sumZ (K.take m)) = s0 at *
       have HS : Hid (∃ s1, s1 = Go.Proofs.YtljdgdphldckhaaGreat.wr (1 + sumZ (K.take (m + 1)))) := Hh ⟨_, rfl⟩
       obtain ⟨s1, hs1⟩ := HS.out
       rw [← hs1] at hsum
       have HS1 := Hh hs1
       generalize Go.Proofs.YtljdgdphldckhaaGreat.wr (exZ (K[m]'hk1)) = v0 at *
       clear hxs hp hc hR hy hk1 hs1 HS
       have lk : (m : Int) < (kn : Int) := by omega
       go_wp2_with (first
 | ((with_reducible refine Ze 15 ?_); refine Ym 51 _ g (m * 12) ys (HR.out _ T.out.below) Xn (by rw [hyl]; exact Xi) rfl rfl rfl ?_)
 | ((with_reducible refine Ze 5 ?_); refine Zi T.out 51 _ rfl rfl lz_ex ?_; intro wc g2 tn; have T := Hh tn; clear tn)
 | ((with_reducible refine Zl 5 15 ?_); refine Zc 51 _ _ 51 g2 _ (ys) (T.out.get 1 rfl) hyl (by rw [hyl]; exact Xi) HY.out.one rfl rfl rfl rfl rfl ?_; intro wd p; have T := Hh (T.out.put 1 rfl p); clear p)
 | ((with_reducible refine Ze 17 ?_); refine Zd 51 _ 51 g2 (ys) (T.out.get 1 rfl) Xn (by rw [hyl]; exact Xi) rfl rfl rfl ?_)
 | (go_at_call 189; refine (hx _ _ _ (HY.out.below T.out.below)).mono ?_; rintro e we ⟨rfl, bn⟩; have T := Hh (T.out.call bn); clear bn))
       go_roundw
       case rel => exact ⟨m + 1, by go_num, by omega, by rw [HS1.out], T.out.less (bs := [_]) (cs := [_]) (ts := []) (us := [])⟩
       case measure => simp [intOf]; omega
     · have hf : Go.Proofs.YtljdgdphldckhaaGreat.wr (1 + sumZ (K.take m)) = Go.Proofs.YtljdgdphldckhaaGreat.wr V := by rw [List.take_of_length_le (by have := HK.out; omega), HV.out]
       rw [hf]
       go_wp2
       go_ret
       exact ⟨rfl, T.out.below⟩
 · rw [if_neg h7] at hv
   subst hv
   have b7 : (kk == 7) = false := by simpa using h7
   go_wp2_with (((with_reducible refine Ze 1 ?_); refine Zg T.out 51 _ (vs) rfl rfl rfl ?_; intro wa g0 tn; have T := Hh tn; clear tn; have fd0 : wa.cell? ⟨g0, 0, none⟩ = some (.int .i64 kk) := (T.out.get 0 rfl).nth 0 HC.out.1; have fd11 : wa.cell? ⟨g0, 11, none⟩ = some (.slice C kn kc) := (T.out.get 0 rfl).nth 11 HC.out.2))
   go_ret
   exact ⟨by rw [wr_small (by omega) (by omega)]; rfl, T.out.below⟩
theorem lExSize_any : ∀ x : Ex, LZOK x
 | .leaf k n s sd tk tl => lExSize_walk _ (fun y hy => by cases hy)
 | .bin op l r => by
   have hl := lExSize_any l
   have hr := lExSize_any r
   refine lExSize_walk _ (fun y hy => ?_)
   rcases List.mem_cons.1 hy with rfl | hy
   · exact hl
   · cases List.mem_singleton.1 hy; exact hr
def acZ6 (k z1 z5 z6 z7 z8 : Int) (en : Nat) : Int :=
 if k = 1 ∨ k = 2 ∨ k = 6 ∨ k = 7 ∨ k = 9 ∨ k = 12 then z1 + 1 else if k = 10 then z5 + z6 + z7 + 1 + (if 0 < en then z8 + 1 else 0) else if k = 11 then z7 + 2 else 1
theorem lActSize_raw (ys num xl xr : List Value) (U V : Option Addr) (tn uc en vc : Nat) (k : Int) (w : World) (z1 z5 z6 z7 z8 : Int) (hyl : ys.length = 53) (h0 : ys[0]? = some (.int .i64 k)) (h51 : ys[51]? = some (.slice U tn uc)) (h52 : ys[52]? = some (.slice V en vc)) (hen : en ≤ 9223372036854775807)
   (hr1 : ∀ x g t, Zb x g t ys.toArray → x.rangeAt g 9 num) (hr5 : ∀ x g t, Zb x g t ys.toArray → x.rangeAt g 27 xl) (hr6 : ∀ x g t, Zb x g t ys.toArray → x.rangeAt g 39 xr) (hsnum : (Tryz.prog.info? 51).map (·.size) = some num.length) (hsxl : (Tryz.prog.info? 51).map (·.size) = some xl.length) (hsxr : (Tryz.prog.info? 51).map (·.size) = some xr.length)
   (hnum : ∀ x, Below w.heap.size w x → Calls Tryz.prog 189 #[.agg num.toArray] x fun e w' => e = .returned (.int .i64 (wr z1)) ∧ Below x.heap.size x w') (hxl : ∀ x, Below w.heap.size w x → Calls Tryz.prog 189 #[.agg xl.toArray] x fun e w' => e = .returned (.int .i64 (wr z5)) ∧ Below x.heap.size x w') (hxr : ∀ x, Below w.heap.size w x → Calls Tryz.prog 189 #[.agg xr.toArray] x fun e w' => e = .returned (.int .i64 (wr z6)) ∧ Below x.heap.size x w')
   (hth : ∀ x, Below w.heap.size w x → Calls Tryz.prog 93 #[.slice U tn uc] x fun e w' => e = .returned (.int .i64 (wr z7)) ∧ Below x.heap.size x w') (hel : ∀ x, Below w.heap.size w x → Calls Tryz.prog 93 #[.slice V en vc] x fun e w' => e = .returned (.int .i64 (wr z8)) ∧ Below x.heap.size x w') :
   Calls Tryz.prog 144 #[.agg ys.toArray] w fun e w' => e = .returned (.int .i64 (wr (acZ6 k z1 z5 z6 z7 z8 en))) ∧ Below w.heap.size w w' := by
 have a1 : IntKind.i64.wrap (wr z1 + 1) = wr (z1 + 1) := wr_addL _ _
 have b1 : IntKind.i64.wrap (wr z5 + wr z6) = wr (z5 + z6) := wr_add _ _
 have b2 : IntKind.i64.wrap (wr (z5 + z6) + wr z7) = wr (z5 + z6 + z7) := wr_add _ _
 have b3 : IntKind.i64.wrap (wr (z5 + z6 + z7) + 1) = wr (z5 + z6 + z7 + 1) := wr_addL _ _
 have b4 : IntKind.i64.wrap (wr z8 + 1) = wr (z8 + 1) := wr_addL _ _
 have b5 : IntKind.i64.wrap (wr (z5 + z6 + z7 + 1) + wr (z8 + 1)) = wr (z5 + z6 + z7 + 1 + (z8 + 1)) := wr_add _ _
 have d1 : IntKind.i64.wrap (wr z7 + 2) = wr (z7 + 2) := wr_addL _ _
 obtain ⟨R, hR⟩ : ∃ R, R = wr (acZ6 k z1 z5 z6 z7 z8 en) := ⟨_, rfl⟩
 rw [← hR]
 unfold acZ6 at hR
 have HR := Hh hR
 clear hR
 have T := Hh (Env.start w)
 have HC := Hh (And.intro h0 (And.intro h51 h52))
 clear h0 h51 h52
 have hr : (Tryz.prog.info? 57).map (·.size) = some ys.length := by rw [hyl]; exact Ja
 go_enter Tryz.func144, Tryz.ntmps144
 by_cases h1 : k = 1 ∨ k = 2 ∨ k = 6 ∨ k = 7 ∨ k = 9 ∨ k = 12
 · have hR := HR.out
   rw [if_pos h1] at hR
   subst hR
   generalize wr (z1 + 1) = A1 at *
   generalize wr z1 = B1 at *
   clear b1 b2 b3 b4 b5 d1 HR
   rcases h1 with rfl | rfl | rfl | rfl | rfl | rfl
   · go_wp2_with (first
 | ((with_reducible refine Ze 1 ?_); refine Zg T.out 57 _ (ys) rfl rfl rfl ?_; intro wa g0 tn; have T := Hh tn; clear tn; have fd0 : wa.cell? ⟨g0, 0, none⟩ = some (.int .i64 1) := (T.out.get 0 rfl).nth 0 HC.out.1)
 | ((with_reducible refine Ze 14 ?_); refine Ym 51 _ g0 9 num (hr1 _ _ _ (T.out.get 0 rfl)) Xn hsnum rfl rfl rfl ?_)
 | (go_at_call 189; refine (hnum _ T.out.below).mono ?_; rintro e we ⟨rfl, bn⟩; have T := Hh (T.out.call bn); clear bn))
     go_ret
     exact ⟨rfl, T.out.below⟩
   · go_wp2_with (first
 | ((with_reducible refine Ze 1 ?_); refine Zg T.out 57 _ (ys) rfl rfl rfl ?_; intro wa g0 tn; have T := Hh tn; clear tn; have fd0 : wa.cell? ⟨g0, 0, none⟩ = some (.int .i64 2) := (T.out.get 0 rfl).nth 0 HC.out.1)
 | ((with_reducible refine Ze 14 ?_); refine Ym 51 _ g0 9 num (hr1 _ _ _ (T.out.get 0 rfl)) Xn hsnum rfl rfl rfl ?_)
 | (go_at_call 189; refine (hnum _ T.out.below).mono ?_; rintro e we ⟨rfl, bn⟩; have T := Hh (T.out.call bn); clear bn))
     go_ret
     exact ⟨rfl, T.out.below⟩
   · go_wp2_with (first
 | ((with_reducible refine Ze 1 ?_); refine Zg T.out 57 _ (ys) rfl rfl rfl ?_; intro wa g0 tn; have T := Hh tn; clear tn; have fd0 : wa.cell? ⟨g0, 0, none⟩ = some (.int .i64 6) := (T.out.get 0 rfl).nth 0 HC.out.1)
 | ((with_reducible refine Ze 14 ?_); refine Ym 51 _ g0 9 num (hr1 _ _ _ (T.out.get 0 rfl)) Xn hsnum rfl rfl rfl ?_)
 | (go_at_call 189; refine (hnum _ T.out.below).mono ?_; rintro e we ⟨rfl, bn⟩; have T := Hh (T.out.call bn); clear bn))
     go_ret
     exact ⟨rfl, T.out.below⟩
   · go_wp2_with (first
 | ((with_reducible refine Ze 1 ?_); refine Zg T.out 57 _ (ys) rfl rfl rfl ?_; intro wa g0 tn; have T := Hh tn; clear tn; have fd0 : wa.cell? ⟨g0, 0, none⟩ = some (.int .i64 7) := (T.out.get 0 rfl).nth 0 HC.out.1)
 | ((with_reducible refine Ze 14 ?_); refine Ym 51 _ g0 9 num (hr1 _ _ _ (T.out.get 0 rfl)) Xn hsnum rfl rfl rfl ?_)
 | (go_at_call 189; refine (hnum _ T.out.below).mono ?_; rintro e we ⟨rfl, bn⟩; have T := Hh (T.out.call bn); clear bn))
     go_ret
     exact ⟨rfl, T.out.below⟩
   · go_wp2_with (first
 | ((with_reducible refine Ze 1 ?_); refine Zg T.out 57 _ (ys) rfl rfl rfl ?_; intro wa g0 tn; have T := Hh tn; clear tn; have fd0 : wa.cell? ⟨g0, 0, none⟩ = some (.int .i64 9) := (T.out.get 0 rfl).nth 0 HC.out.1)
 | ((with_reducible refine Ze 14 ?_); refine Ym 51 _ g0 9 num (hr1 _ _ _ (T.out.get 0 rfl)) Xn hsnum rfl rfl rfl ?_)
 | (go_at_call 189; refine (hnum _ T.out.below).mono ?_; rintro e we ⟨rfl, bn⟩; have T := Hh (T.out.call bn); clear bn))
     go_ret
     exact ⟨rfl, T.out.below⟩
   · go_wp2_with (first
 | ((with_reducible refine Ze 1 ?_); refine Zg T.out 57 _ (ys) rfl rfl rfl ?_; intro wa g0 tn; have T := Hh tn; clear tn; have fd0 : wa.cell? ⟨g0, 0, none⟩ = some (.int .i64 12) := (T.out.get 0 rfl).nth 0 HC.out.1)
 | ((with_reducible refine Ze 14 ?_); refine Ym 51 _ g0 9 num (hr1 _ _ _ (T.out.get 0 rfl)) Xn hsnum rfl rfl rfl ?_)
 | (go_at_call 189; refine (hnum _ T.out.below).mono ?_; rintro e we ⟨rfl, bn⟩; have T := Hh (T.out.call bn); clear bn))
     go_ret
     exact ⟨rfl, T.out.below⟩
 · have hR := HR.out
   rw [if_neg h1] at hR
   have n1 : (k == 1) = false := by rw [beq_eq_false_iff_ne]; omega
   have n2 : (k == 2) = false := by rw [beq_eq_false_iff_ne]; omega
   have n6 : (k == 6) = false := by rw [beq_eq_false_iff_ne]; omega
   have n7 : (k == 7) = false := by rw [beq_eq_false_iff_ne]; omega
   have n9 : (k == 9) = false := by rw [beq_eq_false_iff_ne]; omega
   have n12 : (k == 12) = false := by rw [beq_eq_false_iff_ne]; omega
   by_cases h10 : k = 10
   · subst h10
     rw [if_pos rfl] at hR
     clear n1 n2 n6 n7 n9 n12 h1 HR a1 d1
     have HR := Hh hR
     clear hR
     have D0 := Hh (Eq.refl (wr (z5 + z6 + z7 + 1)))
     have D9 := Hh (Eq.refl (wr (z5 + z6 + z7 + 1 + (z8 + 1))))
     generalize hD1 : wr (z5 + z6) = D1 at b1 b2
     generalize hD2 : wr (z5 + z6 + z7) = D2 at b2 b3
     generalize hD3 : wr (z5 + z6 + z7 + 1) = D3 at b3 b5
     generalize hD4 : wr (z8 + 1) = D4 at b4 b5
     generalize hD5 : wr (z5 + z6 + z7 + 1 + (z8 + 1)) = D5 at b5
     have H3 := Hh hD3
     have H5 := Hh hD5
     clear hD1 hD2 hD3 hD4 hD5 D0 D9
     generalize wr z5 = y5 at *
     generalize wr z6 = y6 at *
     generalize wr z7 = y7 at *
     generalize wr z8 = y8 at *
     go_upto_region 11 with (((with_reducible refine Ze 1 ?_); refine Zg T.out 57 _ (ys) rfl rfl rfl ?_; intro wa g0 tn; have T := Hh tn; clear tn; have fd0 : wa.cell? ⟨g0, 0, none⟩ = some (.int .i64 10) := (T.out.get 0 rfl).nth 0 HC.out.1))
     refine wp_region_held_drew (S := fun x => Env w [(g0, 57, ys)] [] [] x) (by kernel_rfl) T.out.drew (fun hS => ?_)
     refine Yr (i := 0) (v := .pointer (some ⟨g0, 26, none⟩)) rfl rfl (by kernel_rfl) (by kernel_rfl) (by kernel_rfl) (fun _ _ _ h => h) (Or.inl ⟨by rfl, fun y hy => by go_simp⟩) hS ?_
     try simp only [Qy1, Qx1]
     refine Yr (i := 1) (v := .pointer (some ⟨g0, 27, none⟩)) rfl rfl (by kernel_rfl) (by kernel_rfl) (by kernel_rfl) (fun _ _ _ h => h) (Or.inl ⟨by rfl, fun y hy => by go_simp⟩) hS ?_
     try simp only [Qy1, Qx1]
     refine Yr (i := 2) (v := .agg xl.toArray) rfl rfl (by kernel_rfl) (by kernel_rfl) (by kernel_rfl) (fun _ _ _ h => h) (Vv rfl rfl rfl (fun y hy => hr5 _ _ _ (Env.get hy 0 rfl)) Xn hsxl) hS ?_
     try simp only [Qy1, Qx1]
     refine Yr (i := 4) (v := .pointer (some ⟨g0, 26, none⟩)) rfl rfl (by kernel_rfl) (by kernel_rfl) (by kernel_rfl) (fun _ _ _ h => h) (Or.inl ⟨by rfl, fun y hy => by go_simp⟩) hS ?_
     try simp only [Qy1, Qx1]
     refine Yr (i := 5) (v := .pointer (some ⟨g0, 39, none⟩)) rfl rfl (by kernel_rfl) (by kernel_rfl) (by kernel_rfl) (fun _ _ _ h => h) (Or.inl ⟨by rfl, fun y hy => by go_simp⟩) hS ?_
     try simp only [Qy1, Qx1]
     refine Yr (i := 6) (v := .agg xr.toArray) rfl rfl (by kernel_rfl) (by kernel_rfl) (by kernel_rfl) (fun _ _ _ h => h) (Vv rfl rfl rfl (fun y hy => hr6 _ _ _ (Env.get hy 0 rfl)) Xn hsxr) hS ?_
     try simp only [Qy1, Qx1]
     refine Yr (i := 9) (v := .pointer (some ⟨g0, 51, none⟩)) rfl rfl (by kernel_rfl) (by kernel_rfl) (by kernel_rfl) (fun _ _ _ h => h) (Or.inl ⟨by rfl, fun y hy => by go_simp⟩) hS ?_
     try simp only [Qy1, Qx1]
     refine Yr (i := 10) (v := .slice U tn uc) rfl rfl (by kernel_rfl) (by kernel_rfl) (by kernel_rfl) (fun _ _ _ h => h) (Or.inl ⟨by rfl, fun y hy => by have c0 := (Env.get hy 0 rfl).nth 51 HC.out.2.1; go_simp⟩) hS ?_
     try simp only [Qy1, Qx1]
     refine wpAnyH_ready (rs := [3]) (by kernel_rfl) (by simp) (AllReadyH.cons rfl (fun K hK => ?_) AllReadyH.nil)
     go_simp
     go_at_call 189
     refine (hxl _ hS.below).mono ?_
     rintro e wf ⟨rfl, bn⟩
     try go_wp2
     refine hK.out _ _ (hS.call bn) (fun hS => ?_)
     clear hK K bn
     try simp only [Act.put, Qz1, Qy1, Qx1]
     refine wpAnyH_ready (rs := [7]) (by kernel_rfl) (by simp) (AllReadyH.cons rfl (fun K hK => ?_) AllReadyH.nil)
     go_simp
     go_at_call 189
     refine (hxr _ hS.below).mono ?_
     rintro e wf ⟨rfl, bn⟩
     try go_wp2
     refine hK.out _ _ (hS.call bn) (fun hS => ?_)
     clear hK K bn
     try simp only [Act.put, Qz1, Qy1, Qx1]
     refine Yr (i := 8) (v := .int .i64 D1) rfl rfl (by kernel_rfl) (by kernel_rfl) (by kernel_rfl) (fun _ _ _ h => h) (Or.inl ⟨by rfl, fun y hy => by go_simp⟩) hS ?_
     try simp only [Qy1, Qx1]
     refine wpAnyH_ready (rs := [11]) (by kernel_rfl) (by simp) (AllReadyH.cons rfl (fun K hK => ?_) AllReadyH.nil)
     go_simp
     go_at_call 93
     refine (hth _ hS.below).mono ?_
     rintro e we ⟨rfl, bn⟩
     try go_wp2
     refine hK.out _ _ (hS.call bn) (fun hS => ?_)
     clear hK K bn
     try simp only [Act.put, Qz1, Qy1, Qx1]
     refine Yr (i := 12) (v := .int .i64 D2) rfl rfl (by kernel_rfl) (by kernel_rfl) (by kernel_rfl) (fun _ _ _ h => h) (Or.inl ⟨by rfl, fun y hy => by go_simp⟩) hS ?_
     try simp only [Qy1, Qx1]
     refine Yr (i := 13) (v := .int .i64 D3) rfl rfl (by kernel_rfl) (by kernel_rfl) (by kernel_rfl) (fun _ _ _ h => h) (Or.inl ⟨by rfl, fun y hy => by go_simp⟩) hS ?_
     try simp only [Qy1, Qx1]
     refine wpAnyH_ready (rs := [14]) (by kernel_rfl) (by simp) (AllReadyH.cons rfl (fun K hK => ?_) AllReadyH.nil)
     go_simp
     refine hK.out _ _ hS (fun hS => ?_)
     clear hK K
     try simp only [Act.put, Qz1, Qy1, Qx1]
     refine wpAnyH_done (by kernel_rfl) ?_ _
     have T := Hh hS
     clear hS
     have fd52 : we.cell? ⟨g0, 52, none⟩ = some (.slice V en vc) := (T.out.get 0 rfl).nth 52 HC.out.2.2
     have hen2 : (en : Int) ≤ 9223372036854775807 := by omega
     by_cases hE : 0 < en
     · have hE2 : (0 : Int) < (en : Int) := by omega
       have hR := HR.out
       rw [if_pos hE, H5.out] at hR
       subst hR
       go_wp2_with (first
 | (go_at_call 93; refine (hel _ T.out.below).mono ?_; rintro e we ⟨rfl, bn⟩; have T := Hh (T.out.call bn); clear bn))
       go_ret
       exact ⟨rfl, T.out.below⟩
     · have hE2 : ¬ (0 : Int) < (en : Int) := by omega
       have hR := HR.out
       rw [if_neg hE, Int.add_zero, H3.out] at hR
       subst hR
       go_wp2
       go_ret
       exact ⟨rfl, T.out.below⟩
   · rw [if_neg h10] at hR
     have n10 : (k == 10) = false := by simpa using h10
     by_cases h11 : k = 11
     · subst h11
       rw [if_pos rfl] at hR
       subst hR
       generalize wr (z7 + 2) = A1 at *
       generalize wr z7 = B1 at *
       clear n1 n2 n6 n7 n9 n12 n10 h1 h10 HR a1 b1 b2 b3 b4 b5
       go_wp2_with (first
 | ((with_reducible refine Ze 1 ?_); refine Zg T.out 57 _ (ys) rfl rfl rfl ?_; intro wa g0 tn; have T := Hh tn; clear tn; have fd0 : wa.cell? ⟨g0, 0, none⟩ = some (.int .i64 11) := (T.out.get 0 rfl).nth 0 HC.out.1; have fd51 : wa.cell? ⟨g0, 51, none⟩ = some (.slice U tn uc) := (T.out.get 0 rfl).nth 51 HC.out.2.1)
 | (go_at_call 93; refine (hth _ T.out.below).mono ?_; rintro e we ⟨rfl, bn⟩; have T := Hh (T.out.call bn); clear bn))
       go_ret
       exact ⟨rfl, T.out.below⟩
     · rw [if_neg h11] at hR
       have n11 : (k == 11) = false := by simpa using h11
       rw [wr_small (by omega) (by omega)] at hR
       subst hR
       clear h1 h10 h11 HR a1 b1 b2 b3 b4 b5 d1
       go_wp2_with (first
 | ((with_reducible refine Ze 1 ?_); refine Zg T.out 57 _ (ys) rfl rfl rfl ?_; intro wa g0 tn; have T := Hh tn; clear tn; have fd0 : wa.cell? ⟨g0, 0, none⟩ = some (.int .i64 k) := (T.out.get 0 rfl).nth 0 HC.out.1))
       go_ret
       exact ⟨rfl, T.out.below⟩
def LSZOK (l : Acs) : Prop := ∀ (w : World) (N : Nat → Prop) (v : Value), Zh N w (.row l.len l.ds .nil) [v] →
 Calls Tryz.prog 93 #[v] w fun e w' => e = .returned (.int .i64 (wr (Uu l))) ∧ Below w.heap.size w w'
theorem Zb.sub {w : World} {g : Nat} {t : TypeId} {l pre vs post : List Value} (h : Zb w g t l.toArray) (hl : l = pre ++ vs ++ post) {n : Nat} (hn : pre.length = n) : w.rangeAt g n vs := by
 subst hl hn; exact Zb.range h
theorem lActSize_any (h : AH) (t e : Acs) (ht : LSZOK t) (he : LSZOK e) (w : World) (N : Nat → Prop) (ys : List Value) (hd : Zh N w (h.dsr t.len t.ds e.len e.ds) ys) :
   Calls Tryz.prog 144 #[.agg ys.toArray] w fun r w' => r = .returned (.int .i64 (wr (acZ h (Uu t) (Uu e) e.len))) ∧ Below w.heap.size w w' := by
 obtain ⟨sel, num, pl, pr, thn, els, rfl, h1, h2, h3, h4, h5, h6⟩ := act_of hd
 clear hd
 have hnum := fun x (hb : Below w.heap.size w x) => lExSize_any h.num x N num (h2.below hb)
 have hcl := fun x (hb : Below w.heap.size w x) => lExSize_any h.cl x N pl (h3.below hb)
 have hcr := fun x (hb : Below w.heap.size w x) => lExSize_any h.cr x N pr (h4.below hb)
 have hth := fun x (hb : Below w.heap.size w x) => ht x N thn (h5.below hb)
 have hel := fun x (hb : Below w.heap.size w x) => he x N els (h6.below hb)
 obtain ⟨U, uc, _, rfl, _⟩ := h5.inRow
 obtain ⟨V, vc, _, rfl, hen, _⟩ := h6.inRow
 have e1 : sel.length = 6 := by rw [h1.len, Se.ds_len]
 have e2 : num.length = 12 := by rw [h2.len, Ex.ds_len]
 have e3 : pl.length = 12 := by rw [h3.len, Ex.ds_len]
 have e4 : pr.length = 12 := by rw [h4.len, Ex.ds_len]
 obtain ⟨c0, c1, c2, _, _, _, _, _, _, c51, c52⟩ := actV_at (k := h.kind) (l := h.line) (c := h.col) (sd := h.side) (tk := h.tk) (tl := h.tl) (how := h.how) (nm := h.name) (cop := h.cop) (thn := .slice U t.len uc) (els := .slice V e.len vc) e1 e2 e3 e4
 have hyl : (Zz h.kind h.line h.col sel num h.side h.tk h.tl h.how h.name h.cop pl pr (.slice U t.len uc) (.slice V e.len vc)).length = 53 := by simp [Zz, e1, e2, e3, e4]
 have r1 : ∀ x g t', Zb x g t' (Zz h.kind h.line h.col sel num h.side h.tk h.tl h.how h.name h.cop pl pr (.slice U t.len uc) (.slice V e.len vc)).toArray → x.rangeAt g 9 num := fun x g t' hW =>
   hW.sub (pre := [.int .i64 h.kind, .int .i64 h.line, .int .i64 h.col] ++ sel) (post := .int .i64 h.side :: .int .i64 h.tk :: .int .i64 h.tl :: .int .i64 h.how :: .string h.name :: .int .i64 h.cop :: (pl ++ (pr ++ [.slice U t.len uc, .slice V e.len vc]))) (by simp [Zz]) (by simp [e1])
 have r5 : ∀ x g t', Zb x g t' (Zz h.kind h.line h.col sel num h.side h.tk h.tl h.how h.name h.cop pl pr (.slice U t.len uc) (.slice V e.len vc)).toArray → x.rangeAt g 27 pl := fun x g t' hW =>
   hW.sub (pre := [.int .i64 h.kind, .int .i64 h.line, .int .i64 h.col] ++ sel ++ num ++ [.int .i64 h.side, .int .i64 h.tk, .int .i64 h.tl, .int .i64 h.how, .string h.name, .int .i64 h.cop]) (post := pr ++ [.slice U t.len uc, .slice V e.len vc]) (by simp [Zz]) (by simp [e1, e2])
 have r6 : ∀ x g t', Zb x g t' (Zz h.kind h.line h.col sel num h.side h.tk h.tl h.how h.name h.cop pl pr (.slice U t.len uc) (.slice V e.len vc)).toArray → x.rangeAt g 39 pr := fun x g t' hW =>
   hW.sub (pre := [.int .i64 h.kind, .int .i64 h.line, .int .i64 h.col] ++ sel ++ num ++ [.int .i64 h.side, .int .i64 h.tk, .int .i64 h.tl, .int .i64 h.how, .string h.name, .int .i64 h.cop] ++ pl) (post := [.slice U t.len uc, .slice V e.len vc]) (by simp [Zz]) (by simp [e1, e2, e3])
 have hv : acZ h (Uu t) (Uu e) e.len = acZ6 h.kind (exZ h.num) (exZ h.cl) (exZ h.cr) (Uu t) (Uu e) e.len := rfl
 rw [hv]
 generalize Zz h.kind h.line h.col sel num h.side h.tk h.tl h.how h.name h.cop pl pr (.slice U t.len uc) (.slice V e.len vc) = ys at *
 exact lActSize_raw ys num pl pr U V t.len uc e.len vc h.kind w _ _ _ _ _ hyl c0 c51 c52 hen r1 r5 r6 (by rw [e2]; exact Xi) (by rw [e3]; exact Xi) (by rw [e4]; exact Xi) hnum hcl hcr hth hel
theorem lActsSize_walk (l : Acs) (hall : ∀ k u, l.at? k = some u → LSZOK u.2.1 ∧ LSZOK u.2.2) : LSZOK l := by
 intro w N v hv
 obtain ⟨B, bc, xs, rfl, hn, hw, hd⟩ := hv.inRow
 clear hv
 obtain ⟨n, hn0⟩ : ∃ n, n = l.len := ⟨_, rfl⟩
 rw [← hn0] at hn ⊢
 have HN := Hh hn0
 have HW := Hh (And.intro hw hd)
 have HA := Hh hall
 obtain ⟨R, hR⟩ : ∃ R, R = Uu l := ⟨_, rfl⟩
 rw [← hR]
 have HV := Hh hR
 clear hw hd hall hn0 hR
 have l63 : (n : Int) ≤ 9223372036854775807 := by omega
 have T := Hh (Env.start w)
 go_enter Tryz.func93, Tryz.ntmps93
 go_wp2
 go_loopw [3, 8] (fun s i wy => ∃ m : Nat, i = .int .i64 m ∧ m ≤ n ∧ s = .int .i64 (Go.Proofs.YtljdgdphldckhaaGreat.wr (R - Uu (l.dropA m))) ∧ Env w [] [] [] wy) (fun _ i _ => n - (intOf i).toNat)
 case atStart => exact ⟨0, by go_num, Nat.zero_le _, by rw [show l.dropA 0 = l from by cases l <;> rfl, HV.out, Int.sub_self]; rfl, T.out⟩
 case round =>
   obtain ⟨m, rfl, hm, rfl, hT⟩ := hrel
   have T := Hh hT
   clear hT
   by_cases hlt : m < n
   · obtain ⟨u, hu⟩ := Acs.at_some l m (by rw [← HN.out]; exact hlt)
     obtain ⟨g, ys, rfl, hg, hR, hy⟩ := act_at HW.out.1 HW.out.2 hu
     have hyl : ys.length = 53 := by rw [hy.len, AH.dsr_len]
     have hx := fun x (hb : Below w.heap.size w x) => lActSize_any u.1 u.2.1 u.2.2 (HA.out m u hu).1 (HA.out m u hu).2 x N ys (hy.below hb)
     have hsum : IntKind.i64.wrap (Go.Proofs.YtljdgdphldckhaaGreat.wr (R - Uu (l.dropA m)) + Go.Proofs.YtljdgdphldckhaaGreat.wr (acZ u.1 (Uu u.2.1) (Uu u.2.2) u.2.2.len)) = Go.Proofs.YtljdgdphldckhaaGreat.wr (R - Uu (l.dropA (m + 1))) := by
       have e := Acs.drop_at l m u hu
       have e2 : Uu (l.dropA m) = acZ u.1 (Uu u.2.1) (Uu u.2.2) u.2.2.len + Uu (l.dropA (m + 1)) := by rw [e]; rfl
       rw [show R - Uu (l.dropA (m + 1)) = R - Uu (l.dropA m) + acZ u.1 (Uu u.2.1) (Uu u.2.2) u.2.2.len from by omega]
       exact wr_add _ _
     generalize acZ u.1 (Uu u.2.1) (Uu u.2.2) u.2.2.len = X at *
     have HR : Hid (∀ y, Below w.heap.size w y → y.rangeAt g (m * 53) ys) := Hh fun y hb j v hv => (World.cell?_of_block (a := ⟨g, m * 53 + j, none⟩) (hb.block g hg)).trans (hR j v hv)
     have HY := Hh hy
     clear hy hR hu
     have lk : (m : Int) < (n : Int) := by omega
     generalize Go.Proofs.YtljdgdphldckhaaGreat.wr (R - Uu (l.dropA m)) = s0 at *
     generalize Go.Proofs.YtljdgdphldckhaaGreat.wr X = x0 at *
     obtain ⟨s1, hs1⟩ : ∃ s1, s1 = Go.Proofs.YtljdgdphldckhaaGreat.wr (R - Uu (l.dropA (m + 1))) := ⟨_, rfl⟩
     rw [← hs1] at hsum
     have HS := Hh hs1
     clear hs1
     go_wp2_with (first
 | ((with_reducible refine Ze 11 ?_); refine Ym 57 _ g (m * 53) ys (HR.out _ T.out.below) lrow_ac (by rw [hyl]; exact Ja) rfl rfl rfl ?_)
 | ((with_reducible refine Ze 5 ?_); refine Zi T.out 57 _ rfl rfl lz_ac ?_; intro wc g2 tn; have T := Hh tn; clear tn)
 | ((with_reducible refine Zl 5 11 ?_); refine Zc 57 _ _ 57 g2 _ (ys) (T.out.get 0 rfl) hyl (by rw [hyl]; exact Ja) HY.out.one rfl rfl rfl rfl rfl ?_; intro wd p; have T := Hh (T.out.put 0 rfl p); clear p)
 | ((with_reducible refine Ze 13 ?_); refine Zd 57 _ 57 g2 (ys) (T.out.get 0 rfl) lrow_ac (by rw [hyl]; exact Ja) rfl rfl rfl ?_)
 | (go_at_call 144; refine (hx _ T.out.below).mono ?_; rintro e we ⟨rfl, bn⟩; have T := Hh (T.out.call bn); clear bn))
     go_roundw
     case rel => exact ⟨m + 1, by go_num, by omega, by rw [HS.out], T.out.less (bs := []) (cs := [_]) (ts := []) (us := [])⟩
     case measure => simp [intOf]; omega
   · have hf : Go.Proofs.YtljdgdphldckhaaGreat.wr (R - Uu (l.dropA m)) = Go.Proofs.YtljdgdphldckhaaGreat.wr R := by rw [Acs.drop_end l m (by have := HN.out; omega)]; show Go.Proofs.YtljdgdphldckhaaGreat.wr (R - 0) = _; rw [Int.sub_zero]
     rw [hf]
     go_wp2
     go_ret
     exact ⟨rfl, T.out.below⟩
theorem lActsSize_ok (l : Acs) : LSZOK l :=
 lActsSize_walk l fun k u hu =>
   have h := Acs.at_lt l k u hu
   ⟨lActsSize_ok u.2.1, lActsSize_ok u.2.2⟩
termination_by SizeOf.sizeOf l
decreasing_by
 · exact (Acs.at_lt l k u hu).1
 · exact (Acs.at_lt l k u hu).2
theorem lSize_any (a b c d : Int) (l : Acs) (w : World) (N : Nat → Prop) (v : Value) (h : Zh N w (.row l.len l.ds .nil) [v]) :
   Calls Tryz.prog 36 #[.agg ([.int .i64 a, .int .i64 b, .int .i64 c, .int .i64 d, v] : List Value).toArray] w fun e w' => e = .returned (.int .i64 (wr (Uu l))) ∧ Below w.heap.size w w' := by
 have hs := fun x (hb : Below w.heap.size w x) => lActsSize_ok l x N v (h.below hb)
 obtain ⟨A, k, _, rfl, _⟩ := h.inRow
 clear h
 generalize wr (Uu l) = Z at *
 go_enter Tryz.func36, Tryz.ntmps36
 go_wp2_with (go_at_call 93; refine (hs _ (Za _ _)).mono ?_; rintro e w1 ⟨rfl, b1⟩)
 go_ret
 exact ⟨rfl, Xr (Za _ _) b1⟩
section
variable (c : Sc) (st ln cl : Int) (A : Option Addr) (rn rk : Nat)
theorem lFault_any (e : Int) (w : World) : Calls Tryz.prog 140 #[.agg (scL c st ln cl A rn rk).toArray, .int .i64 e] w fun r w' => r = .returned (faV (atF e ln cl)) ∧ Below w.heap.size w w' := by
 have hf := fun x => lFaultAt e ln cl x
 generalize atF e ln cl = F at *
 obtain ⟨pl, whn, ea⟩ := c
 dsimp only [scL] at *
 have T := Hh (Env.start w)
 go_enter Tryz.func140, Tryz.ntmps140
 go_wp2_with (first
 | ((with_reducible refine Ze 2 ?_); refine Zg T.out 194 _ ([.int .i64 whn, .int .i64 st, .int .i64 ln, .int .i64 cl, .slice A rn rk, .bool pl, .bool ea]) rfl rfl rfl ?_; intro wa g0 tn; have T := Hh tn; clear tn)
 | ((with_reducible refine Ze 4 ?_); refine Zi T.out 29 _ rfl rfl Jn ?_; intro wb g1 tn; have T := Hh tn; clear tn; obtain ⟨fc0, fc1, fc2, fc3, fc4, fc5, fc6⟩ := Yc (T.out.get 0 rfl))
 | (go_at_call 185; refine (hf _).mono ?_; rintro r wc ⟨rfl, bn⟩; have T := Hh (T.out.call bn); clear bn)
 | ((with_reducible refine Zl 4 12 ?_); refine Zc 29 _ _ 29 g1 _ (faL F) (T.out.get 1 rfl) rfl Zj (faL_one _) rfl rfl rfl rfl rfl ?_; intro wd p; have T := Hh (T.out.put 1 rfl p); clear p))
 exact Zs 4 29 29 g1 (faL F) rfl (T.out.get 1 rfl) Yh Zj rfl rfl ⟨rfl, T.out.below⟩
theorem lBehind_any (l : Acs) (w : World) (N : Nat → Prop) (h : Zh N w (.row l.len l.ds .nil) [.slice A rn rk]) :
   Calls Tryz.prog 143 #[.agg (scL c st ln cl A rn rk).toArray] w fun e w' => e = .returned (.int .i64 (if 96 < wr (Uu l) then 3 else 0)) ∧ Below w.heap.size w w' := by
 have hs := fun x (hb : Below w.heap.size w x) => lSize_any c.whn st ln cl l x N _ (h.below hb)
 clear h
 generalize wr (Uu l) = Z at *
 obtain ⟨pl, whn, ea⟩ := c
 dsimp only [scL] at *
 go_enter Tryz.func143, Tryz.ntmps143
 by_cases hz : 96 < Z
 · rw [if_pos hz]
   go_wp2_with (go_at_call 36; refine (hs _ (Za _ _)).mono ?_; rintro e w1 ⟨rfl, b1⟩)
   go_ret
   exact ⟨rfl, Xr (Za _ _) b1⟩
 · rw [if_neg hz]
   go_wp2_with (go_at_call 36; refine (hs _ (Za _ _)).mono ?_; rintro e w1 ⟨rfl, b1⟩)
   go_ret
   exact ⟨rfl, Xr (Za _ _) b1⟩
theorem lBefore_any (i : Int) (w : World) : Calls Tryz.prog 141 #[.agg (scL c st ln cl A rn rk).toArray, .int .i64 i] w fun e w' => e = .returned (.int .i64 (lBefore c.place i ⟨c.whn, st, ln, cl, .nil⟩)) ∧ Below w.heap.size w w' := by
 have ht := fun x => lTriggered c st ln cl A rn rk x
 have ha := fun x => lAlways c st ln cl A rn rk x
 have ho := fun x => lOutside st 1 3 x
 have hv : lBefore c.place i ⟨c.whn, st, ln, cl, .nil⟩ = if 4 ≤ i then 9 else if (if c.whn = 6 then c.place else if c.whn = 2 ∨ c.whn = 3 then !c.place else true) = false then 13 else if (c.whn == 5 && outB st 1 3) = true then 12 else 0 := rfl
 generalize lBefore c.place i ⟨c.whn, st, ln, cl, .nil⟩ = V at *
 generalize (if c.whn = 6 then c.place else if c.whn = 2 ∨ c.whn = 3 then !c.place else true) = q1 at *
 generalize (c.whn == 5) = q2 at *
 generalize outB st 1 3 = q3 at *
 obtain ⟨pl, whn, ea⟩ := c
 dsimp only [scL] at *
 have T := Hh (Env.start w)
 go_enter Tryz.func141, Tryz.ntmps141
 by_cases h4 : 4 ≤ i
 · go_wp2_with (first
 | ((with_reducible refine Ze 2 ?_); refine Zg T.out 194 _ ([.int .i64 whn, .int .i64 st, .int .i64 ln, .int .i64 cl, .slice A rn rk, .bool pl, .bool ea]) rfl rfl rfl ?_; intro wn gn tn; have T := Hh tn; clear tn; obtain ⟨fc0, fc1, fc2, fc3, fc4, fc5, fc6⟩ := Yc (T.out.get 0 rfl))
 | (go_at_call 186; refine (ht _).mono ?_; rintro e wn ⟨rfl, bn⟩; have T := Hh (T.out.call bn); clear bn; obtain ⟨fc0, fc1, fc2, fc3, fc4, fc5, fc6⟩ := Yc (T.out.get 0 rfl))
 | (go_at_call 187; refine (ha _).mono ?_; rintro e wn ⟨rfl, bn⟩; have T := Hh (T.out.call bn); clear bn; obtain ⟨fc0, fc1, fc2, fc3, fc4, fc5, fc6⟩ := Yc (T.out.get 0 rfl))
 | (go_at_call 91; refine (ho _).mono ?_; rintro e wn ⟨rfl, bn⟩; have T := Hh (T.out.call bn); clear bn; obtain ⟨fc0, fc1, fc2, fc3, fc4, fc5, fc6⟩ := Yc (T.out.get 0 rfl)))
   go_ret
   exact ⟨by rw [hv, if_pos h4]; rfl, T.out.below⟩
 · rw [if_neg h4] at hv
   cases q1
   · rw [if_pos rfl] at hv
     go_wp2_with (first
 | ((with_reducible refine Ze 2 ?_); refine Zg T.out 194 _ ([.int .i64 whn, .int .i64 st, .int .i64 ln, .int .i64 cl, .slice A rn rk, .bool pl, .bool ea]) rfl rfl rfl ?_; intro wn gn tn; have T := Hh tn; clear tn; obtain ⟨fc0, fc1, fc2, fc3, fc4, fc5, fc6⟩ := Yc (T.out.get 0 rfl))
 | (go_at_call 186; refine (ht _).mono ?_; rintro e wn ⟨rfl, bn⟩; have T := Hh (T.out.call bn); clear bn; obtain ⟨fc0, fc1, fc2, fc3, fc4, fc5, fc6⟩ := Yc (T.out.get 0 rfl))
 | (go_at_call 187; refine (ha _).mono ?_; rintro e wn ⟨rfl, bn⟩; have T := Hh (T.out.call bn); clear bn; obtain ⟨fc0, fc1, fc2, fc3, fc4, fc5, fc6⟩ := Yc (T.out.get 0 rfl))
 | (go_at_call 91; refine (ho _).mono ?_; rintro e wn ⟨rfl, bn⟩; have T := Hh (T.out.call bn); clear bn; obtain ⟨fc0, fc1, fc2, fc3, fc4, fc5, fc6⟩ := Yc (T.out.get 0 rfl)))
     go_ret
     exact ⟨by rw [hv]; rfl, T.out.below⟩
   · rw [if_neg (by decide)] at hv
     cases q2 <;> cases q3 <;>
     · simp only [Bool.false_and, Bool.true_and, Bool.and_self, Bool.and_false, if_true, if_false, Bool.false_eq_true] at hv
       go_wp2_with (first
 | ((with_reducible refine Ze 2 ?_); refine Zg T.out 194 _ ([.int .i64 whn, .int .i64 st, .int .i64 ln, .int .i64 cl, .slice A rn rk, .bool pl, .bool ea]) rfl rfl rfl ?_; intro wn gn tn; have T := Hh tn; clear tn; obtain ⟨fc0, fc1, fc2, fc3, fc4, fc5, fc6⟩ := Yc (T.out.get 0 rfl))
 | (go_at_call 186; refine (ht _).mono ?_; rintro e wn ⟨rfl, bn⟩; have T := Hh (T.out.call bn); clear bn; obtain ⟨fc0, fc1, fc2, fc3, fc4, fc5, fc6⟩ := Yc (T.out.get 0 rfl))
 | (go_at_call 187; refine (ha _).mono ?_; rintro e wn ⟨rfl, bn⟩; have T := Hh (T.out.call bn); clear bn; obtain ⟨fc0, fc1, fc2, fc3, fc4, fc5, fc6⟩ := Yc (T.out.get 0 rfl))
 | (go_at_call 91; refine (ho _).mono ?_; rintro e wn ⟨rfl, bn⟩; have T := Hh (T.out.call bn); clear bn; obtain ⟨fc0, fc1, fc2, fc3, fc4, fc5, fc6⟩ := Yc (T.out.get 0 rfl)))
       go_ret
       exact ⟨by rw [hv]; rfl, T.out.below⟩
end
end Go.Proofs.YtljdgdphldckhaaGreat
