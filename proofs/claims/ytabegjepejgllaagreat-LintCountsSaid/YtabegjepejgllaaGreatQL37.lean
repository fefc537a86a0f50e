/-
  Texts Lint7. No conditions but those that each theorem names.
-/
import Derived.Test.YtabegjepejgllaaGreatQL36
namespace Go.Proofs.YtabegjepejgllaaGreat
open Go Go.RowKit
set_option linter.unusedVariables false
set_option linter.unusedSimpArgs false
set_option maxRecDepth 20000
set_option maxHeartbeats 12800000
theorem Vs : (Tryz.prog.info? 29).map (fun i => i.zero.map Value.cells) = some (some ([.int .i64 0, .int .i64 0, .int .i64 0] : List Value).toArray) := by kernel_rfl
theorem lrow_sc : (Tryz.prog.underlying 195).map TypeDesc.isRow = some true := by kernel_rfl
theorem Vx : (Tryz.prog.info? 195).map (·.size) = some 7 := by kernel_rfl
theorem lrow_ac : (Tryz.prog.underlying 57).map TypeDesc.isRow = some true := by kernel_rfl
theorem Vm : (Tryz.prog.info? 57).map (·.size) = some 53 := by kernel_rfl
theorem Zb.nth {w : World} {g : Nat} {t : TypeId} {l : List Value} (h : Zb w g t l.toArray) (i : Nat) {v : Value} (hv : l[i]? = some v) : w.cell? ⟨g, i, none⟩ = some v := by
 rw [h.read, List.getElem?_toArray]; exact hv
theorem Zb.range0 {w : World} {g : Nat} {t : TypeId} {l : List Value} (h : Zb w g t l.toArray) : w.rangeAt g 0 l := by
 have := Zb.range (a := []) (b := l) (c := []) (by simpa using h); exact this
theorem Yi {P : Program} {md : Region.Mode} {ops : Array Oper} {Q : Exit → Act → World → Prop} {S : World → Prop} {i k : Nat} {oi : Oper} {v : Value} {fuel : Nat} {listed : Array Bool} {l : List Value} {d : List Deferred} {w : World} (hi : ops[i]? = some oi) (hd : oi.dst = some k)
   (hs : Region.noSelect ops = true) (hf : Region.free md ops listed i = true) (hr : (Region.ready md ops listed).contains i = true)
   (hQ : ∀ c a w, Q (.panic c) (a.put oi.dst v) w → Q (.panic c) a w) (hy : YieldsIf P ops S oi v ⟨l.toArray, d⟩) (hS : S w)
   (h : wpAnyH P md ops Q S fuel (listed.setIfInBounds i true) ⟨(l.set k v).toArray, d⟩ w) : wpAnyH P md ops Q S (fuel + 1) listed ⟨l.toArray, d⟩ w := by
 refine wpAnyH_take hi hs hf hr hQ hy hS ?_
 rw [hd]
 simpa [Act.put] using h
theorem faL_one (F : Fa) : ∀ v ∈ faL F, v.oneCell' = true := by simp [faL, Value.oneCell']
theorem lsize_bool : (Tryz.prog.info? 4).map (·.size) = some 1 := by kernel_rfl
theorem put3L {w : World} {g : Nat} {t : TypeId} {a b c : Value} (h : Zb w g t #[a, b, c]) (x0 x1 x2 : Value) : Put w (((w.setCell ⟨g, 0, none⟩ x0).setCell ⟨g, 1, none⟩ x1).setCell ⟨g, 2, none⟩ x2) g t [x0, x1, x2] :=
 ⟨Zb.set3 h x0 x1 x2, (((Zn.refl (fun k => k = g) w).setCell (p := ⟨g, 0, none⟩) rfl x0).setCell (p := ⟨g, 1, none⟩) rfl x1).setCell (p := ⟨g, 2, none⟩) rfl x2⟩
theorem flatB {w x : World} {g0 g1 g2 : Nat} {whn st ln cl : Int} {pl ea : Bool} {A U V : Option Addr} {rn rk tn uc en vc : Nat} {ys : List Value} (h51 : ys[51]? = some (.slice U tn uc)) (h52 : ys[52]? = some (.slice V en vc)) (h : ∃ a b c, Env w [(g0, 195, [.int .i64 whn, .int .i64 st, .int .i64 ln, .int .i64 cl, .slice A rn rk, .bool pl, .bool ea]), (g1, 57, ys), (g2, 29, [a, b, c])] [] [] x) : (∃ a b c, Env w [(g0, 195, [.int .i64 whn, .int .i64 st, .int .i64 ln, .int .i64 cl, .slice A rn rk, .bool pl, .bool ea]), (g1, 57, ys), (g2, 29, [a, b, c])] [] [] x) ∧ x.cell? ⟨g0, 0, none⟩ = some (.int .i64 whn) ∧ x.cell? ⟨g0, 1, none⟩ = some (.int .i64 st) ∧ x.cell? ⟨g0, 2, none⟩ = some (.int .i64 ln) ∧ x.cell? ⟨g0, 3, none⟩ = some (.int .i64 cl) ∧ x.cell? ⟨g0, 4, none⟩ = some (.slice A rn rk) ∧ x.cell? ⟨g0, 5, none⟩ = some (.bool pl) ∧ x.cell? ⟨g0, 6, none⟩ = some (.bool ea) ∧ x.cell? ⟨g1, 51, none⟩ = some (.slice U tn uc) ∧ x.cell? ⟨g1, 52, none⟩ = some (.slice V en vc) := by
 obtain ⟨a, b, c, h1⟩ := id h
 have W0 := h1.get 0 rfl
 have W1 := h1.get 1 rfl
 exact ⟨h, W0.read 0, W0.read 1, W0.read 2, W0.read 3, W0.read 4, W0.read 5, W0.read 6, W1.nth 51 h51, W1.nth 52 h52⟩
theorem ES_call {w x y : World} {g0 g1 g2 : Nat} {l m : List Value} {s t u : TypeId} (h : ∃ a b c, Env w [(g0, s, l), (g1, t, m), (g2, u, [a, b, c])] [] [] x) (b : Below x.heap.size x y) : ∃ a b c, Env w [(g0, s, l), (g1, t, m), (g2, u, [a, b, c])] [] [] y := by
 obtain ⟨a, d, c, h1⟩ := h
 exact ⟨a, d, c, h1.call b⟩
theorem ES_below {w x : World} {g0 g1 g2 : Nat} {l m : List Value} {s t u : TypeId} (h : ∃ a b c, Env w [(g0, s, l), (g1, t, m), (g2, u, [a, b, c])] [] [] x) : Below w.heap.size w x := by
 obtain ⟨a, d, c, h1⟩ := h
 exact h1.below
theorem lAct_raw (whn st ln cl : Int) (pl ea : Bool) (A : Option Addr) (rn rk : Nat) (aln acl : Int) (U V : Option Addr) (tn uc en vc : Nat) (ys : List Value) (k : Int) (i : Int) (w : World) (s1 s2 : Int) (hyl : ys.length = 53) (h0 : ys[0]? = some (.int .i64 k)) (h1 : ys[1]? = some (.int .i64 aln)) (h2 : ys[2]? = some (.int .i64 acl)) (h51 : ys[51]? = some (.slice U tn uc)) (h52 : ys[52]? = some (.slice V en vc))
   (hst : ∀ x, Calls Tryz.prog 216 #[.agg ([.int .i64 whn, .int .i64 st, .int .i64 ln, .int .i64 cl, .slice A rn rk, .bool pl, .bool ea] : List Value).toArray, .int .i64 i, .int .i64 k] x fun e w' => e = .returned (.int .i64 s1) ∧ Below x.heap.size x w')
   (hpa : ∀ x, Below w.heap.size w x → Calls Tryz.prog 217 #[.agg ([.int .i64 whn, .int .i64 st, .int .i64 ln, .int .i64 cl, .slice A rn rk, .bool pl, .bool ea] : List Value).toArray, .agg ys.toArray] x fun e w' => e = .returned (.int .i64 s2) ∧ Below x.heap.size x w')
   (F G H : Fa) (hth : k = 10 → ∀ x, Below w.heap.size w x → Calls Tryz.prog 143 #[.agg ([.int .i64 whn, .int .i64 st, .int .i64 ln, .int .i64 cl, .slice A rn rk, .bool pl, .bool ea] : List Value).toArray, .slice U tn uc] x fun e w' => e = .returned (faV F) ∧ Below x.heap.size x w')
   (hel : k = 10 → ∀ x, Below w.heap.size w x → Calls Tryz.prog 143 #[.agg ([.int .i64 whn, .int .i64 st, .int .i64 ln, .int .i64 cl, .slice A rn rk, .bool pl, .bool ea] : List Value).toArray, .slice V en vc] x fun e w' => e = .returned (faV G) ∧ Below x.heap.size x w')
   (hea : k = 11 → ∀ x, Below w.heap.size w x → Calls Tryz.prog 143 #[.agg ([.int .i64 whn, .int .i64 st, .int .i64 ln, .int .i64 cl, .slice A rn rk, .bool pl, .bool true] : List Value).toArray, .slice U tn uc] x fun e w' => e = .returned (faV H) ∧ Below x.heap.size x w') :
   Calls Tryz.prog 189 #[.agg ([.int .i64 whn, .int .i64 st, .int .i64 ln, .int .i64 cl, .slice A rn rk, .bool pl, .bool ea] : List Value).toArray, .int .i64 i, .agg ys.toArray] w fun e w' => e = .returned (faV (if Xb [s1, s2] ≠ 0 then (Xb [s1, s2], aln, acl) else if k = 10 then Wo [F, G] else if k = 11 then H else (0, 0, 0))) ∧ Below w.heap.size w w' := by
 have hor := fun x g (hW : Zb x g 27 #[.int .i64 s1, .int .i64 s2]) => lOrE [s1, s2] 2 2 g x rfl (by omega) hW
 have SY : (Tryz.prog.info? 57).map (·.size) = some ys.length := by rw [hyl]; exact Vm
 have T := Hh (Env.start w)
 generalize Xb [s1, s2] = z at *
 obtain ⟨R, hR⟩ : ∃ R, R = (if z ≠ 0 then (z, aln, acl) else if k = 10 then Wo [F, G] else if k = 11 then H else (0, 0, 0)) := ⟨_, rfl⟩
 rw [← hR]
 have HR := Hh hR
 clear hR
 have HY := Hh (And.intro h0 (And.intro h1 (And.intro h2 (And.intro h51 h52))))
 clear h0 h1 h2 h51 h52
 go_enter Tryz.func189, Tryz.ntmps189
 go_upto_region 1 with (first
 | ((with_reducible refine Zg 3 ?_); refine wpList_boxE T.out 195 _ ([.int .i64 whn, .int .i64 st, .int .i64 ln, .int .i64 cl, .slice A rn rk, .bool pl, .bool ea]) rfl rfl rfl ?_; intro wa g0 tn; have T := Hh tn; clear tn)
 | ((with_reducible refine Zg 5 ?_); refine wpList_boxE T.out 57 _ (ys) rfl rfl rfl ?_; intro wb g1 tn; have T := Hh tn; clear tn)
 | ((with_reducible refine Zg 6 ?_); refine wpList_allocE T.out 29 _ rfl rfl Vs ?_; intro wc g2 tn; have T := Hh tn; clear tn))
 refine wp_region_held_drew (S := fun x => Env w [(g0, 195, [.int .i64 whn, .int .i64 st, .int .i64 ln, .int .i64 cl, .slice A rn rk, .bool pl, .bool ea]), (g1, 57, ys), (g2, 29, [.int .i64 0, .int .i64 0, .int .i64 0])] [] [] x) (by kernel_rfl) T.out.drew (fun hS => ?_)
 refine Yi (i := 0) (v := .agg ([.int .i64 whn, .int .i64 st, .int .i64 ln, .int .i64 cl, .slice A rn rk, .bool pl, .bool ea] : List Value).toArray) rfl rfl (by kernel_rfl) (by kernel_rfl) (by kernel_rfl) (fun _ _ _ h => h) (Wq rfl rfl rfl (fun y hy => (Env.get hy 0 rfl).range0) lrow_sc Vx) hS ?_
 try simp only [List.set_cons_zero, List.set_cons_succ]
 refine Yi (i := 1) (v := .int .i64 i) rfl rfl (by kernel_rfl) (by kernel_rfl) (by kernel_rfl) (fun _ _ _ h => h) (yield_move rfl rfl rfl) hS ?_
 try simp only [List.set_cons_zero, List.set_cons_succ]
 refine Yi (i := 2) (v := .pointer (some ⟨g1, 0, none⟩)) rfl rfl (by kernel_rfl) (by kernel_rfl) (by kernel_rfl) (fun _ _ _ h => h) (Or.inl ⟨by rfl, fun y hy => by go_simp⟩) hS ?_
 try simp only [List.set_cons_zero, List.set_cons_succ]
 refine Yi (i := 3) (v := .int .i64 k) rfl rfl (by kernel_rfl) (by kernel_rfl) (by kernel_rfl) (fun _ _ _ h => h) (Or.inl ⟨by rfl, fun y hy => by have c0 := (Env.get hy 1 rfl).nth 0 HY.out.1; go_simp⟩) hS ?_
 try simp only [List.set_cons_zero, List.set_cons_succ]
 refine Yi (i := 5) (v := .agg ([.int .i64 whn, .int .i64 st, .int .i64 ln, .int .i64 cl, .slice A rn rk, .bool pl, .bool ea] : List Value).toArray) rfl rfl (by kernel_rfl) (by kernel_rfl) (by kernel_rfl) (fun _ _ _ h => h) (Wq rfl rfl rfl (fun y hy => (Env.get hy 0 rfl).range0) lrow_sc Vx) hS ?_
 try simp only [List.set_cons_zero, List.set_cons_succ]
 refine Yi (i := 6) (v := .agg ys.toArray) rfl rfl (by kernel_rfl) (by kernel_rfl) (by kernel_rfl) (fun _ _ _ h => h) (Wq rfl rfl rfl (fun y hy => (Env.get hy 1 rfl).range0) lrow_ac SY) hS ?_
 try simp only [List.set_cons_zero, List.set_cons_succ]
 refine wpAnyH_ready (rs := [4]) (by kernel_rfl) (by simp) (AllReadyH.cons rfl (fun K hK => ?_) AllReadyH.nil)
 go_simp
 go_at_call 216
 refine (hst _).mono ?_
 rintro e wf ⟨rfl, bn⟩
 try go_wp2
 refine hK.out _ _ (hS.call bn) (fun hS => ?_)
 clear hK K bn
 try simp only [Act.put, List.setIfInBounds_toArray, List.set_cons_zero, List.set_cons_succ]
 refine wpAnyH_ready (rs := [7]) (by kernel_rfl) (by simp) (AllReadyH.cons rfl (fun K hK => ?_) AllReadyH.nil)
 go_simp
 go_at_call 217
 refine (hpa _ hS.below).mono ?_
 rintro e wf ⟨rfl, bn⟩
 try go_wp2
 refine hK.out _ _ (hS.call bn) (fun hS => ?_)
 clear hK K bn
 try simp only [Act.put, List.setIfInBounds_toArray, List.set_cons_zero, List.set_cons_succ]
 refine wpAnyH_ready (rs := [8]) (by kernel_rfl) (by simp) (AllReadyH.cons rfl (fun K hK => ?_) AllReadyH.nil)
 go_simp
 refine hK.out _ _ (hS.call (Za _ _)) (fun hS2 => ?_)
 clear hK K
 try simp only [Act.put, List.setIfInBounds_toArray, List.set_cons_zero, List.set_cons_succ]
 refine wpAnyH_ready (rs := [9]) (by kernel_rfl) (by simp) (AllReadyH.cons rfl (fun K hK => ?_) AllReadyH.nil)
 go_simp
 go_at_call 215
 refine (hor _ _ (Zb.made _ _ _)).mono ?_
 rintro e we ⟨rfl, bn⟩
 try go_wp2
 refine hK.out _ _ (hS2.call bn) (fun hS => ?_)
 clear hK K bn hS2
 try simp only [Act.put, List.setIfInBounds_toArray, List.set_cons_zero, List.set_cons_succ]
 refine wpAnyH_ready (rs := [10]) (by kernel_rfl) (by simp) (AllReadyH.cons rfl (fun K hK => ?_) AllReadyH.nil)
 go_simp
 refine hK.out _ _ hS (fun hS => ?_)
 clear hK K
 try simp only [Act.put, List.setIfInBounds_toArray, List.set_cons_zero, List.set_cons_succ]
 refine wpAnyH_done (by kernel_rfl) ?_ _
 have T := Hh hS
 clear hS
 by_cases hz : z ≠ 0
 · have hR := HR.out
   rw [if_pos hz] at hR
   subst hR
   have bz : (z == 0) = false := by simpa using hz
   have hat : atF z aln acl = (z, aln, acl) := if_neg hz
   have hfa := fun x => lFaultAt z aln acl x
   rw [hat] at hfa
   clear hz hat hth hel hea
   clear hst hpa hor HR
   have fd1 : we.cell? ⟨g1, 1, none⟩ = some (.int .i64 aln) := (T.out.get 1 rfl).nth 1 HY.out.2.1
   have fd2 : we.cell? ⟨g1, 2, none⟩ = some (.int .i64 acl) := (T.out.get 1 rfl).nth 2 HY.out.2.2.1
   go_wp2_with (first
 | (go_at_call 186; refine (hfa _).mono ?_; rintro e wf ⟨rfl, bn⟩; have T := Hh (T.out.call bn); clear bn)
 | ((with_reducible refine Zl 6 25 ?_); refine wpList_storeW 29 _ _ 29 g2 _ (faL (z, aln, acl)) (T.out.get 2 rfl) rfl Zj (faL_one _) rfl rfl rfl rfl rfl ?_; intro wd p; have T := Hh (T.out.put 2 rfl p); clear p))
   exact Zo 6 29 29 g2 _ rfl (T.out.get 2 rfl) Yc Zj rfl rfl ⟨rfl, T.out.below⟩
 · have hR := HR.out
   rw [if_neg hz] at hR
   obtain rfl : z = 0 := by omega
   clear hz
   by_cases h10 : k = 10
   · rw [if_pos h10] at hR
     subst h10
     have hth1 := hth rfl
     have hel1 := hel rfl
     clear hea hth hel
     clear hst hpa hor HR
     have hof := fun x g (hW : Zb x g 29 ([F, G].flatMap faL).toArray) => lOrF [F, G] 2 2 g x rfl (by omega) hW
     generalize Wo [F, G] = FG at *
     subst hR
     have fd0 : we.cell? ⟨g1, 0, none⟩ = some (.int .i64 10) := (T.out.get 1 rfl).nth 0 HY.out.1
     go_upto_region 7 with (fail)
     obtain ⟨fc0, fc1, fc2, fc3, fc4, fc5, fc6⟩ := Zc (T.out.get 0 rfl)
     have fd51 : we.cell? ⟨g1, 51, none⟩ = some (.slice U tn uc) := (T.out.get 1 rfl).nth 51 HY.out.2.2.2.1
     have fd52 : we.cell? ⟨g1, 52, none⟩ = some (.slice V en vc) := (T.out.get 1 rfl).nth 52 HY.out.2.2.2.2
     obtain ⟨e0, e1, e2, z0, z1, z2⟩ := Zu (T.out.get 2 rfl)
     go_region_held3 (fun x => (∃ a b c, Env w [(g0, 195, [.int .i64 whn, .int .i64 st, .int .i64 ln, .int .i64 cl, .slice A rn rk, .bool pl, .bool ea]), (g1, 57, ys), (g2, 29, [a, b, c])] [] [] x) ∧ x.cell? ⟨g0, 0, none⟩ = some (.int .i64 whn) ∧ x.cell? ⟨g0, 1, none⟩ = some (.int .i64 st) ∧ x.cell? ⟨g0, 2, none⟩ = some (.int .i64 ln) ∧ x.cell? ⟨g0, 3, none⟩ = some (.int .i64 cl) ∧ x.cell? ⟨g0, 4, none⟩ = some (.slice A rn rk) ∧ x.cell? ⟨g0, 5, none⟩ = some (.bool pl) ∧ x.cell? ⟨g0, 6, none⟩ = some (.bool ea) ∧ x.cell? ⟨g1, 51, none⟩ = some (.slice U tn uc) ∧ x.cell? ⟨g1, 52, none⟩ = some (.slice V en vc)) (first
 | assumption
 | exact flatB HY.out.2.2.2.1 HY.out.2.2.2.2 ⟨_, _, _, T.out⟩
 | exact flatB HY.out.2.2.2.1 HY.out.2.2.2.2 ⟨_, _, _, T.out.drew⟩
 | exact flatB HY.out.2.2.2.1 HY.out.2.2.2.2 (ES_call (by first | assumption | exact And.left (by assumption)) bn)
 | exact flatB HY.out.2.2.2.1 HY.out.2.2.2.2 (ES_call (by first | assumption | exact And.left (by assumption)) (Za _ _))
 | exact flatB HY.out.2.2.2.1 HY.out.2.2.2.2 ⟨_, _, _, HE.out.put 2 rfl (put3L (HE.out.get 2 rfl) _ _ _)⟩) (first
 | (go_at_call 143; (with_reducible refine (hth1 _ (ES_below (by first | assumption | exact And.left (by assumption)))).mono ?_); rintro e wf ⟨rfl, bn⟩; simp only [faV])
 | (go_at_call 143; (with_reducible refine (hel1 _ (ES_below (by first | assumption | exact And.left (by assumption)))).mono ?_); rintro e wg ⟨rfl, bn⟩; simp only [faV])
 | (go_at_call 89; refine (hof _ _ (Zb.made _ _ _)).mono ?_; rintro e wh ⟨rfl, bn⟩; obtain ⟨x0, x1, x2, hE⟩ := ES_call (by first | assumption | exact And.left (by assumption)) bn; have HE := Hh hE; obtain ⟨e0, e1, e2, z0, z1, z2⟩ := Zu (hE.get 2 rfl); clear hE; simp only [faV]))
     all_goals
       have TT := HE.out.put 2 rfl (put3L (HE.out.get 2 rfl) (.int .i64 R.1) (.int .i64 R.2.1) (.int .i64 R.2.2))
       go_wp2
       exact Zo 6 29 29 g2 _ rfl (TT.get 2 rfl) Yc Zj rfl rfl ⟨rfl, TT.below⟩
   · rw [if_neg h10] at hR
     have b10 : (k == 10) = false := by simpa using h10
     by_cases h11 : k = 11
     · rw [if_pos h11] at hR
       subst h11 hR
       have hea1 := hea rfl
       clear hth hel hea h10 b10
       clear hst hpa hor
       have fd0 : we.cell? ⟨g1, 0, none⟩ = some (.int .i64 11) := (T.out.get 1 rfl).nth 0 HY.out.1
       go_wp2_with (first
 | ((with_reducible refine Xg ?_); refine wpList_store1 4 _ (.const (.bool true)) 195 g0 6 [.int .i64 whn, .int .i64 st, .int .i64 ln, .int .i64 cl, .slice A rn rk, .bool pl] (.bool ea) (.bool true) [] (T.out.get 0 rfl) rfl lsize_bool rfl rfl rfl rfl rfl rfl ?_; intro wd p; have T := Hh (T.out.put 0 rfl p); clear p; obtain ⟨fc0, fc1, fc2, fc3, fc4, fc5, fc6⟩ := Zc (T.out.get 0 rfl); have fd51 : wd.cell? ⟨g1, 51, none⟩ = some (.slice U tn uc) := (T.out.get 1 rfl).nth 51 HY.out.2.2.2.1)
 | (go_at_call 143; refine (hea1 _ T.out.below).mono ?_; rintro e wf ⟨rfl, bn⟩; have T := Hh (T.out.call bn); clear bn)
 | ((with_reducible refine Zl 6 47 ?_); refine wpList_storeW 29 _ _ 29 g2 _ (faL R) (T.out.get 2 rfl) rfl Zj (faL_one _) rfl rfl rfl rfl rfl ?_; intro wd p; have T := Hh (T.out.put 2 rfl p); clear p))
       exact Zo 6 29 29 g2 _ rfl (T.out.get 2 rfl) Yc Zj rfl rfl ⟨rfl, T.out.below⟩
     · rw [if_neg h11] at hR
       subst hR
       have b11 : (k == 11) = false := by simpa using h11
       clear hth hel hea h10 h11
       clear hst hpa hor
       have fd0 : we.cell? ⟨g1, 0, none⟩ = some (.int .i64 k) := (T.out.get 1 rfl).nth 0 HY.out.1
       go_wp2_with (first
 | ((with_reducible refine Zl 6 28 ?_); refine wpList_storeW 29 _ _ 29 g2 _ ([.int .i64 0, .int .i64 0, .int .i64 0]) (T.out.get 2 rfl) rfl Zj (by simp [Value.oneCell']) rfl rfl rfl rfl rfl ?_; intro wd p; have T := Hh (T.out.put 2 rfl p); clear p))
       exact Zo 6 29 29 g2 _ rfl (T.out.get 2 rfl) Yc Zj rfl rfl ⟨rfl, T.out.below⟩
end Go.Proofs.YtabegjepejgllaaGreat
