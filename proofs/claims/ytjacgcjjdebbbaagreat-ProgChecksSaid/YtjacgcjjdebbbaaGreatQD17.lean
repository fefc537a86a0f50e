/-
  Texts Gen2. No conditions but those that each theorem names.
-/
import Derived.Test.YtjacgcjjdebbbaaGreatQD16
namespace Go.Proofs.YtjacgcjjdebbbaaGreat
open Go.ChangeShapes Go.WideShapes Go.ChangeAt Go.RowKit
set_option linter.unusedVariables false
set_option linter.unusedSimpArgs false
theorem GAt.pushS {B : Nat} {w w' : World} {p : Nat} {C S N S' : Value} {l : List IV} {k : Nat} {xs ns : List Value} (h : GAt B w p C S N l k xs ns) (ys : List Value) (ho : w'.ownsRow B 60 6 S' (k + 1) (xs ++ ys)) (hg : w.grownBy w' S.ownBlock)
   (hat : S'.ownBlock = S.ownBlock ∨ ∃ q, S'.ownBlock = some q ∧ w.heap.size ≤ q) : GAt B (w'.setCell ⟨p, 1, none⟩ S') p C S' N l (k + 1) (xs ++ ys) ns ∧ Xm p C S N w C S' N (w'.setCell ⟨p, 1, none⟩ S') := by
 have hk : Zg (fun k => S.ownBlock = some k) w w' := Zg.grown (Zg.refl _ _) hg fun k hk => hk
 have hin := h.whole.inside
 have n1 : S'.ownBlock ≠ some p := by
   rcases hat with e | ⟨q, e, hq⟩ <;> rw [e]
   · exact h.pS
   · intro c; injection c with c; omega
 have ap : ∀ (V : Value) {m : Nat} {e : TypeId} {sz : Nat} {ys : List Value}, w.ownsRow B e sz V m ys → Vy S V → Vy S' V := by
   intro V m e sz ys hv ha q hq
   rcases hat with e | ⟨q2, e, hq2⟩
   · exact ha q (by rw [← e]; exact hq)
   · intro c
     rw [e] at hq; injection hq with hq
     have := (hv.lt _ c).2
     omega
 have hw : Zb w' p 89 #[C, S, N] := hk.whole h.whole h.pS
 refine ⟨⟨?_, ?_, ?_, ?_, h.pB, h.pC, n1, h.pN, (ap C h.code h.cs.symm).symm, h.cn, ap N h.names h.sn⟩, ⟨?_, ?_⟩⟩
 · have := hw.write 1 S'; simpa using this
 · exact Yx (hk.owns h.code fun q hq c => h.cs q hq c) h.pC _
 · exact Yx ho n1 _
 · exact Yx (hk.owns h.names fun q hq c => h.sn q c hq) h.pN _
 · exact (hk.mono (fun q hq => .inr (.inr (.inl hq)))).setCell (p := ⟨p, 1, none⟩) (.inl rfl) _
 · intro q hq
   rcases hq with c | c | c | c
   · exact .inl (.inl c)
   · exact .inl (.inr (.inl c))
   · rcases hat with e | ⟨q2, e, hq2⟩
     · exact .inl (.inr (.inr (.inl (by rw [← e]; exact c))))
     · rw [e] at c; injection c with c; exact .inr (by omega)
   · exact .inl (.inr (.inr (.inr c)))
theorem geql_nil {P : Program} (w : World) (t e : TypeId) (a : Option Addr) (n c : Nat) (h : P.underlying t = some (.slice e)) : (binOp .eql t (.slice a n c) (.slice none 0 0)).run P w = .ok (.bool a.isNone) w := by
 have hh : ∀ d, (Op.equalIn (d + 1) t (.slice a n c) (.slice none 0 0)).run P w = .ok a.isNone w := fun d => by cases a <;> simp [Op.equalIn, run_underlying h]
 simp only [binOp]
 simp [Op.equal, Op.maxDepth, hh 9999]
set_option maxRecDepth 20000 in
theorem gClone0 (w : World) (A : Option Addr) (c : Nat) : Calls Tryz.prog 123 #[.slice A 0 c] w fun e w' => ∃ V d, e = .returned (.slice V 0 d) ∧ Below w.heap.size w w' := by
 have hq := fun y => geql_nil (P := Tryz.prog) y 58 _ A 0 c Tryz.underlying58
 cases A with
 | none =>
   simp only [Option.isNone_none] at hq
   go_enter Tryz.func123, Tryz.ntmps123
   go_wp2
   go_ret
   exact ⟨_, _, rfl, Below.refl _ _⟩
 | some a =>
   simp only [Option.isNone_some] at hq
   go_enter Tryz.func123, Tryz.ntmps123
   go_wp2
   go_ret
   exact ⟨_, _, rfl, Yk (Below.refl _ _) _⟩
theorem GAt.setAside {B : Nat} {w : World} {p : Nat} {C S N : Value} {l : List IV} {k : Nat} {xs ns : List Value} (h : GAt B w p C S N l k xs ns) {g j : Nat} (ha : ¬ gown p C S N g) (u : Value) : GAt B (w.setCell ⟨g, j, none⟩ u) p C S N l k xs ns := by
 have hp : g ≠ p := fun c => ha (.inl c)
 refine ⟨h.whole.aside hp.symm u, Yx h.code (fun c => ha (.inr (.inl c))) u, Yx h.sels (fun c => ha (.inr (.inr (.inl c)))) u, Yx h.names (fun c => ha (.inr (.inr (.inr c)))) u, h.pB, h.pC, h.pS, h.pN, h.cs, h.cn, h.sn⟩
set_option maxRecDepth 20000 in
set_option maxHeartbeats 3200000 in
theorem gSel (B : Nat) (w : World) (p : Nat) (C S N : Value) (l : List IV) (k : Nat) (xs ns : List Value) (k1 sd wh ln pk : Int) (fv : Value) (R : Value → World → Prop) (h : GAt B w p C S N l k xs ns) (hl : k ≤ 1000000) (hB : B ≤ w.heap.size)
   (hcl : ∀ y, Below w.heap.size w y → Calls Tryz.prog 123 #[fv] y fun e y' => ∃ V n d, e = .returned (.slice V n d) ∧ Below y.heap.size y y' ∧ R (.slice V n d) y') :
   Calls Tryz.prog 95 #[.pointer (some ⟨p, 0, none⟩), .agg #[.int .i64 k1, .int .i64 sd, .int .i64 wh, .int .i64 ln, fv, .int .i64 pk]] w fun e w' => e = .returned (.int .i64 (k : Int)) ∧
     ∃ S' v, GAt B w' p C S' N l (k + 1) (xs ++ [.int .i64 k1, .int .i64 sd, .int .i64 wh, .int .i64 ln, v, .int .i64 pk]) ns ∧ Xm p C S N w C S' N w' ∧ ∃ y, R v y := by
 obtain ⟨A, cp, rfl, hcp, hml, _⟩ := Xn h.sels
 obtain ⟨i0, hi0, hz0, hsz0, hby0⟩ := info_parts info_sel
 unfold maxLen at hml
 have bx := Yk (Below.refl _ w) (.cells #[.int .i64 k1, .int .i64 sd, .int .i64 wh, .int .i64 ln, fv, .int .i64 pk] 60)
 have hX := Hh (Zb.made w 60 #[.int .i64 k1, .int .i64 sd, .int .i64 wh, .int .i64 ln, fv, .int .i64 pk])
 have hgX := Hh (Xm.of_below (p := p) (C := C) (S := .slice A k cp) (N := N) bx)
 have H1 := Hh (h.below bx)
 have HAS := Hh (h.new (.cells #[.int .i64 k1, .int .i64 sd, .int .i64 wh, .int .i64 ln, fv, .int .i64 pk] 60))
 have hcl1 := Hh (hcl _ bx)
 have hp : p < w.heap.size := h.whole.inside
 have hsz : (w.alloc (.cells #[.int .i64 k1, .int .i64 sd, .int .i64 wh, .int .i64 ln, fv, .int .i64 pk] 60)).heap.size = w.heap.size + 1 := by simp
 obtain ⟨c0, c1, c2, f0, f1, f2⟩ := Zq H1.out.whole
 have hne : some p ≠ (Value.slice A k cp).ownBlock := fun c => H1.out.pS c.symm
 clear h hcl
 go_enter Tryz.func95, Tryz.ntmps95
 go_wp2_with (go_at_call 123; refine hcl1.out.mono ?_; rintro e w1 ⟨V, n1, d, rfl, b1, r1⟩
              have X1 := Hh (hX.out.below b1 hX.out.inside)
              have H2 := Hh (H1.out.below b1)
              have hs1 := b1.size
              have hr1 := Hh r1
              have z4 := X1.out.thawed 4
              have q4 : w1.cell? ⟨w.heap.size, 4, none⟩ = some fv := by rw [X1.out.read]; rfl
              have BW := Hh ((Xq bx b1).setCell (p := ⟨w.heap.size, 4, none⟩) (Nat.le_refl _) (.slice V n1 d))
              have XW : Hid (Zb (w1.setCell ⟨w.heap.size, 4, none⟩ (.slice V n1 d)) w.heap.size 60 #[.int .i64 k1, .int .i64 sd, .int .i64 wh, .int .i64 ln, .slice V n1 d, .int .i64 pk]) := Hh (X1.out.write 4 (.slice V n1 d))
              have HW := Hh (H2.out.setAside (g := w.heap.size) (j := 4) HAS.out.2 (.slice V n1 d))
              clear b1 r1)
 have hsW : w.heap.size + 1 ≤ (w1.setCell ⟨w.heap.size, 4, none⟩ (.slice V n1 d)).heap.size := by have := hs1; simp at this ⊢; omega
 generalize w1.setCell ⟨w.heap.size, 4, none⟩ (.slice V n1 d) = W at *
 clear z4 q4 c0 c1 c2 f0 f1 f2
 obtain ⟨d0, d1, d2, e0, e1, e2⟩ := Zq HW.out.whole
 obtain ⟨s0, s1, s2, s3, s4, s5, _⟩ := pwhole6 XW.out
 have a1 : k + 1 ≤ maxLen := by unfold maxLen; omega
 have a2 : (k + 1) * 64 ≤ 140737488355328 := by omega
 have a3 : ∀ (Y : World) o, Laid Y W o → B ≤ Y.heap.size := fun Y o l => by rw [l.size]; omega
 have a4 : ∀ (Y : World) o, Laid Y W o → Y.heap.size = W.heap.size + 1 := fun Y o l => l.size
 have a5 : ∀ (Y : World), Laid Y W (.cells #[.int .i64 k1, .int .i64 sd, .int .i64 wh, .int .i64 ln, .slice V n1 d, .int .i64 pk] 60) → Y.heap[W.heap.size]? = some (.cells #[.int .i64 k1, .int .i64 sd, .int .i64 wh, .int .i64 ln, .slice V n1 d, .int .i64 pk] 60 (0, 0)) := fun Y l => by rw [l.heap]; exact heap_alloc_new _ _
 have hpW : p < W.heap.size := by omega
 have hfar : ∀ (Y w3 : World), Y.grownBy w3 (Value.slice A k cp).ownBlock → Laid Y W (.cells #[.int .i64 k1, .int .i64 sd, .int .i64 wh, .int .i64 ln, .slice V n1 d, .int .i64 pk] 60) → w3.cell? ⟨p, 1, none⟩ = some (.slice A k cp) ∧ w3.frozen? ⟨p, 1, none⟩ = false := fun Y w3 hg l =>
   have hh := l.far hg (p := ⟨p, 1, none⟩) hpW hne
   ⟨hh.1.trans d1, hh.2.trans e1⟩
 have hgr : ∀ (Y w3 : World), Y.grownBy w3 (Value.slice A k cp).ownBlock → Laid Y W (.cells #[.int .i64 k1, .int .i64 sd, .int .i64 wh, .int .i64 ln, .slice V n1 d, .int .i64 pk] 60) → W.grownBy w3 (Value.slice A k cp).ownBlock := fun Y w3 hg l => l.grown hg
 have a6 : ∀ u ∈ ([.int .i64 k1, .int .i64 sd, .int .i64 wh, .int .i64 ln, .slice V n1 d, .int .i64 pk] : List Value), u.oneCell' = true := by simp [Value.oneCell']
 go_region_law (refine step_append_lies _ (by rfl) _ _ _ (by rfl) B 60 i0 _ 6 64 Tryz.underlying24 hi0 hz0 hsz0 hby0 (by rfl) (by decide) (.slice A k cp) k (xs) (by rfl) (by exact own_heap (HW.out.sels.alloc _) rfl) ⟨W.heap.size, 0, none⟩ 1 1 [.int .i64 k1, .int .i64 sd, .int .i64 wh, .int .i64 ln, .slice V n1 d, .int .i64 pk] (by rfl) (by rfl) (by exact World.news_of_block (cs := #[.int .i64 k1, .int .i64 sd, .int .i64 wh, .int .i64 ln, .slice V n1 d, .int .i64 pk]) (t := 60) (fr := (0, 0)) (a5 _ ⟨rfl, rfl, rfl, rfl⟩)) (by exact a6) (by decide) a1 a2 (by exact a3 _ _ ⟨rfl, rfl, rfl, rfl⟩) (W.heap.size + 1) (by exact a4 _ _ ⟨rfl, rfl, rfl, rfl⟩) ?_; intro gg cap1 w3 hown1 hgrow hat hlt3; have f3a := (hfar _ _ hgrow ⟨rfl, rfl, rfl, rfl⟩).1; have f3b := (hfar _ _ hgrow ⟨rfl, rfl, rfl, rfl⟩).2)
 all_goals
   have hmid := HW.out.pushS [.int .i64 k1, .int .i64 sd, .int .i64 wh, .int .i64 ln, .slice V n1 d, .int .i64 pk] hown1 (hgr _ _ hgrow ⟨rfl, rfl, rfl, rfl⟩) (hat.elim (fun e => .inl e.symm) fun e => .inr ⟨gg, rfl, by omega⟩)
   clear f3a f3b hgrow hown1 hat hlt3
   generalize w3.setCell ⟨p, 1, none⟩ (.slice (some ⟨gg, 0, none⟩) (k + 1) cap1) = wm at hmid ⊢
   have HM := Hh hmid
   clear hmid
   go_wp2
   go_ret
   exact ⟨rfl, _, _, HM.out.1, (Xm.of_below BW.out).trans HM.out.2, _, hr1.out⟩
end Go.Proofs.YtjacgcjjdebbbaaGreat
