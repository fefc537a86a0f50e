/-
  Texts Gen. No conditions but those that each theorem names.
-/
import Derived.StillTailTactics
import Derived.Deep.AppendLies
import Derived.Deep.RegionLaw
import Derived.Test.YtjacgcjjdebbbaaGreatQD15
namespace Go.Proofs.YtjacgcjjdebbbaaGreat
open Go.ChangeShapes Go.WideShapes Go.ChangeAt Go.RowKit
set_option linter.unusedVariables false
set_option linter.unusedSimpArgs false
section
variable {P : Program} {ops : Array Oper} {S : World → Prop} {o : Oper} {a : Act}
end
theorem size_ins : (Tryz.prog.info? 93).map (·.size) = some 4 := by kernel_rfl
def ivs (l : List IV) : List Value := l.flatMap fun x => x.cells.toList
theorem ivs_snoc (l : List IV) (x : IV) : ivs (l ++ [x]) = ivs l ++ x.cells.toList := by simp [ivs]
theorem info_ins : (Tryz.prog.info? 93).map (fun i => (i.zero, i.size, i.bytes)) = some (some (.agg #[.int .i64 0, .int .i64 0, .int .i64 0, .int .i64 0]), 4, 32) := by kernel_rfl
structure GAt (B : Nat) (w : World) (p : Nat) (C S N : Value) (l : List IV) (k : Nat) (xs : List Value) (ns : List Value) : Prop where
 whole : Zb w p 89 #[C, S, N]
 code : w.ownsRow B 93 4 C l.length (ivs l)
 sels : w.ownsRow B 60 6 S k xs
 names : w.ownsRow B 9 1 N ns.length ns
 pB : B ≤ p
 pC : C.ownBlock ≠ some p
 pS : S.ownBlock ≠ some p
 pN : N.ownBlock ≠ some p
 cs : Vy C S
 cn : Vy C N
 sn : Vy S N
def gown (p : Nat) (C S N : Value) (k : Nat) : Prop := k = p ∨ C.ownBlock = some k ∨ S.ownBlock = some k ∨ N.ownBlock = some k
structure Xm (p : Nat) (C S N : Value) (w : World) (C' S' N' : Value) (w' : World) : Prop where
 keeps : Zg (gown p C S N) w w'
 fresh : ∀ k, gown p C' S' N' k → gown p C S N k ∨ w.heap.size ≤ k
theorem Xm.refl (p : Nat) (C S N : Value) (w : World) : Xm p C S N w C S N w := ⟨Zg.refl _ _, fun _ h => .inl h⟩
theorem Xm.trans {p : Nat} {C S N C1 S1 N1 C2 S2 N2 : Value} {a b c : World} (h : Xm p C S N a C1 S1 N1 b) (k : Xm p C1 S1 N1 b C2 S2 N2 c) : Xm p C S N a C2 S2 N2 c := by
 have nk : ∀ i, i < a.heap.size → ¬ gown p C S N i → ¬ gown p C1 S1 N1 i := fun i hi hn c => by
   rcases h.fresh i c with e | e
   · exact hn e
   · omega
 refine ⟨⟨k.keeps.os.trans h.keeps.os, k.keeps.tape.trans h.keeps.tape, k.keeps.output.trans h.keeps.output, Nat.le_trans h.keeps.size k.keeps.size, fun i hi hn => ?_⟩, fun i hi => ?_⟩
 · exact (k.keeps.block i (Nat.lt_of_lt_of_le hi h.keeps.size) (nk i hi hn)).trans (h.keeps.block i hi hn)
 · rcases k.fresh i hi with e | e
   · exact h.fresh i e
   · exact .inr (Nat.le_trans h.keeps.size e)
theorem Xm.of_below {p : Nat} {C S N : Value} {a b : World} (h : Below a.heap.size a b) : Xm p C S N a C S N b := ⟨Zg.of_below h, fun _ h => .inl h⟩
theorem GAt.below {B : Nat} {w w' : World} {p : Nat} {C S N : Value} {l : List IV} {k : Nat} {xs ns : List Value} (h : GAt B w p C S N l k xs ns) (hb : Below w.heap.size w w') : GAt B w' p C S N l k xs ns :=
 ⟨h.whole.below hb h.whole.inside, Xr h.code hb, Xr h.sels hb, Xr h.names hb, h.pB, h.pC, h.pS, h.pN, h.cs, h.cn, h.sn⟩
theorem GAt.drew {B : Nat} {w : World} {p : Nat} {C S N : Value} {l : List IV} {k : Nat} {xs ns : List Value} (h : GAt B w p C S N l k xs ns) : GAt B w.drew p C S N l k xs ns := h.below ⟨rfl, rfl, rfl, Nat.le_refl _, fun _ _ => rfl⟩
def Aside (w : World) (p : Nat) (C S N : Value) (g : Nat) : Prop := g < w.heap.size ∧ ¬ gown p C S N g
theorem Xm.aside {p : Nat} {C S N C' S' N' : Value} {w w' : World} (h : Xm p C S N w C' S' N' w') {g : Nat} (ha : Aside w p C S N g) : Aside w' p C' S' N' g :=
 ⟨Nat.lt_of_lt_of_le ha.1 h.keeps.size, fun c => by rcases h.fresh g c with e | e; exact ha.2 e; have := ha.1; omega⟩
theorem GAt.new {B : Nat} {w : World} {p : Nat} {C S N : Value} {l : List IV} {k : Nat} {xs ns : List Value} (h : GAt B w p C S N l k xs ns) (o : Obj) : Aside (w.alloc o) p C S N w.heap.size := by
 refine ⟨by simp, fun c => ?_⟩
 rcases c with c | c | c | c
 · have := h.whole.inside; omega
 · have := (h.code.lt _ c).2; omega
 · have := (h.sels.lt _ c).2; omega
 · have := (h.names.lt _ c).2; omega
theorem GAt.pushC {B : Nat} {w w' : World} {p : Nat} {C S N C' : Value} {l : List IV} {k : Nat} {xs ns : List Value} (h : GAt B w p C S N l k xs ns) (x : IV) (ho : w'.ownsRow B 93 4 C' (l.length + 1) (ivs l ++ x.cells.toList)) (hg : w.grownBy w' C.ownBlock)
   (hat : C'.ownBlock = C.ownBlock ∨ ∃ q, C'.ownBlock = some q ∧ w.heap.size ≤ q) : GAt B (w'.setCell ⟨p, 0, none⟩ C') p C' S N (l ++ [x]) k xs ns ∧ Xm p C S N w C' S N (w'.setCell ⟨p, 0, none⟩ C') := by
 have hk : Zg (fun k => C.ownBlock = some k) w w' := Zg.grown (Zg.refl _ _) hg fun k hk => hk
 have hin := h.whole.inside
 have n1 : C'.ownBlock ≠ some p := by
   rcases hat with e | ⟨q, e, hq⟩ <;> rw [e]
   · exact h.pC
   · intro c; injection c with c; omega
 have ap : ∀ (V : Value) {m : Nat} {e : TypeId} {sz : Nat} {ys : List Value}, w.ownsRow B e sz V m ys → Vy C V → Vy C' V := by
   intro V m e sz ys hv ha q hq
   rcases hat with e | ⟨q2, e, hq2⟩
   · exact ha q (by rw [← e]; exact hq)
   · intro c
     rw [e] at hq; injection hq with hq
     have := (hv.lt _ c).2
     omega
 have hw : Zb w' p 89 #[C, S, N] := hk.whole h.whole h.pC
 refine ⟨⟨?_, ?_, ?_, ?_, h.pB, n1, h.pS, h.pN, ap S h.sels h.cs, ap N h.names h.cn, h.sn⟩, ⟨?_, ?_⟩⟩
 · have := hw.write 0 C'; simpa using this
 · rw [ivs_snoc, List.length_append]; exact Yx ho n1 _
 · exact Yx (hk.owns h.sels fun q hq c => h.cs q c hq) h.pS _
 · exact Yx (hk.owns h.names fun q hq c => h.cn q c hq) h.pN _
 · exact (hk.mono (fun q hq => .inr (.inl hq))).setCell (p := ⟨p, 0, none⟩) (.inl rfl) _
 · intro q hq
   rcases hq with c | c | c | c
   · exact .inl (.inl c)
   · rcases hat with e | ⟨q2, e, hq2⟩
     · exact .inl (.inr (.inl (by rw [← e]; exact c)))
     · rw [e] at c; injection c with c; exact .inr (by omega)
   · exact .inl (.inr (.inr (.inl c)))
   · exact .inl (.inr (.inr (.inr c)))
theorem gNext (w : World) (p n cp : Nat) (A : Option Addr) (c0 : w.cell? ⟨p, 0, none⟩ = some (.slice A n cp)) : Calls Tryz.prog 94 #[.pointer (some ⟨p, 0, none⟩)] w fun e w' => e = .returned (.int .i64 (n : Int)) ∧ w = w' := by
 go_enter Tryz.func94, Tryz.ntmps94
 go_wp2
 go_ret
 exact ⟨rfl, rfl⟩
set_option maxRecDepth 20000 in
set_option maxHeartbeats 3200000 in
theorem gPut (B : Nat) (w : World) (p : Nat) (C S N : Value) (l : List IV) (k : Nat) (xs ns : List Value) (x : IV) (h : GAt B w p C S N l k xs ns) (hl : l.length ≤ 1000000) (hB : B ≤ w.heap.size) :
   Calls Tryz.prog 93 #[.pointer (some ⟨p, 0, none⟩), .agg x.cells] w fun e w' => e = .returned (.int .i64 (l.length : Int)) ∧ ∃ C', GAt B w' p C' S N (l ++ [x]) k xs ns ∧ Xm p C S N w C' S N w' := by
 obtain ⟨A, cp, rfl, hcp, hml, _⟩ := Xn h.code
 obtain ⟨i0, hi0, hz0, hsz0, hby0⟩ := info_parts info_ins
 unfold maxLen at hml
 have bx := Yk (Below.refl _ w) (.cells x.cells 93)
 have hW1 : (w.alloc (.cells x.cells 93)).heap.size = w.heap.size + 1 := by simp
 have hX := Hh (Zb.made w 93 x.cells)
 have hgX := Hh (Xm.of_below (p := p) (C := .slice A l.length cp) (S := S) (N := N) bx)
 have H1 := Hh (h.below bx)
 obtain ⟨x0, x1, x2, x3⟩ := x
 unfold IV.cells at *
 simp only at *
 have hp : p < w.heap.size := h.whole.inside
 obtain ⟨c0, c1, c2, f0, f1, f2⟩ := Zq H1.out.whole
 have hne : some p ≠ (Value.slice A l.length cp).ownBlock := fun c => H1.out.pC c.symm
 have HL := Hh hl
 clear h
 go_enter Tryz.func93, Tryz.ntmps93
 go_wp2_with (go_at_call 94; refine (gNext _ _ _ _ _ c0).mono ?_; rintro e w1 ⟨rfl, rfl⟩)
 obtain ⟨i0', i1', i2', i3'⟩ := Yj hX.out
 generalize w.alloc (.cells #[.int .i64 x0, .int .i64 x1, .int .i64 x2, .int .i64 x3] 93) = W at *
 have a1 : l.length + 1 ≤ maxLen := by unfold maxLen; omega
 have a2 : (l.length + 1) * 32 ≤ 140737488355328 := by omega
 have a3 : ∀ (Y : World) o, Laid Y W o → B ≤ Y.heap.size := fun Y o l => by rw [l.size]; omega
 have a4 : ∀ (Y : World) o, Laid Y W o → Y.heap.size = w.heap.size + 2 := fun Y o l => by rw [l.size]; omega
 have a5 : ∀ (Y : World), Laid Y W (.cells #[.int .i64 x0, .int .i64 x1, .int .i64 x2, .int .i64 x3] 93) → Y.heap[w.heap.size + 1]? = some (.cells #[.int .i64 x0, .int .i64 x1, .int .i64 x2, .int .i64 x3] 93 (0, 0)) := fun Y l => by rw [l.heap, ← hW1]; exact heap_alloc_new _ _
 have hpW : p < W.heap.size := by omega
 have hfar : ∀ (Y w3 : World), Y.grownBy w3 (Value.slice A l.length cp).ownBlock → Laid Y W (.cells #[.int .i64 x0, .int .i64 x1, .int .i64 x2, .int .i64 x3] 93) → w3.cell? ⟨p, 0, none⟩ = some (.slice A l.length cp) ∧ w3.frozen? ⟨p, 0, none⟩ = false := fun Y w3 hg l =>
   have hh := l.far hg (p := ⟨p, 0, none⟩) hpW hne
   ⟨hh.1.trans c0, hh.2.trans f0⟩
 have hgr : ∀ (Y w3 : World), Y.grownBy w3 (Value.slice A l.length cp).ownBlock → Laid Y W (.cells #[.int .i64 x0, .int .i64 x1, .int .i64 x2, .int .i64 x3] 93) → W.grownBy w3 (Value.slice A l.length cp).ownBlock := fun Y w3 hg l => l.grown hg
 have a6 : ∀ u ∈ ([.int .i64 x0, .int .i64 x1, .int .i64 x2, .int .i64 x3] : List Value), u.oneCell' = true := by simp [Value.oneCell']
 go_region_law (refine step_append_lies _ (by rfl) _ _ _ (by rfl) B 93 i0 _ 4 32 Tryz.underlying22 hi0 hz0 hsz0 hby0 (by rfl) (by decide) (.slice A l.length cp) l.length (ivs l) (by rfl) (by exact own_heap (H1.out.code.alloc _) rfl) ⟨w.heap.size + 1, 0, none⟩ 1 1 [.int .i64 x0, .int .i64 x1, .int .i64 x2, .int .i64 x3] (by rfl) (by rfl) (by exact World.news_of_block (cs := #[.int .i64 x0, .int .i64 x1, .int .i64 x2, .int .i64 x3]) (t := 93) (fr := (0, 0)) (a5 _ ⟨rfl, rfl, rfl, rfl⟩)) (by exact a6) (by decide) a1 a2 (by exact a3 _ _ ⟨rfl, rfl, rfl, rfl⟩) (w.heap.size + 2) (by exact a4 _ _ ⟨rfl, rfl, rfl, rfl⟩) ?_; intro gg cap1 w3 hown1 hgrow hat hlt3; have f3a := (hfar _ _ hgrow ⟨rfl, rfl, rfl, rfl⟩).1; have f3b := (hfar _ _ hgrow ⟨rfl, rfl, rfl, rfl⟩).2)
 all_goals
   have hmid := H1.out.pushC ⟨x0, x1, x2, x3⟩ hown1 (hgr _ _ hgrow ⟨rfl, rfl, rfl, rfl⟩) (hat.elim (fun e => .inl e.symm) fun e => .inr ⟨gg, rfl, by omega⟩)
   clear f3a f3b hgrow hown1 hat hlt3
   generalize w3.setCell ⟨p, 0, none⟩ (.slice (some ⟨gg, 0, none⟩) (l.length + 1) cap1) = wm at hmid ⊢
   have HM := Hh hmid
   clear hmid
   go_wp2
   go_ret
   exact ⟨rfl, _, HM.out.1, hgX.out.trans HM.out.2⟩
end Go.Proofs.YtjacgcjjdebbbaaGreat
