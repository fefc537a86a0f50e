/-
  A drawn region walked in one order: rows of cards laid, appended to, put into a state. No conditions.
-/
import Derived.Test.YtkalpclckgbedaaBwS
import Derived.Test.YtkalpclckgbedaaBrdE
import Derived.Test.YtkalpclckgbedaaStPiles
import Derived.Test.YtkalpclckgbedaaStSet
namespace Go.Proofs.Ytkalpclckgbedaa
open Go.ChangeShapes Go.WideShapes Go.ChangeAt Go.RowKit
set_option linter.unusedVariables false
set_option linter.unusedSimpArgs false
set_option maxRecDepth 20000
section
variable {ops : Array Oper} {Q : Exit → Act → World → Prop} {md : Region.Mode} {W : Nat → Bool}
theorem okOp {P : Program} {i k : Nat} {oi : Oper} {l : List Value} {d : List Deferred} {w : World} {K : Act → World → Prop} (hi : ops[i]? = some oi) (hg : oi.guard = none) (hd : oi.dst = some k)
    (he : ∃ v w', (execOp (⟨l.toArray, d⟩ : Act).eval oi).run P w = .ok (.value v) w' ∧ K ⟨(l.set k v).toArray, d⟩ w') : wpOp P ops Q i K ⟨l.toArray, d⟩ w := by
  obtain ⟨v, w', h1, h2⟩ := he
  unfold wpOp
  rw [hi]
  have hw : Region.wanted oi (yielded ops (⟨l.toArray, d⟩ : Act).tmps) = true := by unfold Region.wanted; rw [hg]
  simp only [hw, if_true]
  refine .inl ?_
  unfold Oper.wp
  rw [h1, Oper.upon_value, hd]
  simpa [Act.put] using h2
theorem catOp {i k : Nat} {oi : Oper} {l : List Value} {d : List Deferred} {w : World} {K : Act → World → Prop} (s t : Operand) (B : Nat) (v u : Value) (xs ys : List Ins) (hi : ops[i]? = some oi) (hg : oi.guard = none) (hd : oi.dst = some k)
    (ho : oi.op = .call { callee := .builtin .append, args := #[s, t], argTypes := #[22, 22] }) (hs : (⟨l.toArray, d⟩ : Act).eval s = v) (ht : (⟨l.toArray, d⟩ : Act).eval t = u)
    (hO : OwnI w B v xs) (hR : RowR w u ys) (hB : B ≤ w.heap.size) (hz : xs.length + ys.length ≤ 2199023255552)
    (h : ∀ A cp w', OwnI w' B (.slice A (xs ++ ys).length cp) (xs ++ ys) → w.grownBy w' v.ownBlock → ((Value.slice A (xs ++ ys).length cp).ownBlock = v.ownBlock ∨ (Value.slice A (xs ++ ys).length cp).ownBlock = some w.heap.size) → K ⟨(l.set k (.slice A (xs ++ ys).length cp)).toArray, d⟩ w') :
    wpOp Try.prog ops Q i K ⟨l.toArray, d⟩ w := by
  refine okOp hi hg hd ?_
  obtain ⟨v', w', hr, h2, h3, h5⟩ := run_cat w B v u xs.length (insC xs) ys oi.type hO hR hz hB
  have o2 : OwnI w' B v' (xs ++ ys) := by unfold OwnI; rw [insC_app, List.length_append]; exact h2
  obtain ⟨A, cp, rfl⟩ := own_len o2
  refine ⟨_, w', ?_, h A cp w' o2 h3 h5⟩
  unfold execOp
  simp only [ho, resolve, invoke, builtin, Sem.run_bind, Sem.run_pure, Result.andThen_ok, List.map_toArray, List.map_cons, List.map_nil, hs, ht, hr]
end
theorem st_cutL (l l' : List Value) (o : Nat) (v u : Value) (h : l[o]? = some v) (hs : l.toArray.setIfInBounds o u = l'.toArray) : l = l.take o ++ [v] ++ l.drop (o + 1) ∧ (l.take o).length = o ∧ l.take o ++ [u] ++ l.drop (o + 1) = l' := by
  obtain ⟨hlt, he⟩ := List.getElem?_eq_some_iff.1 h
  refine ⟨?_, by rw [List.length_take]; omega, ?_⟩
  · rw [← he, List.append_assoc, List.singleton_append, List.getElem_cons_drop, List.take_append_drop]
  · have h2 : l.set o u = l' := by
      have := congrArg Array.toList hs
      simpa using this
    rw [← h2, List.set_eq_take_append_cons_drop, if_pos hlt, List.append_assoc, List.singleton_append]
theorem stC_at_side (c : Sc) (r : Nat → Value) (i k : Nat) (hi : i < 3) (hk : k < 2) : (stC c r)[1 + i * 4 + 2 + k]? = some (r (2 * i + k)) := by
  have h := st_side (w := World.alloc default (.cells (stC c r).toArray 0)) (Whole.made default 0 (stC c r).toArray) i k hi hk
  rw [Whole.read (Whole.made default 0 (stC c r).toArray)] at h
  simpa using h
theorem upd_at (r : Nat → Value) (q : Nat) (v : Value) : upd r q v q = v := by unfold upd; rw [if_pos rfl]
theorem upd_ne (r : Nat → Value) {q p : Nat} (v : Value) (h : p ≠ q) : upd r q v p = r p := by unfold upd; rw [if_neg h]
theorem setRow_at (L : Nat → List Ins) (q : Nat) (l : List Ins) : setRow L q l q = l := by unfold setRow; rw [if_pos rfl]
theorem setRow_ne (L : Nat → List Ins) {q p : Nat} (l : List Ins) (h : p ≠ q) : setRow L q l p = L p := by unfold setRow; rw [if_neg h]
theorem OwnSt.below {w w' : World} {B : Nat} {r : Nat → Value} {L : Nat → List Ins} (h : OwnSt w B r L) (hb : Below w.heap.size w w') : OwnSt w' B r L := ⟨fun q hq => (h.own q hq).below hb, h.apart⟩
theorem OwnSt.rows {w : World} {B : Nat} {r : Nat → Value} {L : Nat → List Ins} (h : OwnSt w B r L) : Rows12 w r L := fun q hq => (h.own q hq).row
theorem OwnSt.mono {w : World} {B B' : Nat} {r : Nat → Value} {L : Nat → List Ins} (h : OwnSt w B r L) (hb : B' ≤ B) : OwnSt w B' r L := ⟨fun q hq => own_mono (h.own q hq) hb, h.apart⟩
/-- A row of a state is changed in its own block, or in a new one. -/
theorem OwnSt.change {w w' : World} {B q : Nat} {r : Nat → Value} {L : Nat → List Ins} {v : Value} {l : List Ins} (h : OwnSt w B r L) (hq : q < 12) (hk : Keeps (fun k => (r q).ownBlock = some k) w w') (hv : OwnI w' B v l) (hb : v.ownBlock = (r q).ownBlock ∨ v.ownBlock = some w.heap.size) :
    OwnSt w' B (upd r q v) (setRow L q l) := by
  have low : ∀ p, p < 12 → ∀ g, (r p).ownBlock = some g → g < w.heap.size := fun p hp g hg => (World.ownsRow.lt (h.own p hp) g hg).2
  refine ⟨fun p hp => ?_, fun p s hp hs hps g hg e => ?_⟩
  · by_cases e : p = q
    · subst e; rw [upd_at, setRow_at]; exact hv
    · rw [upd_ne _ _ e, setRow_ne _ _ e]
      exact hk.owns (h.own p hp) (fun k h1 h2 => h.apart p q hp hq e k h1 h2)
  · by_cases e1 : p = q
    · subst e1
      rw [upd_at] at hg
      rw [upd_ne _ _ (fun e => hps e.symm)] at e
      rcases hb with hb | hb
      · exact h.apart p s hp hs hps g (hb ▸ hg) e
      · rw [hb] at hg; injection hg with hg; have := low s hs g e; omega
    · rw [upd_ne _ _ e1] at hg
      by_cases e2 : s = q
      · subst e2
        rw [upd_at] at e
        rcases hb with hb | hb
        · exact h.apart p s hp hs hps g hg (hb ▸ e)
        · rw [hb] at e; injection e with e; have := low p hp g hg; omega
      · rw [upd_ne _ _ e2] at e
        exact h.apart p s hp hs hps g hg e
/-- What stands while a state in one's own block is changed. -/
structure StAt (w : World) (b B : Nat) (c : Sc) (r : Nat → Value) (L : Nat → List Ins) (x : World) : Prop where
  whole : Whole x b 33 (stC c r).toArray
  own : OwnSt x B r L
  below : Below w.heap.size w x
theorem StAt.ext {w : World} {b B : Nat} {c : Sc} {r : Nat → Value} {L : Nat → List Ins} {x y : World} (h : StAt w b B c r L x) (e : Below x.heap.size x y) : StAt w b B c r L y := ⟨h.whole.below e h.whole.inside, h.own.below e, bthen h.below e⟩
end Go.Proofs.Ytkalpclckgbedaa
