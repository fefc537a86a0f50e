/-
  Rows of cards: one row behind another, a state's cells. No conditions but on the lengths.
-/
import Derived.Test.YtkalpclckgbedaaStPlace
import Derived.Test.YtkalpclckgbedaaMem
import Derived.Laws.OwnMore
import Derived.Deep.RegionLaw
import Derived.BigRegion
namespace Go.Proofs.Ytkalpclckgbedaa
open Go.ChangeShapes Go.WideShapes Go.ChangeAt Go.RowKit
set_option linter.unusedVariables false
set_option linter.unusedSimpArgs false
set_option maxRecDepth 20000
set_option maxHeartbeats 3200000
/-- A row of cards of the call's own. -/
def OwnI (w : World) (B : Nat) (v : Value) (l : List Ins) : Prop := w.ownsRow B 50 7 v l.length (insC l)
theorem OwnI.row {w : World} {B : Nat} {v : Value} {l : List Ins} (h : OwnI w B v l) : RowR w v l := by
  rcases h.2 with ⟨rfl, e⟩ | ⟨g, c, cur, rfl, hb, hw, h1, h2, h3, h4⟩
  · refine ⟨none, 0, by rw [e], ?_, by omega, fun _ => rfl, by omega⟩
    rw [List.length_eq_zero_iff.1 e]
    exact .inl rfl
  · obtain ⟨A, c', e, _, h5, h6⟩ := own_form h
    injection e with e1 _ e3
    subst e1 e3
    exact ⟨_, c, rfl, h6.reads, h1, (fun e => by cases e), by omega⟩
theorem OwnI.below {w w' : World} {B : Nat} {v : Value} {l : List Ins} (h : OwnI w B v l) (hb : Below w.heap.size w w') : OwnI w' B v l := own_below h hb
theorem insC_app (a b : List Ins) : insC (a ++ b) = insC a ++ insC b := by
  unfold insC
  rw [List.flatMap_append]
theorem insC_one (l : List Ins) : ∀ u ∈ insC l, u.oneCell' = true := by
  intro u hu
  unfold insC at hu
  rw [List.mem_flatMap] at hu
  obtain ⟨x, _, hx⟩ := hu
  simp only [Ins.cells, List.mem_cons, List.not_mem_nil, or_false] at hx
  rcases hx with rfl | rfl | rfl | rfl | rfl | rfl | rfl <;> rfl
theorem und_rowI : Try.prog.underlying 22 = some (.slice 50) := by kernel_rfl
def zeroI : Value := .agg #[.int .i64 0, .int .i64 0, .string ByteArray.empty, .int .i64 0, .int .i64 0, .int .i64 0, .int .i64 0]
theorem info_ins : (Try.prog.info? 50).map (fun i => (i.zero, i.size, i.bytes)) = some (some zeroI, 7, 64) := by kernel_rfl
theorem size_row : (Try.prog.info? 22).map (·.size) = some 1 := by kernel_rfl
/-- 'append(v, u...)', whatever u is. -/
theorem run_cat (w : World) (base : Nat) (v u : Value) (n : Nat) (xs : List Value) (l : List Ins) (ty : TypeId) (hown : w.ownsRow base 50 7 v n xs) (hR : RowR w u l) (hsz : n + l.length ≤ 2199023255552) (hb : base ≤ w.heap.size) :
    ∃ v' w', (Builtin.append_ #[22, 22] ty #[v, u]).run Try.prog w = .ok v' w' ∧ w'.ownsRow base 50 7 v' (n + l.length) (xs ++ insC l) ∧ w.grownBy w' v.ownBlock ∧ (v'.ownBlock = v.ownBlock ∨ v'.ownBlock = some w.heap.size) := by
  obtain ⟨i0, hi, hz0, hz1, hz2⟩ := info_parts info_ins
  obtain ⟨A, c, rfl, hr, hlc, hn, _⟩ := hR
  cases A with
  | none =>
    obtain rfl := hn rfl
    obtain rfl : l = [] := List.length_eq_zero_iff.1 (by omega)
    refine ⟨v, w, run_append_owned_none (P := Try.prog) w base _ ty 50 i0 7 und_rowI hi v n xs hown, ?_, ⟨rfl, rfl, rfl, Nat.le_refl _, fun _ _ _ => rfl⟩, .inl rfl⟩
    simpa [insC] using hown
  | some p =>
    have hnews : ∀ j u, (insC l)[j]? = some u → w.cell? (p.add j) = some u := by
      intro j u hu
      obtain ⟨hj, e⟩ := List.getElem?_eq_some_iff.1 hu
      rcases hr with q | ⟨y, hy, _, hc⟩
      · rw [q] at hj; cases hj
      · injection hy with hy
        subst hy
        rw [hc j hj, List.getElem?_eq_getElem hj, e]
    obtain ⟨v', w', h1, h2, h3, _, h5⟩ := run_append_own_at (P := Try.prog) w base _ ty 50 i0 _ 7 64 und_rowI hi hz0 hz1 hz2 rfl (by decide) v n xs hown p l.length c (insC l) (insC_len l) hnews (insC_one l) (by unfold maxLen; omega) (by omega) hb
    exact ⟨v', w', h1, h2, h3, h5⟩
theorem wpList_cat {ops : Array Oper} {rest : List Oper} {o : Oper} {a : Act} {Q : Exit → Act → World → Prop} (w : World) (s t : Operand) (base : Nat) (v u : Value) (n : Nat) (xs : List Value) (l : List Ins)
    (hown : w.ownsRow base 50 7 v n xs) (hR : RowR w u l) (hsz : n + l.length ≤ 2199023255552) (hb : base ≤ w.heap.size)
    (hgd : o.guard = none) (ho : o.op = .call { callee := .builtin .append, args := #[s, t], argTypes := #[22, 22] }) (hs : a.eval s = v) (ht : a.eval t = u)
    (h : ∀ v' w', w'.ownsRow base 50 7 v' (n + l.length) (xs ++ insC l) → w.grownBy w' v.ownBlock → (v'.ownBlock = v.ownBlock ∨ v'.ownBlock = some w.heap.size) → wpList Try.prog ops Q rest (a.put o.dst v') w') :
    wpList Try.prog ops Q (o :: rest) a w := by
  refine wpList_plain hgd fun K hK => ?_
  obtain ⟨v', w', hr, h2, h3, h5⟩ := run_cat w base v u n xs l o.type hown hR hsz hb
  unfold Oper.wp execOp
  simp only [ho, resolve, invoke, builtin, Sem.run_bind, Sem.run_pure, Result.andThen_ok, List.map_toArray, List.map_cons, List.map_nil, hs, ht, hr]
  exact hK _ _ (h v' w' h2 h3 h5)
theorem step_cat {ops : Array Oper} {o : Oper} {a : Act} {K : Act → World → Prop} {Q : Exit → Act → World → Prop} {E : Prop} (w : World) (s t : Operand) (base : Nat) (v u : Value) (n : Nat) (xs : List Value) (l : List Ins)
    (hown : w.ownsRow base 50 7 v n xs) (hR : RowR w u l) (hsz : n + l.length ≤ 2199023255552) (hb : base ≤ w.heap.size)
    (hgd : o.guard = none) (ho : o.op = .call { callee := .builtin .append, args := #[s, t], argTypes := #[22, 22] }) (hs : a.eval s = v) (ht : a.eval t = u)
    (h : ∀ v' w', w'.ownsRow base 50 7 v' (n + l.length) (xs ++ insC l) → w.grownBy w' v.ownBlock → (v'.ownBlock = v.ownBlock ∨ v'.ownBlock = some w.heap.size) → K (a.put o.dst v') w') :
    if Region.wanted o (yielded ops a.tmps) = true then Oper.wp Try.prog o a w K Q else E := by
  have hw : Region.wanted o (yielded ops a.tmps) = true := by simp [Region.wanted, hgd]
  rw [if_pos hw]
  obtain ⟨v', w', hr, h2, h3, h5⟩ := run_cat w base v u n xs l o.type hown hR hsz hb
  unfold Oper.wp execOp
  simp only [ho, resolve, invoke, builtin, Sem.run_bind, Sem.run_pure, Result.andThen_ok, List.map_toArray, List.map_cons, List.map_nil, hs, ht, hr]
  exact h v' w' h2 h3 h5
theorem ownI_new {w : World} {B : Nat} (h : B ≤ w.heap.size) : (w.alloc (.cells #[] 50)).ownsRow B 50 7 (.slice (some ⟨w.heap.size, 0, none⟩) 0 0) 0 [] :=
  ⟨rfl, .inr ⟨w.heap.size, 0, #[], rfl, h, heap_alloc_new w _, Nat.le_refl _, by unfold maxLen; omega, rfl, rfl⟩⟩
theorem ownI_at {w : World} {B H : Nat} (h : B ≤ w.heap.size) (hH : w.heap.size = H) : (w.alloc (.cells #[] 50)).ownsRow B 50 7 (.slice (some ⟨H, 0, none⟩) 0 0) 0 [] := by
  subst hH
  exact ownI_new h
/-- The row at place q put anew. -/
def upd (r : Nat → Value) (q : Nat) (v : Value) (i : Nat) : Value := if i = q then v else r i
theorem stC_side (c : Sc) (r : Nat → Value) (i k : Nat) (hi : i < 3) (hk : k < 2) (v : Value) : (stC c r).toArray.setIfInBounds (1 + i * 4 + 2 + k) v = (stC c (upd r (2 * i + k) v)).toArray := by
  match i, hi with
  | 0, _ => match k, hk with
    | 0, _ => simp [stC, upd]
    | 1, _ => simp [stC, upd]
  | 1, _ => match k, hk with
    | 0, _ => simp [stC, upd]
    | 1, _ => simp [stC, upd]
  | 2, _ => match k, hk with
    | 0, _ => simp [stC, upd]
    | 1, _ => simp [stC, upd]
theorem stC_pile (c : Sc) (r : Nat → Value) (k j : Nat) (hk : k < 2) (hj : j < 3) (v : Value) : (stC c r).toArray.setIfInBounds (13 + k * 6 + j) v = (stC c (upd r (6 + 3 * k + j) v)).toArray := by
  match k, hk with
  | 0, _ => match j, hj with
    | 0, _ => simp [stC, upd]
    | 1, _ => simp [stC, upd]
    | 2, _ => simp [stC, upd]
  | 1, _ => match j, hj with
    | 0, _ => simp [stC, upd]
    | 1, _ => simp [stC, upd]
    | 2, _ => simp [stC, upd]
theorem st_pile {w : World} {b : Nat} {T : TypeId} {c : Sc} {r : Nat → Value} (h : Whole w b T (stC c r).toArray) (k j : Nat) (hk : k < 2) (hj : j < 3) : w.cell? ⟨b, 13 + k * 6 + j, none⟩ = some (r (6 + 3 * k + j)) := by
  rw [h.read]
  match k, hk with
  | 0, _ => match j, hj with
    | 0, _ => rfl
    | 1, _ => rfl
    | 2, _ => rfl
  | 1, _ => match j, hj with
    | 0, _ => rfl
    | 1, _ => rfl
    | 2, _ => rfl
theorem stC_one {c : Sc} {r : Nat → Value} (h : ∀ q, q < 12 → (r q).oneCell' = true) : ∀ v ∈ stC c r, v.oneCell' = true := by
  intro v hv
  simp only [stC, List.mem_cons, List.not_mem_nil, or_false] at hv
  have h0 := h 0 (by omega); have h1 := h 1 (by omega); have h2 := h 2 (by omega); have h3 := h 3 (by omega); have h4 := h 4 (by omega); have h5 := h 5 (by omega)
  have h6 := h 6 (by omega); have h7 := h 7 (by omega); have h8 := h 8 (by omega); have h9 := h 9 (by omega); have h10 := h 10 (by omega); have h11 := h 11 (by omega)
  rcases hv with rfl | rfl | rfl | rfl | rfl | rfl | rfl | rfl | rfl | rfl | rfl | rfl | rfl | rfl | rfl | rfl | rfl | rfl | rfl | rfl | rfl | rfl | rfl | rfl | rfl | rfl | rfl | rfl | rfl | rfl <;> first | rfl | assumption
theorem RowR.one {w : World} {v : Value} {l : List Ins} (h : RowR w v l) : v.oneCell' = true := by
  obtain ⟨A, c, rfl, _⟩ := h
  rfl
theorem Rows12.one {w : World} {r : Nat → Value} {L : Nat → List Ins} (h : Rows12 w r L) : ∀ q, q < 12 → (r q).oneCell' = true := fun q hq => (h q hq).one
end Go.Proofs.Ytkalpclckgbedaa
