/-
  A drawn region walked in one order: cells loaded and stored, two operations that come up together. No program, no conditions.
-/
import Derived.Test.YtkalpclckgbedaaBwG
import Derived.Test.YtkalpclckgbedaaMem
namespace Go.Proofs.Ytkalpclckgbedaa
open Go.ChangeShapes Go.WideShapes Go.ChangeAt Go.RowKit
set_option linter.unusedVariables false
set_option linter.unusedSimpArgs false
section
variable {P : Program} {ops : Array Oper} {Q : Exit → Act → World → Prop} {md : Region.Mode} {W : Nat → Bool}
/-- One cell is read. -/
theorem gives_cellG {S : World → Prop} {o : Oper} {a : Act} {T : TypeId} {x : Operand} {b k : Nat} {v : Value} (g : Region.wanted o (yielded ops a.tmps) = true) (ho : o.op = .load T x) (hx : a.eval x = .pointer (some ⟨b, k, none⟩)) (hS : ∀ w, S w → w.cell? ⟨b, k, none⟩ = some v)
    (hu : (P.underlying T).map TypeDesc.isRow = some false) : Gives P ops S o v a :=
  .inl ⟨g, fun w s => .inl (by
    obtain ⟨d, hu, hr⟩ := Option.map_eq_some_iff.1 hu
    have hc := hS w s
    unfold execOp
    rw [ho]
    have ha : (isAgg T).run P w = .ok false w := by
      cases d <;> first | (simp [TypeDesc.isRow] at hr; done) | simp [isAgg, run_underlying hu]
    simp [hx, Instr.loadAt, Instr.sureAddr, loadVar, ha, hc])⟩
theorem gives_cell {S : World → Prop} {o : Oper} {a : Act} {T : TypeId} {x : Operand} {b k : Nat} {v : Value} (g : o.guard = none) (ho : o.op = .load T x) (hx : a.eval x = .pointer (some ⟨b, k, none⟩)) (hS : ∀ w, S w → w.cell? ⟨b, k, none⟩ = some v)
    (hu : (P.underlying T).map TypeDesc.isRow = some false) : Gives P ops S o v a := gives_cellG (by unfold Region.wanted; rw [g]) ho hx hS hu
theorem gives_nil {S : World → Prop} {o : Oper} {a : Act} {x : Operand} {p : Addr} (g : o.guard = none) (ho : o.op = .nilCheck x) (hx : a.eval x = .pointer (some p)) : Gives P ops S o (.pointer (some p)) a :=
  gives_ok g fun w _ => by
    unfold execOp
    simp [ho, hx]
/-- An operation that gives the same in any world may be taken at once. -/
theorem BW.firstP {i : Nat} {oi : Oper} {v : Value} (hi : ops[i]? = some oi) (hsel : ∀ (j : Nat) (o : Oper) cs b, ops[j]? = some o → o.op ≠ .select cs b) (hQ : ∀ c a w, Q (.panic c) (a.put oi.dst v) w → Q (.panic c) a w) :
    ∀ (n : Nat) (S : World → Prop) (listed : Array Bool) (a : Act), (∀ j oj, ops[j]? = some oj → j ≠ i → listed.getD j true = false → (∀ e ∈ oj.after, Region.binds md e = true → e.on ≠ i) → oi.apart ops oj = true) →
      i ∈ Region.ready md ops listed → Stab S → Gives P ops (fun _ => True) oi v a →
      BW P md ops Q W n S (listed.setIfInBounds i true) (a.put oi.dst v) → BW P md ops Q W (n + 1) S listed a := by
  intro n
  induction n with
  | zero =>
    intro S listed a _ hr hst hy H
    refine ⟨fun e => (by rw [e] at hr; cases hr), fun j hj w hS => ?_⟩
    by_cases hji : j = i
    · subst hji; exact hy.op hi trivial fun w' e => ⟨S, hst _ _ hS e, hst, fun _ _ h => h, H⟩
    · have := ready_mono hj hji
      rw [H.1] at this
      cases this
  | succ n ih =>
    intro S listed a hfree hr hst hy H
    refine ⟨fun e => (by rw [e] at hr; cases hr), fun j hj w hS => ?_⟩
    by_cases hji : j = i
    · subst hji; exact hy.op hi trivial fun w' e => ⟨S, hst _ _ hS e, hst, fun _ _ h => h, H⟩
    · have h1 := H.2 j (ready_mono hj hji) w hS
      obtain ⟨hjun, oj, hoj, hall⟩ := mem_ready.1 hj
      have hnot : ∀ e ∈ oj.after, Region.binds md e = true → e.on ≠ i := fun e he hb heq => by
        have h1 := hall e he hb
        have h0 := (mem_ready.1 hr).1
        rw [heq] at h1
        rcases Nat.lt_or_ge i listed.size with h' | h'
        · simp [h'] at h0 h1; rw [h0] at h1; cases h1
        · simp [Array.getElem?_eq_none h'] at h1
      have h2 := Gives.past hoj (hfree j oj hoj hji hjun hnot) (fun cs b => hsel i oi cs b hi) (fun cs b => hsel j oj cs b hoj) hQ hy h1
      refine wpOp_mono (fun a' w' h3 => ?_) h2
      obtain ⟨hg, S', hs', st', sub, hab⟩ := h3
      refine ⟨S', hs', st', sub, ih S' (listed.setIfInBounds j true) a' (fun k ok hk hki hun hno => hfree k ok hk hki ?_ hno) (ready_mono hr (Ne.symm hji)) st' hg ?_⟩
      · by_cases hjk : j = k
        · subst hjk; exact hjun
        · rw [getD_set_ne true hjk] at hun; exact hun
      · rw [Array.setIfInBounds_comm _ _ hji]
        exact hab
theorem BW.pure {i k n : Nat} {oi : Oper} {v : Value} {S : World → Prop} {listed : Array Bool} {l : List Value} {d : List Deferred} (hi : ops[i]? = some oi) (hd : oi.dst = some k)
    (hs : Region.noSelect ops = true) (hf : Region.free md ops listed i = true) (hr : (Region.ready md ops listed).contains i = true)
    (hQ : ∀ c a w, Q (.panic c) (a.put oi.dst v) w → Q (.panic c) a w) (hst : Stab S) (hy : Gives P ops (fun _ => True) oi v ⟨l.toArray, d⟩)
    (h : BW P md ops Q W n S (listed.setIfInBounds i true) ⟨(l.set k v).toArray, d⟩) : BW P md ops Q W (n + 1) S listed ⟨l.toArray, d⟩ := by
  refine BW.firstP hi (Region.noSelect_spec hs) hQ n S listed _ (Region.free_spec hi hf) (by simpa using hr) hst hy ?_
  rw [hd]
  simpa [Act.put] using h
/-- Cells of a block are written. -/
theorem BW.put {i n : Nat} {oi : Oper} {S S' : World → Prop} {listed : Array Bool} {a : Act} (T : TypeId) (x y : Operand) (t : TypeId) (g o : Nat) (pre old post ys : List Value)
    (hi : ops[i]? = some oi) (hd : oi.dst = none) (hg : oi.guard = none) (hr : Region.ready md ops listed = [i]) (hsub : W i = false → ∀ x, S' x → S x) (hW : ∀ w, S w → Whole w g t (pre ++ old ++ post).toArray) (hl : ys.length = old.length) (hpn : o = pre.length)
    (hti : (P.info? T).map (·.size) = some ys.length) (h1 : ∀ v ∈ ys, v.oneCell' = true) (ho : oi.op = .store T x y) (hx : a.eval x = .pointer (some ⟨g, o, none⟩)) (hy : (a.eval y).cells = ys.toArray)
    (hS' : ∀ w w', S w → Put w w' g t (pre ++ ys ++ post) → S' w') (hst : Stab S') (h : BW P md ops Q W n S' (listed.setIfInBounds i true) a) : BW P md ops Q W (n + 1) S listed a := by
  refine BW.step hi hg hr fun w hS => ?_
  have hWh := hW w hS
  subst hpn
  have ht : w.there g pre.length ys.length := by rw [hl]; exact hWh.there
  have hst2 : (storeVar T ⟨g, pre.length, none⟩ (a.eval y)).run P w = .ok () (w.setCells g pre.length ys) := by
    have := run_storeCells_cells (P := P) g pre.length ys 0 w (fun j hj => by simpa using (ht j hj).1) (fun j hj => by simpa using (ht j hj).2) h1
    cases hq : P.info? T with
    | none => simp [hq] at hti
    | some i =>
      have hs : i.size = ys.length := by simpa [hq] using hti
      simp only [Nat.add_zero] at this
      simp [storeVar, sizeOf, typeInfo, hq, hy, hs, this]
  unfold Oper.wp execOp
  simp only [ho, hx, Instr.storeAt, Instr.sureAddr, Sem.run_bind, Sem.run_pure, Result.andThen_ok, hst2]
  refine ⟨S', hS' w _ hS ⟨Whole.setCells post ys old pre w hl hWh, Keeps.setCells (S := fun k => k = g) rfl _ _ (Keeps.refl _ _)⟩, hst, hsub, by rw [hd]; exact h⟩
/-- Two operations come up together. -/
theorem BW.two {i j n : Nat} {S : World → Prop} {listed : Array Bool} {a : Act} (hr : Region.ready md ops listed = [i, j])
    (h1 : ∀ w, S w → wpOp P ops Q i (fun a' w' => ∃ S', S' w' ∧ Stab S' ∧ (W i = false → ∀ x, S' x → S x) ∧ BW P md ops Q W n S' (listed.setIfInBounds i true) a') a w)
    (h2 : ∀ w, S w → wpOp P ops Q j (fun a' w' => ∃ S', S' w' ∧ Stab S' ∧ (W j = false → ∀ x, S' x → S x) ∧ BW P md ops Q W n S' (listed.setIfInBounds j true) a') a w) : BW P md ops Q W (n + 1) S listed a := by
  refine ⟨fun e => (by rw [hr] at e; cases e), fun k hk w hS => ?_⟩
  rw [hr] at hk
  simp only [List.mem_cons, List.not_mem_nil, or_false] at hk
  rcases hk with rfl | rfl
  · exact h1 w hS
  · exact h2 w hS
theorem BW.one {i n : Nat} {S : World → Prop} {listed : Array Bool} {a : Act} (hr : Region.ready md ops listed = [i])
    (h1 : ∀ w, S w → wpOp P ops Q i (fun a' w' => ∃ S', S' w' ∧ Stab S' ∧ (W i = false → ∀ x, S' x → S x) ∧ BW P md ops Q W n S' (listed.setIfInBounds i true) a') a w) : BW P md ops Q W (n + 1) S listed a := by
  refine ⟨fun e => (by rw [hr] at e; cases e), fun k hk w hS => ?_⟩
  rw [hr, List.mem_singleton] at hk
  subst hk
  exact h1 w hS
end
theorem stab_whole (g : Nat) (t : TypeId) (cs : Array Value) : Stab fun w => Whole w g t cs := fun x y h e => Whole.below h e (Whole.inside h)
end Go.Proofs.Ytkalpclckgbedaa
