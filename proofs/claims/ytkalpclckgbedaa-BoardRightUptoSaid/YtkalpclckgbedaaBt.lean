/-
  A drawn region walked in one order, against a base T that every step but the writes keeps. No program, no conditions.
-/
import Derived.Test.YtkalpclckgbedaaBwS
namespace Go.Proofs.Ytkalpclckgbedaa
open Go.ChangeShapes Go.WideShapes Go.ChangeAt Go.RowKit
set_option linter.unusedVariables false
set_option linter.unusedSimpArgs false
section
variable {P : Program} {ops : Array Oper} {Q : Exit → Act → World → Prop} {md : Region.Mode} {W : Nat → Bool} {T : World → Prop}
/-- As BW, but what stands behind a step that is no write (W) implies T. -/
def BT (P : Program) (md : Region.Mode) (ops : Array Oper) (Q : Exit → Act → World → Prop) (W : Nat → Bool) (T : World → Prop) : Nat → (World → Prop) → Array Bool → Act → Prop
  | 0, S, listed, a => Region.ready md ops listed = [] ∧ ∀ w, S w → Q .normal a w
  | n + 1, S, listed, a => (Region.ready md ops listed = [] → ∀ w, S w → Q .normal a w) ∧
      ∀ i ∈ Region.ready md ops listed, ∀ w, S w → wpOp P ops Q i (fun a' w' => ∃ S', S' w' ∧ Stab S' ∧ (W i = false → ∀ x, S' x → T x) ∧ BT P md ops Q W T n S' (listed.setIfInBounds i true) a') a w
theorem BT.any : ∀ (n : Nat) (S : World → Prop) (listed : Array Bool) (a : Act) (w : World), BT P md ops Q W T n S listed a → S w → wpAny P md ops Q n listed a w
  | 0, _, _, _, w, h, hS => ⟨h.1, h.2 w hS⟩
  | n + 1, _, _, _, w, h, hS => ⟨fun e => h.1 e w hS, fun i hi => wpOp_mono (fun a' w' ⟨S', s, _, _, h'⟩ => BT.any n S' _ a' w' h' s) (h.2 i hi w hS)⟩
theorem BT.first {i : Nat} {oi : Oper} {v : Value} (hi : ops[i]? = some oi) (hsel : ∀ (j : Nat) (o : Oper) cs b, ops[j]? = some o → o.op ≠ .select cs b) (hQ : ∀ c a w, Q (.panic c) (a.put oi.dst v) w → Q (.panic c) a w) {C : Array Bool}
    (hC : ∀ j oj, ops[j]? = some oj → j ≠ i → (∀ e ∈ oj.after, Region.binds md e = true → C.getD e.on false = true) → C.getD j false = true) :
    ∀ (n : Nat) (S : World → Prop) (listed : Array Bool) (a : Act), (∀ j oj, ops[j]? = some oj → j ≠ i → listed.getD j true = false → (∀ e ∈ oj.after, Region.binds md e = true → e.on ≠ i) → oi.apart ops oj = true) →
      i ∈ Region.ready md ops listed → (∀ j, listed.getD j false = true → C.getD j false = true) → (∀ j, C.getD j false = true → listed.getD j true = false → W j = false) → Stab S → (∀ x, S x → T x) → Gives P ops T oi v a →
      BT P md ops Q W T n S (listed.setIfInBounds i true) (a.put oi.dst v) → BT P md ops Q W T (n + 1) S listed a := by
  intro n
  induction n with
  | zero =>
    intro S listed a _ hr _ _ hst hT hy H
    refine ⟨fun e => (by rw [e] at hr; cases hr), fun j hj w hS => ?_⟩
    by_cases hji : j = i
    · subst hji; exact hy.op hi (hT w hS) fun w' e => ⟨S, hst _ _ hS e, hst, fun _ => hT, H⟩
    · have := ready_mono hj hji
      rw [H.1] at this
      cases this
  | succ n ih =>
    intro S listed a hfree hr hC1 hC2 hst hT hy H
    refine ⟨fun e => (by rw [e] at hr; cases hr), fun j hj w hS => ?_⟩
    by_cases hji : j = i
    · subst hji; exact hy.op hi (hT w hS) fun w' e => ⟨S, hst _ _ hS e, hst, fun _ => hT, H⟩
    · have h1 := H.2 j (ready_mono hj hji) w hS
      obtain ⟨hjun, oj, hoj, hall⟩ := mem_ready.1 hj
      have hjC : C.getD j false = true := hC j oj hoj hji fun e he hb => hC1 _ (hall e he hb)
      have hjW : W j = false := hC2 j hjC hjun
      have hnot : ∀ e ∈ oj.after, Region.binds md e = true → e.on ≠ i := fun e he hb heq => by
        have h1 := hall e he hb
        have h0 := (mem_ready.1 hr).1
        rw [heq] at h1
        rcases Nat.lt_or_ge i listed.size with h' | h'
        · simp [h'] at h0 h1; rw [h0] at h1; cases h1
        · simp [Array.getElem?_eq_none h'] at h1
      have h2 := Gives.past hoj (hfree j oj hoj hji hjun hnot) (fun cs b => hsel i oi cs b hi) (fun cs b => hsel j oj cs b hoj) hQ hy h1
      refine wpOp_mono (fun a' w' h3 => ?_) h2
      obtain ⟨hg, S', hs', st', sub, hab⟩ := h3
      refine ⟨S', hs', st', sub, ih S' (listed.setIfInBounds j true) a' (fun k ok hk hki hun hno => hfree k ok hk hki ?_ hno) (ready_mono hr (Ne.symm hji)) (fun k hk => ?_) (fun k hk hun => hC2 k hk ?_) st' (sub hjW) hg ?_⟩
      · by_cases hjk : j = k
        · subst hjk; exact hjun
        · rw [getD_set_ne true hjk] at hun; exact hun
      · by_cases hjk : j = k
        · subst hjk; exact hjC
        · rw [getD_set_ne false hjk] at hk; exact hC1 k hk
      · by_cases hjk : j = k
        · subst hjk; exact hjun
        · rw [getD_set_ne true hjk] at hun; exact hun
      · rw [Array.setIfInBounds_comm _ _ hji]
        exact hab
/-- Take it first. -/
theorem BT.take {i k n : Nat} {oi : Oper} {v : Value} {S : World → Prop} {listed : Array Bool} {l : List Value} {d : List Deferred} (hi : ops[i]? = some oi) (hd : oi.dst = some k)
    (hs : Region.noSelect ops = true) (hf : Region.free md ops listed i = true) (hr : (Region.ready md ops listed).contains i = true) (hc : okB md ops W listed (closB md ops i ops.size listed) i = true)
    (hQ : ∀ c a w, Q (.panic c) (a.put oi.dst v) w → Q (.panic c) a w) (hst : Stab S) (hT : ∀ x, S x → T x) (hy : Gives P ops T oi v ⟨l.toArray, d⟩)
    (h : BT P md ops Q W T n S (listed.setIfInBounds i true) ⟨(l.set k v).toArray, d⟩) : BT P md ops Q W T (n + 1) S listed ⟨l.toArray, d⟩ := by
  obtain ⟨c1, c2, c3⟩ := okB_spec hc
  refine BT.first hi (Region.noSelect_spec hs) hQ c1 n S listed _ (Region.free_spec hi hf) (by simpa using hr) c2 c3 hst hT hy ?_
  rw [hd]
  simpa [Act.put] using h
/-- Two operations come up together. -/
theorem BT.two {i j n : Nat} {S : World → Prop} {listed : Array Bool} {a : Act} (hr : Region.ready md ops listed = [i, j])
    (h1 : ∀ w, S w → wpOp P ops Q i (fun a' w' => ∃ S', S' w' ∧ Stab S' ∧ (W i = false → ∀ x, S' x → T x) ∧ BT P md ops Q W T n S' (listed.setIfInBounds i true) a') a w)
    (h2 : ∀ w, S w → wpOp P ops Q j (fun a' w' => ∃ S', S' w' ∧ Stab S' ∧ (W j = false → ∀ x, S' x → T x) ∧ BT P md ops Q W T n S' (listed.setIfInBounds j true) a') a w) : BT P md ops Q W T (n + 1) S listed a := by
  refine ⟨fun e => (by rw [hr] at e; cases e), fun k hk w hS => ?_⟩
  rw [hr] at hk
  simp only [List.mem_cons, List.not_mem_nil, or_false] at hk
  rcases hk with rfl | rfl
  · exact h1 w hS
  · exact h2 w hS
theorem BT.one {i n : Nat} {S : World → Prop} {listed : Array Bool} {a : Act} (hr : Region.ready md ops listed = [i])
    (h1 : ∀ w, S w → wpOp P ops Q i (fun a' w' => ∃ S', S' w' ∧ Stab S' ∧ (W i = false → ∀ x, S' x → T x) ∧ BT P md ops Q W T n S' (listed.setIfInBounds i true) a') a w) : BT P md ops Q W T (n + 1) S listed a := by
  refine ⟨fun e => (by rw [hr] at e; cases e), fun k hk w hS => ?_⟩
  rw [hr, List.mem_singleton] at hk
  subst hk
  exact h1 w hS
/-- An operation that comes up alone, and may write. -/
theorem BT.step {i n : Nat} {oi : Oper} {S : World → Prop} {listed : Array Bool} {a : Act} (hi : ops[i]? = some oi) (hg : oi.guard = none) (hr : Region.ready md ops listed = [i])
    (h : ∀ w, S w → Oper.wp P oi a w (fun a' w' => ∃ S', S' w' ∧ Stab S' ∧ (W i = false → ∀ x, S' x → T x) ∧ BT P md ops Q W T n S' (listed.setIfInBounds i true) a') Q) : BT P md ops Q W T (n + 1) S listed a := by
  refine ⟨fun e => (by rw [hr] at e; cases e), fun j hj w hS => ?_⟩
  rw [hr, List.mem_singleton] at hj
  subst hj
  unfold wpOp
  rw [hi]
  have hw : Region.wanted oi (yielded ops a.tmps) = true := by unfold Region.wanted; rw [hg]
  simp only [hw, if_true]
  exact .inl (h w hS)
/-- Cells of a block are written. -/
theorem BT.put {i n : Nat} {oi : Oper} {S S' : World → Prop} {listed : Array Bool} {a : Act} (ty : TypeId) (x y : Operand) (t : TypeId) (g o : Nat) (pre old post ys : List Value)
    (hi : ops[i]? = some oi) (hd : oi.dst = none) (hg : oi.guard = none) (hr : Region.ready md ops listed = [i]) (hsub : W i = false → ∀ x, S' x → T x) (hW : ∀ w, S w → Whole w g t (pre ++ old ++ post).toArray) (hl : ys.length = old.length) (hpn : o = pre.length)
    (hti : (P.info? ty).map (·.size) = some ys.length) (h1 : ∀ v ∈ ys, v.oneCell' = true) (ho : oi.op = .store ty x y) (hx : a.eval x = .pointer (some ⟨g, o, none⟩)) (hy : (a.eval y).cells = ys.toArray)
    (hS' : ∀ w w', S w → Put w w' g t (pre ++ ys ++ post) → S' w') (hst : Stab S') (h : BT P md ops Q W T n S' (listed.setIfInBounds i true) a) : BT P md ops Q W T (n + 1) S listed a := by
  refine BT.step hi hg hr fun w hS => ?_
  have hWh := hW w hS
  subst hpn
  have ht : w.there g pre.length ys.length := by rw [hl]; exact hWh.there
  have hst2 : (storeVar ty ⟨g, pre.length, none⟩ (a.eval y)).run P w = .ok () (w.setCells g pre.length ys) := by
    have := run_storeCells_cells (P := P) g pre.length ys 0 w (fun j hj => by simpa using (ht j hj).1) (fun j hj => by simpa using (ht j hj).2) h1
    cases hq : P.info? ty with
    | none => simp [hq] at hti
    | some i =>
      have hs : i.size = ys.length := by simpa [hq] using hti
      simp only [Nat.add_zero] at this
      simp [storeVar, sizeOf, typeInfo, hq, hy, hs, this]
  unfold Oper.wp execOp
  simp only [ho, hx, Instr.storeAt, Instr.sureAddr, Sem.run_bind, Sem.run_pure, Result.andThen_ok, hst2]
  refine ⟨S', hS' w _ hS ⟨Whole.setCells post ys old pre w hl hWh, Keeps.setCells (S := fun k => k = g) rfl _ _ (Keeps.refl _ _)⟩, hst, hsub, by rw [hd]; exact h⟩
theorem BT.done {n : Nat} {S : World → Prop} {listed : Array Bool} {a : Act} (hr : Region.ready md ops listed = []) (h : ∀ w, S w → Q .normal a w) : BT P md ops Q W T n S listed a := by
  cases n with
  | zero => exact ⟨hr, h⟩
  | succ n => exact ⟨fun _ => h, by rw [hr]; simp⟩
theorem wp_region_bt {id : Nat} {a : Act} {w : World} (W : Nat → Bool) (T S : World → Prop) (hm : P.follows .mixedOrders = true) (hS : S w.drew) (h : BT P .any ops Q W T ops.size S (Array.replicate ops.size false) a) : (Code.region id ops true).wp P Q a w :=
  wp_region_any hm (BT.any _ S _ _ _ h hS)
end
end Go.Proofs.Ytkalpclckgbedaa
