/-
  A region that draws its order, walked in ONE order, with appends and stores: what cannot come up behind a write may be taken first. No program, no conditions.
-/
import Derived.Test.YtkalpclckgbedaaAbG
import Derived.Deep.AppendLies
import Derived.Deep.MidRow
namespace Go.Proofs.Ytkalpclckgbedaa
open Go.ChangeShapes Go.WideShapes Go.ChangeAt Go.RowKit
set_option linter.unusedVariables false
set_option linter.unusedSimpArgs false
section
variable {P : Program} {ops : Array Oper} {Q : Exit → Act → World → Prop} {md : Region.Mode} {W : Nat → Bool}
/-- As AB; behind a write (W) something else may hold. -/
def BW (P : Program) (md : Region.Mode) (ops : Array Oper) (Q : Exit → Act → World → Prop) (W : Nat → Bool) : Nat → (World → Prop) → Array Bool → Act → Prop
  | 0, S, listed, a => Region.ready md ops listed = [] ∧ ∀ w, S w → Q .normal a w
  | n + 1, S, listed, a => (Region.ready md ops listed = [] → ∀ w, S w → Q .normal a w) ∧
      ∀ i ∈ Region.ready md ops listed, ∀ w, S w → wpOp P ops Q i (fun a' w' => ∃ S', S' w' ∧ Stab S' ∧ (W i = false → ∀ x, S' x → S x) ∧ BW P md ops Q W n S' (listed.setIfInBounds i true) a') a w
theorem BW.any : ∀ (n : Nat) (S : World → Prop) (listed : Array Bool) (a : Act) (w : World), BW P md ops Q W n S listed a → S w → wpAny P md ops Q n listed a w
  | 0, _, _, _, w, h, hS => ⟨h.1, h.2 w hS⟩
  | n + 1, _, _, _, w, h, hS => ⟨fun e => h.1 e w hS, fun i hi => wpOp_mono (fun a' w' ⟨S', s, _, _, h'⟩ => BW.any n S' _ a' w' h' s) (h.2 i hi w hS)⟩
def depsB (md : Region.Mode) (o : Oper) (c : Array Bool) : Bool := o.after.all fun e => !Region.binds md e || c.getD e.on false
theorem depsB_spec {o : Oper} {c : Array Bool} : depsB md o c = true ↔ ∀ e ∈ o.after, Region.binds md e = true → c.getD e.on false = true := by
  unfold depsB
  rw [Array.all_eq_true']
  refine ⟨fun h e he hb => ?_, fun h e he => ?_⟩
  · have := h e he
    rw [hb] at this
    simpa using this
  · cases hb : Region.binds md e with
    | false => rfl
    | true => simpa using h e he hb
/-- All that can come up while i has not. -/
def closB (md : Region.Mode) (ops : Array Oper) (i : Nat) : Nat → Array Bool → Array Bool
  | 0, c => c
  | n + 1, c => closB md ops i n ((List.range ops.size).foldl (fun c j => if j != i && (match ops[j]? with | some o => depsB md o c | none => false) then c.setIfInBounds j true else c) c)
def okB (md : Region.Mode) (ops : Array Oper) (W : Nat → Bool) (listed C : Array Bool) (i : Nat) : Bool :=
  decide (listed.size ≤ ops.size) && decide (C.size ≤ ops.size) &&
  (List.range ops.size).all fun j => (j == i || !(match ops[j]? with | some o => depsB md o C | none => false) || C.getD j false) && (!listed.getD j false || C.getD j false) && (!C.getD j false || listed.getD j true || !W j)
theorem okB_spec {listed C : Array Bool} {i : Nat} (h : okB md ops W listed C i = true) :
    (∀ j oj, ops[j]? = some oj → j ≠ i → (∀ e ∈ oj.after, Region.binds md e = true → C.getD e.on false = true) → C.getD j false = true) ∧ (∀ j, listed.getD j false = true → C.getD j false = true) ∧ (∀ j, C.getD j false = true → listed.getD j true = false → W j = false) := by
  unfold okB at h
  simp only [Bool.and_eq_true, decide_eq_true_eq, List.all_eq_true, List.mem_range] at h
  obtain ⟨⟨h1, h2⟩, h3⟩ := h
  have big : ∀ (c : Array Bool) (j : Nat), c.size ≤ ops.size → c.getD j false = true → j < ops.size := fun c j hc hj => by
    rcases Nat.lt_or_ge j ops.size with q | q
    · exact q
    · simp [Array.getD, show ¬ j < c.size by omega] at hj
  refine ⟨fun j oj hj hne hd => ?_, fun j hj => ?_, fun j hj hl => ?_⟩
  · have hlt : j < ops.size := (Array.getElem?_eq_some_iff.1 hj).1
    have := (h3 j hlt).1.1
    rw [hj] at this
    simp only [depsB_spec.2 hd, Bool.not_true, Bool.or_false, Bool.or_eq_true, beq_iff_eq] at this
    exact this.resolve_left hne
  · have := (h3 j (big _ _ h1 hj)).1.2
    rw [hj] at this
    simpa using this
  · have := (h3 j (big _ _ h2 hj)).2
    rw [hj, hl] at this
    simpa using this
theorem BW.first {i : Nat} {oi : Oper} {v : Value} (hi : ops[i]? = some oi) (hsel : ∀ (j : Nat) (o : Oper) cs b, ops[j]? = some o → o.op ≠ .select cs b) (hQ : ∀ c a w, Q (.panic c) (a.put oi.dst v) w → Q (.panic c) a w) {C : Array Bool}
    (hC : ∀ j oj, ops[j]? = some oj → j ≠ i → (∀ e ∈ oj.after, Region.binds md e = true → C.getD e.on false = true) → C.getD j false = true) :
    ∀ (n : Nat) (S : World → Prop) (listed : Array Bool) (a : Act), (∀ j oj, ops[j]? = some oj → j ≠ i → listed.getD j true = false → (∀ e ∈ oj.after, Region.binds md e = true → e.on ≠ i) → oi.apart ops oj = true) →
      i ∈ Region.ready md ops listed → (∀ j, listed.getD j false = true → C.getD j false = true) → (∀ j, C.getD j false = true → listed.getD j true = false → W j = false) → Stab S → Gives P ops S oi v a →
      BW P md ops Q W n S (listed.setIfInBounds i true) (a.put oi.dst v) → BW P md ops Q W (n + 1) S listed a := by
  intro n
  induction n with
  | zero =>
    intro S listed a _ hr _ _ hst hy H
    refine ⟨fun e => (by rw [e] at hr; cases hr), fun j hj w hS => ?_⟩
    by_cases hji : j = i
    · subst hji; exact hy.op hi hS fun w' e => ⟨S, hst _ _ hS e, hst, fun _ _ h => h, H⟩
    · have := ready_mono hj hji
      rw [H.1] at this
      cases this
  | succ n ih =>
    intro S listed a hfree hr hC1 hC2 hst hy H
    refine ⟨fun e => (by rw [e] at hr; cases hr), fun j hj w hS => ?_⟩
    by_cases hji : j = i
    · subst hji; exact hy.op hi hS fun w' e => ⟨S, hst _ _ hS e, hst, fun _ _ h => h, H⟩
    · have h1 := H.2 j (ready_mono hj hji) w hS
      obtain ⟨hjun, oj, hoj, hall⟩ := mem_ready.1 hj
      have hjC : C.getD j false = true := hC j oj hoj hji fun e he hb => hC1 _ (hall e he hb)
      have hjW : W j = false := hC2 j hjC hjun
      have hnot : ∀ e ∈ oj.after, Region.binds md e = true → e.on ≠ i := fun e he hb heq => by
        have h1 := hall e he hb
        have h0 := (mem_ready.1 hr).1
        rw [heq] at h1
        rcases Nat.lt_or_ge i listed.size with h' | h'
        · simp [h'] at h0 h1; rw [h0] at h1; cases h1
        · simp [Array.getElem?_eq_none h'] at h1
      have h2 := Gives.past hoj (hfree j oj hoj hji hjun hnot) (fun cs b => hsel i oi cs b hi) (fun cs b => hsel j oj cs b hoj) hQ hy h1
      refine wpOp_mono (fun a' w' h3 => ?_) h2
      obtain ⟨hg, S', hs', st', sub, hab⟩ := h3
      refine ⟨S', hs', st', sub, ih S' (listed.setIfInBounds j true) a' (fun k ok hk hki hun hno => hfree k ok hk hki ?_ hno) (ready_mono hr (Ne.symm hji)) (fun k hk => ?_) (fun k hk hun => hC2 k hk ?_) st' (hg.mono (sub hjW)) ?_⟩
      · by_cases hjk : j = k
        · subst hjk; exact hjun
        · rw [getD_set_ne true hjk] at hun; exact hun
      · by_cases hjk : j = k
        · subst hjk; exact hjC
        · rw [getD_set_ne false hjk] at hk; exact hC1 k hk
      · by_cases hjk : j = k
        · subst hjk; exact hjun
        · rw [getD_set_ne true hjk] at hun; exact hun
      · rw [Array.setIfInBounds_comm _ _ hji]
        exact hab
/-- Take it first. -/
theorem BW.take {i k n : Nat} {oi : Oper} {v : Value} {S : World → Prop} {listed : Array Bool} {l : List Value} {d : List Deferred} (hi : ops[i]? = some oi) (hd : oi.dst = some k)
    (hs : Region.noSelect ops = true) (hf : Region.free md ops listed i = true) (hr : (Region.ready md ops listed).contains i = true) (hc : okB md ops W listed (closB md ops i ops.size listed) i = true)
    (hQ : ∀ c a w, Q (.panic c) (a.put oi.dst v) w → Q (.panic c) a w) (hst : Stab S) (hy : Gives P ops S oi v ⟨l.toArray, d⟩)
    (h : BW P md ops Q W n S (listed.setIfInBounds i true) ⟨(l.set k v).toArray, d⟩) : BW P md ops Q W (n + 1) S listed ⟨l.toArray, d⟩ := by
  obtain ⟨c1, c2, c3⟩ := okB_spec hc
  refine BW.first hi (Region.noSelect_spec hs) hQ c1 n S listed _ (Region.free_spec hi hf) (by simpa using hr) c2 c3 hst hy ?_
  rw [hd]
  simpa [Act.put] using h
/-- An operation that comes up alone, and may write. -/
theorem BW.step {i n : Nat} {oi : Oper} {S : World → Prop} {listed : Array Bool} {a : Act} (hi : ops[i]? = some oi) (hg : oi.guard = none) (hr : Region.ready md ops listed = [i])
    (h : ∀ w, S w → Oper.wp P oi a w (fun a' w' => ∃ S', S' w' ∧ Stab S' ∧ (W i = false → ∀ x, S' x → S x) ∧ BW P md ops Q W n S' (listed.setIfInBounds i true) a') Q) : BW P md ops Q W (n + 1) S listed a := by
  refine ⟨fun e => (by rw [hr] at e; cases e), fun j hj w hS => ?_⟩
  rw [hr, List.mem_singleton] at hj
  subst hj
  unfold wpOp
  rw [hi]
  have hw : Region.wanted oi (yielded ops a.tmps) = true := by unfold Region.wanted; rw [hg]
  simp only [hw, if_true]
  exact .inl (h w hS)
/-- A new row is laid: its block. -/
theorem BW.build {i k n : Nat} {oi : Oper} {S : World → Prop} {listed : Array Bool} {l : List Value} {d : List Deferred} (T : TypeId) (vs : List Value) (hi : ops[i]? = some oi) (hd : oi.dst = some k) (hg : oi.guard = none) (hr : Region.ready md ops listed = [i]) (hst : Stab S)
    (he : ∀ w, S w → (execOp (⟨l.toArray, d⟩ : Act).eval oi).run P w = .ok (.value (.slice (some ⟨w.heap.size, 0, none⟩) 1 1)) (w.alloc (.cells vs.toArray T)))
    (h : ∀ g, BW P md ops Q W n (fun x => S x ∧ Whole x g T vs.toArray) (listed.setIfInBounds i true) ⟨(l.set k (.slice (some ⟨g, 0, none⟩) 1 1)).toArray, d⟩) : BW P md ops Q W (n + 1) S listed ⟨l.toArray, d⟩ := by
  refine BW.step hi hg hr fun w hS => ?_
  unfold Oper.wp
  rw [he w hS]
  refine ⟨fun x => S x ∧ Whole x w.heap.size T vs.toArray, ⟨hst _ _ hS ((show Ext w (w.alloc _) from (Below.refl _ _).alloc (Nat.le_refl _) _)), Whole.made w T vs.toArray⟩, hst.and fun x y h e => Whole.below h e (Whole.inside h), fun _ _ h => h.1, ?_⟩
  have := h w.heap.size
  rw [hd]
  simpa [Act.put] using this
theorem BW.done {n : Nat} {S : World → Prop} {listed : Array Bool} {a : Act} (hr : Region.ready md ops listed = []) (h : ∀ w, S w → Q .normal a w) : BW P md ops Q W n S listed a := by
  cases n with
  | zero => exact ⟨hr, h⟩
  | succ n => exact ⟨fun _ => h, by rw [hr]; simp⟩
theorem wp_region_bw {id : Nat} {a : Act} {w : World} (W : Nat → Bool) (S : World → Prop) (hm : P.follows .mixedOrders = true) (hS : S w.drew) (h : BW P .any ops Q W ops.size S (Array.replicate ops.size false) a) : (Code.region id ops true).wp P Q a w :=
  wp_region_any hm (BW.any _ S _ _ _ h hS)
end
end Go.Proofs.Ytkalpclckgbedaa
