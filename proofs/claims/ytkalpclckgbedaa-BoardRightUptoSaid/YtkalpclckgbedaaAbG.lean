/-
  A region that draws its order, walked in ONE order: what yields its value in each world that may stand, and a call that answers the same in each and only makes memory, may be taken first. No program, no conditions.
-/
import Derived.Test.YtkalpclckgbedaaYieldG
import Derived.Laws.Concat
import Derived.Laws.Strings
namespace Go.Proofs.Ytkalpclckgbedaa
open Go.ChangeShapes Go.WideShapes Go.ChangeAt Go.RowKit
set_option linter.unusedVariables false
set_option linter.unusedSimpArgs false
/-- y holds all that x held, as it was. -/
def Ext (x y : World) : Prop := Below x.heap.size x y
theorem Ext.refl (x : World) : Ext x x := Below.refl _ _
theorem Ext.trans {x y z : World} (h : Ext x y) (g : Ext y z) : Ext x z := Below.trans h (Below.mono g (Below.size h))
def Stab (S : World → Prop) : Prop := ∀ x y, S x → Ext x y → S y
theorem Stab.and {S T : World → Prop} (h : Stab S) (g : Stab T) : Stab fun x => S x ∧ T x := fun x y a e => ⟨h x y a.1 e, g x y a.2 e⟩
section
variable {P : Program} {ops : Array Oper} {Q : Exit → Act → World → Prop} {md : Region.Mode}
def AB (P : Program) (md : Region.Mode) (ops : Array Oper) (Q : Exit → Act → World → Prop) : Nat → (World → Prop) → Array Bool → Act → Prop
  | 0, S, listed, a => Region.ready md ops listed = [] ∧ ∀ w, S w → Q .normal a w
  | n + 1, S, listed, a => (Region.ready md ops listed = [] → ∀ w, S w → Q .normal a w) ∧
      ∀ i ∈ Region.ready md ops listed, ∀ w, S w → wpOp P ops Q i (fun a' w' => ∃ S', S' w' ∧ Stab S' ∧ (∀ x, S' x → S x) ∧ AB P md ops Q n S' (listed.setIfInBounds i true) a') a w
theorem AB.any : ∀ (n : Nat) (S : World → Prop) (listed : Array Bool) (a : Act) (w : World), AB P md ops Q n S listed a → S w → wpAny P md ops Q n listed a w
  | 0, _, _, _, w, h, hS => ⟨h.1, h.2 w hS⟩
  | n + 1, _, _, _, w, h, hS => ⟨fun e => h.1 e w hS, fun i hi => wpOp_mono (fun a' w' ⟨S', s, _, _, h'⟩ => AB.any n S' _ a' w' h' s) (h.2 i hi w hS)⟩
/-- In each world that may stand the operation leaves v, and at most makes memory. -/
def Gives (P : Program) (ops : Array Oper) (S : World → Prop) (o : Oper) (v : Value) (a : Act) : Prop :=
  (Region.wanted o (yielded ops a.tmps) = true ∧ ∀ w, S w → (execOp a.eval o).run P w = .ok (.value v) w ∨ ∃ f args, (execOp a.eval o).run P w = .ok (.enter f args) w ∧ Calls P f args w fun e w' => e = .returned v ∧ Ext w w') ∨
  (Region.wanted o (yielded ops a.tmps) = false ∧ v = undef)
theorem YieldsIf.gives {S : World → Prop} {o : Oper} {v : Value} {a : Act} (h : YieldsIf P ops S o v a) : Gives P ops S o v a := h.imp (fun ⟨hw, hv⟩ => ⟨hw, fun w s => .inl (hv w s)⟩) id
theorem Gives.mono {S T : World → Prop} {o : Oper} {v : Value} {a : Act} (h : Gives P ops S o v a) (hs : ∀ x, T x → S x) : Gives P ops T o v a := h.imp (fun ⟨hw, hv⟩ => ⟨hw, fun w s => hv w (hs w s)⟩) id
theorem Gives.same {S : World → Prop} {o : Oper} {v : Value} {a b : Act} (h : Gives P ops S o v a) (he : execOp b.eval o = execOp a.eval o) (hw : Region.wanted o (yielded ops b.tmps) = Region.wanted o (yielded ops a.tmps)) : Gives P ops S o v b := by
  unfold Gives at *
  rw [he, hw]
  exact h
theorem Gives.op {S : World → Prop} {i : Nat} {o : Oper} {v : Value} {a : Act} (hi : ops[i]? = some o) (h : Gives P ops S o v a) {K : Act → World → Prop} {w : World} (hS : S w) (hK : ∀ w', Ext w w' → K (a.put o.dst v) w') : wpOp P ops Q i K a w := by
  unfold wpOp
  rw [hi]
  rcases h with ⟨hw, hv⟩ | ⟨hw, rfl⟩
  · simp only [hw, if_true]
    refine .inl ?_
    unfold Oper.wp
    rcases hv w hS with e | ⟨f, args, e, hc⟩
    · rw [e]; exact hK w (Ext.refl w)
    · rw [e]
      refine Calls.mono hc fun e' w' he => ?_
      obtain ⟨rfl, hx⟩ := he
      exact hK w' hx
  · simp only [hw, Bool.false_eq_true, if_false]; exact hK w (Ext.refl w)
/-- Another operation, apart from it: whether its value is already there makes no difference. -/
theorem Gives.past {S : World → Prop} {j : Nat} {oi oj : Oper} {v : Value} (hj : ops[j]? = some oj) (hap : oi.apart ops oj = true) (hsi : ∀ cs b, oi.op ≠ .select cs b) (hsj : ∀ cs b, oj.op ≠ .select cs b)
    (hQ : ∀ c a w, Q (.panic c) (a.put oi.dst v) w → Q (.panic c) a w) {K : Act → World → Prop} {a : Act} {w : World} (hy : Gives P ops S oi v a) (h : wpOp P ops Q j K (a.put oi.dst v) w) :
    wpOp P ops Q j (fun a' w' => Gives P ops S oi v a' ∧ K (a'.put oi.dst v) w') a w := by
  obtain ⟨h1, h2, h3⟩ := Oper.apart_spec hap
  have keep : ∀ (b : Act), Gives P ops S oi v b → ∀ u, Gives P ops S oi v (b.put oj.dst u) := fun b hb u => hb.same (execOp_put oi hsi b oj.dst u h3) (wanted_put oi b oj.dst u h3)
  have swap : ∀ (b : Act) u, (b.put oi.dst v).put oj.dst u = (b.put oj.dst u).put oi.dst v := fun b u => Act.put_comm b v u h2
  have hx := execOp_put oj hsj a oi.dst v h1
  unfold wpOp at *
  simp only [hj] at *
  rw [wanted_put oj a oi.dst v h1] at h
  by_cases hw : Region.wanted oj (yielded ops a.tmps) = true
  · simp only [hw, if_true] at h ⊢
    rcases h with h | ⟨ha, hl⟩
    · refine .inl ?_
      unfold Oper.wp at *
      rw [hx] at h
      revert h
      cases (execOp a.eval oj).run P w with
      | ok n x =>
        cases n with
        | value u => intro h; exact ⟨keep a hy u, by rw [← swap]; exact h⟩
        | skip => intro h; exact ⟨keep a hy _, by rw [← swap]; exact h⟩
        | defer d =>
          intro h
          refine ⟨keep _ (hy.same (b := { a with defers := d :: a.defers }) rfl rfl) _, ?_⟩
          rw [← swap, ← Act.put_defers]
          exact h
        | enter f args =>
          intro h
          refine Calls.mono h fun e y he => ?_
          cases e with
          | returned u => exact ⟨keep a hy u, by rw [← swap]; exact he⟩
          | panicked c => exact hQ _ _ _ he
          | outgrown => exact he
        | row r args => intro h; exact Rows.mono h fun u y he => ⟨keep a hy u, by rw [← swap]; exact he⟩
        | _ => intro h; exact h
      | halt x y =>
        cases x with
        | panic u => intro h; exact hQ _ _ _ h
        | _ => intro h; exact h
    · exact .inr ⟨by unfold Oper.asks at *; rw [hx] at ha; exact ha, hl⟩
  · have hw : Region.wanted oj (yielded ops a.tmps) = false := by simpa using hw
    simp only [hw, Bool.false_eq_true, if_false] at h ⊢
    exact ⟨keep a hy _, by rw [← swap]; exact h⟩
theorem AB.first {i : Nat} {oi : Oper} {v : Value} (hi : ops[i]? = some oi) (hsel : ∀ (j : Nat) (o : Oper) cs b, ops[j]? = some o → o.op ≠ .select cs b) (hQ : ∀ c a w, Q (.panic c) (a.put oi.dst v) w → Q (.panic c) a w) :
    ∀ (n : Nat) (S : World → Prop) (listed : Array Bool) (a : Act), (∀ j oj, ops[j]? = some oj → j ≠ i → listed.getD j true = false → (∀ e ∈ oj.after, Region.binds md e = true → e.on ≠ i) → oi.apart ops oj = true) →
      i ∈ Region.ready md ops listed → Stab S → Gives P ops S oi v a → AB P md ops Q n S (listed.setIfInBounds i true) (a.put oi.dst v) → AB P md ops Q (n + 1) S listed a := by
  intro n
  induction n with
  | zero =>
    intro S listed a _ hr hst hy H
    refine ⟨fun e => (by rw [e] at hr; cases hr), fun j hj w hS => ?_⟩
    by_cases hji : j = i
    · subst hji; exact hy.op hi hS fun w' e => ⟨S, hst _ _ hS e, hst, fun _ h => h, H⟩
    · have := ready_mono hj hji
      rw [H.1] at this
      cases this
  | succ n ih =>
    intro S listed a hfree hr hst hy H
    refine ⟨fun e => (by rw [e] at hr; cases hr), fun j hj w hS => ?_⟩
    by_cases hji : j = i
    · subst hji; exact hy.op hi hS fun w' e => ⟨S, hst _ _ hS e, hst, fun _ h => h, H⟩
    · have h1 := H.2 j (ready_mono hj hji) w hS
      obtain ⟨hjun, oj, hoj, hall⟩ := mem_ready.1 hj
      have hnot : ∀ e ∈ oj.after, Region.binds md e = true → e.on ≠ i := fun e he hb heq => by
        have h1 := hall e he hb
        have h0 := (mem_ready.1 hr).1
        rw [heq] at h1
        rcases Nat.lt_or_ge i listed.size with h' | h'
        · simp [h'] at h0 h1; rw [h0] at h1; cases h1
        · simp [Array.getElem?_eq_none h'] at h1
      have h2 := Gives.past hoj (hfree j oj hoj hji hjun hnot) (fun cs b => hsel i oi cs b hi) (fun cs b => hsel j oj cs b hoj) hQ hy h1
      refine wpOp_mono (fun a' w' h3 => ?_) h2
      obtain ⟨hg, S', hs', st', sub, hab⟩ := h3
      refine ⟨S', hs', st', sub, ih S' (listed.setIfInBounds j true) a' (fun k ok hk hki hun hno => hfree k ok hk hki ?_ hno) (ready_mono hr (Ne.symm hji)) st' (hg.mono sub) ?_⟩
      · by_cases hjk : j = k
        · subst hjk; exact hjun
        · rw [getD_set_ne true hjk] at hun; exact hun
      · rw [Array.setIfInBounds_comm _ _ hji]
        exact hab
/-- Take it first. -/
theorem AB.take {i k n : Nat} {oi : Oper} {v : Value} {S : World → Prop} {listed : Array Bool} {l : List Value} {d : List Deferred} (hi : ops[i]? = some oi) (hd : oi.dst = some k)
    (hs : Region.noSelect ops = true) (hf : Region.free md ops listed i = true) (hr : (Region.ready md ops listed).contains i = true)
    (hQ : ∀ c a w, Q (.panic c) (a.put oi.dst v) w → Q (.panic c) a w) (hst : Stab S) (hy : Gives P ops S oi v ⟨l.toArray, d⟩)
    (h : AB P md ops Q n S (listed.setIfInBounds i true) ⟨(l.set k v).toArray, d⟩) : AB P md ops Q (n + 1) S listed ⟨l.toArray, d⟩ := by
  refine AB.first hi (Region.noSelect_spec hs) hQ n S listed _ (Region.free_spec hi hf) (by simpa using hr) hst hy ?_
  rw [hd]
  simpa [Act.put] using h
/-- The operation comes up next. -/
def AStep (P : Program) (md : Region.Mode) (ops : Array Oper) (Q : Exit → Act → World → Prop) (n : Nat) (S : World → Prop) (listed : Array Bool) (a : Act) (i : Nat) : Prop :=
  ∀ w, S w → wpOp P ops Q i (fun a' w' => ∃ S', S' w' ∧ Stab S' ∧ (∀ x, S' x → S x) ∧ AB P md ops Q n S' (listed.setIfInBounds i true) a') a w
/-- A call whose answer hangs on the world: what is known of it is known from there on. -/
theorem AStep.some {ι : Type} {i k n f : Nat} {args : Array Value} {oi : Oper} {val : ι → Value} {φ : ι → World → Prop} {S : World → Prop} {listed : Array Bool} {l : List Value} {d : List Deferred} (hi : ops[i]? = some oi) (hd : oi.dst = some k)
    (hg : oi.guard = none) (hst : Stab S) (he : ∀ w, S w → (execOp (⟨l.toArray, d⟩ : Act).eval oi).run P w = .ok (.enter f args) w)
    (hc : ∀ w, S w → Calls P f args w fun e w' => ∃ g, e = .returned (val g) ∧ φ g w' ∧ Ext w w') (hφ : ∀ g, Stab (φ g))
    (h : ∀ g, AB P md ops Q n (fun x => S x ∧ φ g x) (listed.setIfInBounds i true) ⟨(l.set k (val g)).toArray, d⟩) : AStep P md ops Q n S listed ⟨l.toArray, d⟩ i := by
  intro w hS
  unfold wpOp
  rw [hi]
  have hw : Region.wanted oi (yielded ops (⟨l.toArray, d⟩ : Act).tmps) = true := by unfold Region.wanted; rw [hg]
  simp only [hw, if_true]
  refine .inl ?_
  unfold Oper.wp
  rw [he w hS]
  refine Calls.mono (hc w hS) fun e w' hh => ?_
  obtain ⟨g, rfl, hp, hx⟩ := hh
  refine ⟨fun x => S x ∧ φ g x, ⟨hst _ _ hS hx, hp⟩, hst.and (hφ g), fun _ h => h.1, ?_⟩
  have := h g
  rw [hd]
  simpa [Act.put] using this
theorem AB.one {i n : Nat} {S : World → Prop} {listed : Array Bool} {a : Act} (hr : Region.ready md ops listed = [i]) (h : AStep P md ops Q n S listed a i) : AB P md ops Q (n + 1) S listed a :=
  ⟨fun e => (by rw [hr] at e; cases e), fun j hj => by
    rw [hr, List.mem_singleton] at hj
    subst hj
    exact h⟩
theorem AB.fork {i j n : Nat} {S : World → Prop} {listed : Array Bool} {a : Act} (hr : Region.ready md ops listed = [i, j]) (h1 : AStep P md ops Q n S listed a i) (h2 : AStep P md ops Q n S listed a j) : AB P md ops Q (n + 1) S listed a :=
  ⟨fun e => (by rw [hr] at e; cases e), fun k hk => by
    rw [hr] at hk
    rcases List.mem_cons.1 hk with rfl | hk
    · exact h1
    · rw [List.mem_singleton] at hk
      subst hk
      exact h2⟩
theorem AB.done {n : Nat} {S : World → Prop} {listed : Array Bool} {a : Act} (hr : Region.ready md ops listed = []) (h : ∀ w, S w → Q .normal a w) : AB P md ops Q n S listed a := by
  cases n with
  | zero => exact ⟨hr, h⟩
  | succ n => exact ⟨fun _ => h, by rw [hr]; simp⟩
theorem Gives.call {S : World → Prop} {o : Oper} {a : Act} {f : Nat} {args : Array Value} {v : Value} (g : o.guard = none) (he : ∀ w, (execOp a.eval o).run P w = .ok (.enter f args) w) (hc : ∀ w, S w → Calls P f args w fun e w' => e = .returned v ∧ Below w.heap.size w w') : Gives P ops S o v a :=
  .inl ⟨by unfold Region.wanted; rw [g], fun w hS => .inr ⟨f, args, he w, hc w hS⟩⟩
theorem gives_cat {S : World → Prop} {o : Oper} {a : Act} {t u : TypeId} {x y : Operand} {s r : ByteArray} (g : o.guard = none) (ho : o.op = .binOp .add t x y u) (hx : a.eval x = .string s) (hy : a.eval y = .string r) (hz : s.size + r.size ≤ 9223372036854775807) : Gives P ops S o (.string (s ++ r)) a :=
  .inl ⟨by unfold Region.wanted; rw [g], fun w _ => .inl (by
    unfold execOp
    rw [ho]
    have h := run_string_add_sum (P := P) (w := w) s r hz
    simp [hx, hy, eqGuard, Sem.run_bind, Sem.run_pure, binOp_string_add, h])⟩
theorem gives_move {S : World → Prop} {o : Oper} {a : Act} {x : Operand} {v : Value} (g : o.guard = none) (ho : o.op = .move x) (e : a.eval x = v) : Gives P ops S o v a := YieldsIf.gives (yield_move g ho e)
theorem gives_ok {S : World → Prop} {o : Oper} {a : Act} {v : Value} (g : o.guard = none) (h : ∀ w, S w → (execOp a.eval o).run P w = .ok (.value v) w) : Gives P ops S o v a := .inl ⟨by unfold Region.wanted; rw [g], fun w s => .inl (h w s)⟩
/-! The same where the operation is guarded, and wanted. -/
theorem Gives.callG {S : World → Prop} {o : Oper} {a : Act} {f : Nat} {args : Array Value} {v : Value} (g : Region.wanted o (yielded ops a.tmps) = true) (he : ∀ w, (execOp a.eval o).run P w = .ok (.enter f args) w) (hc : ∀ w, S w → Calls P f args w fun e w' => e = .returned v ∧ Below w.heap.size w w') : Gives P ops S o v a :=
  .inl ⟨g, fun w hS => .inr ⟨f, args, he w, hc w hS⟩⟩
theorem gives_okG {S : World → Prop} {o : Oper} {a : Act} {v : Value} (g : Region.wanted o (yielded ops a.tmps) = true) (h : ∀ w, S w → (execOp a.eval o).run P w = .ok (.value v) w) : Gives P ops S o v a := .inl ⟨g, fun w s => .inl (h w s)⟩
theorem gives_not {S : World → Prop} {o : Oper} {a : Act} (g : Region.wanted o (yielded ops a.tmps) = false) : Gives P ops S o undef a := .inr ⟨g, rfl⟩
theorem gives_moveG {S : World → Prop} {o : Oper} {a : Act} {x : Operand} {v : Value} (g : Region.wanted o (yielded ops a.tmps) = true) (ho : o.op = .move x) (e : a.eval x = v) : Gives P ops S o v a :=
  .inl ⟨g, fun w _ => .inl (by unfold execOp; rw [ho]; simp [e, Sem.run_pure])⟩
theorem gives_loadG {S : World → Prop} {o : Oper} {a : Act} {T : TypeId} {x : Operand} {b k : Nat} {ys : List Value} (g : Region.wanted o (yielded ops a.tmps) = true) (ho : o.op = .load T x) (hx : a.eval x = .pointer (some ⟨b, k, none⟩)) (hS : ∀ w, S w → w.rangeAt b k ys)
    (hu : (P.underlying T).map TypeDesc.isRow = some true) (hi : (P.info? T).map (·.size) = some ys.length) : Gives P ops S o (.agg ys.toArray) a := by
  obtain ⟨d, hu, hr⟩ := Option.map_eq_some_iff.1 hu
  exact YieldsIf.gives (yieldsIf_load_mid g T x ho b k hx ys d hS hu hr hi)
theorem gives_index {S : World → Prop} {o : Oper} {a : Act} {t e : TypeId} {x y : Operand} {b n c k sz : Nat} (g : Region.wanted o (yielded ops a.tmps) = true) (ho : o.op = .indexAddr t x y) (hx : a.eval x = .slice (some ⟨b, 0, none⟩) n c) (hy : a.eval y = .int .i64 (k : Int)) (hk : k < n)
    (hu : P.underlying t = some (.slice e)) (hs : (P.info? e).map (·.size) = some sz) : Gives P ops S o (.pointer (some ⟨b, k * sz, none⟩)) a :=
  .inl ⟨g, fun w _ => .inl (by
    obtain ⟨i, hi, hz⟩ := Option.map_eq_some_iff.1 hs
    unfold execOp
    rw [ho]
    have h0 : (0 : Int) ≤ (k : Int) := by omega
    have h1 : (k : Int) < (n : Int) := by omega
    have h2 : ((k : Int)).toNat = k := by omega
    simp [hx, hy, Instr.indexAt, asIntOf, run_underlying hu, sizeOf, typeInfo, hi, hz, h1, Addr.add_lit, Sem.run_bind, Sem.run_pure]
    intro hle
    omega)⟩
/-- The beginning. -/
theorem wp_region_ab {id : Nat} {a : Act} {w : World} (S : World → Prop) (hm : P.follows .mixedOrders = true) (hS : S w.drew) (h : AB P .any ops Q ops.size S (Array.replicate ops.size false) a) : (Code.region id ops true).wp P Q a w :=
  wp_region_any hm (AB.any _ S _ _ _ h hS)
end
end Go.Proofs.Ytkalpclckgbedaa
