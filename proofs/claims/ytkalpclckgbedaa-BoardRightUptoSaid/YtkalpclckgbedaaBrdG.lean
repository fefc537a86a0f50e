/-
  Package board: Find, List. Conditions: at most 1000 cards a row.
-/
import Derived.Test.YtkalpclckgbedaaBrdF
import Derived.Test.YtkalpclckgbedaaBwS
namespace Go.Proofs.Ytkalpclckgbedaa
open Go.ChangeShapes Go.WideShapes Go.ChangeAt Go.RowKit
set_option linter.unusedVariables false
set_option linter.unusedSimpArgs false
set_option maxRecDepth 20000
set_option maxHeartbeats 3200000
/-- What Find's closure reads and writes: four blocks with the answer, one with the Id. -/
structure FiAt (b : Nat) (id k i n : Int) (o : Bool) (x : World) : Prop where
  id : Whole x (b + 1) 3 #[.int .i64 id]
  seat : Whole x (b + 2) 3 #[.int .i64 k]
  lane : Whole x (b + 3) 3 #[.int .i64 i]
  slot : Whole x (b + 4) 3 #[.int .i64 n]
  ok : Whole x (b + 5) 4 #[.bool o]
theorem FiAt.below {b : Nat} {id k i n : Int} {o : Bool} {x y : World} (h : FiAt b id k i n o x) (hb : Below x.heap.size x y) : FiAt b id k i n o y :=
  ⟨h.id.below hb h.id.inside, h.seat.below hb h.seat.inside, h.lane.below hb h.lane.inside, h.slot.below hb h.slot.inside, h.ok.below hb h.ok.inside⟩
theorem FiAt.set {b : Nat} {id k i n : Int} {o : Bool} {x : World} (h : FiAt b id k i n o x) (k' i' n' : Int) (o' : Bool) :
    FiAt b id k' i' n' o' ((((x.setCell ⟨b + 2, 0, none⟩ (.int .i64 k')).setCell ⟨b + 3, 0, none⟩ (.int .i64 i')).setCell ⟨b + 4, 0, none⟩ (.int .i64 n')).setCell ⟨b + 5, 0, none⟩ (.bool o')) := by
  refine ⟨?_, ?_, ?_, ?_, ?_⟩
  · exact (((h.id.aside (by simp) _).aside (by simp) _).aside (by simp) _).aside (by simp) _
  · exact (((h.seat.write 0 _).aside (by simp) _).aside (by simp) _).aside (by simp) _
  · exact (((h.lane.aside (by simp) _).write 0 _).aside (by simp) _).aside (by simp) _
  · exact (((h.slot.aside (by simp) _).aside (by simp) _).write 0 _).aside (by simp) _
  · exact (((h.ok.aside (by simp) _).aside (by simp) _).aside (by simp) _).write 0 _
theorem pFind1 (b : Nat) (id k0 i0 n0 : Int) (o0 : Bool) (k i n : Int) (X : Ins) (x : World) (h : FiAt b id k0 i0 n0 false x) :
    Calls Try.prog 34 #[.int .i64 k, .int .i64 i, .int .i64 n, X.vals, .pointer (some ⟨b + 1, 0, none⟩), .pointer (some ⟨b + 2, 0, none⟩), .pointer (some ⟨b + 3, 0, none⟩), .pointer (some ⟨b + 4, 0, none⟩), .pointer (some ⟨b + 5, 0, none⟩)] x
      fun e y => e = .returned (.bool (decide (X.id = id))) ∧ Below (b + 2) x y ∧ (X.id ≠ id → FiAt b id k0 i0 n0 false y) ∧ (X.id = id → FiAt b id k i n true y) := by
  have hv : X.vals = .agg X.cells.toArray := rfl
  obtain ⟨W1, hW1⟩ : ∃ W1, x.alloc (.cells X.cells.toArray 50) = W1 := ⟨_, rfl⟩
  have F1 : FiAt b id k0 i0 n0 false W1 := by rw [← hW1]; exact h.below ((Below.refl _ _).alloc (Nat.le_refl _) _)
  have hb2 : b + 2 ≤ x.heap.size := by have := h.ok.inside; omega
  have B1 : Hid (Below (b + 2) x W1) := Lib.hid (by rw [← hW1]; exact (Below.refl _ _).alloc hb2 _)
  have X1 : Hid (Whole W1 x.heap.size 50 X.cells.toArray) := Lib.hid (by rw [← hW1]; exact Whole.made x _ _)
  have c0 : W1.cell? ⟨x.heap.size, 0, none⟩ = some (.int .i64 X.id) := by rw [X1.out.read]; rfl
  have c1 : W1.cell? ⟨b + 1, 0, none⟩ = some (.int .i64 id) := by rw [F1.id.read]; rfl
  have c5 : W1.cell? ⟨b + 5, 0, none⟩ = some (.bool false) := by rw [F1.ok.read]; rfl
  have c2 : W1.cell? ⟨b + 2, 0, none⟩ = some (.int .i64 k0) := by rw [F1.seat.read]; rfl
  have c3 : W1.cell? ⟨b + 3, 0, none⟩ = some (.int .i64 i0) := by rw [F1.lane.read]; rfl
  have c4 : W1.cell? ⟨b + 4, 0, none⟩ = some (.int .i64 n0) := by rw [F1.slot.read]; rfl
  have f2 : W1.frozen? ⟨b + 2, 0, none⟩ = false := F1.seat.thawed 0
  have f3 : W1.frozen? ⟨b + 3, 0, none⟩ = false := F1.lane.thawed 0
  have f4 : W1.frozen? ⟨b + 4, 0, none⟩ = false := F1.slot.thawed 0
  have f5 : W1.frozen? ⟨b + 5, 0, none⟩ = false := F1.ok.thawed 0
  have FF := Lib.hid F1
  rw [hv]
  clear hv h
  generalize X.id = xi at *
  generalize X.cells = xc at *
  have FT := Lib.hid (F1.set k i n true)
  have FS : Hid (Below (b + 2) x ((((W1.setCell ⟨b + 2, 0, none⟩ (.int .i64 k)).setCell ⟨b + 3, 0, none⟩ (.int .i64 i)).setCell ⟨b + 4, 0, none⟩ (.int .i64 n)).setCell ⟨b + 5, 0, none⟩ (.bool true))) := Lib.hid
    ((((B1.out.setCell (by simp) _).setCell (by simp) _).setCell (by simp) _).setCell (by simp) _)
  clear F1
  subst hW1
  by_cases e : xi = id
  · subst e
    rw [decide_eq_true rfl]
    go_enter Try.func34, Try.ntmps34
    go_wp2
    go_ret
    exact ⟨rfl, FS.out, fun h => absurd rfl h, fun _ => FT.out⟩
  · rw [decide_eq_false e]
    have HE := Lib.hid e
    go_enter Try.func34, Try.ntmps34
    go_wp2
    go_ret
    exact ⟨rfl, B1.out, fun _ => FF.out, fun h => absurd h HE.out⟩
theorem placeFrom_at {L : Nat → List Ins} {id : Int} {n : Nat} : ∀ (d r f : Nat), (∀ q, r ≤ q → q < r + d → findI (L q) id = none) → findI (L (r + d)) id = some n → placeFrom L id r (d + f + 1) = some (r + d, n)
  | 0, r, f, _, h => by rw [Nat.zero_add]; exact placeFrom_hit f h
  | d + 1, r, f, h0, h => by
    rw [show d + 1 + f + 1 = (d + f + 1) + 1 by omega, placeFrom_miss _ (h0 r (Nat.le_refl _) (by omega)), placeFrom_at d (r + 1) f (fun q h1 h2 => h0 q (by omega) (by omega)) (by rw [show r + 1 + d = r + (d + 1) by omega]; exact h)]
    rw [show r + 1 + d = r + (d + 1) by omega]
theorem placeFrom_no {L : Nat → List Ins} {id : Int} : ∀ (f r : Nat), (∀ q, r ≤ q → q < r + f → findI (L q) id = none) → placeFrom L id r f = none
  | 0, r, _ => rfl
  | f + 1, r, h => by rw [placeFrom_miss _ (h r (Nat.le_refl _) (by omega)), placeFrom_no f (r + 1) fun q h1 h2 => h q (by omega) (by omega)]
def fSeat (o : Option (Nat × Nat)) : Int := match o with | some (q, _) => ((q % 2 : Nat) : Int) | none => 0
def fLane (o : Option (Nat × Nat)) : Int := match o with | some (q, _) => ((q / 2 : Nat) : Int) | none => 0
def fSlot (o : Option (Nat × Nat)) : Int := match o with | some (_, n) => (n : Int) | none => 0
theorem load_cell {P : Program} (w : World) (T : TypeId) (g : Nat) (t : TypeId) (v : Value) (hW : Whole w g t #[v]) (hu : (P.underlying T).map TypeDesc.isRow = some false) : (loadVar T ⟨g, 0, none⟩).run P w = .ok v w := by
  obtain ⟨d, hu, hr⟩ := Option.map_eq_some_iff.1 hu
  have ha : (isAgg T).run P w = .ok false w := by
    cases d <;> first | (simp [TypeDesc.isRow] at hr; done) | simp [isAgg, run_underlying hu]
  have hc : w.cell? ⟨g, 0, none⟩ = some v := by rw [hW.read]; rfl
  simp [loadVar, ha, hc]
theorem results_c4 {P : Program} {fn : Func} {p q u s : Tmp} {t1 t2 t3 t4 : TypeId} (h : fn.results = #[.cell p t1, .cell q t2, .cell u t3, .cell s t4]) (tmps : Array Value) (w : World) (a b c d : Addr) (va vb vc vd : Value)
    (ha : tmps.getD p undef = .pointer (some a)) (hb : tmps.getD q undef = .pointer (some b)) (hc : tmps.getD u undef = .pointer (some c)) (hd : tmps.getD s undef = .pointer (some d))
    (la : (loadVar t1 a).run P w = .ok va w) (lb : (loadVar t2 b).run P w = .ok vb w) (lc : (loadVar t3 c).run P w = .ok vc w) (ld : (loadVar t4 d).run P w = .ok vd w) :
    (results fn tmps).run P w = .ok (.tuple #[va, vb, vc, vd]) w := by
  have ha2 : tmps[p]?.getD undef = .pointer (some a) := by simpa using ha
  have hb2 : tmps[q]?.getD undef = .pointer (some b) := by simpa using hb
  have hc2 : tmps[u]?.getD undef = .pointer (some c) := by simpa using hc
  have hd2 : tmps[s]?.getD undef = .pointer (some d) := by simpa using hd
  simp only [results, h]
  simp [Sem.run_bind, Result.andThen, ha2, hb2, hc2, hd2, asAddr, la, lb, lc, ld]
theorem FiAt.rewrite {b : Nat} {id k i n : Int} {o : Bool} {x y : World} {g : Nat} {t : TypeId} {v : Value} (h : FiAt b id k i n o x) (hp : Put x y g t [v]) (hx : Whole x g t #[v]) : FiAt b id k i n o y := by
  have key : ∀ {g2 : Nat} {t2 : TypeId} {u : Value}, Whole x g2 t2 #[u] → Whole y g2 t2 #[u] := fun {g2 t2 u} h2 => by
    by_cases e : g2 = g
    · subst e
      have e2 := Option.some.inj (h2.symm.trans hx)
      injection e2 with e3 e4
      have hw := hp.whole
      rw [e3, e4]; exact hw
    · exact hp.keeps.whole h2 e
  exact ⟨key h.id, key h.seat, key h.lane, key h.slot, key h.ok⟩
theorem pFind (c : Sc) (r : Nat → Value) (L : Nat → List Ins) (id : Int) (w : World) (hR : Rows12 w r L) :
    Calls Try.prog 10 #[stV c r, .int .i64 id] w fun e w' => e = .returned (.tuple #[.int .i64 (fSeat (placeO L id)), .int .i64 (fLane (placeO L id)), .int .i64 (fSlot (placeO L id)), .bool (placeO L id).isSome]) ∧ Below w.heap.size w w' := by
  have hv : stV c r = .agg (stC c r).toArray := rfl
  have hsz : ∀ q, q < 12 → (L q).length ≤ 9223372036854775807 := fun q hq => by
    obtain ⟨_, _, _, _, _, _, h⟩ := hR q hq
    exact h
  obtain ⟨W5, hW5⟩ : ∃ W5, (((((w.alloc (.cells (stC c r).toArray 33)).alloc (.cells #[.int .i64 id] 3)).alloc (.cells #[.int .i64 0] 3)).alloc (.cells #[.int .i64 0] 3)).alloc (.cells #[.int .i64 0] 3)).alloc (.cells #[.bool false] 4) = W5 := ⟨_, rfl⟩
  have B5 : Below w.heap.size w W5 := by
    rw [← hW5]
    exact ((((((Below.refl _ _).alloc (Nat.le_refl _) _).alloc (by simp) _).alloc (by simp; omega) _).alloc (by simp; omega) _).alloc (by simp; omega) _).alloc (by simp; omega) _
  have X1 : Whole W5 w.heap.size 33 (stC c r).toArray := by rw [← hW5]; exact (((((Whole.made w _ _).alloc _).alloc _).alloc _).alloc _).alloc _
  have F0 : FiAt w.heap.size id 0 0 0 false W5 := by
    rw [← hW5]
    refine ⟨?_, ?_, ?_, ?_, ?_⟩
    · have h := Whole.made (w.alloc (.cells (stC c r).toArray 33)) 3 #[.int .i64 id]
      simp only [World.size_alloc] at h
      exact (((h.alloc _).alloc _).alloc _).alloc _
    · have h := Whole.made ((w.alloc (.cells (stC c r).toArray 33)).alloc (.cells #[.int .i64 id] 3)) 3 #[.int .i64 0]
      simp only [World.size_alloc] at h
      exact ((h.alloc _).alloc _).alloc _
    · have h := Whole.made (((w.alloc (.cells (stC c r).toArray 33)).alloc (.cells #[.int .i64 id] 3)).alloc (.cells #[.int .i64 0] 3)) 3 #[.int .i64 0]
      simp only [World.size_alloc] at h
      exact (h.alloc _).alloc _
    · have h := Whole.made ((((w.alloc (.cells (stC c r).toArray 33)).alloc (.cells #[.int .i64 id] 3)).alloc (.cells #[.int .i64 0] 3)).alloc (.cells #[.int .i64 0] 3)) 3 #[.int .i64 0]
      simp only [World.size_alloc] at h
      exact h.alloc _
    · have h := Whole.made (((((w.alloc (.cells (stC c r).toArray 33)).alloc (.cells #[.int .i64 id] 3)).alloc (.cells #[.int .i64 0] 3)).alloc (.cells #[.int .i64 0] 3)).alloc (.cells #[.int .i64 0] 3)) 4 #[.bool false]
      simp only [World.size_alloc] at h
      exact h
  have S5 : W5.heap.size = w.heap.size + 6 := by rw [← hW5]; simp
  have KE : Hid (Calls Try.prog 33 #[stV c r, .func (.func 34) #[] #[.pointer (some ⟨w.heap.size + 1, 0, none⟩), .pointer (some ⟨w.heap.size + 2, 0, none⟩), .pointer (some ⟨w.heap.size + 3, 0, none⟩), .pointer (some ⟨w.heap.size + 4, 0, none⟩), .pointer (some ⟨w.heap.size + 5, 0, none⟩)]] W5 fun e y => e = .returned (.tuple #[]) ∧ Below w.heap.size w y ∧ FiAt w.heap.size id (fSeat (placeO L id)) (fLane (placeO L id)) (fSlot (placeO L id)) (placeO L id).isSome y) := Lib.hid (by
    refine (pEach c r L 34 _ (w.heap.size + 2)
      (fun q n x => FiAt w.heap.size id 0 0 0 false x ∧ (∀ p, p < q → ∀ j (hj : j < (L p).length), (L p)[j].id ≠ id) ∧ ∀ j (hj : j < (L q).length), j < n → (L q)[j].id ≠ id)
      (fun x => ∃ q n, placeO L id = some (q, n) ∧ FiAt w.heap.size id ((q % 2 : Nat) : Int) ((q / 2 : Nat) : Int) (n : Int) true x) W5 (fun args w => by kernel_rfl)
      (fun x hx q hq => (hR q hq).below (B5.trans (hx.mono (by omega)))) hsz
      (fun q n x y h hb => ⟨h.1.below hb, h.2⟩)
      (fun q x hq h => ⟨h.1, fun p hp j hj => by
        by_cases e : p = q
        · subst e; exact h.2.2 j hj hj
        · exact h.2.1 p (by omega) j hj, fun j hj h0 => by omega⟩)
      (fun i k n x hi hk hn hb h => ?_) ⟨F0, fun p hp => by omega, fun j hj h0 => by omega⟩ (by rw [S5]; omega)).mono ?_
    · refine (pFind1 w.heap.size id 0 0 0 false k i n _ x h.1).mono ?_
      rintro e y ⟨rfl, hby, h1, h2⟩
      refine ⟨_, rfl, hb.trans (hby.mono (Nat.le_refl _)), fun hne => ?_, fun heq => ?_⟩
      · have hne := of_decide_eq_false hne
        exact ⟨h1 hne, h.2.1, fun j hj hjn => by
          by_cases e : j = n
          · subst e; exact hne
          · exact h.2.2 j hj (by omega)⟩
      · have heq := of_decide_eq_true heq
        have hpl : placeO L id = some (2 * i + k, n) := by
          have h3 := placeFrom_at (L := L) (id := id) (n := n) (2 * i + k) 0 (5 - (2 * i + k)) (fun q _ hq => findI_miss (h.2.1 q (by omega))) (by rw [Nat.zero_add]; exact findI_hit hn heq fun j hj hjn => h.2.2 j hj hjn)
          rw [Nat.zero_add, show 2 * i + k + (5 - (2 * i + k)) + 1 = 6 by omega] at h3
          exact h3
        refine ⟨2 * i + k, n, hpl, ?_⟩
        have h4 := h2 heq
        rw [show (2 * i + k) % 2 = k by omega, show (2 * i + k) / 2 = i by omega]
        exact h4
    · rintro e y ⟨rfl, hby, h⟩
      refine ⟨rfl, B5.trans (hby.mono (by omega)), ?_⟩
      rcases h with h | ⟨q, n, h1, h2⟩
      · have hpl : placeO L id = none := placeFrom_no 6 0 fun q _ hq => findI_miss (h.2.1 q (by omega))
        rw [hpl]; exact h.1
      · rw [h1]; exact h2)
  have X1 := Lib.hid X1
  have HSI : Hid ((Try.prog.info? 33).map (·.size) = some (stC c r).length) := Lib.hid (by kernel_rfl)
  clear hsz hR B5 F0 S5
  generalize fSeat (placeO L id) = K at *
  generalize fLane (placeO L id) = I at *
  generalize fSlot (placeO L id) = N at *
  generalize (placeO L id).isSome = O at *
  subst hW5
  rw [hv] at KE ⊢
  clear hv
  generalize stC c r = cs at *
  go_enter Try.func10, Try.ntmps10
  go_wp2_with (first
    | ((with_reducible refine at_ld 8 ?_); refine wpList_loadW 33 (.tmp 2) 33 w.heap.size cs X1.out (by kernel_rfl) HSI.out rfl rfl rfl ?_)
    | (go_at_call 33; refine KE.out.mono ?_; rintro e w3 ⟨rfl, b3, f3⟩; have B3 := Lib.hid b3; have F3 := Lib.hid f3; clear b3 f3))
  have hst : Stab (fun x => FiAt w.heap.size id K I N O x ∧ Below w.heap.size w x) := fun x y h e => ⟨h.1.below e, bthen h.2 e⟩
  have hKB : ∀ (y z : World) (g : Nat), Below w.heap.size w y → w.heap.size ≤ g → Keeps (fun k => k = g) y z → Below w.heap.size w z := fun y z g hb hg hk => hb.trans (hk.below hb.size (fun k h => by have h3 : k = g := h; omega))
  refine wp_region_bw (fun _ => false) (fun x => FiAt w.heap.size id K I N O x ∧ Below w.heap.size w x) (by kernel_rfl) ⟨F3.out.below (below_drew1 (Below.refl _ _)), below_drew1 B3.out⟩ ?_
  refine BW.take (i := 0) (v := .int .i64 K) rfl rfl (by kernel_rfl) (by kernel_rfl) (by kernel_rfl) (by kernel_rfl) (fun _ _ _ h => h) hst (gives_cell (b := w.heap.size + 2) (k := 0) rfl rfl rfl (fun y hy => by rw [hy.1.seat.read]; rfl) (by kernel_rfl)) ?_
  simp only [List.set_cons_zero, List.set_cons_succ]
  refine BW.take (i := 1) (v := .int .i64 I) rfl rfl (by kernel_rfl) (by kernel_rfl) (by kernel_rfl) (by kernel_rfl) (fun _ _ _ h => h) hst (gives_cell (b := w.heap.size + 3) (k := 0) rfl rfl rfl (fun y hy => by rw [hy.1.lane.read]; rfl) (by kernel_rfl)) ?_
  simp only [List.set_cons_zero, List.set_cons_succ]
  refine BW.take (i := 2) (v := .int .i64 N) rfl rfl (by kernel_rfl) (by kernel_rfl) (by kernel_rfl) (by kernel_rfl) (fun _ _ _ h => h) hst (gives_cell (b := w.heap.size + 4) (k := 0) rfl rfl rfl (fun y hy => by rw [hy.1.slot.read]; rfl) (by kernel_rfl)) ?_
  simp only [List.set_cons_zero, List.set_cons_succ]
  refine BW.take (i := 3) (v := .bool O) rfl rfl (by kernel_rfl) (by kernel_rfl) (by kernel_rfl) (by kernel_rfl) (fun _ _ _ h => h) hst (gives_cell (b := w.heap.size + 5) (k := 0) rfl rfl rfl (fun y hy => by rw [hy.1.ok.read]; rfl) (by kernel_rfl)) ?_
  simp only [List.set_cons_zero, List.set_cons_succ]
  refine BW.put 3 (.tmp 4) (.tmp 11) 3 (w.heap.size + 2) 0 [] [.int .i64 K] [] [.int .i64 K] (i := 4) rfl rfl rfl (by kernel_rfl) (fun _ _ h => h) (fun y hy => hy.1.seat) rfl rfl (by kernel_rfl) (fun v hv => by rw [List.mem_singleton.1 hv]; rfl) rfl rfl rfl (fun y z hy hp => ⟨hy.1.rewrite hp hy.1.seat, hKB y z _ hy.2 (by omega) hp.keeps⟩) hst ?_
  refine BW.put 3 (.tmp 5) (.tmp 12) 3 (w.heap.size + 3) 0 [] [.int .i64 I] [] [.int .i64 I] (i := 5) rfl rfl rfl (by kernel_rfl) (fun _ _ h => h) (fun y hy => hy.1.lane) rfl rfl (by kernel_rfl) (fun v hv => by rw [List.mem_singleton.1 hv]; rfl) rfl rfl rfl (fun y z hy hp => ⟨hy.1.rewrite hp hy.1.lane, hKB y z _ hy.2 (by omega) hp.keeps⟩) hst ?_
  refine BW.put 3 (.tmp 6) (.tmp 13) 3 (w.heap.size + 4) 0 [] [.int .i64 N] [] [.int .i64 N] (i := 6) rfl rfl rfl (by kernel_rfl) (fun _ _ h => h) (fun y hy => hy.1.slot) rfl rfl (by kernel_rfl) (fun v hv => by rw [List.mem_singleton.1 hv]; rfl) rfl rfl rfl (fun y z hy hp => ⟨hy.1.rewrite hp hy.1.slot, hKB y z _ hy.2 (by omega) hp.keeps⟩) hst ?_
  refine BW.put 4 (.tmp 7) (.tmp 14) 4 (w.heap.size + 5) 0 [] [.bool O] [] [.bool O] (i := 7) rfl rfl rfl (by kernel_rfl) (fun _ _ h => h) (fun y hy => hy.1.ok) rfl rfl (by kernel_rfl) (fun v hv => by rw [List.mem_singleton.1 hv]; rfl) rfl rfl rfl (fun y z hy hp => ⟨hy.1.rewrite hp hy.1.ok, hKB y z _ hy.2 (by omega) hp.keeps⟩) hst ?_
  refine BW.done (by kernel_rfl) (fun wn hS => ?_)
  go_wp2
  refine bodyPost_ret (results_c4 Try.results10 _ _ ⟨w.heap.size + 2, 0, none⟩ ⟨w.heap.size + 3, 0, none⟩ ⟨w.heap.size + 4, 0, none⟩ ⟨w.heap.size + 5, 0, none⟩ _ _ _ _ rfl rfl rfl rfl (load_cell _ _ _ _ _ hS.1.seat (by kernel_rfl)) (load_cell _ _ _ _ _ hS.1.lane (by kernel_rfl)) (load_cell _ _ _ _ _ hS.1.slot (by kernel_rfl)) (load_cell _ _ _ _ _ hS.1.ok (by kernel_rfl))) rfl ?_
  exact ⟨rfl, hS.2⟩
end Go.Proofs.Ytkalpclckgbedaa
