/-
  Package board: Set. Conditions: at most 1000 cards a row.
-/
import Derived.Test.YtkalpclckgbedaaBrdJ
namespace Go.Proofs.Ytkalpclckgbedaa
open Go.ChangeShapes Go.WideShapes Go.ChangeAt Go.RowKit
set_option linter.unusedVariables false
set_option linter.unusedSimpArgs false
set_option maxRecDepth 20000
set_option maxHeartbeats 6400000
section
variable {P : Program} {ops : Array Oper} {Q : Exit → Act → World → Prop} {md : Region.Mode} {W : Nat → Bool}
/-- Cells of a block are written, whatever else stands in it. -/
theorem BW.putE {i n : Nat} {oi : Oper} {S S' : World → Prop} {listed : Array Bool} {a : Act} (T : TypeId) (x y : Operand) (t : TypeId) (g o : Nat) (ys : List Value)
    (hi : ops[i]? = some oi) (hd : oi.dst = none) (hg : oi.guard = none) (hr : Region.ready md ops listed = [i]) (hsub : W i = false → ∀ x, S' x → S x)
    (hti : (P.info? T).map (·.size) = some ys.length) (h1 : ∀ v ∈ ys, v.oneCell' = true) (ho : oi.op = .store T x y) (hx : a.eval x = .pointer (some ⟨g, o, none⟩)) (hy : (a.eval y).cells = ys.toArray)
    (hW : ∀ w, S w → ∃ pre old post : List Value, Whole w g t (pre ++ old ++ post).toArray ∧ ys.length = old.length ∧ o = pre.length ∧ ∀ w', Put w w' g t (pre ++ ys ++ post) → S' w') (hst : Stab S')
    (h : BW P md ops Q W n S' (listed.setIfInBounds i true) a) : BW P md ops Q W (n + 1) S listed a := by
  refine BW.step hi hg hr fun w hS => ?_
  obtain ⟨pre, old, post, hWh, hl, hpn, hS'⟩ := hW w hS
  subst hpn
  have ht : w.there g pre.length ys.length := by rw [hl]; exact hWh.there
  have hst2 : (storeVar T ⟨g, pre.length, none⟩ (a.eval y)).run P w = .ok () (w.setCells g pre.length ys) := by
    have := run_storeCells_cells (P := P) g pre.length ys 0 w (fun j hj => by simpa using (ht j hj).1) (fun j hj => by simpa using (ht j hj).2) h1
    cases hq : P.info? T with
    | none => simp [hq] at hti
    | some i =>
      have hs : i.size = ys.length := by simpa [hq] using hti
      simp only [Nat.add_zero] at this
      simp [storeVar, sizeOf, typeInfo, hq, hy, hs, this]
  unfold Oper.wp execOp
  simp only [ho, hx, Instr.storeAt, Instr.sureAddr, Sem.run_bind, Sem.run_pure, Result.andThen_ok, hst2]
  refine ⟨S', hS' _ ⟨Whole.setCells post ys old pre w hl hWh, Keeps.setCells (S := fun k => k = g) rfl _ _ (Keeps.refl _ _)⟩, hst, hsub, by rw [hd]; exact h⟩
end
theorem OwnSt.within {w w' : World} {B q g : Nat} {r : Nat → Value} {L : Nat → List Ins} {l : List Ins} (h : OwnSt w B r L) (hq : q < 12) (hg : (r q).ownBlock = some g) (hk : Keeps (fun k => k = g) w w') (hv : OwnI w' B (r q) l) : OwnSt w' B r (setRow L q l) := by
  refine ⟨fun p hp => ?_, h.apart⟩
  by_cases e : p = q
  · subst e; rw [setRow_at]; exact hv
  · rw [setRow_ne _ _ e]
    exact hk.owns (h.own p hp) (fun k h1 h2 => h.apart p q hp hq e k h1 (by have e2 : k = g := h2; rw [e2]; exact hg))
theorem und_rowIs : (Try.prog.info? 50).map (·.size) = some 7 := by kernel_rfl
theorem pSet (c : Sc) (r : Nat → Value) (L : Nat → List Ins) (x : Ins) (w : World) (hR : Rows12 w r L) (hsz : ∀ q, q < 12 → (L q).length ≤ 1000) :
    Calls Try.prog 25 #[stV c r, x.vals] w fun e w' => ∃ r', e = .returned (.tuple #[stV c r', .bool (placeO L x.id).isSome]) ∧ OwnSt w' w.heap.size r' (setL L x) ∧ Below w.heap.size w w' := by
  obtain ⟨W3, hW3⟩ : ∃ W3, ((w.alloc (.cells (stC c r).toArray 33)).alloc (.cells x.cells.toArray 50)).alloc (.cells zeroSt.toArray 33) = W3 := ⟨_, rfl⟩
  have x1 : Whole W3 w.heap.size 33 (stC c r).toArray := by rw [← hW3]; exact ((Whole.made w _ _).alloc _).alloc _
  have x2 : Whole W3 (w.heap.size + 1) 50 x.cells.toArray := by
    have h2 := Whole.made (w.alloc (.cells (stC c r).toArray 33)) 50 x.cells.toArray
    rw [World.size_alloc] at h2
    rw [← hW3]; exact h2.alloc _
  have x3 : Whole W3 (w.heap.size + 2) 33 zeroSt.toArray := by
    have h2 := Whole.made ((w.alloc (.cells (stC c r).toArray 33)).alloc (.cells x.cells.toArray 50)) 33 zeroSt.toArray
    rw [World.size_alloc, World.size_alloc, hW3] at h2
    exact h2
  have xb : Below w.heap.size w W3 := by rw [← hW3]; exact (((Below.refl _ _).alloc (Nat.le_refl _) _).alloc (by simp) _).alloc (by simp; omega) _
  have KP := pFind c r L x.id W3 (fun q hq => (hR q hq).below xb)
  have KC : Hid (∀ y, Below w.heap.size w y → Calls Try.prog 13 #[stV c r] y fun e w' => ∃ r', e = .returned (stV c r') ∧ OwnSt w' y.heap.size r' L ∧ Below y.heap.size y w') := Lib.hid fun y hy => pClone c r L y (fun q hq => (hR q hq).below hy) hsz
  have hv : stV c r = .agg (stC c r).toArray := rfl
  have hx0 : x.cells[0]? = some (.int .i64 x.id) := rfl
  have X1 := Lib.hid x1
  have X2 := Lib.hid x2
  have X3 := Lib.hid x3
  have XB := Lib.hid xb
  have HSI : Hid (∀ r, (Try.prog.info? 33).map (·.size) = some (stC c r).length) := Lib.hid (fun r => by rw [show (stC c r).length = 30 from rfl]; kernel_rfl)
  have HL : Hid (∀ r, (stC c r).length = 30) := Lib.hid fun r => rfl
  have HST0 : Hid (∀ r, stV c r = .agg (stC c r).toArray) := Lib.hid fun r => rfl
  unfold setL Ins.vals
  rw [hv] at KP KC ⊢
  cases hpl : placeO L x.id with
  | none =>
    rw [hpl] at KP
    have KP : Calls Try.prog 10 #[.agg (stC c r).toArray, .int .i64 x.id] W3 fun e w' => e = .returned (.tuple #[.int .i64 0, .int .i64 0, .int .i64 0, .bool false]) ∧ Below W3.heap.size W3 w' := KP
    have KP := Lib.hid KP
    clear hR hv x1 x2 x3 xb hpl hsz
    subst hW3
    generalize hS : stC c r = S at *
    go_enter Try.func25, Try.ntmps25
    go_wp2_with (first
      | ((with_reducible refine at_ld 11 ?_); refine wpList_loadW 33 (.tmp 2) 33 w.heap.size S X1.out (by kernel_rfl) (by rw [← hS]; exact HSI.out _) rfl rfl rfl ?_)
      | (go_at_call 10; refine KP.out.mono ?_; rintro e w3 ⟨rfl, b3⟩; have Y1 := Lib.hid (X1.out.below b3 X1.out.inside); have Y3 := Lib.hid (X3.out.below b3 X3.out.inside); have B3 := Lib.hid (bthen XB.out b3); clear b3)
      | ((with_reducible refine at_ld 19 ?_); refine wpList_loadW 33 (.tmp 2) 33 w.heap.size S Y1.out (by kernel_rfl) (by rw [← hS]; exact HSI.out _) rfl rfl rfl ?_)
      | (go_at_call 13; refine (KC.out _ B3.out).mono ?_; rintro e w4 ⟨r4, rfl, o4, b4⟩; have Z1 := Lib.hid (Y1.out.below b4 Y1.out.inside); have Z3 := Lib.hid (Y3.out.below b4 Y3.out.inside); have B4 := Lib.hid (bthen B3.out b4); have O4 := Lib.hid (o4.mono (B' := w.heap.size + 3) (by have := Y3.out.inside; omega)); rw [HST0.out]; clear b4 o4)
      | ((with_reducible refine at_st 2 20 ?_); refine wpList_storeW 33 (.tmp 2) (.tmp 20) 33 w.heap.size S (stC c r4) Z1.out (by rw [← hS]; rfl) (HSI.out _) (stC_one O4.out.rows.one) rfl rfl rfl rfl rfl ?_; intro w5 p5; have P5 := Lib.hid p5; clear p5)
      | ((with_reducible refine at_ld 32 ?_); refine wpList_loadW 33 (.tmp 2) 33 w.heap.size (stC c r4) P5.out.whole (by kernel_rfl) (HSI.out _) rfl rfl rfl ?_)
      | ((with_reducible refine at_st 4 32 ?_); refine wpList_storeW 33 (.tmp 4) (.tmp 32) 33 (w.heap.size + 2) zeroSt (stC c r4) (P5.out.keeps.whole Z3.out (fun e => by have e2 : w.heap.size + 2 = w.heap.size := e; omega)) (HL.out _) (HSI.out _) (stC_one O4.out.rows.one) rfl rfl rfl rfl rfl ?_; intro w9 p9; have P9 := Lib.hid p9; clear p9))
    refine bodyPost_ret (results_ct Try.results25 _ _ (w.heap.size + 2) 33 (stC c r4).toArray _ (.bool false) rfl rfl P9.out.whole Try.underlying33 rfl (HSI.out _)) rfl ?_
    have k5 := P5.out.keeps
    have k9 := P9.out.keeps
    have bb := (B4.out.trans (k5.below B4.out.size (fun k h => Nat.le_of_eq (Eq.symm h)))).trans (k9.below (Nat.le_trans B4.out.size k5.size) (fun k h => by have h3 : k = w.heap.size + 2 := h; omega))
    have low : ∀ q, q < 12 → ∀ j, (r4 q).ownBlock = some j → w.heap.size + 3 ≤ j := fun q hq j h => (World.ownsRow.lt (O4.out.own q hq) j h).1
    refine ⟨r4, rfl, ⟨fun q hq => ?_, O4.out.apart⟩, bb⟩
    exact own_mono (k9.owns (k5.owns (O4.out.own q hq) (fun j h1 h2 => by have := low q hq j h1; have e2 : j = w.heap.size := h2; omega)) (fun j h1 h2 => by have := low q hq j h1; have e2 : j = w.heap.size + 2 := h2; omega)) (by omega)
  | some qn =>
    obtain ⟨q, n⟩ := qn
    obtain ⟨hq6, hnl, hid⟩ := placeO_some hpl
    obtain ⟨i, k, hq, hi3, hk2⟩ : ∃ i k, 2 * i + k = q ∧ i < 3 ∧ k < 2 := ⟨q / 2, q % 2, by omega, by omega, by omega⟩
    rw [hpl] at KP
    have KP : Calls Try.prog 10 #[.agg (stC c r).toArray, .int .i64 x.id] W3 fun e w' => e = .returned (.tuple #[.int .i64 k, .int .i64 i, .int .i64 n, .bool true]) ∧ Below W3.heap.size W3 w' := by
      have e1 : fSeat (some (q, n)) = (k : Int) := by unfold fSeat; simp only; rw [show q % 2 = k by omega]
      have e2 : fLane (some (q, n)) = (i : Int) := by unfold fLane; simp only; rw [show q / 2 = i by omega]
      have e3 : fSlot (some (q, n)) = (n : Int) := rfl
      rw [e1, e2, e3] at KP
      exact KP
    have KP := Lib.hid KP
    have hq12 : q < 12 := by omega
    have lk : (k : Int) < 2 := by omega
    have li : (i : Int) < 3 := by omega
    have hsd : ∀ r4 y, Whole y w.heap.size 33 (stC c r4).toArray → y.cell? ⟨w.heap.size, 1 + i * 4 + 2 + k, none⟩ = some (r4 q) := fun r4 y hy => by rw [st_side hy i k hi3 hk2, hq]
    have HSD := Lib.hid hsd
    have HNL := Lib.hid hnl
    clear hR hv x1 x2 x3 xb hpl hsz hid hq hsd hnl
    subst hW3
    generalize hS : stC c r = S at *
    go_enter Try.func25, Try.ntmps25
    go_upto_region 4 with (first
      | ((with_reducible refine at_ld 11 ?_); refine wpList_loadW 33 (.tmp 2) 33 w.heap.size S X1.out (by kernel_rfl) (by rw [← hS]; exact HSI.out _) rfl rfl rfl ?_)
      | (go_at_call 10; refine KP.out.mono ?_; rintro e w3 ⟨rfl, b3⟩; have Y1 := Lib.hid (X1.out.below b3 X1.out.inside); have Y2 := Lib.hid (X2.out.below b3 X2.out.inside); have Y3 := Lib.hid (X3.out.below b3 X3.out.inside); have B3 := Lib.hid (bthen XB.out b3); clear b3)
      | ((with_reducible refine at_ld 19 ?_); refine wpList_loadW 33 (.tmp 2) 33 w.heap.size S Y1.out (by kernel_rfl) (by rw [← hS]; exact HSI.out _) rfl rfl rfl ?_)
      | (go_at_call 13; refine (KC.out _ B3.out).mono ?_; rintro e w4 ⟨r4, rfl, o4, b4⟩; have Z1 := Lib.hid (Y1.out.below b4 Y1.out.inside); have Z2 := Lib.hid (Y2.out.below b4 Y2.out.inside); have Z3 := Lib.hid (Y3.out.below b4 Y3.out.inside); have B4 := Lib.hid (bthen B3.out b4); have O4 := Lib.hid (o4.mono (B' := w.heap.size + 3) (by have := Y3.out.inside; omega)); rw [HST0.out]; clear b4 o4)
      | ((with_reducible refine at_st 2 20 ?_); refine wpList_storeW 33 (.tmp 2) (.tmp 20) 33 w.heap.size S (stC c r4) Z1.out (by rw [← hS]; rfl) (HSI.out _) (stC_one O4.out.rows.one) rfl rfl rfl rfl rfl ?_; intro w5 p5; have P5 := Lib.hid p5; clear p5))
    have low : ∀ q, q < 12 → ∀ j, (r4 q).ownBlock = some j → w.heap.size + 3 ≤ j := fun q hq j h => (World.ownsRow.lt (O4.out.own q hq) j h).1
    have hst : Stab (fun y => (Whole y w.heap.size 33 (stC c r4).toArray ∧ Whole y (w.heap.size + 1) 50 x.cells.toArray ∧ Whole y (w.heap.size + 2) 33 zeroSt.toArray) ∧ OwnSt y (w.heap.size + 3) r4 L ∧ Below w.heap.size w y) := fun y z h e => ⟨⟨h.1.1.below e h.1.1.inside, h.1.2.1.below e h.1.2.1.inside, h.1.2.2.below e h.1.2.2.inside⟩, h.2.1.below e, bthen h.2.2 e⟩
    have k5 := P5.out.keeps
    have S5 : (Whole w5 w.heap.size 33 (stC c r4).toArray ∧ Whole w5 (w.heap.size + 1) 50 x.cells.toArray ∧ Whole w5 (w.heap.size + 2) 33 zeroSt.toArray) ∧ OwnSt w5 (w.heap.size + 3) r4 L ∧ Below w.heap.size w w5 :=
      ⟨⟨P5.out.whole, k5.whole Z2.out (fun e => by have e2 : w.heap.size + 1 = w.heap.size := e; omega), k5.whole Z3.out (fun e => by have e2 : w.heap.size + 2 = w.heap.size := e; omega)⟩, ⟨fun q hq => k5.owns (O4.out.own q hq) (fun j h1 h2 => by have := low q hq j h1; have e2 : j = w.heap.size := h2; omega), O4.out.apart⟩, B4.out.trans (k5.below B4.out.size (fun k h => Nat.le_of_eq (Eq.symm h)))⟩
    obtain ⟨g, cp4, e4, hg1, hg2⟩ := own_some7 (O4.out.own q hq12) (Nat.lt_of_le_of_lt (Nat.zero_le _) HNL.out)
    have ln : n < (L q).length := HNL.out
    have hone := ins_one x
    clear low
    refine wp_region_bw (fun i => i == 10) (fun y => (Whole y w.heap.size 33 (stC c r4).toArray ∧ Whole y (w.heap.size + 1) 50 x.cells.toArray ∧ Whole y (w.heap.size + 2) 33 zeroSt.toArray) ∧ OwnSt y (w.heap.size + 3) r4 L ∧ Below w.heap.size w y) (by kernel_rfl) (hst _ _ S5 (below_drew1 (Below.refl _ _))) ?_
    refine BW.take (i := 0) (v := .int .i64 (i : Int)) rfl rfl (by kernel_rfl) (by kernel_rfl) (by kernel_rfl) (by kernel_rfl) (fun _ _ _ h => h) hst (gives_move rfl rfl rfl) ?_
    simp only [List.set_cons_zero, List.set_cons_succ]
    refine BW.take (i := 1) (v := .int .i64 (k : Int)) rfl rfl (by kernel_rfl) (by kernel_rfl) (by kernel_rfl) (by kernel_rfl) (fun _ _ _ h => h) hst (gives_move rfl rfl rfl) ?_
    simp only [List.set_cons_zero, List.set_cons_succ]
    refine BW.take (i := 2) (v := .pointer (some ⟨w.heap.size, 1, none⟩)) rfl rfl (by kernel_rfl) (by kernel_rfl) (by kernel_rfl) (by kernel_rfl) (fun _ _ _ h => h) hst (gives_ok rfl (fun y hy => by clear hy; go_simp)) ?_
    simp only [List.set_cons_zero, List.set_cons_succ]
    refine BW.take (i := 3) (v := .pointer (some ⟨w.heap.size, 1 + i * 4, none⟩)) rfl rfl (by kernel_rfl) (by kernel_rfl) (by kernel_rfl) (by kernel_rfl) (fun _ _ _ h => h) hst (gives_ok rfl (fun y hy => by clear hy; go_simp)) ?_
    simp only [List.set_cons_zero, List.set_cons_succ]
    refine BW.take (i := 4) (v := .pointer (some ⟨w.heap.size, 1 + i * 4 + 2, none⟩)) rfl rfl (by kernel_rfl) (by kernel_rfl) (by kernel_rfl) (by kernel_rfl) (fun _ _ _ h => h) hst (gives_ok rfl (fun y hy => by clear hy; go_simp)) ?_
    simp only [List.set_cons_zero, List.set_cons_succ]
    refine BW.take (i := 5) (v := .pointer (some ⟨w.heap.size, 1 + i * 4 + 2 + k, none⟩)) rfl rfl (by kernel_rfl) (by kernel_rfl) (by kernel_rfl) (by kernel_rfl) (fun _ _ _ h => h) hst (gives_ok rfl (fun y hy => by clear hy; go_simp)) ?_
    simp only [List.set_cons_zero, List.set_cons_succ]
    refine BW.take (i := 6) (v := .slice (some ⟨g, 0, none⟩) (L q).length cp4) rfl rfl (by kernel_rfl) (by kernel_rfl) (by kernel_rfl) (by kernel_rfl) (fun _ _ _ h => h) hst (gives_cell (b := w.heap.size) (k := 1 + i * 4 + 2 + k) rfl rfl rfl (fun y hy => by rw [HSD.out r4 y hy.1.1, e4]) (by kernel_rfl)) ?_
    simp only [List.set_cons_zero, List.set_cons_succ]
    refine BW.take (i := 7) (v := .int .i64 (n : Int)) rfl rfl (by kernel_rfl) (by kernel_rfl) (by kernel_rfl) (by kernel_rfl) (fun _ _ _ h => h) hst (gives_move rfl rfl rfl) ?_
    simp only [List.set_cons_zero, List.set_cons_succ]
    refine BW.take (i := 8) (v := .agg x.cells.toArray) rfl rfl (by kernel_rfl) (by kernel_rfl) (by kernel_rfl) (by kernel_rfl) (fun _ _ _ h => h) hst (gives_loadG (ys := x.cells) (b := w.heap.size + 1) (k := 0) (by kernel_rfl) rfl rfl (fun y hy => by have h := hy.1.2.1; exact whole_range0 h) (by kernel_rfl) (by kernel_rfl)) ?_
    simp only [List.set_cons_zero, List.set_cons_succ]
    refine BW.take (i := 9) (v := .pointer (some ⟨g, n * 7, none⟩)) rfl rfl (by kernel_rfl) (by kernel_rfl) (by kernel_rfl) (by kernel_rfl) (fun _ _ _ h => h) hst (gives_index (by kernel_rfl) rfl rfl rfl ln und_rowI und_rowIs) ?_
    simp only [List.set_cons_zero, List.set_cons_succ]
    refine BW.putE (i := 10) 50 (.tmp 31) (.tmp 30) 50 g (n * 7) x.cells
      (S' := fun y => (Whole y w.heap.size 33 (stC c r4).toArray ∧ Whole y (w.heap.size + 2) 33 zeroSt.toArray) ∧ OwnSt y (w.heap.size + 3) r4 (setRow L q ((L q).set n x)) ∧ Below w.heap.size w y)
      rfl rfl rfl (by kernel_rfl) (fun h => by cases h) (by kernel_rfl) hone rfl rfl rfl (fun y hy => ?_) (fun y z h e => ⟨⟨h.1.1.below e h.1.1.inside, h.1.2.below e h.1.2.inside⟩, h.2.1.below e, bthen h.2.2 e⟩) ?_
    · have hO := hy.2.1.own q hq12
      rw [e4] at hO
      obtain ⟨pre, old, post, hW, hp, ho, hset⟩ := ownI_set hO ln
      have hgb : (r4 q).ownBlock = some g := by rw [e4]; rfl
      refine ⟨pre, old, post, hW, ho.symm, hp.symm, fun z hz => ⟨⟨hz.keeps.whole hy.1.1 (fun e => by have e2 : w.heap.size = g := e; omega), hz.keeps.whole hy.1.2.2 (fun e => by have e2 : w.heap.size + 2 = g := e; omega)⟩, hy.2.1.within hq12 hgb hz.keeps (by rw [e4]; exact hset x z hz.whole), hy.2.2.trans (hz.keeps.below hy.2.2.size (fun k h => by have e2 : k = g := h; omega))⟩⟩
    · generalize hl8 : setRow L q ((L q).set n x) = L8
      refine BW.done (by kernel_rfl) (fun wn hS => ?_)
      have S8 := Lib.hid hS
      have HL8 := Lib.hid hl8
      clear hS e4 hst S5 hl8
      go_wp2_with (first
        | ((with_reducible refine at_ld 32 ?_); refine wpList_loadW 33 (.tmp 2) 33 w.heap.size (stC c r4) S8.out.1.1 (by kernel_rfl) (HSI.out _) rfl rfl rfl ?_)
        | ((with_reducible refine at_st 4 32 ?_); refine wpList_storeW 33 (.tmp 4) (.tmp 32) 33 (w.heap.size + 2) zeroSt (stC c r4) S8.out.1.2 (HL.out _) (HSI.out _) (stC_one S8.out.2.1.rows.one) rfl rfl rfl rfl rfl ?_; intro w9 p9; have P9 := Lib.hid p9; clear p9))
      refine bodyPost_ret (results_ct Try.results25 _ _ (w.heap.size + 2) 33 (stC c r4).toArray _ (.bool true) rfl rfl P9.out.whole Try.underlying33 rfl (HSI.out _)) rfl ?_
      have k9 := P9.out.keeps
      have lowz : ∀ p, p < 12 → ∀ j, (r4 p).ownBlock = some j → w.heap.size + 3 ≤ j := fun p hp j h => (World.ownsRow.lt (S8.out.2.1.own p hp) j h).1
      show ∃ r', _ ∧ OwnSt _ _ r' (setRow L q ((L q).set n x)) ∧ _
      rw [HL8.out]
      refine ⟨r4, rfl, ⟨fun p hp => own_mono (k9.owns (S8.out.2.1.own p hp) (fun j h1 h2 => by have := lowz p hp j h1; have e2 : j = w.heap.size + 2 := h2; omega)) (by omega), S8.out.2.1.apart⟩, S8.out.2.2.trans (k9.below S8.out.2.2.size (fun k h => by have h3 : k = w.heap.size + 2 := h; omega))⟩
end Go.Proofs.Ytkalpclckgbedaa
