/-
  Package board: Put. Conditions: at most 1000 cards a row.
-/
import Derived.Test.YtkalpclckgbedaaBwI
import Derived.Test.YtkalpclckgbedaaBrdG
import Derived.Test.YtkalpclckgbedaaBrdI
namespace Go.Proofs.Ytkalpclckgbedaa
open Go.ChangeShapes Go.WideShapes Go.ChangeAt Go.RowKit
set_option linter.unusedVariables false
set_option linter.unusedSimpArgs false
set_option maxRecDepth 20000
set_option maxHeartbeats 6400000
def putSt (L : Nat → List Ins) (x : Ins) (lane : Int) : Nat → List Ins :=
  if roomZ L x.owner lane < 1 then L else setRow L (2 * lane.toNat + x.owner.toNat) (L (2 * lane.toNat + x.owner.toNat) ++ [x])
theorem room_ok {L : Nat → List Ins} {seat lane : Int} (h : ¬ roomZ L seat lane < 1) : ∃ i k : Nat, lane = i ∧ seat = k ∧ i < 3 ∧ k < 2 ∧ (L (2 * i + k)).length < 4 := by
  unfold roomZ at h
  by_cases hb : seat < 0 ∨ 1 < seat ∨ lane < 0 ∨ 2 < lane
  · rw [if_pos hb] at h; omega
  · rw [if_neg hb] at h
    refine ⟨lane.toNat, seat.toNat, by omega, by omega, by omega, by omega, ?_⟩
    by_cases h4 : 4 < (L (2 * lane.toNat + seat.toNat)).length
    · rw [if_pos h4] at h; omega
    · rw [if_neg h4] at h; omega
theorem whole_range0 {w : World} {g : Nat} {t : TypeId} {l : List Value} (h : Whole w g t l.toArray) : w.rangeAt g 0 l := by
  have h2 := Whole.range (a := []) (b := l) (c := []) (by simpa using h)
  exact h2
theorem rowR_new {w : World} {g : Nat} {x : Ins} (h : Whole w g 50 x.cells.toArray) : RowR w (.slice (some ⟨g, 0, none⟩) 1 1) [x] := by
  refine ⟨_, 1, rfl, .inr ⟨_, rfl, h.inside, fun j hj => ?_⟩, Nat.le_refl _, (fun e => by cases e), by unfold maxLen; simp⟩
  rw [Addr.add_lit, h.read, Nat.zero_add]
  simp [insC]
theorem pPut (c : Sc) (r : Nat → Value) (L : Nat → List Ins) (x : Ins) (lane : Int) (w : World) (hR : Rows12 w r L) (hsz : ∀ q, q < 12 → (L q).length ≤ 1000) :
    Calls Try.prog 23 #[stV c r, x.vals, .int .i64 lane] w fun e w' => ∃ r', e = .returned (.tuple #[stV c r', .bool (!decide (roomZ L x.owner lane < 1))]) ∧ OwnSt w' w.heap.size r' (putSt L x lane) ∧ Below w.heap.size w w' := by
  obtain ⟨W3, hW3⟩ : ∃ W3, ((w.alloc (.cells (stC c r).toArray 33)).alloc (.cells x.cells.toArray 50)).alloc (.cells zeroSt.toArray 33) = W3 := ⟨_, rfl⟩
  have x1 : Whole W3 w.heap.size 33 (stC c r).toArray := by rw [← hW3]; exact ((Whole.made w _ _).alloc _).alloc _
  have x2 : Whole W3 (w.heap.size + 1) 50 x.cells.toArray := by
    have h2 := Whole.made (w.alloc (.cells (stC c r).toArray 33)) 50 x.cells.toArray
    rw [World.size_alloc] at h2
    rw [← hW3]; exact h2.alloc _
  have x3 : Whole W3 (w.heap.size + 2) 33 zeroSt.toArray := by
    have h2 := Whole.made ((w.alloc (.cells (stC c r).toArray 33)).alloc (.cells x.cells.toArray 50)) 33 zeroSt.toArray
    rw [World.size_alloc, World.size_alloc, hW3] at h2
    exact h2
  have xb : Below w.heap.size w W3 := by rw [← hW3]; exact (((Below.refl _ _).alloc (Nat.le_refl _) _).alloc (by simp) _).alloc (by simp; omega) _
  have KP := pRoom c r L x.owner lane W3 (fun q hq => (hR q hq).below xb)
  have KC : Hid (∀ y, Below w.heap.size w y → Calls Try.prog 13 #[stV c r] y fun e w' => ∃ r', e = .returned (stV c r') ∧ OwnSt w' y.heap.size r' L ∧ Below y.heap.size y w') := Lib.hid fun y hy => pClone c r L y (fun q hq => (hR q hq).below hy) hsz
  have hv : stV c r = .agg (stC c r).toArray := rfl
  have X1 := Lib.hid x1
  have X2 := Lib.hid x2
  have X3 := Lib.hid x3
  have XB := Lib.hid xb
  have hx6 : x.cells[6]? = some (.int .i64 x.owner) := rfl
  have HSI : Hid (∀ r, (Try.prog.info? 33).map (·.size) = some (stC c r).length) := Lib.hid (fun r => by rw [show (stC c r).length = 30 from rfl]; kernel_rfl)
  have HL : Hid (∀ r, (stC c r).length = 30) := Lib.hid fun r => rfl
  have HST0 : Hid (∀ r, stV c r = .agg (stC c r).toArray) := Lib.hid fun r => rfl
  unfold putSt Ins.vals
  rw [hv] at KP KC ⊢
  by_cases hz : roomZ L x.owner lane < 1
  · rw [if_pos hz]
    obtain ⟨z, hzz⟩ : ∃ z, roomZ L x.owner lane = z := ⟨_, rfl⟩
    rw [hzz] at KP hz ⊢
    have hdz : decide (z < 1) = true := decide_eq_true hz
    rw [hdz]
    have KP := Lib.hid KP
    have hz0 : ¬ (0 : Int) < z := by omega
    clear hR hv x1 x2 x3 xb hzz hdz hsz
    subst hW3
    generalize hS : stC c r = S at *
    go_enter Try.func23, Try.ntmps23
    go_wp2_with (first
      | ((with_reducible refine at_ld 10 ?_); refine wpList_loadW 33 (.tmp 3) 33 w.heap.size S X1.out (by kernel_rfl) (by rw [← hS]; exact HSI.out _) rfl rfl rfl ?_)
      | (go_at_call 19; refine KP.out.mono ?_; rintro e w3 ⟨rfl, b3⟩; have Y1 := Lib.hid (X1.out.below b3 X1.out.inside); have Y3 := Lib.hid (X3.out.below b3 X3.out.inside); have B3 := Lib.hid (bthen XB.out b3); clear b3)
      | ((with_reducible refine at_ld 16 ?_); refine wpList_loadW 33 (.tmp 3) 33 w.heap.size S Y1.out (by kernel_rfl) (by rw [← hS]; exact HSI.out _) rfl rfl rfl ?_)
      | (go_at_call 13; refine (KC.out _ B3.out).mono ?_; rintro e w4 ⟨r4, rfl, o4, b4⟩; have Z1 := Lib.hid (Y1.out.below b4 Y1.out.inside); have Z3 := Lib.hid (Y3.out.below b4 Y3.out.inside); have B4 := Lib.hid (bthen B3.out b4); have O4 := Lib.hid (o4.mono (B' := w.heap.size + 3) (by have := Y3.out.inside; omega)); rw [HST0.out]; clear b4 o4)
      | ((with_reducible refine at_st 3 17 ?_); refine wpList_storeW 33 (.tmp 3) (.tmp 17) 33 w.heap.size S (stC c r4) Z1.out (by rw [← hS]; rfl) (HSI.out _) (stC_one O4.out.rows.one) rfl rfl rfl rfl rfl ?_; intro w5 p5; have P5 := Lib.hid p5; clear p5)
      | ((with_reducible refine at_ld 34 ?_); refine wpList_loadW 33 (.tmp 3) 33 w.heap.size (stC c r4) P5.out.whole (by kernel_rfl) (HSI.out _) rfl rfl rfl ?_)
      | ((with_reducible refine at_st 6 34 ?_); refine wpList_storeW 33 (.tmp 6) (.tmp 34) 33 (w.heap.size + 2) zeroSt (stC c r4) (P5.out.keeps.whole Z3.out (fun e => by have e2 : w.heap.size + 2 = w.heap.size := e; omega)) (HL.out _) (HSI.out _) (stC_one O4.out.rows.one) rfl rfl rfl rfl rfl ?_; intro w9 p9; have P9 := Lib.hid p9; clear p9))
    refine bodyPost_ret (results_ct Try.results23 _ _ (w.heap.size + 2) 33 (stC c r4).toArray _ (.bool (decide (0 < z))) rfl rfl P9.out.whole Try.underlying33 rfl (HSI.out _)) rfl ?_
    have k5 := P5.out.keeps
    have k9 := P9.out.keeps
    have bb := (B4.out.trans (k5.below B4.out.size (fun k h => Nat.le_of_eq (Eq.symm h)))).trans (k9.below (Nat.le_trans B4.out.size k5.size) (fun k h => by have h3 : k = w.heap.size + 2 := h; omega))
    have low : ∀ q, q < 12 → ∀ j, (r4 q).ownBlock = some j → w.heap.size + 3 ≤ j := fun q hq j h => (World.ownsRow.lt (O4.out.own q hq) j h).1
    refine ⟨r4, by rw [decide_eq_false (by omega)]; rfl, ⟨fun q hq => ?_, O4.out.apart⟩, bb⟩
    exact own_mono (k9.owns (k5.owns (O4.out.own q hq) (fun j h1 h2 => by have := low q hq j h1; have e2 : j = w.heap.size := h2; omega)) (fun j h1 h2 => by have := low q hq j h1; have e2 : j = w.heap.size + 2 := h2; omega)) (by omega)
  · rw [if_neg hz]
    obtain ⟨i, k, rfl, hko, hi3, hk2, hl4⟩ := room_ok hz
    obtain ⟨q, hq⟩ : ∃ q, 2 * i + k = q := ⟨_, rfl⟩
    have hqe : 2 * (i : Int).toNat + x.owner.toNat = q := by rw [hko]; omega
    rw [hqe]
    rw [hq] at hl4
    have hq12 : q < 12 := by omega
    obtain ⟨z, hzz⟩ : ∃ z, roomZ L x.owner (i : Int) = z := ⟨_, rfl⟩
    rw [hzz] at KP hz ⊢
    have hdz : decide (z < 1) = false := decide_eq_false hz
    rw [hdz]
    have hz0 : (0 : Int) < z := by omega
    have KP := Lib.hid KP
    have lk : (k : Int) < 2 := by omega
    have li : (i : Int) < 3 := by omega
    have HXC : Hid (∀ y, Whole y (w.heap.size + 1) 50 x.cells.toArray → y.cell? ⟨w.heap.size + 1, 6, none⟩ = some (.int .i64 k)) := Lib.hid fun y hy => by rw [hy.read, ← hko]; rfl
    have HCUT : Hid (∀ r4 : Nat → Value, stC c r4 = (stC c r4).take (1 + i * 4 + 2 + k) ++ [r4 q] ++ (stC c r4).drop (1 + i * 4 + 2 + k + 1) ∧ ((stC c r4).take (1 + i * 4 + 2 + k)).length = 1 + i * 4 + 2 + k ∧ ∀ v, (stC c r4).take (1 + i * 4 + 2 + k) ++ [v] ++ (stC c r4).drop (1 + i * 4 + 2 + k + 1) = stC c (upd r4 q v)) := Lib.hid fun r4 => by
      have h0 := stC_at_side c r4 i k hi3 hk2
      rw [hq] at h0
      have h1 := fun v => st_cutL (stC c r4) (stC c (upd r4 q v)) (1 + i * 4 + 2 + k) (r4 q) v h0 (by rw [← hq]; exact stC_side c r4 i k hi3 hk2 v)
      exact ⟨(h1 (r4 q)).1, (h1 (r4 q)).2.1, fun v => (h1 v).2.2⟩
    clear hR hv x1 x2 x3 xb hzz hdz hsz hqe hko hz
    subst hW3
    generalize hS : stC c r = S at *
    go_enter Try.func23, Try.ntmps23
    go_upto_region 4 with (first
      | ((with_reducible refine at_ld 10 ?_); refine wpList_loadW 33 (.tmp 3) 33 w.heap.size S X1.out (by kernel_rfl) (by rw [← hS]; exact HSI.out _) rfl rfl rfl ?_)
      | (go_at_call 19; refine KP.out.mono ?_; rintro e w3 ⟨rfl, b3⟩; have Y1 := Lib.hid (X1.out.below b3 X1.out.inside); have Y2 := Lib.hid (X2.out.below b3 X2.out.inside); have Y3 := Lib.hid (X3.out.below b3 X3.out.inside); have B3 := Lib.hid (bthen XB.out b3); clear b3)
      | ((with_reducible refine at_ld 16 ?_); refine wpList_loadW 33 (.tmp 3) 33 w.heap.size S Y1.out (by kernel_rfl) (by rw [← hS]; exact HSI.out _) rfl rfl rfl ?_)
      | (go_at_call 13; refine (KC.out _ B3.out).mono ?_; rintro e w4 ⟨r4, rfl, o4, b4⟩; have Z1 := Lib.hid (Y1.out.below b4 Y1.out.inside); have Z2 := Lib.hid (Y2.out.below b4 Y2.out.inside); have Z3 := Lib.hid (Y3.out.below b4 Y3.out.inside); have B4 := Lib.hid (bthen B3.out b4); have O4 := Lib.hid (o4.mono (B' := w.heap.size + 3) (by have := Y3.out.inside; omega)); rw [HST0.out]; clear b4 o4)
      | ((with_reducible refine at_st 3 17 ?_); refine wpList_storeW 33 (.tmp 3) (.tmp 17) 33 w.heap.size S (stC c r4) Z1.out (by rw [← hS]; rfl) (HSI.out _) (stC_one O4.out.rows.one) rfl rfl rfl rfl rfl ?_; intro w5 p5; have P5 := Lib.hid p5; clear p5))
    have c6 := HXC.out w5 (P5.out.keeps.whole Z2.out (fun e => by have e2 : w.heap.size + 1 = w.heap.size := e; omega))
    go_quiet (fail)
    go_upto_region 5 with (fail)
    have low : ∀ q, q < 12 → ∀ j, (r4 q).ownBlock = some j → w.heap.size + 3 ≤ j := fun q hq j h => (World.ownsRow.lt (O4.out.own q hq) j h).1
    have hst : Stab (fun y => (Whole y w.heap.size 33 (stC c r4).toArray ∧ Whole y (w.heap.size + 1) 50 x.cells.toArray ∧ Whole y (w.heap.size + 2) 33 zeroSt.toArray) ∧ OwnSt y (w.heap.size + 3) r4 L ∧ Below w.heap.size w y) := fun y z h e => ⟨⟨h.1.1.below e h.1.1.inside, h.1.2.1.below e h.1.2.1.inside, h.1.2.2.below e h.1.2.2.inside⟩, h.2.1.below e, bthen h.2.2 e⟩
    have k5 := P5.out.keeps
    have S5 : (Whole w5 w.heap.size 33 (stC c r4).toArray ∧ Whole w5 (w.heap.size + 1) 50 x.cells.toArray ∧ Whole w5 (w.heap.size + 2) 33 zeroSt.toArray) ∧ OwnSt w5 (w.heap.size + 3) r4 L ∧ Below w.heap.size w w5 :=
      ⟨⟨P5.out.whole, k5.whole Z2.out (fun e => by have e2 : w.heap.size + 1 = w.heap.size := e; omega), k5.whole Z3.out (fun e => by have e2 : w.heap.size + 2 = w.heap.size := e; omega)⟩, ⟨fun q hq => k5.owns (O4.out.own q hq) (fun j h1 h2 => by have := low q hq j h1; have e2 : j = w.heap.size := h2; omega), O4.out.apart⟩, B4.out.trans (k5.below B4.out.size (fun k h => Nat.le_of_eq (Eq.symm h)))⟩
    obtain ⟨cut1, cut2, cut3⟩ := HCUT.out r4
    obtain ⟨A4, cp4, e4⟩ := own_len (O4.out.own q hq12)
    have low3 : w.heap.size + 3 ≤ w5.heap.size := Nat.le_trans (by have := Z3.out.inside; omega) k5.size
    have hsd : ∀ y, Whole y w.heap.size 33 (stC c r4).toArray → y.cell? ⟨w.heap.size, 1 + i * 4 + 2 + k, none⟩ = some (r4 q) := fun y hy => by rw [st_side hy i k hi3 hk2, hq]
    refine wp_region_bw (fun i => i == 6 || i == 8) (fun y => (Whole y w.heap.size 33 (stC c r4).toArray ∧ Whole y (w.heap.size + 1) 50 x.cells.toArray ∧ Whole y (w.heap.size + 2) 33 zeroSt.toArray) ∧ OwnSt y (w.heap.size + 3) r4 L ∧ Below w.heap.size w y) (by kernel_rfl) (hst _ _ S5 (below_drew1 (below_drewN (Below.refl _ _) _))) ?_
    refine BW.pure (i := 0) (v := .pointer (some ⟨w.heap.size, 1 + i * 4 + 2 + k, none⟩)) rfl rfl (by kernel_rfl) (by kernel_rfl) (by kernel_rfl) (fun _ _ _ h => h) hst (gives_move rfl rfl rfl) ?_
    simp only [List.set_cons_zero, List.set_cons_succ]
    refine BW.pure (i := 1) (v := .pointer (some ⟨w.heap.size, 1 + i * 4 + 2 + k, none⟩)) rfl rfl (by kernel_rfl) (by kernel_rfl) (by kernel_rfl) (fun _ _ _ h => h) hst (gives_move rfl rfl rfl) ?_
    simp only [List.set_cons_zero, List.set_cons_succ]
    refine BW.pure (i := 2) (v := .pointer (some ⟨w.heap.size, 1 + i * 4 + 2 + k, none⟩)) rfl rfl (by kernel_rfl) (by kernel_rfl) (by kernel_rfl) (fun _ _ _ h => h) hst (gives_nil rfl rfl rfl) ?_
    simp only [List.set_cons_zero, List.set_cons_succ]
    refine BW.take (i := 3) (v := r4 q) rfl rfl (by kernel_rfl) (by kernel_rfl) (by kernel_rfl) (by kernel_rfl) (fun _ _ _ h => h) hst (gives_cell (b := w.heap.size) (k := 1 + i * 4 + 2 + k) rfl rfl rfl (fun y hy => hsd y hy.1.1) (by kernel_rfl)) ?_
    simp only [List.set_cons_zero, List.set_cons_succ]
    refine BW.take (i := 4) (v := .agg x.cells.toArray) rfl rfl (by kernel_rfl) (by kernel_rfl) (by kernel_rfl) (by kernel_rfl) (fun _ _ _ h => h) hst (gives_loadG (ys := x.cells) (b := w.heap.size + 1) (k := 0) (by kernel_rfl) rfl rfl (fun y hy => by have h := hy.1.2.1; exact whole_range0 h) (by kernel_rfl) (by kernel_rfl)) ?_
    simp only [List.set_cons_zero, List.set_cons_succ]
    refine BW.build (i := 5) 50 x.cells rfl rfl rfl (by kernel_rfl) hst (fun y hy => by clear hy hst; kernel_rfl) (fun gb => ?_)
    simp only [List.set_cons_zero, List.set_cons_succ]
    refine BW.one (by kernel_rfl) (fun y hy => catOp (i := 6) (.tmp 29) (.tmp 31) (w.heap.size + 3) (r4 q) _ (L q) [x] rfl rfl rfl rfl rfl rfl (hy.1.2.1.own q hq12) (rowR_new hy.2) (by have := hy.1.1.2.2.inside; omega) (by simp; omega) (fun A cp zw hO hg hb => ?_))
    have kz : Keeps (fun k => (r4 q).ownBlock = some k) y zw := (Keeps.refl _ y).grown hg (fun k hk => hk)
    have lowy : ∀ k, (r4 q).ownBlock = some k → w.heap.size + 3 ≤ k := fun k h => (World.ownsRow.lt (hy.1.2.1.own q hq12) k h).1
    have st2 : Stab (fun y => (Whole y w.heap.size 33 (stC c r4).toArray ∧ Whole y (w.heap.size + 2) 33 zeroSt.toArray) ∧ OwnSt y (w.heap.size + 3) (upd r4 q (.slice A (L q ++ [x]).length cp)) (setRow L q (L q ++ [x])) ∧ Below w.heap.size w y) := fun y z h e => ⟨⟨h.1.1.below e h.1.1.inside, h.1.2.below e h.1.2.inside⟩, h.2.1.below e, bthen h.2.2 e⟩
    refine ⟨_, ⟨⟨kz.whole hy.1.1.1 (fun e => by have := lowy _ e; omega), kz.whole hy.1.1.2.2 (fun e => by have := lowy _ e; omega)⟩, hy.1.2.1.change hq12 kz hO hb, hy.1.2.2.trans (kz.below hy.1.2.2.size (fun k h => by have := lowy k h; omega))⟩, st2, (fun h => by cases h), ?_⟩
    simp only [List.set_cons_zero, List.set_cons_succ]
    refine BW.pure (i := 7) (v := .pointer (some ⟨w.heap.size, 1 + i * 4 + 2 + k, none⟩)) rfl rfl (by kernel_rfl) (by kernel_rfl) (by kernel_rfl) (fun _ _ _ h => h) st2 (gives_nil rfl rfl rfl) ?_
    simp only [List.set_cons_zero, List.set_cons_succ]
    have hone : ∀ v ∈ [Value.slice A (L q ++ [x]).length cp], v.oneCell' = true := fun v hv => by rw [List.mem_singleton.1 hv]; rfl
    refine BW.put (i := 8) 22 (.tmp 33) (.tmp 32) 33 w.heap.size (1 + i * 4 + 2 + k) ((stC c r4).take (1 + i * 4 + 2 + k)) [r4 q] ((stC c r4).drop (1 + i * 4 + 2 + k + 1)) [.slice A (L q ++ [x]).length cp]
      (S' := fun y => (Whole y w.heap.size 33 (stC c (upd r4 q (.slice A (L q ++ [x]).length cp))).toArray ∧ Whole y (w.heap.size + 2) 33 zeroSt.toArray) ∧ OwnSt y (w.heap.size + 3) (upd r4 q (.slice A (L q ++ [x]).length cp)) (setRow L q (L q ++ [x])) ∧ Below w.heap.size w y)
      rfl rfl rfl (by kernel_rfl) (fun h => by cases h) (fun y hy => by rw [← cut1]; exact hy.1.1) rfl cut2.symm (by kernel_rfl) hone rfl rfl rfl (fun y z hy hp => ?_) (fun y z h e => ⟨⟨h.1.1.below e h.1.1.inside, h.1.2.below e h.1.2.inside⟩, h.2.1.below e, bthen h.2.2 e⟩) ?_
    · have hw := hp.whole
      rw [cut3] at hw
      have lowz : ∀ p, p < 12 → ∀ j, (upd r4 q (.slice A (L q ++ [x]).length cp) p).ownBlock = some j → w.heap.size + 3 ≤ j := fun p hp j h => (World.ownsRow.lt (hy.2.1.own p hp) j h).1
      exact ⟨⟨hw, hp.keeps.whole hy.1.2 (fun e => by have e2 : w.heap.size + 2 = w.heap.size := e; omega)⟩, ⟨fun p hp2 => hp.keeps.owns (hy.2.1.own p hp2) (fun j h1 h2 => by have := lowz p hp2 j h1; have e2 : j = w.heap.size := h2; omega), hy.2.1.apart⟩, hy.2.2.trans (hp.keeps.below hy.2.2.size (fun k h => Nat.le_of_eq (Eq.symm h)))⟩
    · generalize hr8 : upd r4 q (.slice A (L q ++ [x]).length cp) = r8
      refine BW.done (by kernel_rfl) (fun wn hS => ?_)
      have S8 := Lib.hid hS
      clear hS cut1 cut2 cut3 e4 hone hsd hr8
      go_wp2_with (first
        | ((with_reducible refine at_ld 34 ?_); refine wpList_loadW 33 (.tmp 3) 33 w.heap.size (stC c r8) S8.out.1.1 (by kernel_rfl) (HSI.out _) rfl rfl rfl ?_)
        | ((with_reducible refine at_st 6 34 ?_); refine wpList_storeW 33 (.tmp 6) (.tmp 34) 33 (w.heap.size + 2) zeroSt (stC c r8) S8.out.1.2 (HL.out _) (HSI.out _) (stC_one S8.out.2.1.rows.one) rfl rfl rfl rfl rfl ?_; intro w9 p9; have P9 := Lib.hid p9; clear p9))
      refine bodyPost_ret (results_ct Try.results23 _ _ (w.heap.size + 2) 33 (stC c r8).toArray _ (.bool true) rfl rfl P9.out.whole Try.underlying33 rfl (HSI.out _)) rfl ?_
      have k9 := P9.out.keeps
      have lowz : ∀ p, p < 12 → ∀ j, (r8 p).ownBlock = some j → w.heap.size + 3 ≤ j := fun p hp j h => (World.ownsRow.lt (S8.out.2.1.own p hp) j h).1
      refine ⟨r8, rfl, ⟨fun p hp => own_mono (k9.owns (S8.out.2.1.own p hp) (fun j h1 h2 => by have := lowz p hp j h1; have e2 : j = w.heap.size + 2 := h2; omega)) (by omega), S8.out.2.1.apart⟩, S8.out.2.2.trans (k9.below S8.out.2.2.size (fun k h => by have h3 : k = w.heap.size + 2 := h; omega))⟩
end Go.Proofs.Ytkalpclckgbedaa
