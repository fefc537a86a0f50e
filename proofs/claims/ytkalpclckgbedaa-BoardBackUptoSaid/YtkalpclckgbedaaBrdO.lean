/-
  Package board: Take. Conditions: at most 1000 cards a row.
-/
import Derived.Test.YtkalpclckgbedaaBrdN
import Derived.Test.YtkalpclckgbedaaBt
namespace Go.Proofs.Ytkalpclckgbedaa
open Go.ChangeShapes Go.WideShapes Go.ChangeAt Go.RowKit
set_option linter.unusedVariables false
set_option linter.unusedSimpArgs false
set_option maxRecDepth 20000
set_option maxHeartbeats 6400000
theorem results_cct {P : Program} {fn : Func} {p q u : Tmp} {ty tz : TypeId} (h : fn.results = #[.cell p ty, .cell q tz, .tmp u]) (tmps : Array Value) (w : World) (g g2 : Nat) (t t2 : TypeId) (cs ds : Array Value) (d d2 : TypeDesc) (vb : Value)
    (hp : tmps.getD p undef = .pointer (some ⟨g, 0, none⟩)) (hq : tmps.getD q undef = .pointer (some ⟨g2, 0, none⟩)) (hb : tmps.getD u undef = vb) (hg : Whole w g t cs) (hg2 : Whole w g2 t2 ds)
    (hu : P.underlying ty = some d) (hd : (match d with | .struct _ | .array _ _ => true | _ => false) = true) (hi : (P.info? ty).map (·.size) = some cs.size)
    (hu2 : P.underlying tz = some d2) (hd2 : (match d2 with | .struct _ | .array _ _ => true | _ => false) = true) (hi2 : (P.info? tz).map (·.size) = some ds.size) :
    (results fn tmps).run P w = .ok (.tuple #[.agg cs, .agg ds, vb]) w := by
  have ha2 : tmps[p]?.getD undef = .pointer (some ⟨g, 0, none⟩) := by simpa using hp
  have hb2 : tmps[q]?.getD undef = .pointer (some ⟨g2, 0, none⟩) := by simpa using hq
  have hc2 : tmps[u]?.getD undef = vb := by simpa using hb
  simp only [results, h]
  simp [Sem.run_bind, Result.andThen, ha2, hb2, hc2, asAddr, run_loadVar_row w g t ty cs (0, 0) d hg hu hd hi, run_loadVar_row w g2 t2 tz ds (0, 0) d2 hg2 hu2 hd2 hi2]
theorem pTake (c : Sc) (r : Nat → Value) (L : Nat → List Ins) (id : Int) (w : World) (hR : Rows12 w r L) (hsz : ∀ q, q < 12 → (L q).length ≤ 1000) :
    Calls Try.prog 27 #[stV c r, .int .i64 id] w fun e w' => ∃ r', e = .returned (.tuple #[stV c r', (getI L id).vals, .bool (placeO L id).isSome]) ∧ OwnSt w' w.heap.size r' (takeL L id) ∧ Below w.heap.size w w' := by
  obtain ⟨W3, hW3⟩ : ∃ W3, ((w.alloc (.cells (stC c r).toArray 33)).alloc (.cells zeroSt.toArray 33)).alloc (.cells zeroIns.cells.toArray 50) = W3 := ⟨_, rfl⟩
  have x1 : Whole W3 w.heap.size 33 (stC c r).toArray := by rw [← hW3]; exact ((Whole.made w _ _).alloc _).alloc _
  have x2 : Whole W3 (w.heap.size + 1) 33 zeroSt.toArray := by
    have h2 := Whole.made (w.alloc (.cells (stC c r).toArray 33)) 33 zeroSt.toArray
    rw [World.size_alloc] at h2
    rw [← hW3]; exact h2.alloc _
  have x3 : Whole W3 (w.heap.size + 2) 50 zeroIns.cells.toArray := by
    have h2 := Whole.made ((w.alloc (.cells (stC c r).toArray 33)).alloc (.cells zeroSt.toArray 33)) 50 zeroIns.cells.toArray
    rw [World.size_alloc, World.size_alloc, hW3] at h2
    exact h2
  have xb : Below w.heap.size w W3 := by rw [← hW3]; exact (((Below.refl _ _).alloc (Nat.le_refl _) _).alloc (by simp) _).alloc (by simp; omega) _
  have KP := pFind c r L id W3 (fun q hq => (hR q hq).below xb)
  have KC : Hid (∀ y, Below w.heap.size w y → Calls Try.prog 13 #[stV c r] y fun e w' => ∃ r', e = .returned (stV c r') ∧ OwnSt w' y.heap.size r' L ∧ Below y.heap.size y w') := Lib.hid fun y hy => pClone c r L y (fun q hq => (hR q hq).below hy) hsz
  have hv : stV c r = .agg (stC c r).toArray := rfl
  have X1 := Lib.hid x1
  have X2 := Lib.hid x2
  have X3 := Lib.hid x3
  have XB := Lib.hid xb
  have HSI : Hid (∀ r, (Try.prog.info? 33).map (·.size) = some (stC c r).length) := Lib.hid (fun r => by rw [show (stC c r).length = 30 from rfl]; kernel_rfl)
  have HL : Hid (∀ r, (stC c r).length = 30) := Lib.hid fun r => rfl
  have HST0 : Hid (∀ r, stV c r = .agg (stC c r).toArray) := Lib.hid fun r => rfl
  unfold takeL getI Ins.vals
  rw [hv] at KP KC ⊢
  cases hpl : placeO L id with
  | none =>
    rw [hpl] at KP
    have KP : Calls Try.prog 10 #[.agg (stC c r).toArray, .int .i64 id] W3 fun e w' => e = .returned (.tuple #[.int .i64 0, .int .i64 0, .int .i64 0, .bool false]) ∧ Below W3.heap.size W3 w' := KP
    have KP := Lib.hid KP
    clear hR hv x1 x2 x3 xb hpl hsz
    subst hW3
    generalize hS : stC c r = S at *
    go_enter Try.func27, Try.ntmps27
    go_wp2_with (first
      | ((with_reducible refine at_ld 14 ?_); refine wpList_loadW 33 (.tmp 2) 33 w.heap.size S X1.out (by kernel_rfl) (by rw [← hS]; exact HSI.out _) rfl rfl rfl ?_)
      | (go_at_call 10; refine KP.out.mono ?_; rintro e w3 ⟨rfl, b3⟩; have Y1 := Lib.hid (X1.out.below b3 X1.out.inside); have Y2 := Lib.hid (X2.out.below b3 X2.out.inside); have Y3 := Lib.hid (X3.out.below b3 X3.out.inside); have B3 := Lib.hid (bthen XB.out b3); clear b3)
      | ((with_reducible refine at_ld 21 ?_); refine wpList_loadW 33 (.tmp 2) 33 w.heap.size S Y1.out (by kernel_rfl) (by rw [← hS]; exact HSI.out _) rfl rfl rfl ?_)
      | (go_at_call 13; refine (KC.out _ B3.out).mono ?_; rintro e w4 ⟨r4, rfl, o4, b4⟩; have Z1 := Lib.hid (Y1.out.below b4 Y1.out.inside); have Z2 := Lib.hid (Y2.out.below b4 Y2.out.inside); have Z3 := Lib.hid (Y3.out.below b4 Y3.out.inside); have B4 := Lib.hid (bthen B3.out b4); have O4 := Lib.hid (o4.mono (B' := w.heap.size + 3) (by have := Y3.out.inside; omega)); rw [HST0.out]; clear b4 o4)
      | ((with_reducible refine at_st 2 22 ?_); refine wpList_storeW 33 (.tmp 2) (.tmp 22) 33 w.heap.size S (stC c r4) Z1.out (by rw [← hS]; rfl) (HSI.out _) (stC_one O4.out.rows.one) rfl rfl rfl rfl rfl ?_; intro w5 p5; have P5 := Lib.hid p5; clear p5)
      | ((with_reducible refine at_ld 25 ?_); refine wpList_loadW 33 (.tmp 2) 33 w.heap.size (stC c r4) P5.out.whole (by kernel_rfl) (HSI.out _) rfl rfl rfl ?_)
      | ((with_reducible refine at_st 4 25 ?_); refine wpList_storeW 33 (.tmp 4) (.tmp 25) 33 (w.heap.size + 1) zeroSt (stC c r4) (P5.out.keeps.whole Z2.out (fun e => by have e2 : w.heap.size + 1 = w.heap.size := e; omega)) (HL.out _) (HSI.out _) (stC_one O4.out.rows.one) rfl rfl rfl rfl rfl ?_; intro w8 p8; have P8 := Lib.hid p8; clear p8)
      | ((with_reducible refine at_st 5 26 ?_); refine wpList_storeW 50 (.tmp 5) (.tmp 26) 50 (w.heap.size + 2) zeroIns.cells zeroIns.cells (P8.out.keeps.whole (P5.out.keeps.whole Z3.out (fun e => by have e2 : w.heap.size + 2 = w.heap.size := e; omega)) (fun e => by have e2 : w.heap.size + 2 = w.heap.size + 1 := e; omega)) rfl (by kernel_rfl) (ins_one _) rfl rfl rfl rfl rfl ?_; intro w9 p9; have P9 := Lib.hid p9; clear p9))
    refine bodyPost_ret (results_cct Try.results27 _ _ (w.heap.size + 1) (w.heap.size + 2) 33 50 (stC c r4).toArray zeroIns.cells.toArray _ _ (.bool false) rfl rfl rfl (P9.out.keeps.whole P8.out.whole (fun e => by have e2 : w.heap.size + 1 = w.heap.size + 2 := e; omega)) P9.out.whole Try.underlying33 rfl (HSI.out _) Try.underlying50 rfl (by kernel_rfl)) rfl ?_
    have low : ∀ q, q < 12 → ∀ j, (r4 q).ownBlock = some j → w.heap.size + 3 ≤ j := fun q hq j h => (World.ownsRow.lt (O4.out.own q hq) j h).1
    have k9 : Keeps (fun k => w.heap.size ≤ k ∧ k < w.heap.size + 3) w4 w9 := ((P5.out.keeps.mono (fun k h => by have e : k = w.heap.size := h; exact ⟨by omega, by omega⟩)).trans (P8.out.keeps.mono (fun k h => by have e : k = w.heap.size + 1 := h; exact ⟨by omega, by omega⟩))).trans (P9.out.keeps.mono (fun k h => by have e : k = w.heap.size + 2 := h; exact ⟨by omega, by omega⟩))
    exact ⟨r4, rfl, ⟨fun q hq => own_mono (k9.owns (O4.out.own q hq) (fun j h1 h2 => by have := low q hq j h1; omega)) (by omega), O4.out.apart⟩, B4.out.trans (k9.below B4.out.size (fun k h => h.1))⟩
  | some qn =>
    obtain ⟨q, n⟩ := qn
    obtain ⟨hq6, hnl, hid⟩ := placeO_some hpl
    obtain ⟨i, k, hq, hi3, hk2⟩ : ∃ i k, 2 * i + k = q ∧ i < 3 ∧ k < 2 := ⟨q / 2, q % 2, by omega, by omega, by omega⟩
    rw [hpl] at KP
    have KP : Calls Try.prog 10 #[.agg (stC c r).toArray, .int .i64 id] W3 fun e w' => e = .returned (.tuple #[.int .i64 k, .int .i64 i, .int .i64 n, .bool true]) ∧ Below W3.heap.size W3 w' := by
      have e1 : fSeat (some (q, n)) = (k : Int) := by unfold fSeat; simp only; rw [show q % 2 = k by omega]
      have e2 : fLane (some (q, n)) = (i : Int) := by unfold fLane; simp only; rw [show q / 2 = i by omega]
      have e3 : fSlot (some (q, n)) = (n : Int) := rfl
      rw [e1, e2, e3] at KP
      exact KP
    have KP := Lib.hid KP
    have hq12 : q < 12 := by omega
    have lk : (k : Int) < 2 := by omega
    have li : (i : Int) < 3 := by omega
    have HSD : Hid (∀ r4 y, Whole y w.heap.size 33 (stC c r4).toArray → y.cell? ⟨w.heap.size, 1 + i * 4 + 2 + k, none⟩ = some (r4 q)) := Lib.hid fun r4 y hy => by rw [st_side hy i k hi3 hk2, hq]
    have HST : Hid (∀ r4 v, (stC c r4).toArray.setIfInBounds (1 + i * 4 + 2 + k) v = (stC c (upd r4 q v)).toArray) := Lib.hid fun r4 v => by rw [← hq]; exact stC_side c r4 i k hi3 hk2 v
    have HLQ := Lib.hid (hsz q hq12)
    obtain ⟨m, hm⟩ : ∃ m, (L q).length = m := ⟨_, rfl⟩
    have HM := Lib.hid hm
    rw [hm] at hnl
    have hm1000 : m ≤ 1000 := by rw [← hm]; exact HLQ.out
    obtain ⟨X, hX⟩ : ∃ X, (L q).getD n zeroIns = X := ⟨_, rfl⟩
    have HX : Hid (∀ (h : n < (L q).length), (L q)[n] = X) := Lib.hid fun h => by rw [← hX, List.getD_eq_getElem?_getD, List.getElem?_eq_getElem h]; rfl
    show Calls _ _ _ _ fun e w' => ∃ r', e = .returned (.tuple #[stV c r', .agg ((L q).getD n zeroIns).cells.toArray, .bool true]) ∧ OwnSt w' w.heap.size r' (setRow L q ((L q).take n ++ (L q).drop (n + 1))) ∧ Below w.heap.size w w'
    rw [hX]
    clear hR hv x1 x2 x3 xb hpl hsz hid hq hm hX
    subst hW3
    generalize hS : stC c r = S at *
    have ln : (n : Int) < (m : Int) := by omega
    have hwn : IntKind.i64.wrap ((n : Int) + 1) = (n : Int) + 1 := IntWalk.i64_in _ (by omega)
    go_enter Try.func27, Try.ntmps27
    go_upto_region 6 with (first
      | ((with_reducible refine at_ld 14 ?_); refine wpList_loadW 33 (.tmp 2) 33 w.heap.size S X1.out (by kernel_rfl) (by rw [← hS]; exact HSI.out _) rfl rfl rfl ?_)
      | (go_at_call 10; refine KP.out.mono ?_; rintro e w3 ⟨rfl, b3⟩; have Y1 := Lib.hid (X1.out.below b3 X1.out.inside); have Y2 := Lib.hid (X2.out.below b3 X2.out.inside); have Y3 := Lib.hid (X3.out.below b3 X3.out.inside); have B3 := Lib.hid (bthen XB.out b3); clear b3)
      | ((with_reducible refine at_ld 21 ?_); refine wpList_loadW 33 (.tmp 2) 33 w.heap.size S Y1.out (by kernel_rfl) (by rw [← hS]; exact HSI.out _) rfl rfl rfl ?_)
      | (go_at_call 13; refine (KC.out _ B3.out).mono ?_; rintro e w4 ⟨r4, rfl, o4, b4⟩; have Z1 := Lib.hid (Y1.out.below b4 Y1.out.inside); have Z2 := Lib.hid (Y2.out.below b4 Y2.out.inside); have Z3 := Lib.hid (Y3.out.below b4 Y3.out.inside); have B4 := Lib.hid (bthen B3.out b4); have O4 := Lib.hid (o4.mono (B' := w.heap.size + 3) (by have := Y3.out.inside; omega)); rw [HST0.out]; clear b4 o4)
      | ((with_reducible refine at_st 2 22 ?_); refine wpList_storeW 33 (.tmp 2) (.tmp 22) 33 w.heap.size S (stC c r4) Z1.out (by rw [← hS]; rfl) (HSI.out _) (stC_one O4.out.rows.one) rfl rfl rfl rfl rfl ?_; intro w5 p5; have P5 := Lib.hid p5; clear p5))
    have low : ∀ q, q < 12 → ∀ j, (r4 q).ownBlock = some j → w.heap.size + 3 ≤ j := fun q hq j h => (World.ownsRow.lt (O4.out.own q hq) j h).1
    have k5 := P5.out.keeps
    have O5 : OwnSt w5 (w.heap.size + 3) r4 L := ⟨fun q hq => k5.owns (O4.out.own q hq) (fun j h1 h2 => by have := low q hq j h1; have e2 : j = w.heap.size := h2; omega), O4.out.apart⟩
    have B5 : Below w.heap.size w w5 := B4.out.trans (k5.below B4.out.size (fun k h => Nat.le_of_eq (Eq.symm h)))
    obtain ⟨g, cp4, e4, hg1, hg2⟩ := own_some7 (O5.own q hq12) (by rw [HM.out]; omega)
    rw [HM.out] at e4
    have hrow := (O5.own q hq12).row
    rw [e4] at hrow
    obtain ⟨A', c', e', hr', _⟩ := hrow
    injection e' with e1 e1b e1c
    clear e1b e1c
    subst e1
    obtain ⟨g', off, e'', _, hc⟩ := row_lit hr' (by rw [HM.out]; omega)
    injection e'' with e''
    injection e'' with e5 e6
    subst e5 e6
    obtain ⟨p0, p1, p2, p3, p4, p5, p6⟩ := hc n (by rw [HM.out]; omega)
    rw [HX.out] at p0 p1 p2 p3 p4 p5 p6
    rw [Nat.zero_add] at p0 p1 p2 p3 p4 p5 p6
    have sd := HSD.out r4 w5 P5.out.whole
    rw [e4] at sd
    have lt0 : w.heap.size < w5.heap.size := P5.out.whole.inside
    have O5h := Lib.hid O5
    have B5h := Lib.hid B5
    have HE4 := Lib.hid e4
    have W1 := Lib.hid (k5.whole Z2.out (fun e => by have e2 : w.heap.size + 1 = w.heap.size := e; omega))
    have W2 := Lib.hid (k5.whole Z3.out (fun e => by have e2 : w.heap.size + 2 = w.heap.size := e; omega))
    have HK : Hid (∀ w6, Put (w5.alloc (.cells zeroIns.cells.toArray 50)) w6 w5.heap.size 50 X.cells → Below w5.heap.size w5 w6) := Lib.hid fun w6 p6 => ((Below.refl _ _).alloc (Nat.le_refl _) _).trans (p6.keeps.below (by simp) (fun k h => by have e2 : k = w5.heap.size := h; omega))
    clear low k5 O5 B5 hc hr' e4
    go_upto_region 7 with ((with_reducible refine at_st 12 38 ?_); refine wpList_storeW 50 (.tmp 12) (.tmp 38) 50 w5.heap.size zeroIns.cells X.cells (Whole.made w5 _ _) rfl (by kernel_rfl) (ins_one X) rfl rfl rfl rfl rfl ?_; intro w6 p6; have P6 := Lib.hid p6; have b6 := HK.out w6 p6; clear p6)
    have sd6 := (b6.cell (p := ⟨w.heap.size, 1 + i * 4 + 2 + k, none⟩) lt0).trans sd
    have O6 := Lib.hid (O5h.out.below b6)
    have S6 := Lib.hid (P5.out.whole.below b6 lt0)
    have B6 := Lib.hid (bthen B5h.out b6)
    have V1 := Lib.hid (W1.out.below b6 W1.out.inside)
    have V2 := Lib.hid (W2.out.below b6 W2.out.inside)
    have KD : Hid (Calls Try.prog 40 #[.slice (some ⟨g, 0, none⟩) m cp4, .int .i64 n, .int .i64 ((n : Int) + 1)] w6 fun e w' => e = .returned (.slice (some ⟨g, 0, none⟩) ((L q).take n ++ (L q).drop (n + 1)).length cp4) ∧ OwnI w' (w.heap.size + 3) (.slice (some ⟨g, 0, none⟩) ((L q).take n ++ (L q).drop (n + 1)).length cp4) ((L q).take n ++ (L q).drop (n + 1)) ∧ Keeps (fun k => k = g) w6 w') := Lib.hid (pDelete (w.heap.size + 3) g cp4 n m (L q) w6 (by have h := O6.out.own q hq12; rw [HE4.out] at h; rw [HM.out]; exact h) (by rw [HM.out]; omega) HM.out hm1000)
    clear p0 p1 p2 p3 p4 p5 p6 sd W1 W2
    obtain ⟨l8, hl8⟩ : ∃ l8, (L q).take n ++ (L q).drop (n + 1) = l8 := ⟨_, rfl⟩
    rw [hl8] at KD
    have HL8 := Lib.hid hl8
    clear hl8
    generalize l8.length = m8 at *
    go_upto_region 8 with (go_at_call 40; (with_reducible refine KD.out.mono ?_); rintro e w7 ⟨rfl, o7, k7⟩; have sd7 := (Keeps.whole k7 S6.out (fun e => by have e2 : w.heap.size = g := e; omega)); have f7 := sd7.thawed (1 + i * 4 + 2 + k); have c7 := HSD.out r4 w7 sd7; rw [HE4.out] at c7; have lt7 := sd7.inside; have G7 := Lib.hid (Keeps.whole k7 P6.out.whole (fun e => by have e2 : w5.heap.size = g := e; omega)); have S7 := Lib.hid sd7; have O7 := Lib.hid o7; have K7 := Lib.hid k7; clear sd7 o7 k7)
    obtain ⟨r8, hr8⟩ : ∃ r8, upd r4 q (.slice (some ⟨g, 0, none⟩) m8 cp4) = r8 := ⟨_, rfl⟩
    obtain ⟨L8, hL8⟩ : ∃ L8, setRow L q l8 = L8 := ⟨_, rfl⟩
    have low6 : ∀ p, p < 12 → ∀ j, (r4 p).ownBlock = some j → w.heap.size + 3 ≤ j := fun p hp j h => (World.ownsRow.lt (O6.out.own p hp) j h).1
    have hgb : (r4 q).ownBlock = some g := by rw [HE4.out]; rfl
    have O8 : OwnSt w7 (w.heap.size + 3) r8 L8 := by
      rw [← hr8, ← hL8]
      exact O6.out.change hq12 (K7.out.mono (fun k h => by have e2 : k = g := h; rw [e2]; exact hgb)) O7.out (.inl hgb.symm)
    have kz : Keeps (fun k => k = w.heap.size) w7 (w7.setCell ⟨w.heap.size, 1 + i * 4 + 2 + k, none⟩ (.slice (some ⟨g, 0, none⟩) m8 cp4)) := Keeps.setCell (S := fun k => k = w.heap.size) (Keeps.refl _ _) (p := ⟨w.heap.size, 1 + i * 4 + 2 + k, none⟩) rfl _
    have wz : Whole (w7.setCell ⟨w.heap.size, 1 + i * 4 + 2 + k, none⟩ (.slice (some ⟨g, 0, none⟩) m8 cp4)) w.heap.size 33 (stC c r8).toArray := by
      have h := S7.out.write (1 + i * 4 + 2 + k) (.slice (some ⟨g, 0, none⟩) m8 cp4)
      rw [HST.out, hr8] at h
      exact h
    have low8 : ∀ p, p < 12 → ∀ j, (r8 p).ownBlock = some j → w.heap.size + 3 ≤ j := fun p hp j h => (World.ownsRow.lt (O8.own p hp) j h).1
    have b7 : Below w.heap.size w w7 := B6.out.trans (K7.out.below B6.out.size (fun k h => by have e2 : k = g := h; omega))
    have SZ : (fun y => (Whole y w.heap.size 33 (stC c r8).toArray ∧ Whole y w5.heap.size 50 X.cells.toArray) ∧ (Whole y (w.heap.size + 1) 33 zeroSt.toArray ∧ Whole y (w.heap.size + 2) 50 zeroIns.cells.toArray) ∧ OwnSt y (w.heap.size + 3) r8 L8 ∧ Below w.heap.size w y) (w7.setCell ⟨w.heap.size, 1 + i * 4 + 2 + k, none⟩ (.slice (some ⟨g, 0, none⟩) m8 cp4)) :=
      ⟨⟨wz, kz.whole G7.out (fun e => by have e2 : w5.heap.size = w.heap.size := e; omega)⟩, ⟨kz.whole (K7.out.whole V1.out (fun e => by have e2 : w.heap.size + 1 = g := e; omega)) (fun e => by have e2 : w.heap.size + 1 = w.heap.size := e; omega), kz.whole (K7.out.whole V2.out (fun e => by have e2 : w.heap.size + 2 = g := e; omega)) (fun e => by have e2 : w.heap.size + 2 = w.heap.size := e; omega)⟩,
        ⟨fun p hp => kz.owns (O8.own p hp) (fun j h1 h2 => by have := low8 p hp j h1; have e2 : j = w.heap.size := h2; omega), O8.apart⟩, b7.trans (kz.below b7.size (fun k h => Nat.le_of_eq (Eq.symm h)))⟩
    have hst : Stab (fun y => (Whole y w.heap.size 33 (stC c r8).toArray ∧ Whole y w5.heap.size 50 X.cells.toArray) ∧ (Whole y (w.heap.size + 1) 33 (zeroSt).toArray ∧ Whole y (w.heap.size + 2) 50 (zeroIns.cells).toArray) ∧ OwnSt y (w.heap.size + 3) r8 L8 ∧ Below w.heap.size w y) := (fun y z h e => ⟨⟨h.1.1.below e h.1.1.inside, h.1.2.below e h.1.2.inside⟩, ⟨h.2.1.1.below e h.2.1.1.inside, h.2.1.2.below e h.2.1.2.inside⟩, h.2.2.1.below e, bthen h.2.2.2 e⟩)
    have hone8 : ∀ v ∈ stC c r8, v.oneCell' = true := stC_one O8.rows.one
    have GX : w.heap.size + 3 ≤ w5.heap.size := by omega
    have HL8e := Lib.hid hL8
    clear c7 f7 sd6 b6 hL8 hr8
    refine wp_region_bt (fun _ => false) (fun y => Whole y w.heap.size 33 (stC c r8).toArray ∧ Whole y w5.heap.size 50 X.cells.toArray) (fun y => (Whole y w.heap.size 33 (stC c r8).toArray ∧ Whole y w5.heap.size 50 X.cells.toArray) ∧ (Whole y (w.heap.size + 1) 33 (zeroSt).toArray ∧ Whole y (w.heap.size + 2) 50 (zeroIns.cells).toArray) ∧ OwnSt y (w.heap.size + 3) r8 L8 ∧ Below w.heap.size w y) (by kernel_rfl) (hst _ _ SZ (below_drew1 (Below.refl _ _))) ?_
    refine BT.take (i := 0) (v := .agg (stC c r8).toArray) rfl rfl (by kernel_rfl) (by kernel_rfl) (by kernel_rfl) (by kernel_rfl) (fun _ _ _ h => h) hst (fun _ h => h.1) (gives_loadG (ys := stC c r8) (b := w.heap.size) (k := 0) (by kernel_rfl) rfl rfl (fun y hy => whole_range0 hy.1) (by kernel_rfl) (HSI.out _)) ?_
    simp only [List.set_cons_zero, List.set_cons_succ]
    refine BT.take (i := 1) (v := .agg X.cells.toArray) rfl rfl (by kernel_rfl) (by kernel_rfl) (by kernel_rfl) (by kernel_rfl) (fun _ _ _ h => h) hst (fun _ h => h.1) (gives_loadG (ys := X.cells) (b := w5.heap.size) (k := 0) (by kernel_rfl) rfl rfl (fun y hy => whole_range0 hy.2) (by kernel_rfl) (by kernel_rfl)) ?_
    simp only [List.set_cons_zero, List.set_cons_succ]
    refine BT.put (i := 2) 33 (.tmp 4) (.tmp 48) 33 (w.heap.size + 1) 0 [] zeroSt [] (stC c r8) (S' := (fun y => (Whole y w.heap.size 33 (stC c r8).toArray ∧ Whole y w5.heap.size 50 X.cells.toArray) ∧ (Whole y (w.heap.size + 1) 33 (stC c r8).toArray ∧ Whole y (w.heap.size + 2) 50 (zeroIns.cells).toArray) ∧ OwnSt y (w.heap.size + 3) r8 L8 ∧ Below w.heap.size w y))
      rfl rfl rfl (by kernel_rfl) (fun _ x h => h.1) (fun y hy => by simpa using hy.2.1.1) (HL.out _) rfl (HSI.out _) hone8 rfl rfl rfl (fun y z hy hp => ?_) (fun y z h e => ⟨⟨h.1.1.below e h.1.1.inside, h.1.2.below e h.1.2.inside⟩, ⟨h.2.1.1.below e h.2.1.1.inside, h.2.1.2.below e h.2.1.2.inside⟩, h.2.2.1.below e, bthen h.2.2.2 e⟩) ?_
    · have hw := hp.whole
      rw [List.nil_append, List.append_nil] at hw
      exact ⟨⟨hp.keeps.whole hy.1.1 (fun e => by have e2 : w.heap.size = w.heap.size + 1 := e; omega), hp.keeps.whole hy.1.2 (fun e => by have e2 : w5.heap.size = w.heap.size + 1 := e; omega)⟩, ⟨hw, hp.keeps.whole hy.2.1.2 (fun e => by have e2 : w.heap.size + 2 = w.heap.size + 1 := e; omega)⟩, ⟨fun p hp2 => hp.keeps.owns (hy.2.2.1.own p hp2) (fun j h1 h2 => by have := low8 p hp2 j h1; have e2 : j = w.heap.size + 1 := h2; omega), hy.2.2.1.apart⟩, hy.2.2.2.trans (hp.keeps.below hy.2.2.2.size (fun k h => by have e2 : k = w.heap.size + 1 := h; omega))⟩
    refine BT.put (i := 3) 50 (.tmp 5) (.tmp 49) 50 (w.heap.size + 2) 0 [] zeroIns.cells [] X.cells (S' := (fun y => (Whole y w.heap.size 33 (stC c r8).toArray ∧ Whole y w5.heap.size 50 X.cells.toArray) ∧ (Whole y (w.heap.size + 1) 33 (stC c r8).toArray ∧ Whole y (w.heap.size + 2) 50 (X.cells).toArray) ∧ OwnSt y (w.heap.size + 3) r8 L8 ∧ Below w.heap.size w y))
      rfl rfl rfl (by kernel_rfl) (fun _ x h => h.1) (fun y hy => by simpa using hy.2.1.2) rfl rfl (by kernel_rfl) (ins_one X) rfl rfl rfl (fun y z hy hp => ?_) (fun y z h e => ⟨⟨h.1.1.below e h.1.1.inside, h.1.2.below e h.1.2.inside⟩, ⟨h.2.1.1.below e h.2.1.1.inside, h.2.1.2.below e h.2.1.2.inside⟩, h.2.2.1.below e, bthen h.2.2.2 e⟩) ?_
    · have hw := hp.whole
      rw [List.nil_append, List.append_nil] at hw
      exact ⟨⟨hp.keeps.whole hy.1.1 (fun e => by have e2 : w.heap.size = w.heap.size + 2 := e; omega), hp.keeps.whole hy.1.2 (fun e => by have e2 : w5.heap.size = w.heap.size + 2 := e; omega)⟩, ⟨hp.keeps.whole hy.2.1.1 (fun e => by have e2 : w.heap.size + 1 = w.heap.size + 2 := e; omega), hw⟩, ⟨fun p hp2 => hp.keeps.owns (hy.2.2.1.own p hp2) (fun j h1 h2 => by have := low8 p hp2 j h1; have e2 : j = w.heap.size + 2 := h2; omega), hy.2.2.1.apart⟩, hy.2.2.2.trans (hp.keeps.below hy.2.2.2.size (fun k h => by have e2 : k = w.heap.size + 2 := h; omega))⟩
    refine BT.take (i := 4) (v := .bool true) rfl rfl (by kernel_rfl) (by kernel_rfl) (by kernel_rfl) (by kernel_rfl) (fun _ _ _ h => h) (fun y z h e => ⟨⟨h.1.1.below e h.1.1.inside, h.1.2.below e h.1.2.inside⟩, ⟨h.2.1.1.below e h.2.1.1.inside, h.2.1.2.below e h.2.1.2.inside⟩, h.2.2.1.below e, bthen h.2.2.2 e⟩) (fun _ h => h.1) (gives_ok rfl (fun y hy => by clear hy; go_simp)) ?_
    simp only [List.set_cons_zero, List.set_cons_succ]
    refine BT.done (by kernel_rfl) (fun wn hS => ?_)
    have S8 := Lib.hid hS
    clear hS hst SZ
    go_wp2
    refine bodyPost_ret (results_cct Try.results27 _ _ (w.heap.size + 1) (w.heap.size + 2) 33 50 (stC c r8).toArray X.cells.toArray _ _ (.bool true) rfl rfl rfl S8.out.2.1.1 S8.out.2.1.2 Try.underlying33 rfl (HSI.out _) Try.underlying50 rfl (by kernel_rfl)) rfl ?_
    rw [HL8.out, HL8e.out]
    exact ⟨r8, rfl, S8.out.2.2.1.mono (B' := w.heap.size) (by omega), S8.out.2.2.2⟩
end Go.Proofs.Ytkalpclckgbedaa
