/-
  The document's answer: a card put behind the others. Conditions: none (a row with room is short).
-/
import Derived.Test.YtkalpclckgbedaaStTake
import Derived.Test.YtkalpclckgbedaaStRoom
import Derived.Test.YtkalpclckgbedaaBrdJ
import Derived.Test.YtkalpclckgbedaaBt
namespace Go.Proofs.Ytkalpclckgbedaa
open Go.ChangeShapes Go.WideShapes Go.ChangeAt Go.RowKit
set_option linter.unusedVariables false
set_option linter.unusedSimpArgs false
set_option maxRecDepth 20000
set_option maxHeartbeats 6400000
theorem rPut (c : Sc) (r : Nat → Value) (L : Nat → List Ins) (x : Ins) (lane : Int) (w : World) (hR : Rows12 w r L) :
    Calls Try.prog 24 #[stV c r, x.vals, .int .i64 lane] w fun e w' => ∃ r', e = .returned (.tuple #[stV c r', .bool (!decide (roomZ L x.owner lane < 1))]) ∧ Rows12 w' r' (putSt L x lane) ∧ Below w.heap.size w w' := by
  obtain ⟨W3, hW3⟩ : ∃ W3, ((w.alloc (.cells (stC c r).toArray 33)).alloc (.cells x.cells.toArray 50)).alloc (.cells zeroSt.toArray 33) = W3 := ⟨_, rfl⟩
  have x1 : Whole W3 w.heap.size 33 (stC c r).toArray := by rw [← hW3]; exact ((Whole.made w _ _).alloc _).alloc _
  have x2 : Whole W3 (w.heap.size + 1) 50 x.cells.toArray := by
    have h2 := Whole.made (w.alloc (.cells (stC c r).toArray 33)) 50 x.cells.toArray
    rw [World.size_alloc] at h2
    rw [← hW3]; exact h2.alloc _
  have x3 : Whole W3 (w.heap.size + 2) 33 zeroSt.toArray := by
    have h2 := Whole.made ((w.alloc (.cells (stC c r).toArray 33)).alloc (.cells x.cells.toArray 50)) 33 zeroSt.toArray
    rw [World.size_alloc, World.size_alloc, hW3] at h2
    exact h2
  have xb : Below w.heap.size w W3 := by rw [← hW3]; exact (((Below.refl _ _).alloc (Nat.le_refl _) _).alloc (by simp) _).alloc (by simp; omega) _
  have KP := rRoom c r L x.owner lane W3 (fun q hq => (hR q hq).below xb)
  have hv : stV c r = .agg (stC c r).toArray := rfl
  have X1 := Lib.hid x1
  have X2 := Lib.hid x2
  have X3 := Lib.hid x3
  have XB := Lib.hid xb
  have HR := Lib.hid hR
  have hx6 : x.cells[6]? = some (.int .i64 x.owner) := rfl
  have HSI : Hid ((Try.prog.info? 33).map (·.size) = some 30) := Lib.hid (by kernel_rfl)
  have HL : Hid ((stC c r).length = 30) := Lib.hid rfl
  have HO : Hid (∀ v ∈ stC c r, v.oneCell' = true) := Lib.hid (stC_one hR.one)
  have HST0 : Hid (stV c r = .agg (stC c r).toArray) := Lib.hid rfl
  unfold putSt Ins.vals
  rw [hv] at KP ⊢
  by_cases hz : roomZ L x.owner lane < 1
  · rw [if_pos hz]
    have KP := Lib.hid KP
    obtain ⟨z, hzz⟩ : ∃ z, roomZ L x.owner lane = z := ⟨_, rfl⟩
    rw [hzz] at KP hz
    have hdz : decide (roomZ L x.owner lane < 1) = true := decide_eq_true (by rw [hzz]; exact hz)
    rw [hdz]
    clear hR hv x1 x2 x3 xb hzz hdz
    subst hW3
    generalize stC c r = S at *
    go_enter Try.func24, Try.ntmps24
    go_wp2_with (first
      | ((with_reducible refine at_ld 8 ?_); refine wpList_loadW 33 (.tmp 3) 33 w.heap.size S X1.out (by kernel_rfl) (by rw [HL.out]; exact HSI.out) rfl rfl rfl ?_)
      | (go_at_call 20; refine KP.out.mono ?_; rintro e w3 ⟨rfl, b3⟩; have Y1 := Lib.hid (X1.out.below b3 X1.out.inside); have Y3 := Lib.hid (X3.out.below b3 X3.out.inside); have B3 := Lib.hid (bthen XB.out b3); clear b3)
      | ((with_reducible refine at_ld 14 ?_); refine wpList_loadW 33 (.tmp 3) 33 w.heap.size S Y1.out (by kernel_rfl) (by rw [HL.out]; exact HSI.out) rfl rfl rfl ?_)
      | ((with_reducible refine at_st 6 14 ?_); refine wpList_storeW 33 (.tmp 6) (.tmp 14) 33 (w.heap.size + 2) zeroSt S Y3.out HL.out (by rw [HL.out]; exact HSI.out) HO.out rfl rfl rfl rfl rfl ?_; intro w9 p9; have P9 := Lib.hid p9; clear p9))
    refine bodyPost_ret (results_ct Try.results24 _ _ (w.heap.size + 2) 33 S.toArray _ (.bool false) rfl rfl P9.out.whole Try.underlying33 rfl (by rw [List.size_toArray, HL.out]; exact HSI.out)) rfl ?_
    have bb := B3.out.trans (P9.out.keeps.below B3.out.size (fun k h => by have h3 : k = w.heap.size + 2 := h; omega))
    exact ⟨r, by rw [HST0.out]; rfl, fun q hq => (HR.out q hq).below bb, bb⟩
  · rw [if_neg hz]
    obtain ⟨i, k, rfl, hko, hi3, hk2, hl4⟩ := room_ok hz
    have hdz : decide (roomZ L x.owner (i : Int) < 1) = false := decide_eq_false hz
    rw [hdz]
    obtain ⟨q, hq⟩ : ∃ q, 2 * i + k = q := ⟨_, rfl⟩
    have hqe : 2 * (i : Int).toNat + x.owner.toNat = q := by rw [hko]; omega
    rw [hqe]
    rw [hq] at hl4
    obtain ⟨z, hzz⟩ : ∃ z, roomZ L x.owner (i : Int) = z := ⟨_, rfl⟩
    rw [hzz] at KP hz
    have KP := Lib.hid KP
    have HSD : Hid (∀ y, Whole y w.heap.size 33 (stC c r).toArray → y.cell? ⟨w.heap.size, 1 + i * 4 + 2 + k, none⟩ = some (r q)) := Lib.hid fun y hy => by rw [st_side hy i k hi3 hk2, hq]
    have HST : Hid (∀ v, (stC c r).toArray.setIfInBounds (1 + i * 4 + 2 + k) v = (stC c (upd r q v)).toArray) := Lib.hid fun v => by rw [← hq]; exact stC_side c r i k hi3 hk2 v
    have hq12 : q < 12 := by omega
    have hrow := hR q hq12
    obtain ⟨A, cp, e, _⟩ := id hrow
    rw [e] at hrow
    have HE := Lib.hid e
    have RW : Hid (∀ y, Below w.heap.size w y → RowR y (.slice A (L q).length cp) (L q)) := Lib.hid fun y hy => hrow.below hy
    have HXC : Hid (∀ y, Whole y (w.heap.size + 1) 50 x.cells.toArray → y.cell? ⟨w.heap.size + 1, 6, none⟩ = some (.int .i64 k)) := Lib.hid fun y hy => by rw [hy.read, ← hko]; rfl
    have HCUT : Hid (stC c r = (stC c r).take (1 + i * 4 + 2 + k) ++ [r q] ++ (stC c r).drop (1 + i * 4 + 2 + k + 1) ∧ ((stC c r).take (1 + i * 4 + 2 + k)).length = 1 + i * 4 + 2 + k ∧ ∀ v, (stC c r).take (1 + i * 4 + 2 + k) ++ [v] ++ (stC c r).drop (1 + i * 4 + 2 + k + 1) = stC c (upd r q v)) := Lib.hid (by
      have h0 := stC_at_side c r i k hi3 hk2
      rw [hq] at h0
      have h1 := fun v => st_cutL (stC c r) (stC c (upd r q v)) (1 + i * 4 + 2 + k) (r q) v h0 (HST.out v)
      exact ⟨(h1 (r q)).1, (h1 (r q)).2.1, fun v => (h1 v).2.2⟩)
    have lk : (k : Int) < 2 := by omega
    have li : (i : Int) < 3 := by omega
    have hlb : (L q).length ≤ 4 := by omega
    clear hR hv x1 x2 x3 xb hzz hdz e hrow hqe hq hl4 hko HE RW
    subst hW3
    go_enter Try.func24, Try.ntmps24
    go_upto_region 3 with (first
      | ((with_reducible refine at_ld 8 ?_); refine wpList_loadW 33 (.tmp 3) 33 w.heap.size (stC c r) X1.out (by kernel_rfl) (by rw [HL.out]; exact HSI.out) rfl rfl rfl ?_)
      | (go_at_call 20; refine KP.out.mono ?_; rintro e w3 ⟨rfl, b3⟩; have Y1 := Lib.hid (X1.out.below b3 X1.out.inside); have Y2 := Lib.hid (X2.out.below b3 X2.out.inside); have Y3 := Lib.hid (X3.out.below b3 X3.out.inside); have B3 := Lib.hid (bthen XB.out b3); clear b3))
    have hst : Stab (fun y => (Whole y w.heap.size 33 (stC c r).toArray ∧ Whole y (w.heap.size + 1) 50 x.cells.toArray ∧ Whole y (w.heap.size + 2) 33 zeroSt.toArray) ∧ Below w.heap.size w y) := fun y z h e => ⟨⟨h.1.1.below e h.1.1.inside, h.1.2.1.below e h.1.2.1.inside, h.1.2.2.below e h.1.2.2.inside⟩, bthen h.2 e⟩
    have RQ : Hid (∀ y, Below w.heap.size w y → RowR y (r q) (L q)) := Lib.hid fun y hy => (HR.out q hq12).below hy
    have hone := (HR.out q hq12).one
    refine wp_region_bt (fun i => i == 20) (fun y => (Whole y w.heap.size 33 (stC c r).toArray ∧ Whole y (w.heap.size + 1) 50 x.cells.toArray ∧ Whole y (w.heap.size + 2) 33 zeroSt.toArray) ∧ Below w.heap.size w y) (fun y => (Whole y w.heap.size 33 (stC c r).toArray ∧ Whole y (w.heap.size + 1) 50 x.cells.toArray ∧ Whole y (w.heap.size + 2) 33 zeroSt.toArray) ∧ Below w.heap.size w y) (by kernel_rfl) (hst _ _ ⟨⟨Y1.out, Y2.out, Y3.out⟩, B3.out⟩ (below_drew1 (Below.refl _ _))) ?_
    refine BT.take (i := 0) (v := .int .i64 (i : Int)) rfl rfl (by kernel_rfl) (by kernel_rfl) (by kernel_rfl) (by kernel_rfl) (fun _ _ _ h => h) hst (fun _ h => h) (gives_move rfl rfl rfl) ?_
    simp only [List.set_cons_zero, List.set_cons_succ]
    refine BT.take (i := 1) (v := .pointer (some ⟨w.heap.size + 1, 6, none⟩)) rfl rfl (by kernel_rfl) (by kernel_rfl) (by kernel_rfl) (by kernel_rfl) (fun _ _ _ h => h) hst (fun _ h => h) (gives_ok rfl (fun y hy => by go_simp)) ?_
    simp only [List.set_cons_zero, List.set_cons_succ]
    refine BT.take (i := 2) (v := .int .i64 (k : Int)) rfl rfl (by kernel_rfl) (by kernel_rfl) (by kernel_rfl) (by kernel_rfl) (fun _ _ _ h => h) hst (fun _ h => h) (gives_cell (b := w.heap.size + 1) (k := 6) rfl rfl rfl (fun y hy => HXC.out y hy.1.2.1) (by kernel_rfl)) ?_
    simp only [List.set_cons_zero, List.set_cons_succ]
    refine BT.take (i := 4) (v := .int .i64 (i : Int)) rfl rfl (by kernel_rfl) (by kernel_rfl) (by kernel_rfl) (by kernel_rfl) (fun _ _ _ h => h) hst (fun _ h => h) (gives_move rfl rfl rfl) ?_
    simp only [List.set_cons_zero, List.set_cons_succ]
    refine BT.take (i := 5) (v := .pointer (some ⟨w.heap.size + 1, 6, none⟩)) rfl rfl (by kernel_rfl) (by kernel_rfl) (by kernel_rfl) (by kernel_rfl) (fun _ _ _ h => h) hst (fun _ h => h) (gives_ok rfl (fun y hy => by go_simp)) ?_
    simp only [List.set_cons_zero, List.set_cons_succ]
    refine BT.take (i := 6) (v := .int .i64 (k : Int)) rfl rfl (by kernel_rfl) (by kernel_rfl) (by kernel_rfl) (by kernel_rfl) (fun _ _ _ h => h) hst (fun _ h => h) (gives_cell (b := w.heap.size + 1) (k := 6) rfl rfl rfl (fun y hy => HXC.out y hy.1.2.1) (by kernel_rfl)) ?_
    simp only [List.set_cons_zero, List.set_cons_succ]
    refine BT.take (i := 7) (v := .pointer (some ⟨w.heap.size, 1, none⟩)) rfl rfl (by kernel_rfl) (by kernel_rfl) (by kernel_rfl) (by kernel_rfl) (fun _ _ _ h => h) hst (fun _ h => h) (gives_ok rfl (fun y hy => by go_simp)) ?_
    simp only [List.set_cons_zero, List.set_cons_succ]
    refine BT.take (i := 8) (v := .pointer (some ⟨w.heap.size, 1 + i * 4, none⟩)) rfl rfl (by kernel_rfl) (by kernel_rfl) (by kernel_rfl) (by kernel_rfl) (fun _ _ _ h => h) hst (fun _ h => h) (gives_ok rfl (fun y hy => by go_simp)) ?_
    simp only [List.set_cons_zero, List.set_cons_succ]
    refine BT.take (i := 9) (v := .pointer (some ⟨w.heap.size, 1 + i * 4 + 2, none⟩)) rfl rfl (by kernel_rfl) (by kernel_rfl) (by kernel_rfl) (by kernel_rfl) (fun _ _ _ h => h) hst (fun _ h => h) (gives_ok rfl (fun y hy => by go_simp)) ?_
    simp only [List.set_cons_zero, List.set_cons_succ]
    refine BT.take (i := 10) (v := .pointer (some ⟨w.heap.size, 1 + i * 4 + 2 + k, none⟩)) rfl rfl (by kernel_rfl) (by kernel_rfl) (by kernel_rfl) (by kernel_rfl) (fun _ _ _ h => h) hst (fun _ h => h) (gives_ok rfl (fun y hy => by go_simp)) ?_
    simp only [List.set_cons_zero, List.set_cons_succ]
    refine BT.take (i := 11) (v := r q) rfl rfl (by kernel_rfl) (by kernel_rfl) (by kernel_rfl) (by kernel_rfl) (fun _ _ _ h => h) hst (fun _ h => h) (gives_cell (b := w.heap.size) (k := 1 + i * 4 + 2 + k) rfl rfl rfl (fun y hy => HSD.out y hy.1.1) (by kernel_rfl)) ?_
    simp only [List.set_cons_zero, List.set_cons_succ]
    refine BT.take (i := 13) (v := .agg x.cells.toArray) rfl rfl (by kernel_rfl) (by kernel_rfl) (by kernel_rfl) (by kernel_rfl) (fun _ _ _ h => h) hst (fun _ h => h) (gives_loadG (ys := x.cells) (b := w.heap.size + 1) (k := 0) (by kernel_rfl) rfl rfl (fun y hy => by have h := hy.1.2.1; exact whole_range0 h) (by kernel_rfl) (by kernel_rfl)) ?_
    simp only [List.set_cons_zero, List.set_cons_succ]
    refine BT.take (i := 16) (v := .pointer (some ⟨w.heap.size, 1, none⟩)) rfl rfl (by kernel_rfl) (by kernel_rfl) (by kernel_rfl) (by kernel_rfl) (fun _ _ _ h => h) hst (fun _ h => h) (gives_ok rfl (fun y hy => by go_simp)) ?_
    simp only [List.set_cons_zero, List.set_cons_succ]
    refine BT.take (i := 17) (v := .pointer (some ⟨w.heap.size, 1 + i * 4, none⟩)) rfl rfl (by kernel_rfl) (by kernel_rfl) (by kernel_rfl) (by kernel_rfl) (fun _ _ _ h => h) hst (fun _ h => h) (gives_ok rfl (fun y hy => by go_simp)) ?_
    simp only [List.set_cons_zero, List.set_cons_succ]
    refine BT.take (i := 18) (v := .pointer (some ⟨w.heap.size, 1 + i * 4 + 2, none⟩)) rfl rfl (by kernel_rfl) (by kernel_rfl) (by kernel_rfl) (by kernel_rfl) (fun _ _ _ h => h) hst (fun _ h => h) (gives_ok rfl (fun y hy => by go_simp)) ?_
    simp only [List.set_cons_zero, List.set_cons_succ]
    have EX : ∀ (a : World) (o : Obj), Ext a (a.alloc o) := fun a o => (Below.refl _ _).alloc (Nat.le_refl _) o
    have CAT : ∀ (y z : World) (v : Value) (xs : List Ins), ((Whole y w.heap.size 33 (stC c r).toArray ∧ Whole y (w.heap.size + 1) 50 x.cells.toArray ∧ Whole y (w.heap.size + 2) 33 zeroSt.toArray) ∧ Below w.heap.size w y) → OwnI y (w.heap.size + 3) v xs → y.grownBy z v.ownBlock → (fun y => (Whole y w.heap.size 33 (stC c r).toArray ∧ Whole y (w.heap.size + 1) 50 x.cells.toArray ∧ Whole y (w.heap.size + 2) 33 zeroSt.toArray) ∧ Below w.heap.size w y) z := fun y z v xs hy ho hg => by
      have kz : Keeps (fun k => v.ownBlock = some k) y z := (Keeps.refl _ y).grown hg (fun k hk => hk)
      have low : ∀ k, v.ownBlock = some k → w.heap.size + 3 ≤ k := fun k h => (World.ownsRow.lt ho k h).1
      exact ⟨⟨kz.whole hy.1.1 (fun e => by have := low _ e; omega), kz.whole hy.1.2.1 (fun e => by have := low _ e; omega), kz.whole hy.1.2.2 (fun e => by have := low _ e; omega)⟩, hy.2.trans (kz.below hy.2.size (fun k h => by have := low k h; omega))⟩
    have BIG : ∀ y, ((Whole y w.heap.size 33 (stC c r).toArray ∧ Whole y (w.heap.size + 1) 50 x.cells.toArray ∧ Whole y (w.heap.size + 2) 33 zeroSt.toArray) ∧ Below w.heap.size w y) → w.heap.size + 3 ≤ y.heap.size := fun y hy => by have := hy.1.2.2.inside; omega
    have FAR : ∀ (y z : World) (v : Value) (xs : List Ins) (g : Nat), OwnI y (w.heap.size + 3) v xs → y.grownBy z v.ownBlock → Whole y g 50 x.cells.toArray → (v.ownBlock ≠ some g) → Whole z g 50 x.cells.toArray := fun y z v xs g ho hg hw hne => ((Keeps.refl (fun k => v.ownBlock = some k) y).grown hg (fun k hk => hk)).whole hw hne
    refine BT.two (i := 3) (j := 14) (by kernel_rfl) (fun y hy => ?_) (fun y hy => ?_)
    · -- the empty row first
      obtain ⟨g3, hg3⟩ : ∃ g, y.heap.size = g := ⟨_, rfl⟩
      refine okOp rfl rfl rfl ⟨.slice (some ⟨g3, 0, none⟩) 0 0, y.alloc (.cells #[] 50), by rw [← hg3]; clear hy hst CAT BIG; kernel_rfl, (fun y => ((Whole y w.heap.size 33 (stC c r).toArray ∧ Whole y (w.heap.size + 1) 50 x.cells.toArray ∧ Whole y (w.heap.size + 2) 33 zeroSt.toArray) ∧ Below w.heap.size w y) ∧ OwnI y (w.heap.size + 3) (.slice (some ⟨g3, 0, none⟩) 0 0) []), ⟨hst _ _ hy (EX y _), ownI_at (BIG y hy) hg3⟩, (fun a b h e => ⟨hst _ _ h.1 e, h.2.below e⟩), (fun _ _ h => h.1), ?_⟩
      simp only [List.set_cons_zero, List.set_cons_succ, List.nil_append]
      clear hy hg3 y
      refine BT.two (i := 12) (j := 14) (by kernel_rfl) (fun y hy => ?_) (fun y hy => ?_)
      · -- its cards next
        refine catOp (.tmp 18) (.tmp 26) (w.heap.size + 3) _ (r q) [] (L q) rfl rfl rfl rfl rfl rfl hy.2 (RQ.out _ hy.1.2) (BIG y hy.1) (by simp; omega) (fun A cp z hO hg hb => ?_)
        refine ⟨(fun y => ((Whole y w.heap.size 33 (stC c r).toArray ∧ Whole y (w.heap.size + 1) 50 x.cells.toArray ∧ Whole y (w.heap.size + 2) 33 zeroSt.toArray) ∧ Below w.heap.size w y) ∧ OwnI y (w.heap.size + 3) (.slice A (L q).length cp) (L q)), ⟨CAT y z _ _ hy.1 hy.2 hg, hO⟩, (fun a b h e => ⟨hst _ _ h.1 e, h.2.below e⟩), (fun _ _ h => h.1), ?_⟩
        simp only [List.set_cons_zero, List.set_cons_succ, List.nil_append]
        clear hO hg hb hy z y
        refine BT.one (i := 14) (by kernel_rfl) (fun y hy => ?_)
        obtain ⟨g14, hg14⟩ : ∃ g, y.heap.size = g := ⟨_, rfl⟩
        refine okOp rfl rfl rfl ⟨.slice (some ⟨g14, 0, none⟩) 1 1, y.alloc (.cells x.cells.toArray 50), by rw [← hg14]; clear hy hst CAT BIG; kernel_rfl, (fun y => ((Whole y w.heap.size 33 (stC c r).toArray ∧ Whole y (w.heap.size + 1) 50 x.cells.toArray ∧ Whole y (w.heap.size + 2) 33 zeroSt.toArray) ∧ Below w.heap.size w y) ∧ OwnI y (w.heap.size + 3) (.slice A (L q).length cp) (L q) ∧ Whole y g14 50 x.cells.toArray), ⟨hst _ _ hy.1 (EX y _), hy.2.below (EX y _), by rw [← hg14]; exact Whole.made y _ _⟩, (fun a b h e => ⟨hst _ _ h.1 e, h.2.1.below e, h.2.2.below e h.2.2.inside⟩), (fun _ _ h => h.1), ?_⟩
        simp only [List.set_cons_zero, List.set_cons_succ, List.nil_append]
        clear hy hg14 y
        refine BT.one (i := 15) (by kernel_rfl) (fun y hy => ?_)
        refine catOp (.tmp 27) (.tmp 29) (w.heap.size + 3) _ _ (L q) [x] rfl rfl rfl rfl rfl rfl hy.2.1 (rowR_new hy.2.2) (BIG y hy.1) (by simp; omega) (fun A5 cp5 z5 hO hg hb => ?_)
        refine ⟨(fun y => ((Whole y w.heap.size 33 (stC c r).toArray ∧ Whole y (w.heap.size + 1) 50 x.cells.toArray ∧ Whole y (w.heap.size + 2) 33 zeroSt.toArray) ∧ Below w.heap.size w y) ∧ OwnI y (w.heap.size + 3) (.slice A5 (L q ++ [x]).length cp5) (L q ++ [x])), ⟨CAT y z5 _ _ hy.1 hy.2.1 hg, hO⟩, (fun a b h e => ⟨hst _ _ h.1 e, h.2.below e⟩), (fun _ _ h => h.1), ?_⟩
        simp only [List.set_cons_zero, List.set_cons_succ]
        clear hO hg hb hy z5 y
        have st2 : Stab (fun y => ((Whole y w.heap.size 33 (stC c r).toArray ∧ Whole y (w.heap.size + 1) 50 x.cells.toArray ∧ Whole y (w.heap.size + 2) 33 zeroSt.toArray) ∧ Below w.heap.size w y) ∧ OwnI y (w.heap.size + 3) (.slice A5 (L q ++ [x]).length cp5) (L q ++ [x])) := fun a b h e => ⟨hst _ _ h.1 e, h.2.below e⟩
        refine BT.take (i := 19) (v := .pointer (some ⟨w.heap.size, 1 + i * 4 + 2 + k, none⟩)) rfl rfl (by kernel_rfl) (by kernel_rfl) (by kernel_rfl) (by kernel_rfl) (fun _ _ _ h => h) st2 (fun _ h => h.1) (gives_ok rfl (fun y hy => by go_simp)) ?_
        simp only [List.set_cons_zero, List.set_cons_succ]
        refine BT.put (i := 20) 22 (.tmp 34) (.tmp 30) 33 w.heap.size (1 + i * 4 + 2 + k) ((stC c r).take (1 + i * 4 + 2 + k)) [r q] ((stC c r).drop (1 + i * 4 + 2 + k + 1)) [.slice A5 (L q ++ [x]).length cp5]
          (S' := fun y => (Whole y w.heap.size 33 (stC c (upd r q (.slice A5 (L q ++ [x]).length cp5))).toArray ∧ Whole y (w.heap.size + 2) 33 zeroSt.toArray) ∧ OwnI y (w.heap.size + 3) (.slice A5 (L q ++ [x]).length cp5) (L q ++ [x]) ∧ Below w.heap.size w y)
          rfl rfl rfl (by kernel_rfl) (fun h => by cases h) (fun y hy => by rw [← HCUT.out.1]; exact hy.1.1.1) rfl HCUT.out.2.1.symm (by kernel_rfl) (fun v hv => by rw [List.mem_singleton.1 hv]; rfl) rfl rfl rfl (fun y z hy hp => ?_) (fun y z h e => ⟨⟨h.1.1.below e h.1.1.inside, h.1.2.below e h.1.2.inside⟩, h.2.1.below e, bthen h.2.2 e⟩) ?_
        · have hw := hp.whole
          rw [HCUT.out.2.2] at hw
          exact ⟨⟨hw, hp.keeps.whole hy.1.1.2.2 (fun e => by have e2 : w.heap.size + 2 = w.heap.size := e; omega)⟩, hp.keeps.owns hy.2 (fun j h1 h2 => by have := (World.ownsRow.lt hy.2 j h1).1; have e2 : j = w.heap.size := h2; omega), hy.1.2.trans (hp.keeps.below hy.1.2.size (fun k h => Nat.le_of_eq (Eq.symm h)))⟩
        · generalize hr8 : upd r q (.slice A5 (L q ++ [x]).length cp5) = r8
          have HONE : Hid (∀ v ∈ stC c r8, v.oneCell' = true) := Lib.hid (by
            rw [← hr8]
            exact stC_one fun j hj => by
              unfold upd
              split
              · rfl
              · exact HR.out.one j hj)
          have HR8 := Lib.hid hr8
          refine BT.done (by kernel_rfl) (fun wn hS => ?_)
          have S8 := Lib.hid hS
          clear hS hr8
          go_wp2_with (first
            | ((with_reducible refine at_ld 35 ?_); refine wpList_loadW 33 (.tmp 3) 33 w.heap.size (stC c r8) S8.out.1.1 (by kernel_rfl) (by rw [show (stC c r8).length = 30 from rfl]; exact HSI.out) rfl rfl rfl ?_)
            | ((with_reducible refine at_st 6 35 ?_); refine wpList_storeW 33 (.tmp 6) (.tmp 35) 33 (w.heap.size + 2) zeroSt (stC c r8) S8.out.1.2 rfl (by rw [show (stC c r8).length = 30 from rfl]; exact HSI.out) HONE.out rfl rfl rfl rfl rfl ?_; intro w9 p9; have P9 := Lib.hid p9; clear p9))
          refine bodyPost_ret (results_ct Try.results24 _ _ (w.heap.size + 2) 33 (stC c r8).toArray _ (.bool true) rfl rfl P9.out.whole Try.underlying33 rfl (by kernel_rfl)) rfl ?_
          have k9 := P9.out.keeps
          have bb := S8.out.2.2.trans (k9.below S8.out.2.2.size (fun k h => by have h3 : k = w.heap.size + 2 := h; omega))
          have o6 := k9.owns S8.out.2.1 (fun j h1 h2 => by have := (World.ownsRow.lt S8.out.2.1 j h1).1; have e2 : j = w.heap.size + 2 := h2; omega)
          exact ⟨r8, rfl, by rw [← HR8.out]; exact rows_upd HR.out bb (OwnI.row o6), bb⟩
      · obtain ⟨g14, hg14⟩ : ∃ g, y.heap.size = g := ⟨_, rfl⟩
        have hne : g3 ≠ g14 := by have := (World.ownsRow.lt hy.2 g3 rfl).2; omega
        refine okOp rfl rfl rfl ⟨.slice (some ⟨g14, 0, none⟩) 1 1, y.alloc (.cells x.cells.toArray 50), by rw [← hg14]; clear hy hst CAT BIG; kernel_rfl, (fun y => ((Whole y w.heap.size 33 (stC c r).toArray ∧ Whole y (w.heap.size + 1) 50 x.cells.toArray ∧ Whole y (w.heap.size + 2) 33 zeroSt.toArray) ∧ Below w.heap.size w y) ∧ OwnI y (w.heap.size + 3) (.slice (some ⟨g3, 0, none⟩) 0 0) [] ∧ Whole y g14 50 x.cells.toArray), ⟨hst _ _ hy.1 (EX y _), hy.2.below (EX y _), by rw [← hg14]; exact Whole.made y _ _⟩, (fun a b h e => ⟨hst _ _ h.1 e, h.2.1.below e, h.2.2.below e h.2.2.inside⟩), (fun _ _ h => h.1), ?_⟩
        simp only [List.set_cons_zero, List.set_cons_succ, List.nil_append]
        clear hy hg14 y
        refine BT.one (i := 12) (by kernel_rfl) (fun y hy => ?_)
        refine catOp (.tmp 18) (.tmp 26) (w.heap.size + 3) _ (r q) [] (L q) rfl rfl rfl rfl rfl rfl hy.2.1 (RQ.out _ hy.1.2) (BIG y hy.1) (by simp; omega) (fun A cp z hO hg hb => ?_)
        refine ⟨(fun y => ((Whole y w.heap.size 33 (stC c r).toArray ∧ Whole y (w.heap.size + 1) 50 x.cells.toArray ∧ Whole y (w.heap.size + 2) 33 zeroSt.toArray) ∧ Below w.heap.size w y) ∧ OwnI y (w.heap.size + 3) (.slice A (L q).length cp) (L q) ∧ Whole y g14 50 x.cells.toArray), ⟨CAT y z _ _ hy.1 hy.2.1 hg, hO, FAR y z _ _ _ hy.2.1 hg hy.2.2 (fun e => hne (Option.some.inj e))⟩, (fun a b h e => ⟨hst _ _ h.1 e, h.2.1.below e, h.2.2.below e h.2.2.inside⟩), (fun _ _ h => h.1), ?_⟩
        simp only [List.set_cons_zero, List.set_cons_succ, List.nil_append]
        clear hO hg hb hy z y
        refine BT.one (i := 15) (by kernel_rfl) (fun y hy => ?_)
        refine catOp (.tmp 27) (.tmp 29) (w.heap.size + 3) _ _ (L q) [x] rfl rfl rfl rfl rfl rfl hy.2.1 (rowR_new hy.2.2) (BIG y hy.1) (by simp; omega) (fun A5 cp5 z5 hO hg hb => ?_)
        refine ⟨(fun y => ((Whole y w.heap.size 33 (stC c r).toArray ∧ Whole y (w.heap.size + 1) 50 x.cells.toArray ∧ Whole y (w.heap.size + 2) 33 zeroSt.toArray) ∧ Below w.heap.size w y) ∧ OwnI y (w.heap.size + 3) (.slice A5 (L q ++ [x]).length cp5) (L q ++ [x])), ⟨CAT y z5 _ _ hy.1 hy.2.1 hg, hO⟩, (fun a b h e => ⟨hst _ _ h.1 e, h.2.below e⟩), (fun _ _ h => h.1), ?_⟩
        simp only [List.set_cons_zero, List.set_cons_succ]
        clear hO hg hb hy z5 y
        have st2 : Stab (fun y => ((Whole y w.heap.size 33 (stC c r).toArray ∧ Whole y (w.heap.size + 1) 50 x.cells.toArray ∧ Whole y (w.heap.size + 2) 33 zeroSt.toArray) ∧ Below w.heap.size w y) ∧ OwnI y (w.heap.size + 3) (.slice A5 (L q ++ [x]).length cp5) (L q ++ [x])) := fun a b h e => ⟨hst _ _ h.1 e, h.2.below e⟩
        refine BT.take (i := 19) (v := .pointer (some ⟨w.heap.size, 1 + i * 4 + 2 + k, none⟩)) rfl rfl (by kernel_rfl) (by kernel_rfl) (by kernel_rfl) (by kernel_rfl) (fun _ _ _ h => h) st2 (fun _ h => h.1) (gives_ok rfl (fun y hy => by go_simp)) ?_
        simp only [List.set_cons_zero, List.set_cons_succ]
        refine BT.put (i := 20) 22 (.tmp 34) (.tmp 30) 33 w.heap.size (1 + i * 4 + 2 + k) ((stC c r).take (1 + i * 4 + 2 + k)) [r q] ((stC c r).drop (1 + i * 4 + 2 + k + 1)) [.slice A5 (L q ++ [x]).length cp5]
          (S' := fun y => (Whole y w.heap.size 33 (stC c (upd r q (.slice A5 (L q ++ [x]).length cp5))).toArray ∧ Whole y (w.heap.size + 2) 33 zeroSt.toArray) ∧ OwnI y (w.heap.size + 3) (.slice A5 (L q ++ [x]).length cp5) (L q ++ [x]) ∧ Below w.heap.size w y)
          rfl rfl rfl (by kernel_rfl) (fun h => by cases h) (fun y hy => by rw [← HCUT.out.1]; exact hy.1.1.1) rfl HCUT.out.2.1.symm (by kernel_rfl) (fun v hv => by rw [List.mem_singleton.1 hv]; rfl) rfl rfl rfl (fun y z hy hp => ?_) (fun y z h e => ⟨⟨h.1.1.below e h.1.1.inside, h.1.2.below e h.1.2.inside⟩, h.2.1.below e, bthen h.2.2 e⟩) ?_
        · have hw := hp.whole
          rw [HCUT.out.2.2] at hw
          exact ⟨⟨hw, hp.keeps.whole hy.1.1.2.2 (fun e => by have e2 : w.heap.size + 2 = w.heap.size := e; omega)⟩, hp.keeps.owns hy.2 (fun j h1 h2 => by have := (World.ownsRow.lt hy.2 j h1).1; have e2 : j = w.heap.size := h2; omega), hy.1.2.trans (hp.keeps.below hy.1.2.size (fun k h => Nat.le_of_eq (Eq.symm h)))⟩
        · generalize hr8 : upd r q (.slice A5 (L q ++ [x]).length cp5) = r8
          have HONE : Hid (∀ v ∈ stC c r8, v.oneCell' = true) := Lib.hid (by
            rw [← hr8]
            exact stC_one fun j hj => by
              unfold upd
              split
              · rfl
              · exact HR.out.one j hj)
          have HR8 := Lib.hid hr8
          refine BT.done (by kernel_rfl) (fun wn hS => ?_)
          have S8 := Lib.hid hS
          clear hS hr8
          go_wp2_with (first
            | ((with_reducible refine at_ld 35 ?_); refine wpList_loadW 33 (.tmp 3) 33 w.heap.size (stC c r8) S8.out.1.1 (by kernel_rfl) (by rw [show (stC c r8).length = 30 from rfl]; exact HSI.out) rfl rfl rfl ?_)
            | ((with_reducible refine at_st 6 35 ?_); refine wpList_storeW 33 (.tmp 6) (.tmp 35) 33 (w.heap.size + 2) zeroSt (stC c r8) S8.out.1.2 rfl (by rw [show (stC c r8).length = 30 from rfl]; exact HSI.out) HONE.out rfl rfl rfl rfl rfl ?_; intro w9 p9; have P9 := Lib.hid p9; clear p9))
          refine bodyPost_ret (results_ct Try.results24 _ _ (w.heap.size + 2) 33 (stC c r8).toArray _ (.bool true) rfl rfl P9.out.whole Try.underlying33 rfl (by kernel_rfl)) rfl ?_
          have k9 := P9.out.keeps
          have bb := S8.out.2.2.trans (k9.below S8.out.2.2.size (fun k h => by have h3 : k = w.heap.size + 2 := h; omega))
          have o6 := k9.owns S8.out.2.1 (fun j h1 h2 => by have := (World.ownsRow.lt S8.out.2.1 j h1).1; have e2 : j = w.heap.size + 2 := h2; omega)
          exact ⟨r8, rfl, by rw [← HR8.out]; exact rows_upd HR.out bb (OwnI.row o6), bb⟩
    · obtain ⟨g14, hg14⟩ : ∃ g, y.heap.size = g := ⟨_, rfl⟩
      refine okOp rfl rfl rfl ⟨.slice (some ⟨g14, 0, none⟩) 1 1, y.alloc (.cells x.cells.toArray 50), by rw [← hg14]; clear hy hst CAT BIG; kernel_rfl, (fun y => ((Whole y w.heap.size 33 (stC c r).toArray ∧ Whole y (w.heap.size + 1) 50 x.cells.toArray ∧ Whole y (w.heap.size + 2) 33 zeroSt.toArray) ∧ Below w.heap.size w y) ∧ Whole y g14 50 x.cells.toArray), ⟨hst _ _ hy (EX y _), by rw [← hg14]; exact Whole.made y _ _⟩, (fun a b h e => ⟨hst _ _ h.1 e, h.2.below e h.2.inside⟩), (fun _ _ h => h.1), ?_⟩
      simp only [List.set_cons_zero, List.set_cons_succ, List.nil_append]
      clear hy hg14 y
      refine BT.one (i := 3) (by kernel_rfl) (fun y hy => ?_)
      obtain ⟨g3, hg3⟩ : ∃ g, y.heap.size = g := ⟨_, rfl⟩
      have hne : g3 ≠ g14 := by have := hy.2.inside; omega
      refine okOp rfl rfl rfl ⟨.slice (some ⟨g3, 0, none⟩) 0 0, y.alloc (.cells #[] 50), by rw [← hg3]; clear hy hst CAT BIG; kernel_rfl, (fun y => ((Whole y w.heap.size 33 (stC c r).toArray ∧ Whole y (w.heap.size + 1) 50 x.cells.toArray ∧ Whole y (w.heap.size + 2) 33 zeroSt.toArray) ∧ Below w.heap.size w y) ∧ OwnI y (w.heap.size + 3) (.slice (some ⟨g3, 0, none⟩) 0 0) [] ∧ Whole y g14 50 x.cells.toArray), ⟨hst _ _ hy.1 (EX y _), ownI_at (BIG y hy.1) hg3, hy.2.below (EX y _) hy.2.inside⟩, (fun a b h e => ⟨hst _ _ h.1 e, h.2.1.below e, h.2.2.below e h.2.2.inside⟩), (fun _ _ h => h.1), ?_⟩
      simp only [List.set_cons_zero, List.set_cons_succ, List.nil_append]
      clear hy hg3 y
      refine BT.one (i := 12) (by kernel_rfl) (fun y hy => ?_)
      refine catOp (.tmp 18) (.tmp 26) (w.heap.size + 3) _ (r q) [] (L q) rfl rfl rfl rfl rfl rfl hy.2.1 (RQ.out _ hy.1.2) (BIG y hy.1) (by simp; omega) (fun A cp z hO hg hb => ?_)
      refine ⟨(fun y => ((Whole y w.heap.size 33 (stC c r).toArray ∧ Whole y (w.heap.size + 1) 50 x.cells.toArray ∧ Whole y (w.heap.size + 2) 33 zeroSt.toArray) ∧ Below w.heap.size w y) ∧ OwnI y (w.heap.size + 3) (.slice A (L q).length cp) (L q) ∧ Whole y g14 50 x.cells.toArray), ⟨CAT y z _ _ hy.1 hy.2.1 hg, hO, FAR y z _ _ _ hy.2.1 hg hy.2.2 (fun e => hne (Option.some.inj e))⟩, (fun a b h e => ⟨hst _ _ h.1 e, h.2.1.below e, h.2.2.below e h.2.2.inside⟩), (fun _ _ h => h.1), ?_⟩
      simp only [List.set_cons_zero, List.set_cons_succ, List.nil_append]
      clear hO hg hb hy z y
      refine BT.one (i := 15) (by kernel_rfl) (fun y hy => ?_)
      refine catOp (.tmp 27) (.tmp 29) (w.heap.size + 3) _ _ (L q) [x] rfl rfl rfl rfl rfl rfl hy.2.1 (rowR_new hy.2.2) (BIG y hy.1) (by simp; omega) (fun A5 cp5 z5 hO hg hb => ?_)
      refine ⟨(fun y => ((Whole y w.heap.size 33 (stC c r).toArray ∧ Whole y (w.heap.size + 1) 50 x.cells.toArray ∧ Whole y (w.heap.size + 2) 33 zeroSt.toArray) ∧ Below w.heap.size w y) ∧ OwnI y (w.heap.size + 3) (.slice A5 (L q ++ [x]).length cp5) (L q ++ [x])), ⟨CAT y z5 _ _ hy.1 hy.2.1 hg, hO⟩, (fun a b h e => ⟨hst _ _ h.1 e, h.2.below e⟩), (fun _ _ h => h.1), ?_⟩
      simp only [List.set_cons_zero, List.set_cons_succ]
      clear hO hg hb hy z5 y
      have st2 : Stab (fun y => ((Whole y w.heap.size 33 (stC c r).toArray ∧ Whole y (w.heap.size + 1) 50 x.cells.toArray ∧ Whole y (w.heap.size + 2) 33 zeroSt.toArray) ∧ Below w.heap.size w y) ∧ OwnI y (w.heap.size + 3) (.slice A5 (L q ++ [x]).length cp5) (L q ++ [x])) := fun a b h e => ⟨hst _ _ h.1 e, h.2.below e⟩
      refine BT.take (i := 19) (v := .pointer (some ⟨w.heap.size, 1 + i * 4 + 2 + k, none⟩)) rfl rfl (by kernel_rfl) (by kernel_rfl) (by kernel_rfl) (by kernel_rfl) (fun _ _ _ h => h) st2 (fun _ h => h.1) (gives_ok rfl (fun y hy => by go_simp)) ?_
      simp only [List.set_cons_zero, List.set_cons_succ]
      refine BT.put (i := 20) 22 (.tmp 34) (.tmp 30) 33 w.heap.size (1 + i * 4 + 2 + k) ((stC c r).take (1 + i * 4 + 2 + k)) [r q] ((stC c r).drop (1 + i * 4 + 2 + k + 1)) [.slice A5 (L q ++ [x]).length cp5]
        (S' := fun y => (Whole y w.heap.size 33 (stC c (upd r q (.slice A5 (L q ++ [x]).length cp5))).toArray ∧ Whole y (w.heap.size + 2) 33 zeroSt.toArray) ∧ OwnI y (w.heap.size + 3) (.slice A5 (L q ++ [x]).length cp5) (L q ++ [x]) ∧ Below w.heap.size w y)
        rfl rfl rfl (by kernel_rfl) (fun h => by cases h) (fun y hy => by rw [← HCUT.out.1]; exact hy.1.1.1) rfl HCUT.out.2.1.symm (by kernel_rfl) (fun v hv => by rw [List.mem_singleton.1 hv]; rfl) rfl rfl rfl (fun y z hy hp => ?_) (fun y z h e => ⟨⟨h.1.1.below e h.1.1.inside, h.1.2.below e h.1.2.inside⟩, h.2.1.below e, bthen h.2.2 e⟩) ?_
      · have hw := hp.whole
        rw [HCUT.out.2.2] at hw
        exact ⟨⟨hw, hp.keeps.whole hy.1.1.2.2 (fun e => by have e2 : w.heap.size + 2 = w.heap.size := e; omega)⟩, hp.keeps.owns hy.2 (fun j h1 h2 => by have := (World.ownsRow.lt hy.2 j h1).1; have e2 : j = w.heap.size := h2; omega), hy.1.2.trans (hp.keeps.below hy.1.2.size (fun k h => Nat.le_of_eq (Eq.symm h)))⟩
      · generalize hr8 : upd r q (.slice A5 (L q ++ [x]).length cp5) = r8
        have HONE : Hid (∀ v ∈ stC c r8, v.oneCell' = true) := Lib.hid (by
          rw [← hr8]
          exact stC_one fun j hj => by
            unfold upd
            split
            · rfl
            · exact HR.out.one j hj)
        have HR8 := Lib.hid hr8
        refine BT.done (by kernel_rfl) (fun wn hS => ?_)
        have S8 := Lib.hid hS
        clear hS hr8
        go_wp2_with (first
          | ((with_reducible refine at_ld 35 ?_); refine wpList_loadW 33 (.tmp 3) 33 w.heap.size (stC c r8) S8.out.1.1 (by kernel_rfl) (by rw [show (stC c r8).length = 30 from rfl]; exact HSI.out) rfl rfl rfl ?_)
          | ((with_reducible refine at_st 6 35 ?_); refine wpList_storeW 33 (.tmp 6) (.tmp 35) 33 (w.heap.size + 2) zeroSt (stC c r8) S8.out.1.2 rfl (by rw [show (stC c r8).length = 30 from rfl]; exact HSI.out) HONE.out rfl rfl rfl rfl rfl ?_; intro w9 p9; have P9 := Lib.hid p9; clear p9))
        refine bodyPost_ret (results_ct Try.results24 _ _ (w.heap.size + 2) 33 (stC c r8).toArray _ (.bool true) rfl rfl P9.out.whole Try.underlying33 rfl (by kernel_rfl)) rfl ?_
        have k9 := P9.out.keeps
        have bb := S8.out.2.2.trans (k9.below S8.out.2.2.size (fun k h => by have h3 : k = w.heap.size + 2 := h; omega))
        have o6 := k9.owns S8.out.2.1 (fun j h1 h2 => by have := (World.ownsRow.lt S8.out.2.1 j h1).1; have e2 : j = w.heap.size + 2 := h2; omega)
        exact ⟨r8, rfl, by rw [← HR8.out]; exact rows_upd HR.out bb (OwnI.row o6), bb⟩
end Go.Proofs.Ytkalpclckgbedaa
