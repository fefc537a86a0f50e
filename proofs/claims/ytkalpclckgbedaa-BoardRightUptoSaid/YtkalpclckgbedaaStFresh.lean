/-
  The document's answer: the same state, that shares nothing. Conditions: at most 1000 cards a row.
-/
import Derived.Test.YtkalpclckgbedaaStRow
namespace Go.Proofs.Ytkalpclckgbedaa
open Go.ChangeShapes Go.WideShapes Go.ChangeAt Go.RowKit
set_option linter.unusedVariables false
set_option linter.unusedSimpArgs false
set_option maxRecDepth 20000
set_option maxHeartbeats 3200000
/-- While rows are made anew: those before m are the call's own. -/
structure FrAt (w : World) (c : Sc) (L : Nat → List Ins) (z : List Value) (m : Nat) (x : World) (r : Nat → Value) : Prop where
  whole : Whole x w.heap.size 33 (stC c r).toArray
  zero : Whole x (w.heap.size + 1) 33 z.toArray
  own : ∀ q, q < 12 → q < m → OwnI x (w.heap.size + 2) (r q) (L q)
  old : ∀ q, q < 12 → m ≤ q → RowR w (r q) (L q)
  below : Below w.heap.size w x
  size : w.heap.size + 2 ≤ x.heap.size
theorem FrAt.next {w : World} {c : Sc} {L : Nat → List Ins} {z : List Value} {m a : Nat} {x y : World} {r : Nat → Value} {v : Value} (h : FrAt w c L z m x r) (hm : m < 12) (hk : Below x.heap.size x y) (ho : y.ownsRow (w.heap.size + 2) 50 7 v (0 + (L m).length) ([] ++ insC (L m)))
    (ha : ∀ u, (stC c r).toArray.setIfInBounds a u = (stC c (upd r m u)).toArray) : FrAt w c L z (m + 1) (y.setCell ⟨w.heap.size, a, none⟩ v) (upd r m v) := by
  have hsz := h.size
  have k1 : Keeps (fun k => k = w.heap.size) y (y.setCell ⟨w.heap.size, a, none⟩ v) := Keeps.setCell (S := fun k => k = w.heap.size) (Keeps.refl _ y) (p := ⟨w.heap.size, a, none⟩) rfl v
  have hW := (h.whole.below hk (by omega)).write a v
  rw [ha] at hW
  have o1 : OwnI y (w.heap.size + 2) v (L m) := by
    unfold OwnI
    simpa using ho
  have keep : ∀ u l, OwnI y (w.heap.size + 2) u l → OwnI (y.setCell ⟨w.heap.size, a, none⟩ v) (w.heap.size + 2) u l := fun u l h => k1.owns h (fun k h1 h2 => by
    have := (World.ownsRow.lt h k h1).1
    have h3 : k = w.heap.size := h2
    omega)
  refine ⟨hW, k1.whole (h.zero.below hk (by omega)) (fun e => by have h3 : w.heap.size + 1 = w.heap.size := e; omega), fun q hq hqm => ?_, fun q hq hqm => ?_, ?_, ?_⟩
  · by_cases e : q = m
    · subst e
      have e2 : upd r q v q = v := by unfold upd; rw [if_pos rfl]
      rw [e2]
      exact keep _ _ o1
    · have e2 : upd r m v q = r q := by unfold upd; rw [if_neg e]
      rw [e2]
      exact keep _ _ ((h.own q hq (by omega)).below hk)
  · have e2 : upd r m v q = r q := by unfold upd; rw [if_neg (by omega)]
    rw [e2]
    exact h.old q hq (by omega)
  · exact (h.below.trans (hk.mono h.below.size)).trans (k1.below (Nat.le_trans h.below.size hk.size) (fun k h => Nat.le_of_eq (Eq.symm h)))
  · have := hk.size
    simp [World.setCell]
    omega
def zeroSc : Sc := ⟨0, 0, 0, 0, 0, 0, fun _ => 0, fun _ => false, fun _ => 0, fun _ => 0, fun _ => false⟩
def zeroSt : List Value := stC zeroSc fun _ => .slice none 0 0
/-- The row at place m, whose cell is the state's a-th. -/
theorem FrAt.spot {w : World} {c : Sc} {L : Nat → List Ins} {z : List Value} {m a : Nat} {x : World} {r : Nat → Value} (h : FrAt w c L z m x r) (hm : m < 12) (hl : (L m).length ≤ 1000)
    (hc : x.cell? ⟨w.heap.size, a, none⟩ = some (r m)) (ha : ∀ u, (stC c r).toArray.setIfInBounds a u = (stC c (upd r m u)).toArray) :
    ∃ A cp, x.cell? ⟨w.heap.size, a, none⟩ = some (.slice A (L m).length cp) ∧ (0 + (L m).length ≤ 2199023255552) ∧ (∀ o, RowR (x.alloc o) (.slice A (L m).length cp) (L m)) ∧ (∀ o, RowR (x.drew.alloc o) (.slice A (L m).length cp) (L m)) ∧
      ∀ (y : World) (v : Value) (H : Nat), x.heap.size = H → (∃ o, (x.alloc o).grownBy y (some H)) ∨ (∃ o, (x.drew.alloc o).grownBy y (some H)) → y.ownsRow (w.heap.size + 2) 50 7 v (0 + (L m).length) ([] ++ insC (L m)) →
        ∃ A3 c3, v = .slice A3 (L m).length c3 ∧ y.cell? ⟨w.heap.size, a, none⟩ = some (.slice A (L m).length cp) ∧ y.frozen? ⟨w.heap.size, a, none⟩ = false ∧ w.heap.size < y.heap.size ∧ FrAt w c L z (m + 1) (y.setCell ⟨w.heap.size, a, none⟩ (.slice A3 (L m).length c3)) (upd r m (.slice A3 (L m).length c3)) := by
  have hrow := h.old m hm (Nat.le_refl _)
  have hlt : w.heap.size < x.heap.size := by have := h.size; omega
  obtain ⟨A, cp, e, _, _, _, _⟩ := id hrow
  rw [e] at hc hrow
  refine ⟨A, cp, hc, by omega, fun o => hrow.below (h.below.alloc h.below.size o), fun o => hrow.below ((below_drew1 h.below).alloc h.below.size o), fun y v H hH hg ho => ?_⟩
  subst hH
  have hb : Below x.heap.size x y := by
    rcases hg with ⟨o, g⟩ | ⟨o, g⟩
    · exact (((Keeps.refl (fun k => x.heap.size ≤ k) x).alloc o).grown g (fun k hk => by injection hk with hk; exact Nat.le_of_eq hk)).below (Nat.le_refl _) (fun k h => h)
    · exact (((Keeps.refl (fun k => x.heap.size ≤ k) x).drew.alloc o).grown g (fun k hk => by injection hk with hk; exact Nat.le_of_eq hk)).below (Nat.le_refl _) (fun k h => h)
  obtain ⟨A3, c3, rfl, _, _, _⟩ := own_form ho
  rw [Nat.zero_add] at ho ⊢
  exact ⟨A3, c3, rfl, by rw [hb.cell hlt]; exact hc, (h.whole.below hb hlt).thawed _, Nat.lt_of_lt_of_le hlt hb.size, h.next hm hb (by rw [Nat.zero_add]; exact ho) ha⟩
theorem rFresh (c : Sc) (r : Nat → Value) (L : Nat → List Ins) (w : World) (hR : Rows12 w r L) (hsz : ∀ q, q < 12 → (L q).length ≤ 1000) :
    Calls Try.prog 12 #[stV c r] w fun e w' => ∃ r', e = .returned (stV c r') ∧ (∀ q, q < 12 → OwnI w' w.heap.size (r' q) (L q)) ∧ Below w.heap.size w w' := by
  have hv : stV c r = .agg (stC c r).toArray := rfl
  have F0 : Hid (∀ z : List Value, FrAt w c L z 0 ((w.alloc (.cells (stC c r).toArray 33)).alloc (.cells z.toArray 33)) r) := Lib.hid fun z => by
    have h2 := Whole.made (w.alloc (.cells (stC c r).toArray 33)) 33 z.toArray
    rw [World.size_alloc] at h2
    exact ⟨(Whole.made w _ _).alloc _, h2, fun q hq hm => by omega, fun q hq _ => hR q hq, ((Below.refl _ _).alloc (Nat.le_refl _) _).alloc (by simp) _, by simp⟩
  rw [hv]
  have HSZ := Lib.hid hsz
  clear hR hv hsz
  generalize hA : (stC c r).toArray = arr at *
  go_enter Try.func12, Try.ntmps12
  go_wp2
  go_loopw [3] (fun v wr => ∃ (i : Nat) (r1 : Nat → Value), v = .int .i64 i ∧ i ≤ 3 ∧ FrAt w c L zeroSt (2 * i) wr r1) (fun v _ => 3 - (intOf v).toNat)
  case atStart => exact ⟨0, r, rfl, by omega, F0.out zeroSt⟩
  case round =>
    obtain ⟨i, r1, rfl, hi, hF⟩ := hrel
    have HF := Lib.hid hF
    clear hF
    by_cases hi3 : i < 3
    · have li : (i : Int) < 3 := by omega
      go_wp2
      go_loopw [4] (fun v wr => ∃ (k : Nat) (r1 : Nat → Value), v = .int .i64 k ∧ k ≤ 2 ∧ FrAt w c L zeroSt (2 * i + k) wr r1) (fun v _ => 2 - (intOf v).toNat)
      case atStart => exact ⟨0, r1, rfl, by omega, HF.out⟩
      case round =>
        obtain ⟨k, r2, rfl, hk, hF⟩ := hrel
        have HF := Lib.hid hF
        clear hF
        by_cases hk2 : k < 2
        · have lk : (k : Int) < 2 := by omega
          have hq : 2 * i + k < 12 := by omega
          obtain ⟨A, cp, hc, hz, _, hR, hN⟩ := HF.out.spot hq (HSZ.out _ hq) (st_side HF.out.whole i k hi3 hk2) (stC_side c r2 i k hi3 hk2)
          have SZ : Hid (w.heap.size + 2 ≤ wr.heap.size) := Lib.hid HF.out.size
          have hlt : w.heap.size < wr.heap.size := by have := SZ.out; omega
          have HZ := Lib.hid hz
          have HR := Lib.hid hR
          have HN := Lib.hid hN
          clear hz hR hN
          go_wp2_with fail
          go_region_law (refine step_cat _ (.tmp 16) (.tmp 23) (w.heap.size + 2) _ _ 0 [] (L (2 * i + k)) (ownI_new SZ.out) (HR.out _) HZ.out (by simp; have := SZ.out; omega) rfl rfl rfl rfl ?_; intro v3 w3 o3 g3 _; obtain ⟨A3, c3, rfl, hc3, hf3, hlt3, hF3⟩ := HN.out w3 v3 _ rfl (.inr ⟨_, g3⟩) o3; have N3 := Lib.hid hF3; clear o3 g3 hF3)
          all_goals
            go_wp2
            go_roundw
            case rel => exact ⟨k + 1, _, by go_num, by omega, N3.out⟩
            case measure => simp [intOf]; omega
        · have e6 : 2 * i + k = 2 * (i + 1) := by omega
          have lk : ¬ (k : Int) < 2 := by omega
          rw [e6] at HF
          clear e6
          go_wp2
          go_roundw
          case rel => exact ⟨i + 1, r2, by go_num, by omega, HF.out⟩
          case measure => simp [intOf]; omega
    · have e6 : 2 * i = 6 := by omega
      have li : ¬ (i : Int) < 3 := by omega
      rw [e6] at HF
      clear e6
      go_wp2
      go_loopw [5] (fun v wr => ∃ (k : Nat) (r1 : Nat → Value), v = .int .i64 k ∧ k ≤ 2 ∧ FrAt w c L zeroSt (6 + 3 * k) wr r1) (fun v _ => 2 - (intOf v).toNat)
      case atStart => exact ⟨0, r1, rfl, by omega, HF.out⟩
      case round =>
        obtain ⟨k, r2, rfl, hk, hF⟩ := hrel
        have HF := Lib.hid hF
        clear hF
        by_cases hk2 : k < 2
        · have lk : (k : Int) < 2 := by omega
          obtain ⟨A, cp, hc, hz, hR, _, hN⟩ := HF.out.spot (m := 6 + 3 * k) (a := 13 + k * 6) (by omega) (HSZ.out _ (by omega)) (st_pile HF.out.whole k 0 hk2 (by omega)) (stC_pile c r2 k 0 hk2 (by omega))
          have SZ : Hid (w.heap.size + 2 ≤ wr.heap.size) := Lib.hid HF.out.size
          have hlt : w.heap.size < wr.heap.size := by have := SZ.out; omega
          have HZ := Lib.hid hz
          have HR := Lib.hid hR
          have HN := Lib.hid hN
          clear hz hR hN
          go_wp2_with (first
            | (at_builtin; refine wpList_cat _ (.tmp 34) (.tmp 39) (w.heap.size + 2) _ _ 0 [] (L (6 + 3 * k)) (ownI_at SZ.out (by simp)) (HR.out _) HZ.out (by rw [World.size_alloc]; exact Nat.le_succ_of_le SZ.out) rfl rfl rfl rfl ?_; intro v0y w0y o0y g0y _; obtain ⟨B0, d0, rfl, hc0y, hf0y, hlt0y, hF0y⟩ := HN.out w0y v0y _ (by simp) (.inl ⟨_, g0y⟩) o0y; have F1 := Lib.hid hF0y; clear o0y g0y hF0y; obtain ⟨A1x, cp1, hc1, hz1, hR1, _, hN1⟩ := F1.out.spot (m := 6 + 3 * k + 1) (by omega) (HSZ.out _ (by omega)) (st_pile F1.out.whole k 1 hk2 (by omega)) (stC_pile c _ k 1 hk2 (by omega)); have SZ1 := Lib.hid F1.out.size; have HZ1 := Lib.hid hz1; have HR1 := Lib.hid hR1; have HN1 := Lib.hid hN1; clear hz1 hR1 hN1)
            | (at_builtin; refine wpList_cat _ (.tmp 45) (.tmp 50) (w.heap.size + 2) _ _ 0 [] (L (6 + 3 * k + 1)) (ownI_at SZ1.out (by simp)) (HR1.out _) HZ1.out (by rw [World.size_alloc]; exact Nat.le_succ_of_le SZ1.out) rfl rfl rfl rfl ?_; intro v1y w1y o1y g1y _; obtain ⟨B1, d1, rfl, hc1y, hf1y, hlt1y, hF1y⟩ := HN1.out w1y v1y _ (by simp) (.inl ⟨_, g1y⟩) o1y; have F2 := Lib.hid hF1y; clear o1y g1y hF1y; obtain ⟨A2x, cp2, hc2, hz2, hR2, _, hN2⟩ := F2.out.spot (m := 6 + 3 * k + 2) (by omega) (HSZ.out _ (by omega)) (st_pile F2.out.whole k 2 hk2 (by omega)) (stC_pile c _ k 2 hk2 (by omega)); have SZ2 := Lib.hid F2.out.size; have HZ2 := Lib.hid hz2; have HR2 := Lib.hid hR2; have HN2 := Lib.hid hN2; clear hz2 hR2 hN2)
            | (at_builtin; refine wpList_cat _ (.tmp 56) (.tmp 61) (w.heap.size + 2) _ _ 0 [] (L (6 + 3 * k + 2)) (ownI_at SZ2.out (by simp)) (HR2.out _) HZ2.out (by rw [World.size_alloc]; exact Nat.le_succ_of_le SZ2.out) rfl rfl rfl rfl ?_; intro v2y w2y o2y g2y _; obtain ⟨B2, d2, rfl, hc2y, hf2y, hlt2y, hF2y⟩ := HN2.out w2y v2y _ (by simp) (.inl ⟨_, g2y⟩) o2y; have F3 := Lib.hid hF2y; clear o2y g2y hF2y))
          go_roundw
          case rel => exact ⟨k + 1, _, by go_num, by omega, F3.out⟩
          case measure => simp [intOf]; omega
        · have e6 : 6 + 3 * k = 12 := by omega
          have lk : ¬ (k : Int) < 2 := by omega
          rw [e6] at HF
          clear e6
          go_wp2_with (first
            | ((with_reducible refine at_ld 66 ?_); refine wpList_loadW 33 (.tmp 1) 33 w.heap.size (stC c r2) HF.out.whole (by kernel_rfl) (by kernel_rfl) rfl rfl rfl ?_)
            | ((with_reducible refine at_st 2 66 ?_); refine wpList_storeW 33 (.tmp 2) (.tmp 66) 33 (w.heap.size + 1) zeroSt (stC c r2) HF.out.zero rfl (by kernel_rfl) (stC_one fun q hq => (HF.out.own q hq hq).row.one) rfl rfl rfl rfl rfl ?_; intro w9 p9))
          refine bodyPost_ret (results_cell_row Try.results12 _ _ (w.heap.size + 1) 33 (stC c r2).toArray (0, 0) _ rfl p9.whole Try.underlying33 rfl (by kernel_rfl)) rfl ⟨r2, rfl, fun q hq => ?_, ?_⟩
          · exact own_mono (p9.keeps.owns (HF.out.own q hq hq) (fun k h1 h2 => by
              have := (World.ownsRow.lt (HF.out.own q hq hq) k h1).1
              have h3 : k = w.heap.size + 1 := h2
              omega)) (Nat.le_add_right _ _)
          · exact HF.out.below.trans (p9.keeps.below HF.out.below.size (fun k h => by have h3 : k = w.heap.size + 1 := h; omega))
end Go.Proofs.Ytkalpclckgbedaa
