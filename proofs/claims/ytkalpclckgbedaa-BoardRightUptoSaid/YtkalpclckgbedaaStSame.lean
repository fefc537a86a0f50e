/-
  The document's answer: two rows of cards compared. No conditions.
-/
import Derived.Test.YtkalpclckgbedaaStEq
import Derived.Test.YtkalpclckgbedaaRet
namespace Go.Proofs.Ytkalpclckgbedaa
open Go.ChangeShapes Go.WideShapes Go.ChangeAt Go.RowKit
set_option linter.unusedVariables false
set_option linter.unusedSimpArgs false
set_option maxRecDepth 20000
set_option maxHeartbeats 3200000
instance : DecidableEq Ins := fun x y => decidable_of_iff (insB x y = true) insB_iff
/-- A card of a row: where its cells lie. -/
theorem row_lit {w : World} {A : Option Addr} {l : List Ins} (h : Reads w A (insC l)) (h0 : 0 < l.length) :
    ∃ g off, A = some ⟨g, off, none⟩ ∧ g < w.heap.size ∧ ∀ i (hi : i < l.length), w.cell? ⟨g, off + i * 7, none⟩ = some (.int .i64 l[i].id) ∧ w.cell? ⟨g, off + i * 7 + 1, none⟩ = some (.int .i64 l[i].card) ∧ w.cell? ⟨g, off + i * 7 + 2, none⟩ = some (.string l[i].name) ∧
      w.cell? ⟨g, off + i * 7 + 3, none⟩ = some (.int .i64 l[i].cost) ∧ w.cell? ⟨g, off + i * 7 + 4, none⟩ = some (.int .i64 l[i].power) ∧ w.cell? ⟨g, off + i * 7 + 5, none⟩ = some (.int .i64 l[i].plus) ∧ w.cell? ⟨g, off + i * 7 + 6, none⟩ = some (.int .i64 l[i].owner) := by
  obtain ⟨p, rfl, hp, hc⟩ := h.at_ (by rw [insC_len]; omega)
  have hc' : ∀ i (hi : i < l.length) j, j < 7 → w.cell? (p.add (i * 7 + j)) = l[i].cells[j]? := by
    intro i hi j hj
    rw [hc (i * 7 + j) (by rw [insC_len]; omega), insC_at l i hi j hj]
  obtain ⟨g, off, spot⟩ := p
  have hs : spot = none := by
    have := hc' 0 h0 0 (by omega)
    simpa [Addr.add] using World.cell?_spot (this.trans (show _ = some (Value.int .i64 (l[0]'h0).id) from rfl))
  subst hs
  refine ⟨g, off, rfl, hp, fun i hi => ⟨?_, ?_, ?_, ?_, ?_, ?_, ?_⟩⟩
  · have := hc' i hi 0 (by omega); rw [Addr.add_lit] at this; exact this
  · have := hc' i hi 1 (by omega); rw [Addr.add_lit] at this; exact this
  · have := hc' i hi 2 (by omega); rw [Addr.add_lit] at this; exact this
  · have := hc' i hi 3 (by omega); rw [Addr.add_lit] at this; exact this
  · have := hc' i hi 4 (by omega); rw [Addr.add_lit] at this; exact this
  · have := hc' i hi 5 (by omega); rw [Addr.add_lit] at this; exact this
  · have := hc' i hi 6 (by omega); rw [Addr.add_lit] at this; exact this
theorem take_step {x y : List Ins} {k : Nat} (h1 : k < x.length) (h2 : k < y.length) (ht : x.take k = y.take k) : x.take (k + 1) = y.take (k + 1) ↔ x[k] = y[k] := by
  rw [List.take_succ_eq_append_getElem h1, List.take_succ_eq_append_getElem h2, ht]
  constructor
  · intro e
    have := List.append_cancel_left e
    simpa using this
  · intro e; rw [e]
theorem rSameCards (x y : List Ins) (a b : Value) (w : World) (hx : RowR w a x) (hy : RowR w b y) :
    Calls Try.prog 17 #[a, b] w fun e w' => e = .returned (.bool (decide (x = y))) ∧ Below w.heap.size w w' := by
  obtain ⟨A, c, rfl, hx, _, _, hl⟩ := hx
  obtain ⟨B, d, rfl, hy, _, _, hlm⟩ := hy
  unfold maxLen at hl hlm
  by_cases hlen : x.length = y.length
  · obtain ⟨n, hn⟩ : ∃ n, x.length = n := ⟨_, rfl⟩
    have hm : y.length = n := by omega
    have HN := Lib.hid hn
    have HM := Lib.hid hm
    rw [hn, hm]
    rw [hn] at hl
    clear hn hm hlen hlm
    go_enter Try.func17, Try.ntmps17
    go_wp2
    go_loopw [5] (fun i wr => ∃ k : Nat, i = .int .i64 k ∧ k ≤ n ∧ x.take k = y.take k ∧ Below w.heap.size w wr) (fun i _ => n - (intOf i).toNat)
    case atStart => exact ⟨0, rfl, by omega, rfl, Below.refl _ _⟩
    case round =>
      obtain ⟨k, rfl, hk, ht, hb⟩ := hrel
      by_cases hkl : k < n
      · have hk1 : k < x.length := by rw [HN.out]; exact hkl
        have hk2 : k < y.length := by rw [HM.out]; exact hkl
        obtain ⟨g, off, rfl, hg, hc⟩ := row_lit (hx.below hb) (by omega)
        obtain ⟨g2, off2, rfl, hg2, hc2⟩ := row_lit (hy.below hb) (by omega)
        obtain ⟨p0, p1, p2, p3, p4, p5, p6⟩ := hc k hk1
        obtain ⟨q0, q1, q2, q3, q4, q5, q6⟩ := hc2 k hk2
        have hstep := take_step hk1 hk2 ht
        have heq := fun w => neq_ins x[k] y[k] w
        have hxe : x[k] = y[k] ↔ insB x[k] y[k] = true := insB_iff.symm
        rw [hxe] at hstep
        have lk : (k : Int) < (n : Int) := by omega
        have HB := Lib.hid hb
        have HT := Lib.hid ht
        clear hb hc hc2 ht hxe
        obtain ⟨v, hv⟩ : ∃ v, insB x[k] y[k] = v := ⟨_, rfl⟩
        rw [hv] at hstep
        simp only [hv] at heq
        clear hv
        generalize x[k] = xk at *
        generalize y[k] = yk at *
        obtain ⟨xi, xc, xn, xo, xp, xl, xw⟩ := xk
        obtain ⟨yi, yc, yn, yo, yp, yl, yw⟩ := yk
        simp only at p0 p1 p2 p3 p4 p5 p6 q0 q1 q2 q3 q4 q5 q6 heq
        clear hk1 hk2
        have hk0 : (0 : Int) ≤ (k : Int) := by omega
        have hkn : ((k : Int)).toNat = k := by omega
        have HS := Lib.hid hstep
        clear hstep
        cases v with
        | false =>
          have hne : x ≠ y := fun e => by have := HS.out.1 (by rw [e]); cases this
          go_wp2_with fail
          go_quiet (fail)
          go_wp2
          go_ret
          exact ⟨rB (by simp [hne]), below_drewN HB.out _⟩
        | true =>
          have HT2 := Lib.hid (HS.out.2 rfl)
          go_wp2_with fail
          go_quiet (fail)
          go_wp2
          go_roundw
          case rel => exact ⟨k + 1, by go_num, by omega, HT2.out, below_drewN HB.out _⟩
          case measure => simp [intOf]; omega
      · have hxy : x = y := by
          rw [List.take_of_length_le (by rw [HN.out]; omega), List.take_of_length_le (by rw [HM.out]; omega)] at ht
          exact ht
        have HB := Lib.hid hb
        have lk : (n : Int) ≤ (k : Int) := by omega
        clear hb ht
        go_wp2
        go_ret
        exact ⟨rB (by simp [hxy]), HB.out⟩
  · have hne : x ≠ y := fun c => hlen (by rw [c])
    have hb : ((x.length : Int) != (y.length : Int)) = true := by rw [bne_iff_ne]; omega
    generalize x.length = n at *
    generalize y.length = m at *
    go_enter Try.func17, Try.ntmps17
    go_wp2
    all_goals first
      | (exfalso; omega)
      | (go_ret; exact ⟨rB (by simp [hne]), Below.refl _ _⟩)
end Go.Proofs.Ytkalpclckgbedaa
