/-
  The contract of the document's answer for layer 3: Same, two lists compared. No conditions but that the lists can be read.
-/
import Derived.Test.YticbnanfijkodaaDigRef3
import Derived.Deep.QuietTactic
namespace Go.Proofs.Yticbnanfijkodaa
open Go.ChangeShapes Go.WideShapes Go.ChangeAt Go.RowKit
set_option linter.unusedVariables false
set_option linter.unusedSimpArgs false
theorem take_eq_step {x y : List Int} {k : Nat} (h1 : k < x.length) (h2 : k < y.length) (ht : x.take k = y.take k) : x.take (k + 1) = y.take (k + 1) ↔ x[k] = y[k] := by
  rw [List.take_succ_eq_append_getElem h1, List.take_succ_eq_append_getElem h2, ht]
  constructor
  · intro e
    have := List.append_cancel_left e
    simpa using this
  · intro e; rw [e]
theorem Same_any (x y : List Int) (n m : Nat) (A B : Option Addr) (c d : Nat) (w : World) (hx : Reads w A (ints x)) (hy : Reads w B (ints y)) (hn : x.length = n) (hm : y.length = m) (hl : n ≤ 9223372036854775807) (hlm : m ≤ 9223372036854775807) :
    Calls Try.prog 8 #[.slice A n c, .slice B m d] w fun e w' => e = .returned (.bool (decide (x = y))) ∧ Below w.heap.size w w' := by
  by_cases hlen : n = m
  · subst hlen
    have HN := Lib.hid hn
    have HM := Lib.hid hm
    clear hn hm
    go_enter Try.func8, Try.ntmps8
    go_wp2
    go_loopw [5] (fun i wr => ∃ k : Nat, i = .int .i64 k ∧ k ≤ n ∧ x.take k = y.take k ∧ Below w.heap.size w wr) (fun i _ => n - (intOf i).toNat)
    case atStart => exact ⟨0, rfl, by omega, rfl, Below.refl _ _⟩
    case round =>
      obtain ⟨k, rfl, hk, ht, hb⟩ := hrel
      by_cases hkl : k < n
      · have hk1 : k < x.length := by rw [HN.out]; exact hkl
        have hk2 : k < y.length := by rw [HM.out]; exact hkl
        obtain ⟨p, rfl, hp, hcp⟩ := (hx.below hb).at_ (by simp [ints]; omega)
        obtain ⟨q, rfl, hq, hcq⟩ := (hy.below hb).at_ (by simp [ints]; omega)
        have c1 := hcp k (by simpa [ints] using hk1)
        have c2 := hcq k (by simpa [ints] using hk2)
        rw [show (ints x)[k]? = some (.int .i64 (x[k])) by simp [ints, hk1]] at c1
        rw [show (ints y)[k]? = some (.int .i64 (y[k])) by simp [ints, hk2]] at c2
        have hstep := take_eq_step hk1 hk2 ht
        have lk : (k : Int) < (n : Int) := by omega
        have HB := Lib.hid hb
        have HT := Lib.hid ht
        clear hb hcp hcq ht
        generalize x[k] = xk at *
        generalize y[k] = yk at *
        clear hk1 hk2
        have hk0 : (0 : Int) ≤ (k : Int) := by omega
        have hkn : ((k : Int)).toNat = k := by omega
        have HS := Lib.hid hstep
        clear hstep
        cases he : (xk != yk) with
        | true =>
          have hne : x ≠ y := by
            intro c
            rw [bne_iff_ne] at he
            exact he (HS.out.1 (by rw [c]))
          go_wp2_with fail
          go_quiet (fail)
          go_wp2
          go_ret
          exact ⟨rB (by simp [hne]), below_drewN HB.out _⟩
        | false =>
          rw [bne_eq_false_iff_eq] at he
          subst he
          have HT2 := Lib.hid (HS.out.2 rfl)
          go_wp2_with fail
          go_quiet (fail)
          go_wp2
          go_roundw
          case rel => exact ⟨k + 1, by go_num, by omega, HT2.out, below_drewN HB.out _⟩
          case measure => simp [intOf]; omega
      · have hxy : x = y := by
          rw [List.take_of_length_le (by rw [HN.out]; omega), List.take_of_length_le (by rw [HM.out]; omega)] at ht
          exact ht
        have HB := Lib.hid hb
        have lk : (n : Int) ≤ (k : Int) := by omega
        clear hb ht
        go_wp2
        go_ret
        exact ⟨rB (by simp [hxy]), HB.out⟩
  · have hne : x ≠ y := fun c => hlen (by rw [← hn, ← hm, c])
    have hb : ((n : Int) != (m : Int)) = true := by rw [bne_iff_ne]; omega
    clear hn hm
    go_enter Try.func8, Try.ntmps8
    go_wp2
    all_goals first
      | (exfalso; omega)
      | (go_ret; exact ⟨rB (by simp [hne]), Below.refl _ _⟩)
/-- A row of the call's own, as a slice that can be read. -/
theorem own_reads {w : World} {base : Nat} {e : TypeId} {v : Value} {xs : List Value} {n : Nat} (h : w.ownsRow base e 1 v n xs) : ∃ A c, v = .slice A n c ∧ n ≤ 9223372036854775807 ∧ Reads w A xs := by
  obtain ⟨A, c, rfl, h1, h2, h3⟩ := own_form h
  unfold maxLen at h2
  exact ⟨A, c, rfl, by omega, h3.reads⟩
theorem Same_own (x y : List Int) (u v : Value) (b1 b2 : Nat) (w : World) (hx : w.ownsRow b1 3 1 u x.length (ints x)) (hy : w.ownsRow b2 3 1 v y.length (ints y)) :
    Calls Try.prog 8 #[u, v] w fun e w' => e = .returned (.bool (decide (x = y))) ∧ Below w.heap.size w w' := by
  obtain ⟨A, c, rfl, h1, r1⟩ := own_reads hx
  obtain ⟨B, d, rfl, h2, r2⟩ := own_reads hy
  exact Same_any x y _ _ A B c d w r1 r2 rfl rfl h1 h2
theorem Same_arg (x y : List Int) (u : Value) (b1 : Nat) (B : Option Addr) (d : Nat) (w : World) (hx : w.ownsRow b1 3 1 u x.length (ints x)) (hy : Reads w B (ints y)) (hl : y.length ≤ 9223372036854775807) :
    Calls Try.prog 8 #[u, .slice B y.length d] w fun e w' => e = .returned (.bool (decide (x = y))) ∧ Below w.heap.size w w' := by
  obtain ⟨A, c, rfl, h1, r1⟩ := own_reads hx
  exact Same_any x y _ _ A B c d w r1 hy rfl rfl h1 hl
end Go.Proofs.Yticbnanfijkodaa
