/-
  Layer 21: the document's answer: swap, Alike. Conditions: lists that can be read, at most 1000000 numbers.
-/
import Derived.Test.YticbnanfijkodaaShufR
import Derived.Test.YticbnanfijkodaaShufB
namespace Go.Proofs.Yticbnanfijkodaa
open Go.ChangeShapes Go.WideShapes Go.ChangeAt Go.RowKit
set_option linter.unusedVariables false
set_option linter.unusedSimpArgs false
set_option maxRecDepth 20000
set_option maxHeartbeats 3200000
theorem alike_from (x y : List Int) (hl : x.length = y.length) : alikeB x y = true ↔ ∀ j, j < x.length → x.count (x.getD j 0) = y.count (x.getD j 0) := by
  unfold alikeB
  rw [Bool.and_eq_true, decide_eq_true_eq, List.all_eq_true]
  constructor
  · rintro ⟨_, h⟩ j hj
    have := h x[j] (List.getElem_mem hj)
    simp only [decide_eq_true_eq] at this
    simpa [hj] using this
  · intro h
    refine ⟨hl, fun v hv => ?_⟩
    obtain ⟨j, hj, rfl⟩ := List.mem_iff_getElem.1 hv
    have := h j hj
    simp [hj] at this
    simpa using this
theorem rAlike_any (x y : List Int) (n m c d : Nat) (A B : Option Addr) (w : World) (hx : Reads w A (ints x)) (hy : Reads w B (ints y)) (hn : x.length = n) (hm : y.length = m) (hl : n ≤ 1000000) (hl2 : m ≤ 1000000) :
    Calls Try.prog 14 #[.slice A n c, .slice B m d] w fun e w' => e = .returned (.bool (alikeB x y)) ∧ Below w.heap.size w w' := by
  by_cases hnm : n = m
  · subst hnm
    have HN := Lib.hid hn
    have HM := Lib.hid hm
    have HA := Lib.hid (alike_from x y (by rw [hn, hm]))
    clear hn hm
    go_enter Try.func14, Try.ntmps14
    go_wp2
    go_loopw [5] (fun i wr => ∃ k : Nat, i = .int .i64 k ∧ k ≤ n ∧ (∀ j, j < k → x.count (x.getD j 0) = y.count (x.getD j 0)) ∧ Below w.heap.size w wr) (fun i _ => n - (intOf i).toNat)
    case atStart => exact ⟨0, rfl, by omega, fun j hj => by omega, Below.refl _ _⟩
    case round =>
      obtain ⟨k, rfl, hk, hs, hb⟩ := hrel
      have HB := Lib.hid hb
      have HS := Lib.hid hs
      clear hs
      by_cases hkl : k < n
      · obtain ⟨g, off, rfl, hg, hc⟩ := reads_lit (hx.below hb) (by rw [HN.out]; omega)
        have c1 := hc k (by rw [HN.out]; omega)
        have hxr := fun (z : World) (q : Below wr.heap.size wr z) => (hx.below hb).below q
        have hyr := fun (z : World) (q : Below wr.heap.size wr z) => (hy.below hb).below q
        have X1 := Lib.hid hxr
        have Y1 := Lib.hid hyr
        obtain ⟨v, hv⟩ : ∃ v, x.getD k 0 = v := ⟨_, rfl⟩
        rw [hv] at c1
        have kc : ∀ z : World, Below wr.heap.size wr z → Calls Try.prog 21 #[.slice (some ⟨g, off, none⟩) n c, .int .i64 v] z fun e w' => e = .returned (.int .i64 (x.count v : Nat)) ∧ w' = z := fun z q => rCount_any x v n c _ z (X1.out z q) HN.out hl
        have kd : ∀ z : World, Below wr.heap.size wr z → Calls Try.prog 21 #[.slice B n d, .int .i64 v] z fun e w' => e = .returned (.int .i64 (y.count v : Nat)) ∧ w' = z := fun z q => rCount_any y v n d _ z (Y1.out z q) HM.out hl2
        clear hc hxr hyr hb
        have lk : (k : Int) < (n : Int) := by omega
        have HV := Lib.hid hv
        clear hv
        obtain ⟨p, hp⟩ : ∃ p, x.count v = p := ⟨_, rfl⟩
        obtain ⟨q, hq⟩ : ∃ p, y.count v = p := ⟨_, rfl⟩
        simp only [hp] at kc
        simp only [hq] at kd
        have K1 := Lib.hid (fun N => kc (wr.drewN N) (below_drewN (Below.refl _ _) N))
        have K2 := Lib.hid (fun N => kd (wr.drewN N) (below_drewN (Below.refl _ _) N))
        clear kc kd
        have hnext : p = q → ∀ j, j < k + 1 → x.count (x.getD j 0) = y.count (x.getD j 0) := by
          intro e j hj
          rcases Nat.lt_succ_iff_lt_or_eq.1 hj with h | rfl
          · exact HS.out j h
          · rw [HV.out, hp, hq, e]
        have hfail : p ≠ q → alikeB x y = false := by
          intro e
          cases ha : alikeB x y with
          | false => rfl
          | true =>
            have := HA.out.1 ha k (by rw [HN.out]; omega)
            rw [HV.out, hp, hq] at this
            exact absurd this e
        have HX := Lib.hid hnext
        have HF := Lib.hid hfail
        clear hnext hfail hp hq
        have hk0 : (0 : Int) ≤ (k : Int) := by omega
        have hkn : ((k : Int)).toNat = k := by omega
        cases he : ((p : Int) != (q : Int)) with
        | true =>
          have hne : p ≠ q := by
            intro e
            rw [bne_iff_ne] at he
            exact he (by rw [e])
          have HR := Lib.hid (HF.out hne)
          clear hne
          go_wp2_with fail
          go_quiet (first
            | (go_at_call 21; with_reducible exact Calls.quiet_of_same (K1.out _))
            | (go_at_call 21; with_reducible exact Calls.quiet_of_same (K2.out _)))
          go_wp2
          go_ret
          exact ⟨rB HR.out.symm, below_drewN HB.out _⟩
        | false =>
          have hee : p = q := by
            rw [bne_eq_false_iff_eq] at he
            omega
          have HR := Lib.hid (HX.out hee)
          clear hee
          go_wp2_with fail
          go_quiet (first
            | (go_at_call 21; with_reducible exact Calls.quiet_of_same (K1.out _))
            | (go_at_call 21; with_reducible exact Calls.quiet_of_same (K2.out _)))
          go_wp2
          go_roundw
          case rel => exact ⟨k + 1, by go_num, by omega, HR.out, below_drewN HB.out _⟩
          case measure => simp [intOf]; omega
      · have lk : (n : Int) ≤ (k : Int) := by omega
        have e : alikeB x y = true := HA.out.2 fun j hj => HS.out j (by rw [HN.out] at hj; omega)
        have HE := Lib.hid e
        clear e hb
        go_wp2
        go_ret
        exact ⟨rB HE.out.symm, HB.out⟩
  · have e : alikeB x y = false := by
      unfold alikeB
      rw [decide_eq_false (by rw [hn, hm]; exact hnm)]
      rfl
    have hb : ((n : Int) != (m : Int)) = true := by rw [bne_iff_ne]; omega
    rw [e]
    clear e hn hm
    go_enter Try.func14, Try.ntmps14
    go_wp2
    all_goals first
      | (exfalso; omega)
      | (go_ret; exact ⟨rfl, Below.refl _ _⟩)
end Go.Proofs.Yticbnanfijkodaa
