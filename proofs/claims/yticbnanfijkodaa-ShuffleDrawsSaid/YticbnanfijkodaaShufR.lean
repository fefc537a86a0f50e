/-
  Layer 21: the document's answer: Around, swap, count, Alike. Conditions: lists that can be read, at most 1000000 numbers.
-/
import Derived.Test.YticbnanfijkodaaShufA
import Derived.Test.YticbnanfijkodaaKeeps
import Derived.Test.YticbnanfijkodaaOpenI
import Derived.Deep.QuietTactic
import Derived.Maps.AppendAt
namespace Go.Proofs.Yticbnanfijkodaa
open Go.ChangeShapes Go.WideShapes Go.ChangeAt Go.RowKit
set_option linter.unusedVariables false
set_option linter.unusedSimpArgs false
theorem reads_lit {w : World} {A : Option Addr} {x : List Int} (h : Reads w A (ints x)) (h0 : 0 < x.length) :
    ∃ g off, A = some ⟨g, off, none⟩ ∧ g < w.heap.size ∧ ∀ j, j < x.length → w.cell? ⟨g, off + j, none⟩ = some (.int .i64 (x.getD j 0)) := by
  obtain ⟨p, rfl, hp, hc⟩ := h.at_ (by simpa [ints] using h0)
  have hc' : ∀ j, j < x.length → w.cell? (p.add j) = some (.int .i64 (x.getD j 0)) := by
    intro j hj
    rw [hc j (by simpa [ints] using hj)]
    simp [ints, hj]
  obtain ⟨g, off, spot⟩ := p
  have hs : spot = none := by simpa [Addr.add] using World.cell?_spot (hc' 0 h0)
  subst hs
  exact ⟨g, off, rfl, hp, fun j hj => by rw [← hc' j hj, Addr.add_lit]⟩
theorem rAround_any (n m : Int) (w : World) (h1 : -9223372036854775808 ≤ n) (h2 : n ≤ 9223372036854775807) (h3 : m ≤ 9223372036854775807) :
    Calls Try.prog 11 #[.int .i64 n, .int .i64 m] w fun e w' => e = .returned (.int .i64 (aroundZ n m)) ∧ w' = w := by
  by_cases hm : m < 1
  · have e : aroundZ n m = 0 := by unfold aroundZ; rw [if_pos hm]
    rw [e]
    go_enter Try.func11, Try.ntmps11
    go_wp2
    go_ret
    exact ⟨rfl, rfl⟩
  · rw [around_rem (n := n) (m := m) (by omega)]
    have hb := tmod_lt (n := n) (m := m) (by omega)
    obtain ⟨r, hr⟩ : ∃ r, n.tmod m = r := ⟨_, rfl⟩
    have hw : IntKind.i64.wrap r = r := IntWalk.i64_in _ (by omega)
    have hw2 : r < 0 → IntKind.i64.wrap (r + m) = r + m := fun h => IntWalk.i64_in _ (by omega)
    rw [hr]
    have hz : m ≠ 0 := by omega
    by_cases h0 : r < 0
    · have hw3 := hw2 h0
      rw [if_pos h0]
      go_enter Try.func11, Try.ntmps11
      go_wp2
      go_ret
      exact ⟨rfl, rfl⟩
    · rw [if_neg h0]
      go_enter Try.func11, Try.ntmps11
      go_wp2
      go_ret
      exact ⟨rfl, rfl⟩
theorem count_next (x : List Int) (v : Int) (k : Nat) (h : k < x.length) : (x.take (k + 1)).count v = (x.take k).count v + if x.getD k 0 = v then 1 else 0 := by
  rw [List.take_succ_eq_append_getElem h, List.count_append]
  have e : x.getD k 0 = x[k] := by simp [h]
  rw [e]
  by_cases q : x[k] = v <;> simp [q]
theorem rCount_any (x : List Int) (v : Int) (n c : Nat) (A : Option Addr) (w : World) (hx : Reads w A (ints x)) (hn : x.length = n) (hl : n ≤ 1000000) :
    Calls Try.prog 21 #[.slice A n c, .int .i64 v] w fun e w' => e = .returned (.int .i64 (x.count v : Nat)) ∧ w' = w := by
  have HN := Lib.hid hn
  clear hn
  go_enter Try.func21, Try.ntmps21
  go_wp2
  go_loop [5, 6] (fun t i => ∃ k m : Nat, i = .int .i64 k ∧ t = .int .i64 m ∧ k ≤ n ∧ m ≤ k ∧ m = (x.take k).count v) (fun _ i => n - (intOf i).toNat)
  case atStart => exact ⟨0, 0, rfl, rfl, by omega, by omega, rfl⟩
  case round =>
    obtain ⟨k, m, rfl, rfl, hk, hmk, hm⟩ := hrel
    have HM := Lib.hid hm
    clear hm
    by_cases hkl : k < n
    · obtain ⟨g, off, rfl, hg, hc⟩ := reads_lit hx (by rw [HN.out]; omega)
      have c1 := hc k (by rw [HN.out]; omega)
      have hs := count_next x v k (by rw [HN.out]; omega)
      rw [← HM.out] at hs
      obtain ⟨y, hy⟩ : ∃ y, x.getD k 0 = y := ⟨_, rfl⟩
      rw [hy] at c1 hs
      have HS := Lib.hid hs
      clear hc hs hy
      have lk : (k : Int) < (n : Int) := by omega
      by_cases q : y = v
      · have hs := HS.out
        rw [if_pos q] at hs
        have HT := Lib.hid hs
        clear hs
        subst q
        go_wp2
        go_round
        case rel => exact ⟨k + 1, m + 1, by go_num, by go_num, by omega, by omega, HT.out.symm⟩
        case measure => simp [intOf]; omega
      · have hs := HS.out
        rw [if_neg q] at hs
        have HT := Lib.hid hs
        clear hs
        go_wp2
        go_round
        case rel => exact ⟨k + 1, m, by go_num, rfl, by omega, by omega, HT.out.symm⟩
        case measure => simp [intOf]; omega
    · have lk : (n : Int) ≤ (k : Int) := by omega
      have e : m = x.count v := by rw [HM.out, List.take_of_length_le (by rw [HN.out]; omega)]
      have HE := Lib.hid e
      clear e
      go_wp2
      go_ret
      exact ⟨rI (by rw [HE.out]), rfl⟩
end Go.Proofs.Yticbnanfijkodaa
