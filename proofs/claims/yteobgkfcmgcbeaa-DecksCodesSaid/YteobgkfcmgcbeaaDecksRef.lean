/-
  The document's codes: letter, Code. Conditions: short lists.
-/
import Derived.Test.YteobgkfcmgcbeaaDecksMath
import Derived.Test.YteobgkfcmgcbeaaSum
import Derived.Test.YteobgkfcmgcbeaaSumLaws
import Derived.Test.YteobgkfcmgcbeaaSame
import Derived.Test.YteobgkfcmgcbeaaDigRef
import Derived.Deep.QuietTactic
import Derived.BigQuiet
import Derived.RegionTactic
import Derived.IntWalk
import Derived.Deep.DeepCutAuto
import Derived.Deep.RegionWith
namespace Go.Proofs.Yteobgkfcmgcbeaa
open Go.ChangeShapes Go.WideShapes Go.ChangeAt Go.RowKit
set_option linter.unusedVariables false
set_option linter.unusedSimpArgs false
set_option maxRecDepth 20000
set_option maxHeartbeats 3200000
theorem rLetter (n : Int) (w : World) (h0 : 0 ≤ n) (h1 : n ≤ 15) : Calls Try.prog 14 #[.int .i64 n] w fun e w' => e = .returned (.string (strOfNums [97 + n])) ∧ Below w.heap.size w w' := by
  have hcv := one_byte (97 + n)
  go_enter Try.func14, Try.ntmps14
  go_wp2
  go_ret
  exact ⟨rfl, (Below.refl _ _).alloc (Nat.le_refl _) _⟩
/-- The letters of the first k numbers. -/
def bodyK (l : List Int) (k : Nat) : ByteArray := strOfNums (bodyC (l.take k))
theorem bodyK_next (l : List Int) {k : Nat} (h : k < l.length) : bodyK l (k + 1) = bodyK l k ++ strOfNums [97 + l[k] / 16] ++ strOfNums [97 + l[k] % 16] := by
  unfold bodyK
  rw [List.take_succ_eq_append_getElem h, str_append, str_append]
  congr 1
  unfold bodyC
  rw [List.flatMap_append]
  simp [cL]
theorem bodyK_size (l : List Int) (k : Nat) : (bodyK l k).size ≤ 2 * l.length := by
  unfold bodyK
  rw [strOfNums_size, bodyC_len, List.length_take]
  omega
theorem okC_at {l : List Int} (h : okC l = true) {k : Nat} (hk : k < l.length) : 0 ≤ l[k] ∧ l[k] ≤ 127 := okC_iff.1 h _ (List.getElem_mem hk)
theorem okC_bad {l : List Int} {k : Nat} (hk : k < l.length) (h : l[k] < 0 ∨ 127 < l[k]) : okC l = false := by
  cases e : okC l with
  | false => rfl
  | true => have := okC_at e hk; omega
theorem ints_len (l : List Int) : (ints l).length = l.length := by simp [ints]
theorem reads_some {w : World} {A : Option Addr} {cs : List Value} (h : Reads w A cs) (hl : 0 < cs.length ∨ ∃ k, k < cs.length) : ∃ x, A = some x := by
  rcases h with rfl | ⟨x, e, _⟩
  · rcases hl with h | ⟨k, h⟩ <;> simp at h
  · exact ⟨x, e⟩
theorem reads_at {w : World} {x : Addr} {cs : List Value} (h : Reads w (some x) cs) {j : Nat} (hj : j < cs.length) : w.cell? (x.add j) = cs[j]? := by
  rcases h with rfl | ⟨y, e, _, hc⟩
  · simp at hj
  · injection e with e; subst e; exact hc j hj
set_option maxHeartbeats 12800000 in
theorem rCode (l : List Int) (A : Option Addr) (n c : Nat) (w : World) (hA : Reads w A (ints l)) (hn : l.length = n) (hl : n ≤ 1000) :
    Calls Try.prog 8 #[.slice A n c] w fun e w' => e = .returned (.string (deckS l)) ∧ Below w.heap.size w w' := by
  have HA := Lib.hid hA
  have HN := Lib.hid hn
  clear hA hn
  have l63 : (n : Int) ≤ 9223372036854775807 := by omega
  go_enter Try.func8, Try.ntmps8
  go_wp2_with fail
  go_loopw [3, 4] (fun s i wr => ∃ k : Nat, i = .int .i64 k ∧ k ≤ n ∧ s = .string (bodyK l k) ∧ Below w.heap.size w wr ∧ okC (l.take k) = true) (fun _ i _ => n - (intOf i).toNat)
  case atStart => exact ⟨0, by go_num, Nat.zero_le _, rfl, Below.refl _ _, rfl⟩
  case round =>
    obtain ⟨k, rfl, hk, rfl, hB, hok⟩ := hrel
    have HB := Lib.hid hB
    have HOK := Lib.hid hok
    clear hB hok
    have zs := bodyK_size l k
    have zs2 : (bodyK l k).size ≤ 2000 := by have := HN.out; omega
    clear zs
    by_cases hlt : k < n
    · have hk1 : k < l.length := by rw [HN.out]; exact hlt
      obtain ⟨x, rfl⟩ := reads_some HA.out (.inr ⟨k, by rw [ints_len]; exact hk1⟩)
      have hnx := bodyK_next l hk1
      obtain ⟨v, hv⟩ : ∃ v, v = l[k] := ⟨_, rfl⟩
      have HC : Hid (∀ y, Below w.heap.size w y → y.cell? (x.add k) = some (.int .i64 v)) := Lib.hid fun y hb => by
        rw [reads_at (HA.out.below hb) (by rw [ints_len]; exact hk1), hv]
        simp [ints, hk1]
      rw [← hv] at hnx
      have HNX := Lib.hid hnx
      clear hnx
      have lk : (k : Int) < (n : Int) := by omega
      have d0 := HC.out _ HB.out
      by_cases h0 : v < 0
      · have hbad := Lib.hid (okC_bad hk1 (by rw [← hv]; exact .inl h0))
        clear hv
        go_wp2_with fail
        go_ret
        exact ⟨by unfold deckS; rw [hbad.out]; rfl, HB.out⟩
      · by_cases h1 : 127 < v
        · have hbad := Lib.hid (okC_bad hk1 (by rw [← hv]; exact .inr h1))
          clear hv
          go_wp2_with fail
          go_ret
          exact ⟨by unfold deckS; rw [hbad.out]; rfl, HB.out⟩
        · have HV : Hid (okC (l.take (k + 1)) = true) := Lib.hid (okC_iff.2 fun m hm => by
            rw [List.take_succ_eq_append_getElem hk1] at hm
            rcases List.mem_append.1 hm with hm | hm
            · exact okC_iff.1 HOK.out m hm
            · cases List.mem_singleton.1 hm; rw [← hv]; omega)
          clear hv hk1
          have q0 : 0 ≤ v.tdiv 16 ∧ v.tdiv 16 ≤ 15 ∧ 97 + v / 16 = 97 + v.tdiv 16 := by rw [Int.tdiv_eq_ediv_of_nonneg (by omega)]; omega
          have q1 : 0 ≤ v.tmod 16 ∧ v.tmod 16 ≤ 15 ∧ 97 + v % 16 = 97 + v.tmod 16 := by rw [Int.tmod_eq_emod_of_nonneg (by omega)]; omega
          have hnx := HNX.out
          rw [q0.2.2, q1.2.2] at hnx
          have HNX := Lib.hid hnx
          obtain ⟨a, ha⟩ : ∃ a, v.tdiv 16 = a := ⟨_, rfl⟩
          obtain ⟨b, hb⟩ : ∃ b, v.tmod 16 = b := ⟨_, rfl⟩
          rw [ha, hb] at HNX
          rw [ha] at q0
          rw [hb] at q1
          have a0 := q0.1
          have a1 := q0.2.1
          have b0 := q1.1
          have b1 := q1.2.1
          have hL : ∀ m, m = a ∨ m = b → ∀ w, Calls Try.prog 14 #[.int .i64 m] w fun e w' => e = .returned (.string (strOfNums [97 + m])) ∧ Below w.heap.size w w' := by
            rintro m (rfl | rfl) w
            · exact rLetter _ w a0 a1
            · exact rLetter _ w b0 b1
          have z1 : ∀ m : Int, (strOfNums [m]).size = 1 := fun m => strOfNums_size _
          have wa : IntKind.i64.wrap a = a := IntWalk.i64_in _ (by omega)
          have wb : IntKind.i64.wrap b = b := IntWalk.i64_in _ (by omega)
          clear q0 q1
          clear hnx
          go_upto_region 7 with fail
          have DR : Below w.heap.size w wr.drew := below_drew1 HB.out
          have d1 := HC.out _ DR
          have HD := Lib.hid DR
          clear d0
          go_region_with (go_at_call 14; refine (hL _ (by first | exact .inl rfl | exact .inr rfl) _).mono ?_; rintro e wn ⟨rfl, bn⟩; have HD := Lib.hid (HD.out.trans (bn.mono HD.out.size)); have d1 := HC.out _ HD.out; clear bn)
          all_goals
            go_wp2
            go_roundw
            case rel => exact ⟨k + 1, by go_num, by omega, by rw [HNX.out], HD.out, HV.out⟩
            case measure => simp [intOf]; omega
    · obtain rfl : k = n := by omega
      have hall : okC l = true := by
        have := HOK.out
        rwa [List.take_of_length_le (by have := HN.out; omega)] at this
      have hbl : bodyK l k = strOfNums (bodyC l) := by unfold bodyK; rw [List.take_of_length_le (by have := HN.out; omega)]
      have hD : deckS l = bodyK l k ++ strOfNums (sumC (bodyK l k)) := by
        unfold deckS codeC
        rw [if_pos hall, hbl]
      obtain ⟨s, hs⟩ : ∃ s, s = bodyK l k := ⟨_, rfl⟩
      rw [← hs] at hD zs2 ⊢
      have hO : ∀ w, Calls Try.prog 15 #[.string s] w fun e w' => e = .returned (.tuple #[.int .i64 (sumK s s.size).1, .int .i64 (sumK s s.size).2]) ∧ w = w' := fun w => rOf_any s w (by omega)
      unfold sumC at hD
      obtain ⟨a1, a2, b1, b2⟩ := sumK_bd s s.size
      generalize (sumK s s.size).1 = X at *
      generalize (sumK s s.size).2 = Y at *
      obtain ⟨p, hp⟩ : ∃ p, X.tmod 16 = p := ⟨_, rfl⟩
      obtain ⟨q, hq⟩ : ∃ q, Y.tmod 16 = q := ⟨_, rfl⟩
      have ep : X % 16 = p := by rw [← hp, Int.tmod_eq_emod_of_nonneg a1]
      have eq : Y % 16 = q := by rw [← hq, Int.tmod_eq_emod_of_nonneg b1]
      rw [ep, eq] at hD
      have p0 : 0 ≤ p := by omega
      have p1 : p ≤ 15 := by omega
      have q0 : 0 ≤ q := by omega
      have q1 : q ≤ 15 := by omega
      have wp : IntKind.i64.wrap p = p := IntWalk.i64_in _ (by omega)
      have wq : IntKind.i64.wrap q = q := IntWalk.i64_in _ (by omega)
      have hL : ∀ m, m = p ∨ m = q → ∀ w, Calls Try.prog 14 #[.int .i64 m] w fun e w' => e = .returned (.string (strOfNums [97 + m])) ∧ Below w.heap.size w w' := by
        rintro m (rfl | rfl) w
        · exact rLetter _ w p0 p1
        · exact rLetter _ w q0 q1
      have z1 : ∀ m : Int, (strOfNums [m]).size = 1 := fun m => strOfNums_size _
      have HD := Lib.hid hD
      clear hD hs hbl hall ep eq a1 a2 b1 b2
      have lk : ¬ (k : Int) < (k : Int) := by omega
      go_wp2_with (first
        | (go_at_call 15; refine (hO _).mono ?_; rintro e wn ⟨rfl, rfl⟩)
        | (go_at_call 14; refine (hL _ (by first | exact .inl rfl | exact .inr rfl) _).mono ?_; rintro e wn ⟨rfl, bn⟩; have HB := Lib.hid (HB.out.trans (bn.mono HB.out.size)); clear bn))
      all_goals
        go_ret
        refine ⟨?_, HB.out⟩
        rw [HD.out, show ([97 + p, 97 + q] : List Int) = [97 + p] ++ [97 + q] from rfl, ← str_append, ByteArray.append_assoc]
        rfl
end Go.Proofs.Yteobgkfcmgcbeaa
