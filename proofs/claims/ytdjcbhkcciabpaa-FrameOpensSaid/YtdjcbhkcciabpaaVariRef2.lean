/-
  The contracts of the document's answer for layer 4: Take and TakeSigned. Conditions: a string is no longer than a string can be, the index is an int64.
-/
import Derived.Test.YtdjcbhkcciabpaaVariRef
import Derived.Deep.RegionHeld3
namespace Go.Proofs.Ytdjcbhkcciabpaa
open Go.ChangeShapes Go.WideShapes Go.ChangeAt Go.RowKit
set_option linter.unusedVariables false
set_option linter.unusedSimpArgs false
theorem slice_kk {P : Program} (t : TypeId) (h : P.underlying t = some .string) (s : ByteArray) (lo hi : Int) (h0 : 0 ≤ lo) (h1 : lo ≤ hi) (h2 : hi ≤ s.size) (w : World) :
    (Instr.slice t (.string s) (some (.int .i64 lo)) (some (.int .i64 hi)) none).run P w = .ok (.string (s.extract lo.toNat hi.toNat)) w := by
  rw [run_slice_string w t s .i64 .i64 _ _ h (by omega) (by omega) (by omega)]
theorem valG_drop {l : List Int} {t : Nat} (h : t < l.length) : valG (l.drop t) = l[t] % 128 + 128 * valG (l.drop (t + 1)) := by
  rw [List.drop_eq_getElem_cons h]; rfl
/-- The test at the end: are they the bytes of their number? -/
theorem bytes_test (T : List Int) (hT : ∀ x ∈ T, 0 ≤ x ∧ x < 256) (h0 : T ≠ []) : ((bytesS (valG T)).toList == (strOfNums T).toList) = decide (encL (valG T).toNat = T ∧ valG T ≤ 2147483647) := by
  unfold bytesS
  rw [str_eq_iff _ _ (bytesL_by _) hT, Bool.eq_iff_iff, decide_eq_true_iff, decide_eq_true_iff]
  have hb := (valG_bd T).1
  by_cases h : valG T ≤ 2147483647
  · rw [bytesL_in hb h]
    exact ⟨fun e => ⟨e, h⟩, fun e => e.1⟩
  · rw [bytesL_out (by omega)]
    exact ⟨fun e => absurd e.symm h0, fun e => absurd e.2 h⟩
theorem lead_drop {l : List Int} {j : Nat} (h : j + (lead (l.drop j)).length = (lead l).length) (hj : j < l.length) :
    (l[j] < 128 → (lead l).length = j) ∧ (128 ≤ l[j] → (j + 1) + (lead (l.drop (j + 1))).length = (lead l).length) := by
  rw [List.drop_eq_getElem_cons hj] at h
  constructor
  · intro c
    rw [lead_stop _ c] at h
    simpa using h.symm
  · intro c
    rw [lead_cons _ c, List.length_cons] at h
    omega
theorem valG_bd4 (l : List Int) (h : l.length ≤ 4) : 0 ≤ valG l ∧ valG l < 268435456 := by
  have hb := valG_bd l
  have h4 : l.length = 0 ∨ l.length = 1 ∨ l.length = 2 ∨ l.length = 3 ∨ l.length = 4 := by omega
  rcases h4 with h4 | h4 | h4 | h4 | h4 <;> rw [h4] at hb <;> omega
theorem valG_bd5 (l : List Int) (h : l.length ≤ 5) : 0 ≤ valG l ∧ valG l < 34359738368 := by
  have hb := valG_bd l
  have h4 : l.length = 0 ∨ l.length = 1 ∨ l.length = 2 ∨ l.length = 3 ∨ l.length = 4 ∨ l.length = 5 := by omega
  rcases h4 with h4 | h4 | h4 | h4 | h4 | h4 <;> rw [h4] at hb <;> omega
set_option maxRecDepth 20000 in
theorem rTake_any (s : ByteArray) (a : Int) (w : World) (hs : s.size ≤ 140737488355328) (a1 : -9223372036854775808 ≤ a) (a2 : a ≤ 9223372036854775807) :
    Calls Try.prog 20 #[.string s, .int .i64 a] w fun e w' => e = .returned (takeV3 (vtakeOf s a)) ∧ Below w.heap.size w w' := by
  by_cases h0 : a < 0
  · have T := Lib.hid (vtakeOf_out s a (.inl h0))
    go_enter Try.func20, Try.ntmps20
    go_wp2
    go_ret3
    exact ⟨by rw [T.out]; rfl, Below.refl _ _⟩
  · by_cases h1 : (s.size : Int) < a
    · have T := Lib.hid (vtakeOf_out s a (.inr h1))
      go_enter Try.func20, Try.ntmps20
      go_wp2
      go_ret3
      exact ⟨by rw [T.out]; rfl, Below.refl _ _⟩
    · obtain ⟨i, rfl⟩ : ∃ i : Nat, a = i := ⟨a.toNat, by omega⟩
      have hi : i ≤ s.size := by omega
      have hok := vtakeOf_ok s (i : Int) (by omega) (by omega)
      have hno := vtakeOf_no s (i : Int) (by omega) (by omega)
      rw [Int.toNat_natCast] at hok hno
      have hL : ((bL s).drop i).length = s.size - i := by rw [List.length_drop, bL_length]
      have hg : ∀ j (h : j < ((bL s).drop i).length) (hz : i + j < s.size), ((bL s).drop i)[j] = ((s[i + j]'hz).toNat : Int) := by
        intro j h hz
        have h2 := bL_get s (i + j) hz
        rw [gB_eq s (i + j) hz] at h2
        rw [List.getElem_drop]
        rw [List.getElem?_eq_getElem (by rw [bL_length]; exact hz)] at h2
        exact Option.some.inj h2
      have hby : ∀ x ∈ (bL s).drop i, 0 ≤ x ∧ x < 256 := fun x hx => bL_bd s x (List.mem_of_mem_drop hx)
      have hcut : ∀ n, i + n ≤ s.size → s.extract i (i + n) = strOfNums (((bL s).drop i).take n) := by
        intro n hn
        rw [← bL_extract s i n hn, str_bL]
      generalize (bL s).drop i = L at *
      have HOK := Lib.hid hok
      have HNO := Lib.hid hno
      have HL := Lib.hid hL
      have HG := Lib.hid hg
      have HC := Lib.hid hcut
      have HBY := Lib.hid hby
      clear hok hno hL hg hcut hby
      have l0 : decide ((i : Int) < 0) = false := by simp
      go_enter Try.func20, Try.ntmps20
      go_wp2
      go_loop [7] (fun k => ∃ j : Nat, k = .int .i64 ((i + j : Nat) : Int) ∧ j ≤ 5 ∧ i + j ≤ s.size ∧ j + (lead (L.drop j)).length = (lead L).length) (fun k => 5 + i - (intOf k).toNat)
      case atStart => exact ⟨0, rfl, by omega, by omega, by simp⟩
      case round =>
        obtain ⟨j, rfl, hj5, hjs, he⟩ := hrel
        obtain ⟨k, hk⟩ : ∃ k, i + j = k := ⟨_, rfl⟩
        rw [hk]
        by_cases c1 : k < s.size
        · have hx := HG.out j (by have := HL.out; omega) (by omega)
          have hl := lead_drop he (by have := HL.out; omega)
          rw [hx] at hl
          simp only [hk] at hl hx
          have l1 : (k : Int) < (s.size : Int) := by omega
          by_cases c2 : j < 5
          · have l2 : (k : Int) < (i : Int) + 5 := by omega
            by_cases c3 : ((s[k]'c1).toNat : Int) < 128
            · have HE := Lib.hid (hl.1 c3)
              have l3 : ¬ (127 : Int) < ((s[k]'c1).toNat : Int) := by omega
              have l4 : ¬ ((k : Int) = (s.size : Int)) := by omega
              clear he hl hx
              have l5 : ((k : Int) == (s.size : Int)) = false := by rw [beq_eq_false_iff_ne]; omega
              have l6 : ((k : Int) == (i : Int) + 5) = false := by rw [beq_eq_false_iff_ne]; omega
              have HK := Lib.hid hk
              clear hk
              go_wp2
              go_loop [8, 9] (fun n x => ∃ t : Nat, t ≤ j + 1 ∧ x = .int .i64 ((i : Int) + (t : Int) - 1) ∧ n = .int .i64 (valG ((L.take (j + 1)).drop t))) (fun _ x => (intOf x + 1).toNat)
              case atStart => exact ⟨j + 1, by omega, by have := HK.out; exact vI (by omega), by rw [List.drop_eq_nil_of_le (by rw [List.length_take]; omega)]; rfl⟩
              case round =>
                obtain ⟨t, ht, rfl, rfl⟩ := hrel
                cases t with
                | zero =>
                  rw [show (i : Int) + ((0 : Nat) : Int) - 1 = (i : Int) - 1 from by omega, List.drop_zero]
                  obtain ⟨z, hz⟩ : ∃ z, (i : Int) - 1 = z := ⟨_, rfl⟩
                  have hz1 : z < (i : Int) := by omega
                  rw [hz]
                  clear hz
                  have hkk := HK.out
                  have hln := HL.out
                  have hlj := HE.out
                  obtain ⟨hV0, hV1⟩ := valG_bd5 (L.take (j + 1)) (by rw [List.length_take]; omega)
                  have htk := takeP_iff L (by omega) (by omega)
                  rw [hlj] at htk
                  have hl2 : (L.take (j + 1)).length = j + 1 := by rw [List.length_take]; omega
                  have hne : L.take (j + 1) ≠ [] := fun c => by rw [c] at hl2; simp at hl2
                  have hbt := bytes_test (L.take (j + 1)) (fun x hx => HBY.out x (List.mem_of_mem_take hx)) hne
                  rw [← HC.out (j + 1) (by omega), show i + (j + 1) = k + 1 from by omega] at hbt
                  have hsl := slice_kk (P := Try.prog) 9 (by kernel_rfl) s (i : Int) ((k : Int) + 1) (by omega) (by omega) (by omega)
                  rw [Int.toNat_natCast, show ((k : Int) + 1).toNat = k + 1 from by omega] at hsl
                  have hrb := rBytes_any (valG (L.take (j + 1))) (by omega) (by omega)
                  have hw1 : IntKind.i64.wrap ((k : Int) + 1) = (k : Int) + 1 := by rw [IntKind.wrap_i64]; omega
                  have hx1 : (s.extract i (k + 1)).size = k + 1 - i := by rw [ByteArray.size_extract]; omega
                  by_cases hc : encL (valG (L.take (j + 1))).toNat = L.take (j + 1) ∧ valG (L.take (j + 1)) ≤ 2147483647
                  · rw [decide_eq_true hc] at hbt
                    rw [if_pos hc] at htk
                    have T := HOK.out (by rw [htk])
                    rw [htk, show (i : Int) + ((j + 1 : Nat) : Int) = (k : Int) + 1 from by omega] at T
                    have T2 := Lib.hid T
                    have hbt2 : ((bytesS (valG (L.take (j + 1)))).toList != (s.extract i (k + 1)).toList) = false := by unfold bne; rw [hbt]; rfl
                    clear T
                    clear hlj hkk hln htk hc hl2 hne
                    generalize valG (L.take (j + 1)) = V at *
                    go_wp2_with fail
                    go_region_held3 (fun x => Below w.heap.size w x) (first
                      | assumption
                      | exact below_drew1 (Below.refl _ _)
                      | exact bthen (by assumption) b1) (first
                      | (go_at_call 17; (with_reducible refine (hrb _).mono ?_); rintro e w1 ⟨rfl, b1⟩))
                    go_wp2
                    go_ret3
                    exact ⟨by rw [T2.out]; rfl, by assumption⟩
                  · rw [decide_eq_false hc] at hbt
                    rw [if_neg hc] at htk
                    have T := HNO.out (by rw [htk]; decide)
                    rw [htk] at T
                    have T2 := Lib.hid T
                    have hbt2 : ((bytesS (valG (L.take (j + 1)))).toList != (s.extract i (k + 1)).toList) = true := by unfold bne; rw [hbt]; rfl
                    clear T
                    clear hlj hkk hln htk hc hl2 hne
                    generalize valG (L.take (j + 1)) = V at *
                    go_wp2_with fail
                    go_region_held3 (fun x => Below w.heap.size w x) (first
                      | assumption
                      | exact below_drew1 (Below.refl _ _)
                      | exact bthen (by assumption) b1) (first
                      | (go_at_call 17; (with_reducible refine (hrb _).mono ?_); rintro e w1 ⟨rfl, b1⟩))
                    go_wp2
                    go_ret3
                    exact ⟨by rw [T2.out]; rfl, by assumption⟩
                | succ u =>
                  obtain ⟨k2, hk2⟩ : ∃ k2, i + u = k2 := ⟨_, rfl⟩
                  have hkk := HK.out
                  have c4 : k2 < s.size := by omega
                  have hln := HL.out
                  have hx : L[u]'(by omega) = ((s[k2]'c4).toNat : Int) := by subst hk2; exact HG.out u (by omega) c4
                  have hv := valG_drop (l := L.take (j + 1)) (t := u) (by rw [List.length_take]; omega)
                  rw [List.getElem_take, hx] at hv
                  obtain ⟨hV0, hV1⟩ := valG_bd4 ((L.take (j + 1)).drop (u + 1)) (by rw [List.length_drop, List.length_take]; omega)
                  rw [show (i : Int) + ((u + 1 : Nat) : Int) - 1 = (k2 : Int) from by omega]
                  have HV := Lib.hid hv
                  have HK2 := Lib.hid hk2
                  have l7 : (k2 : Int) < (s.size : Int) := by omega
                  have l8 : (i : Int) ≤ (k2 : Int) := by omega
                  have b0 : (0 : Int) ≤ ((s[k2]'c4).toNat : Int) := by omega
                  have b1 : ((s[k2]'c4).toNat : Int) < 256 := by have := (s[k2]'c4).toNat_lt; omega
                  clear hv hx hk2 hkk hln
                  generalize valG ((L.take (j + 1)).drop (u + 1)) = V at *
                  go_wp2
                  go_round
                  case rel => exact ⟨u, by omega, by have := HK2.out; exact vI (by omega), by rw [HV.out]; exact vI (by omega)⟩
                  case measure => (simp [intOf]) <;> omega
            · have HE := Lib.hid (hl.2 (by omega))
              have l3 : (127 : Int) < ((s[k]'c1).toNat : Int) := by omega
              have HK := Lib.hid hk
              clear he hl hx hk
              go_wp2
              go_round
              case rel => exact ⟨j + 1, by have := HK.out; go_num, by omega, by have := HK.out; omega, HE.out⟩
              case measure => have := HK.out; simp [intOf]; omega
          · have hj : j = 5 := by omega
            have htk : takeP L = (0, 0, 4) := by unfold takeP; rw [if_pos (by omega)]
            have T0 := HNO.out (by rw [htk]; decide)
            rw [htk] at T0
            have T := Lib.hid T0
            clear T0
            have l2 : (k : Int) = (i : Int) + 5 := by omega
            have l4 : ((k : Int) == (s.size : Int)) = false := by rw [beq_eq_false_iff_ne]; omega
            have l5 : ((k : Int) == (i : Int) + 5) = true := by rw [beq_iff_eq]; exact l2
            have l6 : ¬ (k : Int) < (i : Int) + 5 := by omega
            clear he hl hx hk hj htk l2
            go_wp2
            go_ret3
            exact ⟨by rw [T.out]; rfl, Below.refl _ _⟩
        · have l1 : ¬ (k : Int) < (s.size : Int) := by omega
          have l4 : ((k : Int) == (s.size : Int)) = true := by rw [beq_iff_eq]; omega
          have hK : (lead L).length = j := by
            rw [List.drop_eq_nil_of_le (by have := HL.out; omega)] at he
            simpa [lead] using he.symm
          by_cases c2 : j < 5
          · have htk : takeP L = (0, 0, 2) := by unfold takeP; rw [if_neg (by omega), if_pos (by have := HL.out; omega)]
            have T0 := HNO.out (by rw [htk]; decide)
            rw [htk] at T0
            have T := Lib.hid T0
            clear T0
            have l6 : (k : Int) < (i : Int) + 5 := by omega
            clear he hk htk hK
            go_wp2
            go_ret3
            exact ⟨by rw [T.out]; rfl, Below.refl _ _⟩
          · have htk : takeP L = (0, 0, 4) := by unfold takeP; rw [if_pos (by omega)]
            have T0 := HNO.out (by rw [htk]; decide)
            rw [htk] at T0
            have T := Lib.hid T0
            clear T0
            have l2 : (k : Int) = (i : Int) + 5 := by omega
            have l5 : ((k : Int) == (i : Int) + 5) = true := by rw [beq_iff_eq]; exact l2
            have l6 : ¬ (k : Int) < (i : Int) + 5 := by omega
            clear he hk htk hK l2
            go_wp2
            go_ret3
            exact ⟨by rw [T.out]; rfl, Below.refl _ _⟩
end Go.Proofs.Ytdjcbhkcciabpaa
