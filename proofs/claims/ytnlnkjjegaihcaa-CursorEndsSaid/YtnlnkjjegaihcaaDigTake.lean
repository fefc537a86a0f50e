/-
  The contracts of digits.Take, digits.Parse and of their helpers. Conditions: a string is no longer than a string can be; the numbers are int64's.
-/
import Derived.Test.YtnlnkjjegaihcaaBase
import Derived.Test.YtnlnkjjegaihcaaDigitsMath
import Derived.Test.YtnlnkjjegaihcaaRet
import Derived.IntWalk
namespace Go.Proofs.Ytnlnkjjegaihcaa
open Go.ChangeShapes Go.WideShapes Go.ChangeAt Go.RowKit
set_option linter.unusedVariables false
set_option linter.unusedSimpArgs false
theorem digitsEnd_any (s : ByteArray) (a : Nat) (w : World) (hs : s.size ≤ 140737488355328) (ha : a ≤ s.size) : Calls Try.prog 69 #[.string s, .int .i64 a] w fun e w' => e = .returned (.int .i64 ((a + (firstD ((bL s).drop a)).length : Nat) : Int)) ∧ w = w' := by
  go_enter Try.func69, Try.ntmps69
  go_wp2
  go_loop [1] (fun i => ∃ k : Nat, i = .int .i64 k ∧ k ≤ s.size ∧ k + (firstD ((bL s).drop k)).length = a + (firstD ((bL s).drop a)).length) (fun i => s.size - (intOf i).toNat)
  case atStart => exact ⟨a, rfl, ha, rfl⟩
  case round =>
    obtain ⟨k, rfl, hk, he⟩ := hrel
    by_cases h : k < s.size
    · have g := gB_eq s k h
      have hd := bL_drop s k h
      have l1 : (k : Int) < (s.size : Int) := by omega
      have l0 : decide (s.size ≤ k) = false := by simp; omega
      cases hD : isD (gB s k : Int) with
      | true =>
        have hD' := (isD_iff _).1 hD
        rw [hd, firstD_cons _ hD, List.length_cons] at he
        rw [g] at hD'
        have b1 : (48 : Int) ≤ ((s[k]'h).toNat : Int) := hD'.1
        have b2 : ((s[k]'h).toNat : Int) ≤ 57 := hD'.2
        have HE := Lib.hid he
        clear he hd hD hD' g
        go_wp2
        go_round
        case rel => exact ⟨k + 1, by go_num, by omega, by have := HE.out; omega⟩
        case measure => simp [intOf]; omega
      | false =>
        rw [hd, firstD_stop _ hD] at he
        have hE : k = a + (firstD ((bL s).drop a)).length := he
        have hD' : ¬ (48 ≤ (gB s k : Int) ∧ (gB s k : Int) ≤ 57) := fun c => by rw [(isD_iff _).2 c] at hD; cases hD
        rw [g] at hD'
        have HE := Lib.hid hE
        clear he hd hD g hE
        by_cases b1 : (48 : Int) ≤ ((s[k]'h).toNat : Int)
        · have b2 : ¬ ((s[k]'h).toNat : Int) ≤ 57 := fun c => hD' ⟨b1, c⟩
          clear hD'
          go_wp2
          go_ret
          exact ⟨rI (by have := HE.out; omega), rfl⟩
        · clear hD'
          go_wp2
          go_ret
          exact ⟨rI (by have := HE.out; omega), rfl⟩
    · rw [bL_drop_nil s k (by omega)] at he
      have hE : k = a + (firstD ((bL s).drop a)).length := he
      have HE := Lib.hid hE
      clear he hE
      go_wp2
      go_ret
      exact ⟨rI (by have := HE.out; omega), rfl⟩
/-- Take's three answers. -/
def takeV (x : Int × Int × Bool) : Value := .tuple #[.int .i64 x.1, .int .i64 x.2.1, .bool x.2.2]
theorem dTake_any (s : ByteArray) (a most : Int) (w : World) (hs : s.size ≤ 140737488355328) (m1 : -9223372036854775808 ≤ most) (m2 : most ≤ 9223372036854775807) (a1 : -9223372036854775808 ≤ a) (a2 : a ≤ 9223372036854775807) :
    Calls Try.prog 60 #[.string s, .int .i64 a, .int .i64 most] w fun e w' => e = .returned (takeV (takeOf s a most)) ∧ w = w' := by
  by_cases h0 : a < 0
  · have T := Lib.hid (show takeOf s a most = (0, 0, false) by unfold takeOf; rw [if_pos (.inl h0)])
    go_enter Try.func60, Try.ntmps60
    go_wp2
    go_ret3
    exact ⟨by rw [T.out]; rfl, rfl⟩
  · by_cases h1 : (s.size : Int) ≤ a
    · have T := Lib.hid (show takeOf s a most = (0, 0, false) by unfold takeOf; rw [if_pos (.inr h1)])
      go_enter Try.func60, Try.ntmps60
      go_wp2
      go_ret3
      exact ⟨by rw [T.out]; rfl, rfl⟩
    · obtain ⟨i, rfl⟩ : ∃ i : Nat, a = i := ⟨a.toNat, by omega⟩
      have hi : i < s.size := by omega
      obtain ⟨D, hD⟩ : ∃ D, firstD ((bL s).drop i) = D := ⟨_, rfl⟩
      have hend := digitsEnd_any s i
      have htk : takeOf s i most = if D ≠ [] ∧ (D.length : Int) ≤ most ∧ D.length ≤ 9 ∧ plain D = true then (valL D, (i : Int) + (D.length : Int), true) else (0, 0, false) := by
        unfold takeOf
        rw [if_neg (by omega), Int.toNat_natCast, hD]
      rw [hD] at hend
      have hle : D.length ≤ s.size - i := by
        have := firstD_len ((bL s).drop i)
        rw [hD, List.length_drop, bL_length] at this
        exact this
      have hdr := firstD_take ((bL s).drop i)
      rw [hD] at hdr
      have l1 : decide ((i : Int) < 0) = false := by simp
      have l2 : decide (s.size ≤ i) = false := by simp; omega
      have l3 : (i : Int) < (s.size : Int) := by omega
      have HDR := Lib.hid hdr
      have hsub : (i : Int) + (D.length : Int) - (i : Int) = (D.length : Int) := by omega
      have hD' : ∀ x ∈ D, 48 ≤ x ∧ x ≤ 57 := fun x hx => firstD_isD _ x (by rw [hD]; exact hx)
      clear hdr hD
      by_cases c0 : D.length = 0
      · rw [if_neg (fun c => c.1 (List.eq_nil_of_length_eq_zero c0))] at htk
        have T := Lib.hid htk
        clear htk
        go_enter Try.func60, Try.ntmps60
        go_wp2_with (go_at_call 69; refine (hend _ hs (by omega)).mono ?_; rintro e w' ⟨rfl, rfl⟩)
        go_ret3
        exact ⟨by rw [T.out]; rfl, rfl⟩
      · have n0 : ((D.length : Int) == 0) = false := by rw [beq_eq_false_iff_ne]; omega
        by_cases c1 : most < (D.length : Int)
        · rw [if_neg (fun c => by omega)] at htk
          have T := Lib.hid htk
          clear htk
          go_enter Try.func60, Try.ntmps60
          go_wp2_with (go_at_call 69; refine (hend _ hs (by omega)).mono ?_; rintro e w' ⟨rfl, rfl⟩)
          go_ret3
          exact ⟨by rw [T.out]; rfl, rfl⟩
        · by_cases c2 : 9 < (D.length : Int)
          · rw [if_neg (fun c => by omega)] at htk
            have T := Lib.hid htk
            clear htk
            go_enter Try.func60, Try.ntmps60
            go_wp2_with (go_at_call 69; refine (hend _ hs (by omega)).mono ?_; rintro e w' ⟨rfl, rfl⟩)
            go_ret3
            exact ⟨by rw [T.out]; rfl, rfl⟩
          · have g0 : D[0]? = some ((s[i]'hi).toNat : Int) := by
              have h := congrArg (fun l : List Int => l[0]?) HDR.out
              rw [List.getElem?_take_of_lt (by omega), List.getElem?_drop, Nat.add_zero, bL_get s i hi, gB_eq s i hi] at h
              exact h.symm
            have hpl : plain D = (!(((s[i]'hi).toNat : Int) == 48) || decide (D.length = 1)) := by
              unfold plain
              rw [g0]
              rw [Bool.eq_iff_iff]; simp
            cases hp : plain D with
            | false =>
              rw [if_neg (fun c => by rw [hp] at c; exact absurd c.2.2.2 (by simp))] at htk
              have T := Lib.hid htk
              rw [hp] at hpl
              have e1 : (((s[i]'hi).toNat : Int) == 48) = true := by
                cases h : (((s[i]'hi).toNat : Int) == 48) with
                | true => rfl
                | false => rw [h] at hpl; simp at hpl
              have e2 : 1 < (D.length : Int) := by
                rw [e1] at hpl
                simp at hpl
                omega
              clear htk hp hpl g0
              go_enter Try.func60, Try.ntmps60
              go_wp2_with (go_at_call 69; refine (hend _ hs (by omega)).mono ?_; rintro e w' ⟨rfl, rfl⟩)
              go_ret3
              exact ⟨by rw [T.out]; rfl, rfl⟩
            | true =>
              rw [if_pos ⟨fun c => c0 (by rw [c]; rfl), by omega, by omega, hp⟩] at htk
              have T := Lib.hid htk
              rw [hp] at hpl
              have e : (((s[i]'hi).toNat : Int) == 48) = false ∨ (((s[i]'hi).toNat : Int) == 48) = true ∧ (D.length : Int) ≤ 1 := by
                cases h : (((s[i]'hi).toNat : Int) == 48) with
                | false => exact .inl rfl
                | true => rw [h] at hpl; simp at hpl; exact .inr ⟨rfl, by omega⟩
              have hb : ∀ k (hk : k < D.length), ∃ hz : i + k < s.size, D[k] = ((s[i + k]'hz).toNat : Int) := by
                intro k hk
                have hz : i + k < s.size := by omega
                refine ⟨hz, ?_⟩
                have h := congrArg (fun l : List Int => l[k]?) HDR.out
                rw [List.getElem?_take_of_lt (by omega), List.getElem?_drop, bL_get s (i + k) hz, gB_eq s (i + k) hz, List.getElem?_eq_getElem hk] at h
                exact (Option.some.inj h).symm
              have hdd : ∀ x ∈ D, 48 ≤ x ∧ x ≤ 57 := hD'
              clear htk hp hpl g0
              have HBB := Lib.hid hb
              have HDD := Lib.hid hdd
              clear hb hdd
              rcases e with e | ⟨e, e'⟩
              all_goals
                go_enter Try.func60, Try.ntmps60
                go_wp2_with (go_at_call 69; refine (hend _ hs (by omega)).mono ?_; rintro e w' ⟨rfl, rfl⟩)
                go_loop [6, 10, 45] (fun n _ j => ∃ k : Nat, j = .int .i64 k ∧ k ≤ D.length ∧ n = .int .i64 (valL (D.take k))) (fun _ _ j => D.length - (intOf j).toNat)
                case atStart => exact ⟨0, rfl, by omega, rfl⟩
                case round =>
                  obtain ⟨k, rfl, hk, rfl⟩ := hrel
                  by_cases hkl : k < D.length
                  · obtain ⟨hz, hx⟩ := HBB.out k hkl
                    have hv := valL_nonneg (D.take k) (fun x hx => HDD.out x (List.mem_of_mem_take hx))
                    have hlen : (D.take k).length = k := by rw [List.length_take]; omega
                    rw [hlen] at hv
                    have hv2 : valL (D.take k) < 1000000000 := Int.lt_of_lt_of_le hv.2 (pow10_le (show k ≤ 9 by omega))
                    have hv1 := hv.1
                    have hd := HDD.out _ (List.getElem_mem hkl)
                    rw [hx] at hd
                    obtain ⟨hd1, hd2⟩ := hd
                    have hs2 : valL (D.take (k + 1)) = 10 * valL (D.take k) + (((s[i + k]'hz).toNat : Int) - 48) := by
                      rw [List.take_succ_eq_append_getElem hkl, valL_snoc, hx]
                    have HS := Lib.hid hs2
                    have lk : (k : Int) < (D.length : Int) := by omega
                    have li : (i : Int) + (k : Int) < (s.size : Int) := by omega
                    clear hs2 hv hx hlen
                    generalize valL (D.take k) = V at *
                    go_wp2
                    go_round
                    case rel => exact ⟨k + 1, by go_num, by omega, by rw [HS.out]⟩
                    case measure => simp [intOf]; omega
                  · obtain rfl : k = D.length := by omega
                    have HL := Lib.hid (show valL (D.take D.length) = valL D by rw [List.take_length])
                    clear hk hkl
                    go_wp2
                    go_ret3
                    exact ⟨by rw [T.out]; exact rV (by unfold takeV; rw [← HL.out]; rfl), rfl⟩
/-- A number or none, as two answers. -/
def optV (o : Option Int) : Value := .tuple #[.int .i64 (o.getD 0), .bool o.isSome]
theorem wholeL_bd {l : List Int} {n : Int} (h : wholeL l = some n) : 0 ≤ n ∧ n ≤ 999999999 := ⟨((wholeL_iff l n).1 h).1, ((wholeL_iff l n).1 h).2.1⟩
end Go.Proofs.Ytnlnkjjegaihcaa
