/-
  The contract of the document's answer for layer 3: Parse. Conditions: a string is no longer than a string can be.
-/
import Derived.Test.YtopbpajlmhfakaaDigRef
namespace Go.Proofs.Ytopbpajlmhfakaa
open Go.ChangeShapes Go.WideShapes Go.ChangeAt Go.RowKit
set_option linter.unusedVariables false
set_option linter.unusedSimpArgs false
theorem put_test2 (s : ByteArray) (m : Int) : ((putS m).toList == s.toList) = decide (putL m = bL s) := by
  have e : (s.toList) = (strOfNums (bL s)).toList := by rw [str_bL]
  rw [e]
  unfold putS
  rw [str_eq_iff _ _ (putL_by _) (bL_bd s)]
theorem bL_tail (s : ByteArray) (h : 0 < s.size) : bL (s.extract 1 s.size) = (bL s).drop 1 := by
  have e := bL_extract s 1 (s.size - 1) (by omega)
  rw [show 1 + (s.size - 1) = s.size from by omega] at e
  rw [e, List.take_of_length_le (by rw [List.length_drop, bL_length]; omega)]
/-- What is read of a whole text t. -/
theorem rWhole (t : ByteArray) (hs : t.size ≤ 140737488355328) : ∃ n e ok, (∀ w, Calls Try.prog 13 #[.string t, .int .i64 0, .int .i64 9] w fun x w' => x = .returned (.tuple #[.int .i64 n, .int .i64 e, .bool ok]) ∧ Below w.heap.size w w') ∧
    ((wholeL (bL t) = none ∧ (ok = false ∨ ok = true ∧ (e != (t.size : Int)) = true)) ∨ (wholeL (bL t) = some n ∧ ok = true ∧ e = (t.size : Int) ∧ 0 ≤ n ∧ n ≤ 999999999)) := by
  have hw := take_whole t 0
  rw [List.drop_zero] at hw
  have hc := fun w => rTake_any t 0 9 w hs (by omega) (by omega) (by omega) (by omega)
  rw [show ((0 : Nat) : Int) = 0 from rfl] at hw
  obtain ⟨x, hx⟩ : ∃ x, takeOf t 0 9 = x := ⟨_, rfl⟩
  rw [hx] at hw
  obtain ⟨n, e, ok⟩ := x
  refine ⟨n, e, ok, fun w => by have := hc w; rw [hx] at this; exact this, ?_⟩
  by_cases h : ok = true ∧ e = (t.size : Int)
  · rw [if_pos h] at hw
    exact .inr ⟨hw, h.1, h.2, wholeL_bd hw⟩
  · rw [if_neg h] at hw
    refine .inl ⟨hw, ?_⟩
    cases ok with
    | false => exact .inl rfl
    | true => exact .inr ⟨rfl, by rw [bne_iff_ne]; exact fun c => h ⟨rfl, c⟩⟩
theorem rParse_any (s : ByteArray) (w : World) (hs : s.size ≤ 140737488355328) : Calls Try.prog 9 #[.string s] w fun e w' => e = .returned (optV (parseL (bL s))) ∧ Below w.heap.size w w' := by
  by_cases hm : ∃ h : 0 < s.size, (((s[0]'h).toNat : Int) == 45) = true
  · obtain ⟨h1, hm⟩ := hm
    have hb : (bL s)[0]? = some ((s[0]'h1).toNat : Int) := by rw [bL_get s 0 h1, gB_eq s 0 h1]
    have hp : parseL (bL s) = match wholeL ((bL s).drop 1) with | some n => if n = 0 then none else some (-n) | none => none := by
      unfold parseL
      rw [hb, if_pos (by rw [eq_of_beq hm])]; rfl
    have hcons : bL s = 45 :: (bL s).drop 1 := by
      have := bL_drop s 0 h1
      rw [List.drop_zero, gB_eq s 0 h1, eq_of_beq hm] at this
      exact this
    have hts : (s.extract 1 s.size).size = s.size - 1 := size_extract _ _ _ (Nat.le_refl _)
    obtain ⟨n, e, ok, hc, hout⟩ := rWhole (s.extract 1 s.size) (by rw [hts]; omega)
    rw [bL_tail s h1] at hout
    have l0 : (0 : Int) < (s.size : Int) := by omega
    rw [hts] at hout
    rcases hout with ⟨hwn, hok⟩ | ⟨hws, rfl, rfl, n0, n1⟩
    · rw [hwn] at hp
      have HP := Lib.hid (show parseL (bL s) = none from hp)
      clear hp hwn hcons hb hts
      rcases hok with rfl | ⟨rfl, he⟩
      all_goals
        go_enter Try.func9, Try.ntmps9
        go_wp2_with (go_at_call 13; refine (hc _).mono ?_; rintro e w1 ⟨rfl, b1⟩)
        go_ret2
        exact ⟨by rw [HP.out]; rfl, b1⟩
    · rw [hws] at hp
      have hp : parseL (bL s) = if n = 0 then none else some (-n) := hp
      have ht := put_test2 s (-n)
      have hput := rPut (-n) (by omega) (by omega)
      have hlt : s.size - 1 < s.size := by omega
      by_cases hn : n = 0
      · rw [if_pos hn] at hp
        have ht2 : ((putS (-n)).toList == s.toList) = false := by
          rw [ht, decide_eq_false_iff_not]
          subst hn
          rw [hcons]
          intro c
          rw [show (-0 : Int) = 0 from rfl, putL_pos (by omega), show Int.toNat 0 = 0 from rfl, digL_lt (by omega)] at c
          have := (List.cons.inj c).1
          omega
        have HP := Lib.hid hp
        clear hp hws hcons hb hts ht hn
        go_enter Try.func9, Try.ntmps9
        go_wp2_with (first
          | (go_at_call 13; refine (hc _).mono ?_; rintro e w1 ⟨rfl, b1⟩)
          | (go_at_call 11; refine (hput _).mono ?_; rintro e w2 ⟨rfl, b2⟩))
        go_ret2
        exact ⟨by rw [HP.out]; rfl, bthen b1 b2⟩
      · rw [if_neg hn] at hp
        have ht2 : ((putS (-n)).toList == s.toList) = true := by
          rw [ht, decide_eq_true_iff]
          exact ((parseL_iff _ _).1 hp).2.2
        have HP := Lib.hid hp
        clear hp hws hcons hb hts ht hn
        go_enter Try.func9, Try.ntmps9
        go_wp2_with (first
          | (go_at_call 13; refine (hc _).mono ?_; rintro e w1 ⟨rfl, b1⟩)
          | (go_at_call 11; refine (hput _).mono ?_; rintro e w2 ⟨rfl, b2⟩))
        go_ret2
        exact ⟨by rw [HP.out]; rfl, bthen b1 b2⟩
  · have hp : parseL (bL s) = wholeL (bL s) := by
      unfold parseL
      rw [if_neg]
      intro c
      apply hm
      by_cases h : 0 < s.size
      · refine ⟨h, ?_⟩
        rw [bL_get s 0 h, gB_eq s 0 h] at c
        rw [beq_iff_eq]
        exact Option.some.inj c
      · rw [List.getElem?_eq_none (by rw [bL_length]; omega)] at c
        cases c
    obtain ⟨n, e, ok, hc, hout⟩ := rWhole s hs
    have hcond : s.size = 0 ∨ (∃ h : 0 < s.size, (0 : Int) < (s.size : Int) ∧ (((s[0]'h).toNat : Int) == 45) = false) := by
      by_cases h : 0 < s.size
      · refine .inr ⟨h, by omega, ?_⟩
        cases hb : (((s[0]'h).toNat : Int) == 45) with
        | false => rfl
        | true => exact absurd ⟨h, hb⟩ hm
      · exact .inl (by omega)
    clear hm
    rcases hout with ⟨hwn, hok⟩ | ⟨hws, rfl, rfl, n0, n1⟩
    · rw [hwn] at hp
      have HP := Lib.hid hp
      clear hp hwn
      rcases hcond with hcn | ⟨h1, l0, hcn⟩
      all_goals
        rcases hok with rfl | ⟨rfl, he⟩
        all_goals
          go_enter Try.func9, Try.ntmps9
          go_wp2_with (go_at_call 13; refine (hc _).mono ?_; rintro e w1 ⟨rfl, b1⟩)
          go_ret2
          exact ⟨by rw [HP.out]; rfl, b1⟩
    · rw [hws] at hp
      have ht2 : ((putS n).toList == s.toList) = true := by
        rw [put_test2, decide_eq_true_iff]
        exact ((parseL_iff _ _).1 hp).2.2
      have hput := rPut n (by omega) (by omega)
      have HP := Lib.hid hp
      have hlt : ¬ s.size < s.size := by omega
      clear hp hws
      rcases hcond with hcn | ⟨h1, l0, hcn⟩
      all_goals
        go_enter Try.func9, Try.ntmps9
        go_wp2_with (first
          | (go_at_call 13; refine (hc _).mono ?_; rintro e w1 ⟨rfl, b1⟩)
          | (go_at_call 11; refine (hput _).mono ?_; rintro e w2 ⟨rfl, b2⟩))
        go_ret2
        exact ⟨by rw [HP.out]; rfl, bthen b1 b2⟩
end Go.Proofs.Ytopbpajlmhfakaa
