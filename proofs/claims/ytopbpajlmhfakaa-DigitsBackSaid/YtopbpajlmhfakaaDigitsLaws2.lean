/-
  The law of the round trip of layer 3: it returns true for every input and writes nothing that was there. No conditions.
-/
import Derived.Test.YtopbpajlmhfakaaDigitsLaws
namespace Go.Proofs.Ytopbpajlmhfakaa
open Go.ChangeShapes Go.WideShapes Go.ChangeAt Go.RowKit
set_option linter.unusedVariables false
set_option linter.unusedSimpArgs false
def allB (l : List Int) : Bool := l.all fun n => decide (-999999999 ≤ n) && decide (n ≤ 999999999)
theorem allB_iff (l : List Int) : allB l = true ↔ inB l := by simp [allB, inB]
theorem allB_snoc (l : List Int) (x : Int) : allB (l ++ [x]) = (allB l && (decide (-999999999 ≤ x) && decide (x ≤ 999999999))) := by simp [allB]
theorem listL_cons (a : Int) (r : List Int) (h : r ≠ []) : listL (a :: r) = putL a ++ 44 :: listL r := by unfold listL; rw [List.map_cons, joinC_cons _ (by simpa using h)]
theorem listL_len (y : List Int) (hb : ∀ n ∈ y, -9223372036854775808 ≤ n ∧ n ≤ 9223372036854775807) : (listL y).length ≤ 21 * y.length := by
  induction y with
  | nil => simp [listL, joinC]
  | cons a r ih =>
    have ha := hb a (by simp)
    have hl := putL_len a ha.1 ha.2
    by_cases hr : r = []
    · subst hr
      rw [listL_one]; simp; omega
    · have := ih (fun n hn => hb n (by simp [hn]))
      rw [listL_cons a r hr, List.length_append, List.length_cons, List.length_cons]
      omega
theorem listL_len_ge (y : List Int) : y.length ≤ (listL y).length := by
  induction y with
  | nil => simp
  | cons a r ih =>
    have := List.length_pos_iff.2 (putL_ne_nil a)
    by_cases hr : r = []
    · subst hr
      rw [listL_one]; simp; omega
    · rw [listL_cons a r hr, List.length_append, List.length_cons, List.length_cons]
      omega
theorem unlist_facts (s : ByteArray) (u : List Int) (h : unlistL (bL s) = some u) (hs : s.size ≤ 300) : (∀ n ∈ u, -9223372036854775808 ≤ n ∧ n ≤ 9223372036854775807) ∧ u.length ≤ 1000000 ∧ strOfNums (listL u) = s := by
  have hl := unlist_back _ _ h
  refine ⟨?_, ?_, by rw [hl, str_bL]⟩
  · have hu := h
    rw [← hl] at hu
    have := ((unlist_list u u).1 hu).2
    intro n hn
    have := this n hn
    omega
  · have := listL_len_ge u
    rw [hl, bL_length] at this
    omega
set_option maxHeartbeats 4000000 in
set_option maxRecDepth 100000 in
theorem walk_DigitsBack (a : Option Addr) (len cap : Nat) (z : List Int) (s : ByteArray) (w : World) (w0 : IsRow .i64 w a len cap z) (ws : s.size ≤ maxLen) :
    Calls Try.prog 6 #[.slice a len cap, .string s] w fun e w' => e = .returned (.bool true) ∧ Below w.heap.size w w' := by
  unfold maxLen at ws
  obtain ⟨hr, hlen, hbd⟩ := isRow_reads w0
  generalize z.take len = y at hr hlen hbd
  clear w0
  subst hlen
  by_cases hl : 60 < y.length
  · have ll : 60 < (y.length : Int) := by omega
    go_enter Try.func6, Try.ntmps6
    go_wp2_with (go_at_call 7; refine (lives03 _).mono ?_; rintro e w1 ⟨rfl, hb1⟩)
    go_ret
    exact ⟨rfl, hb1⟩
  · have ll : ¬ 60 < (y.length : Int) := by omega
    by_cases hz : 300 < s.size
    · have lz : 300 < (s.size : Int) := by omega
      go_enter Try.func6, Try.ntmps6
      go_wp2_with (go_at_call 7; refine (lives03 _).mono ?_; rintro e w1 ⟨rfl, hb1⟩)
      go_ret
      exact ⟨rfl, hb1⟩
    · have lz : ¬ 300 < (s.size : Int) := by omega
      have HBD := Lib.hid hbd
      clear hbd
      go_enter Try.func6, Try.ntmps6
      go_wp2
      go_loopw [5, 6] (fun b i wr => ∃ (k : Nat), i = .int .i64 k ∧ k ≤ y.length ∧ b = .bool (allB (y.take k)) ∧ Below w.heap.size w wr) (fun _ i _ => y.length - (intOf i).toNat)
      case atStart => exact ⟨0, rfl, by omega, rfl, Below.refl _ _⟩
      case round =>
        obtain ⟨k, rfl, hk, rfl, hb⟩ := hrel
        by_cases hkl : k < y.length
        · obtain ⟨p, rfl, hp, hcp⟩ := (hr.below hb).at_ (by simp [ints]; omega)
          have c1 := hcp k (by simpa [ints] using hkl)
          rw [show (ints y)[k]? = some (.int .i64 (y[k])) by simp [ints, hkl]] at c1
          have hall : allB (y.take (k + 1)) = (allB (y.take k) && (decide (-999999999 ≤ y[k]) && decide (y[k] ≤ 999999999))) := by
            rw [List.take_succ_eq_append_getElem hkl, allB_snoc]
          have lk : (k : Int) < (y.length : Int) := by omega
          have hk0 : (0 : Int) ≤ (k : Int) := by omega
          have hkn : ((k : Int)).toNat = k := by omega
          have HB := Lib.hid hb
          have HA := Lib.hid hall
          clear hb hcp hall
          generalize y[k] = yk at *
          cases hbb : allB (y.take k) with
          | false =>
            have HX := Lib.hid (show allB (y.take (k + 1)) = false by rw [HA.out, hbb]; rfl)
            clear hbb
            go_wp2
            go_roundw
            case rel => exact ⟨k + 1, by go_num, by omega, by rw [HX.out], HB.out⟩
            case measure => simp [intOf]; omega
          | true =>
            by_cases g1 : -999999999 ≤ yk
            · by_cases g2 : yk ≤ 999999999
              · have HX := Lib.hid (show allB (y.take (k + 1)) = true by rw [HA.out, hbb]; simp [g1, g2])
                clear hbb
                go_wp2
                go_roundw
                case rel => exact ⟨k + 1, by go_num, by omega, by rw [HX.out], HB.out⟩
                case measure => simp [intOf]; omega
              · have HX := Lib.hid (show allB (y.take (k + 1)) = false by rw [HA.out, hbb]; simp [g1, g2])
                clear hbb
                go_wp2
                go_roundw
                case rel => exact ⟨k + 1, by go_num, by omega, by rw [HX.out], HB.out⟩
                case measure => simp [intOf]; omega
            · have HX := Lib.hid (show allB (y.take (k + 1)) = false by rw [HA.out, hbb]; simp [g1])
              clear hbb
              go_wp2
              go_roundw
              case rel => exact ⟨k + 1, by go_num, by omega, by rw [HX.out], HB.out⟩
              case measure => simp [intOf]; omega
        · have ek : y.take k = y := List.take_of_length_le (by omega)
          rw [ek]
          have R0 := hr.below hb
          obtain ⟨T, hT⟩ : ∃ T, strOfNums (listL y) = T := ⟨_, rfl⟩
          have hTb : bL T = listL y := by rw [← hT, bL_str _ (listL_by y)]
          have hTz : T.size ≤ 1260 := by
            rw [← bL_length, hTb]
            have := listL_len y HBD.out
            omega
          have hlist := fun w R => List_any y a cap w R HBD.out (by omega)
          rw [hT] at hlist
          have hun := fun w => Unlist_any T w (by omega)
          have hun2 := fun w => Unlist_any s w (by omega)
          have hpar := fun w => Parse_any s w (by omega)
          have HT := Lib.hid (show unlistL (bL T) = if allB y then some y else none by
            rw [hTb]
            cases h : allB y with
            | true => rw [if_pos rfl]; exact (unlist_list y y).2 ⟨rfl, (allB_iff y).1 h⟩
            | false =>
              rw [if_neg (by simp)]
              cases hu : unlistL (listL y) with
              | none => rfl
              | some z =>
                have := (allB_iff y).2 ((unlist_list y z).1 hu).2
                rw [h] at this; cases this)
          unfold UnlistPost at hun hun2
          have HB := Lib.hid hb
          clear hb hTb hT ek
          cases hsm : allB y with
          | true =>
            rw [HT.out, hsm, if_pos rfl] at hun
            clear hsm
            cases hp : parseL (bL s) with
            | none =>
              rw [hp] at hpar
              clear hp
              cases hu : unlistL (bL s) with
              | none =>
                rw [hu] at hun2
                clear hu
                go_wp2_with (first
                  | (go_at_call 16; (with_reducible refine (hlist _ R0).mono ?_); rintro e w1 ⟨rfl, hb1⟩; have R1 := R0.below hb1; have b1 := HB.out.trans (hb1.mono HB.out.size))
                  | (go_at_call 14; (with_reducible refine (hun _).mono ?_); rintro e w2 ⟨v2, y2, rfl, h2, o2, hb2⟩; have R2 := R1.below hb2; have b2 := b1.trans (hb2.mono b1.size))
                  | (go_at_call 18; refine (Same_arg y2 y _ _ _ _ _ o2 R2 (by omega)).mono ?_; rintro e w3 ⟨rfl, hb3⟩; rw [show decide (y2 = y) = true by rw [h2]; simp]; have b3 := b2.trans (hb3.mono b2.size))
                  | (go_at_call 8; refine (hpar _).mono ?_; rintro e w4 ⟨rfl, rfl⟩; unfold optV; have b4 := b3)
                  | (go_at_call 14; (with_reducible refine (hun2 _).mono ?_); rintro e w6 ⟨v6, y6, rfl, h6, o6, hb6⟩; have b6 := b4.trans (hb6.mono b4.size))
                  | (go_at_call 7; refine (lives03 _).mono ?_; rintro e w7 ⟨rfl, hb7⟩; have b7 := b6.trans (hb7.mono b6.size)))
                go_ret
                exact ⟨rfl, b7⟩
              | some u =>
                rw [hu] at hun2
                have HUB := Lib.hid (unlist_facts s u hu (by omega))
                clear hu
                go_wp2_with (first
                  | (go_at_call 16; (with_reducible refine (hlist _ R0).mono ?_); rintro e w1 ⟨rfl, hb1⟩; have R1 := R0.below hb1; have b1 := HB.out.trans (hb1.mono HB.out.size))
                  | (go_at_call 14; (with_reducible refine (hun _).mono ?_); rintro e w2 ⟨v2, y2, rfl, h2, o2, hb2⟩; have R2 := R1.below hb2; have b2 := b1.trans (hb2.mono b1.size))
                  | (go_at_call 18; refine (Same_arg y2 y _ _ _ _ _ o2 R2 (by omega)).mono ?_; rintro e w3 ⟨rfl, hb3⟩; rw [show decide (y2 = y) = true by rw [h2]; simp]; have b3 := b2.trans (hb3.mono b2.size))
                  | (go_at_call 8; refine (hpar _).mono ?_; rintro e w4 ⟨rfl, rfl⟩; unfold optV; have b4 := b3)
                  | (go_at_call 14; (with_reducible refine (hun2 _).mono ?_); rintro e w6 ⟨v6, y6, rfl, h6, o6, hb6⟩; have b5 := b4.trans (hb6.mono b4.size); have e6 : y6 = u := h6; rw [e6] at o6; obtain ⟨A6, c6, rfl, l6, r6⟩ := own_reads o6)
                  | (go_at_call 16; refine (List_any u _ _ _ r6 HUB.out.1 HUB.out.2.1).mono ?_; rintro e w8 ⟨rfl, hb8⟩; rw [HUB.out.2.2]; have b6 := b5.trans (hb8.mono b5.size))
                  | (go_at_call 7; refine (lives03 _).mono ?_; rintro e w7 ⟨rfl, hb7⟩; have b7 := b6.trans (hb7.mono b6.size)))
                go_ret
                exact ⟨rfl, b7⟩
            | some n =>
              rw [hp] at hpar
              have hnn := (parseL_iff _ _).1 hp
              have ht : ((putS n).toList == s.toList) = true := by rw [put_test2, decide_eq_true_iff]; exact hnn.2.2
              have hput := Put_any n (by omega) (by omega)
              clear hp hnn
              cases hu : unlistL (bL s) with
              | none =>
                rw [hu] at hun2
                clear hu
                go_wp2_with (first
                  | (go_at_call 16; (with_reducible refine (hlist _ R0).mono ?_); rintro e w1 ⟨rfl, hb1⟩; have R1 := R0.below hb1; have b1 := HB.out.trans (hb1.mono HB.out.size))
                  | (go_at_call 14; (with_reducible refine (hun _).mono ?_); rintro e w2 ⟨v2, y2, rfl, h2, o2, hb2⟩; have R2 := R1.below hb2; have b2 := b1.trans (hb2.mono b1.size))
                  | (go_at_call 18; refine (Same_arg y2 y _ _ _ _ _ o2 R2 (by omega)).mono ?_; rintro e w3 ⟨rfl, hb3⟩; rw [show decide (y2 = y) = true by rw [h2]; simp]; have b3 := b2.trans (hb3.mono b2.size))
                  | (go_at_call 8; refine (hpar _).mono ?_; rintro e w4 ⟨rfl, rfl⟩; unfold optV)
                  | (go_at_call 10; refine (hput _).mono ?_; rintro e w5 ⟨rfl, hb5⟩; have b4 := b3.trans (hb5.mono b3.size))
                  | (go_at_call 14; (with_reducible refine (hun2 _).mono ?_); rintro e w6 ⟨v6, y6, rfl, h6, o6, hb6⟩; have b6 := b4.trans (hb6.mono b4.size))
                  | (go_at_call 7; refine (lives03 _).mono ?_; rintro e w7 ⟨rfl, hb7⟩; have b7 := b6.trans (hb7.mono b6.size)))
                go_ret
                exact ⟨rfl, b7⟩
              | some u =>
                rw [hu] at hun2
                have HUB := Lib.hid (unlist_facts s u hu (by omega))
                clear hu
                go_wp2_with (first
                  | (go_at_call 16; (with_reducible refine (hlist _ R0).mono ?_); rintro e w1 ⟨rfl, hb1⟩; have R1 := R0.below hb1; have b1 := HB.out.trans (hb1.mono HB.out.size))
                  | (go_at_call 14; (with_reducible refine (hun _).mono ?_); rintro e w2 ⟨v2, y2, rfl, h2, o2, hb2⟩; have R2 := R1.below hb2; have b2 := b1.trans (hb2.mono b1.size))
                  | (go_at_call 18; refine (Same_arg y2 y _ _ _ _ _ o2 R2 (by omega)).mono ?_; rintro e w3 ⟨rfl, hb3⟩; rw [show decide (y2 = y) = true by rw [h2]; simp]; have b3 := b2.trans (hb3.mono b2.size))
                  | (go_at_call 8; refine (hpar _).mono ?_; rintro e w4 ⟨rfl, rfl⟩; unfold optV)
                  | (go_at_call 10; refine (hput _).mono ?_; rintro e w5 ⟨rfl, hb5⟩; have b4 := b3.trans (hb5.mono b3.size))
                  | (go_at_call 14; (with_reducible refine (hun2 _).mono ?_); rintro e w6 ⟨v6, y6, rfl, h6, o6, hb6⟩; have b5 := b4.trans (hb6.mono b4.size); have e6 : y6 = u := h6; rw [e6] at o6; obtain ⟨A6, c6, rfl, l6, r6⟩ := own_reads o6)
                  | (go_at_call 16; refine (List_any u _ _ _ r6 HUB.out.1 HUB.out.2.1).mono ?_; rintro e w8 ⟨rfl, hb8⟩; rw [HUB.out.2.2]; have b6 := b5.trans (hb8.mono b5.size))
                  | (go_at_call 7; refine (lives03 _).mono ?_; rintro e w7 ⟨rfl, hb7⟩; have b7 := b6.trans (hb7.mono b6.size)))
                go_ret
                exact ⟨rfl, b7⟩
          | false =>
            rw [HT.out, hsm, if_neg (by simp)] at hun
            clear hsm
            cases hp : parseL (bL s) with
            | none =>
              rw [hp] at hpar
              clear hp
              cases hu : unlistL (bL s) with
              | none =>
                rw [hu] at hun2
                clear hu
                go_wp2_with (first
                  | (go_at_call 16; (with_reducible refine (hlist _ R0).mono ?_); rintro e w1 ⟨rfl, hb1⟩; have R1 := R0.below hb1; have b1 := HB.out.trans (hb1.mono HB.out.size))
                  | (go_at_call 14; (with_reducible refine (hun _).mono ?_); rintro e w2 ⟨v2, y2, rfl, h2, o2, hb2⟩; have R2 := R1.below hb2; have b2 := b1.trans (hb2.mono b1.size); have b3 := b2)
                  | (go_at_call 8; refine (hpar _).mono ?_; rintro e w4 ⟨rfl, rfl⟩; unfold optV; have b4 := b3)
                  | (go_at_call 14; (with_reducible refine (hun2 _).mono ?_); rintro e w6 ⟨v6, y6, rfl, h6, o6, hb6⟩; have b6 := b4.trans (hb6.mono b4.size))
                  | (go_at_call 7; refine (lives03 _).mono ?_; rintro e w7 ⟨rfl, hb7⟩; have b7 := b6.trans (hb7.mono b6.size)))
                go_ret
                exact ⟨rfl, b7⟩
              | some u =>
                rw [hu] at hun2
                have HUB := Lib.hid (unlist_facts s u hu (by omega))
                clear hu
                go_wp2_with (first
                  | (go_at_call 16; (with_reducible refine (hlist _ R0).mono ?_); rintro e w1 ⟨rfl, hb1⟩; have R1 := R0.below hb1; have b1 := HB.out.trans (hb1.mono HB.out.size))
                  | (go_at_call 14; (with_reducible refine (hun _).mono ?_); rintro e w2 ⟨v2, y2, rfl, h2, o2, hb2⟩; have R2 := R1.below hb2; have b2 := b1.trans (hb2.mono b1.size); have b3 := b2)
                  | (go_at_call 8; refine (hpar _).mono ?_; rintro e w4 ⟨rfl, rfl⟩; unfold optV; have b4 := b3)
                  | (go_at_call 14; (with_reducible refine (hun2 _).mono ?_); rintro e w6 ⟨v6, y6, rfl, h6, o6, hb6⟩; have b5 := b4.trans (hb6.mono b4.size); have e6 : y6 = u := h6; rw [e6] at o6; obtain ⟨A6, c6, rfl, l6, r6⟩ := own_reads o6)
                  | (go_at_call 16; refine (List_any u _ _ _ r6 HUB.out.1 HUB.out.2.1).mono ?_; rintro e w8 ⟨rfl, hb8⟩; rw [HUB.out.2.2]; have b6 := b5.trans (hb8.mono b5.size))
                  | (go_at_call 7; refine (lives03 _).mono ?_; rintro e w7 ⟨rfl, hb7⟩; have b7 := b6.trans (hb7.mono b6.size)))
                go_ret
                exact ⟨rfl, b7⟩
            | some n =>
              rw [hp] at hpar
              have hnn := (parseL_iff _ _).1 hp
              have ht : ((putS n).toList == s.toList) = true := by rw [put_test2, decide_eq_true_iff]; exact hnn.2.2
              have hput := Put_any n (by omega) (by omega)
              clear hp hnn
              cases hu : unlistL (bL s) with
              | none =>
                rw [hu] at hun2
                clear hu
                go_wp2_with (first
                  | (go_at_call 16; (with_reducible refine (hlist _ R0).mono ?_); rintro e w1 ⟨rfl, hb1⟩; have R1 := R0.below hb1; have b1 := HB.out.trans (hb1.mono HB.out.size))
                  | (go_at_call 14; (with_reducible refine (hun _).mono ?_); rintro e w2 ⟨v2, y2, rfl, h2, o2, hb2⟩; have R2 := R1.below hb2; have b2 := b1.trans (hb2.mono b1.size); have b3 := b2)
                  | (go_at_call 8; refine (hpar _).mono ?_; rintro e w4 ⟨rfl, rfl⟩; unfold optV)
                  | (go_at_call 10; refine (hput _).mono ?_; rintro e w5 ⟨rfl, hb5⟩; have b4 := b3.trans (hb5.mono b3.size))
                  | (go_at_call 14; (with_reducible refine (hun2 _).mono ?_); rintro e w6 ⟨v6, y6, rfl, h6, o6, hb6⟩; have b6 := b4.trans (hb6.mono b4.size))
                  | (go_at_call 7; refine (lives03 _).mono ?_; rintro e w7 ⟨rfl, hb7⟩; have b7 := b6.trans (hb7.mono b6.size)))
                go_ret
                exact ⟨rfl, b7⟩
              | some u =>
                rw [hu] at hun2
                have HUB := Lib.hid (unlist_facts s u hu (by omega))
                clear hu
                go_wp2_with (first
                  | (go_at_call 16; (with_reducible refine (hlist _ R0).mono ?_); rintro e w1 ⟨rfl, hb1⟩; have R1 := R0.below hb1; have b1 := HB.out.trans (hb1.mono HB.out.size))
                  | (go_at_call 14; (with_reducible refine (hun _).mono ?_); rintro e w2 ⟨v2, y2, rfl, h2, o2, hb2⟩; have R2 := R1.below hb2; have b2 := b1.trans (hb2.mono b1.size); have b3 := b2)
                  | (go_at_call 8; refine (hpar _).mono ?_; rintro e w4 ⟨rfl, rfl⟩; unfold optV)
                  | (go_at_call 10; refine (hput _).mono ?_; rintro e w5 ⟨rfl, hb5⟩; have b4 := b3.trans (hb5.mono b3.size))
                  | (go_at_call 14; (with_reducible refine (hun2 _).mono ?_); rintro e w6 ⟨v6, y6, rfl, h6, o6, hb6⟩; have b5 := b4.trans (hb6.mono b4.size); have e6 : y6 = u := h6; rw [e6] at o6; obtain ⟨A6, c6, rfl, l6, r6⟩ := own_reads o6)
                  | (go_at_call 16; refine (List_any u _ _ _ r6 HUB.out.1 HUB.out.2.1).mono ?_; rintro e w8 ⟨rfl, hb8⟩; rw [HUB.out.2.2]; have b6 := b5.trans (hb8.mono b5.size))
                  | (go_at_call 7; refine (lives03 _).mono ?_; rintro e w7 ⟨rfl, hb7⟩; have b7 := b6.trans (hb7.mono b6.size)))
                go_ret
                exact ⟨rfl, b7⟩
end Go.Proofs.Ytopbpajlmhfakaa
