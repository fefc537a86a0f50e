/-
  The contracts of the document's answer for layer 3: List, Unlist, Same. Conditions: a list of at most 1000000 numbers that are int64's; a string of at most 1000000000 bytes.
-/
import Derived.Test.YtopbpajlmhfakaaDigRef2
import Derived.Test.YtopbpajlmhfakaaDigList
namespace Go.Proofs.Ytopbpajlmhfakaa
open Go.ChangeShapes Go.WideShapes Go.ChangeAt Go.RowKit
set_option linter.unusedVariables false
set_option linter.unusedSimpArgs false
theorem str_comma (l : List Int) : strOfNums l ++ (⟨#[44]⟩ : ByteArray) = strOfNums (l ++ [44]) := by
  rw [← str_append]; rfl
theorem rList_any (y : List Int) (A : Option Addr) (c : Nat) (w : World) (hy : Reads w A (ints y)) (hb : ∀ n ∈ y, -9223372036854775808 ≤ n ∧ n ≤ 9223372036854775807) (hl : y.length ≤ 1000000) :
    Calls Try.prog 17 #[.slice A y.length c] w fun e w' => e = .returned (.string (strOfNums (listL y))) ∧ Below w.heap.size w w' := by
  go_enter Try.func17, Try.ntmps17
  go_wp2
  go_loopw [3, 4] (fun t j wr => ∃ (k : Nat) (T : ByteArray), j = .int .i64 k ∧ k ≤ y.length ∧ T.size ≤ 21 * k ∧ t = .string T ∧ T = strOfNums (listL (y.take k)) ∧ Below w.heap.size w wr) (fun _ j _ => y.length - (intOf j).toNat)
  case atStart => exact ⟨0, ⟨#[]⟩, rfl, by omega, by simp; rfl, rfl, rfl, Below.refl _ _⟩
  case round =>
    obtain ⟨k, T, rfl, hk, hln, rfl, hT, hbl⟩ := hrel
    by_cases hkl : k < y.length
    · have hl2 : (ints y).length = y.length := by simp [ints]
      obtain ⟨x, rfl, hx, hc⟩ := (hy.below hbl).at_ (by omega)
      have hcell := hc k (by omega)
      have hyk : (ints y)[k]? = some (.int .i64 (y[k])) := by simp [ints, hkl]
      rw [hyk] at hcell
      have hbk := hb _ (List.getElem_mem hkl)
      have lk : (k : Int) < (y.length : Int) := by omega
      have HB := Lib.hid hbl
      clear hbl hc hyk
      have hbd := hbk
      obtain ⟨hb1, hb2⟩ := hbd
      generalize hyv : y[k] = yk at *
      have hps := putS_size yk hb1 hb2
      have hput := rPut yk hb1 hb2
      have HYV := Lib.hid hyv
      have HT := Lib.hid hT
      clear hyv hbk hT
      by_cases k0 : (k : Int) ≤ 0
      · have hr : strOfNums (listL (y.take (k + 1))) = T ++ putS yk := by
          obtain rfl : k = 0 := by omega
          rw [List.take_succ_eq_append_getElem hkl, HYV.out, HT.out]
          unfold putS
          rw [str_append]; rfl
        have HR := Lib.hid hr
        clear hr
        go_wp2_with (go_at_call 11; refine (hput _).mono ?_; rintro e w1 ⟨rfl, hb1⟩; have b1 := HB.out.trans (hb1.mono HB.out.size))
        go_roundw
        case rel => exact ⟨k + 1, _, by go_num, by omega, by rw [ByteArray.size_append]; omega, rfl, by rw [HR.out], b1⟩
        case measure => simp [intOf]; omega
      · have hk0 : y.take k ≠ [] := by
          intro c
          have := congrArg List.length c
          rw [List.length_take, List.length_nil] at this
          omega
        have hr : strOfNums (listL (y.take (k + 1))) = T ++ (⟨#[44]⟩ : ByteArray) ++ putS yk := by
          rw [List.take_succ_eq_append_getElem hkl, HYV.out, listL_snoc _ _ hk0, HT.out, str_comma]
          unfold putS
          rw [str_append, List.append_assoc]; rfl
        have hz1 : (T ++ (⟨#[44]⟩ : ByteArray)).size = T.size + 1 := ByteArray.size_append
        have HR := Lib.hid hr
        clear hr
        go_wp2_with (go_at_call 11; refine (hput _).mono ?_; rintro e w1 ⟨rfl, hb1⟩; have b1 := HB.out.trans (hb1.mono HB.out.size))
        go_roundw
        case rel => exact ⟨k + 1, _, by go_num, by omega, by rw [ByteArray.size_append, hz1]; omega, rfl, by rw [HR.out], b1⟩
        case measure => simp [intOf]; omega
    · have e : y.take k = y := List.take_of_length_le (by omega)
      rw [e] at hT
      have HT := Lib.hid hT
      have HB := Lib.hid hbl
      clear hT hbl
      go_wp2
      go_ret
      exact ⟨by rw [← HT.out]; rfl, HB.out⟩
theorem comma_at (l : List Int) (c : Nat) (hc : commaL l = c) (h : c < l.length) : l[c] = 44 := by
  induction l generalizing c with
  | nil => simp at h
  | cons x r ih =>
    by_cases hx : x = 44
    · subst hx
      rw [commaL_stop] at hc
      subst hc; rfl
    · rw [commaL_cons r hx] at hc
      subst hc
      exact ih _ rfl (by simpa using h)
theorem comma_before (l : List Int) (j : Nat) (h : j < commaL l) (hj : j < l.length) : l[j] ≠ 44 := by
  induction l generalizing j with
  | nil => simp at hj
  | cons x r ih =>
    by_cases hx : x = 44
    · subst hx
      rw [commaL_stop] at h
      omega
    · rw [commaL_cons r hx] at h
      cases j with
      | zero => exact hx
      | succ j => exact ih j (by omega) (by simpa using hj)
theorem comma_str (s : ByteArray) (f i : Nat) (hf : f ≤ i) (hi : i < s.size) (hle : i ≤ f + commaL ((bL s).drop f)) : gB s i = 44 ↔ i = f + commaL ((bL s).drop f) := by
  have hl : ((bL s).drop f).length = s.size - f := by rw [List.length_drop, bL_length]
  have hg : ((bL s).drop f)[i - f]'(by omega) = (gB s i : Int) := by
    rw [List.getElem_drop]
    have h := bL_get s i hi
    rw [List.getElem?_eq_getElem (by rw [bL_length]; exact hi)] at h
    have := Option.some.inj h
    simp only [show f + (i - f) = i from by omega]
    exact this
  constructor
  · intro h
    apply Nat.le_antisymm hle
    apply Nat.le_of_not_lt
    intro c
    have := comma_before ((bL s).drop f) (i - f) (by omega) (by omega)
    rw [hg, h] at this
    exact this rfl
  · intro h
    have := comma_at ((bL s).drop f) (i - f) (by omega) (by omega)
    rw [hg] at this
    omega
theorem rUnlist_any (s : ByteArray) (w : World) (hs : s.size ≤ 1000000000) : Calls Try.prog 15 #[.string s] w (UnlistPost s w) := by
  by_cases h0 : s.size = 0
  · have hbl : bL s = [] := List.eq_nil_of_length_eq_zero (by rw [bL_length]; exact h0)
    have he : s.toList.isEmpty = true := by rw [str_empty, h0]; rfl
    have HU := Lib.hid (show unlistL (bL s) = some [] by rw [hbl]; rfl)
    clear hbl h0
    go_enter Try.func15, Try.ntmps15
    go_wp2
    go_ret2
    unfold UnlistPost
    rw [HU.out]
    exact ⟨_, [], rfl, rfl, World.ownsRow_nil _ _ _ _, Below.refl _ _⟩
  · have he : s.toList.isEmpty = false := by rw [str_empty]; simp [h0]
    have hu : unlistL (bL s) = allP (pieces (bL s)) := by
      unfold unlistL
      rw [if_neg]
      intro c
      have := congrArg List.length c
      rw [bL_length] at this
      exact h0 this
    have HU := Lib.hid hu
    clear hu
    go_enter Try.func15, Try.ntmps15
    go_wp2
    go_loopw [4, 5, 6, 7, 8] (fun v fr i _ _ wr => ∃ (f j : Nat) (done : List Int), fr = .int .i64 f ∧ i = .int .i64 j ∧ f ≤ j ∧ ((j ≤ s.size ∧ j ≤ f + commaL ((bL s).drop f) ∧ (allP (pieces ((bL s).drop f))).map (done ++ ·) = unlistL (bL s)) ∨ (j = s.size + 1 ∧ unlistL (bL s) = some done)) ∧ done.length ≤ f ∧ f ≤ s.size + 1 ∧ wr.ownsRow w.heap.size 3 1 v done.length (ints done) ∧ Below w.heap.size w wr) (fun _ _ i _ _ _ => s.size + 1 - (intOf i).toNat)
    case atStart => exact ⟨0, 0, [], rfl, rfl, by omega, .inl ⟨by omega, by omega, by rw [HU.out, List.drop_zero]; simp⟩, by simp, by omega, World.ownsRow_nil _ _ _ _, Below.refl _ _⟩
    case round =>
      obtain ⟨f, j, done, rfl, rfl, hfj, hQ, hdl, hfs, ho, hb⟩ := hrel
      have HO := Lib.hid ho
      have HB := Lib.hid hb
      have hz0 := hb.size
      clear ho hb
      rcases hQ with ⟨hj, hjc, hq⟩ | ⟨hj, hd⟩
      · obtain ⟨hfc, hnone, hsome⟩ := unlist_step s f done (by omega) hq
        have lj : (j : Int) ≤ (s.size : Int) := by omega
        have lj' : decide (s.size < j) = false := by simp; omega
        by_cases hcont : j < s.size ∧ gB s j ≠ 44
        · obtain ⟨hjs, hg⟩ := hcont
          have hne : j ≠ f + commaL ((bL s).drop f) := fun c => hg ((comma_str s f j hfj hjs hjc).2 c)
          have hb : (((s[j]'hjs).toNat : Int) != 44) = true := by
            rw [bne_iff_ne]
            rw [gB_eq s j hjs] at hg
            omega
          have ljs : (j : Int) < (s.size : Int) := by omega
          have HQ := Lib.hid hq
          have HC := Lib.hid (show j + 1 ≤ f + commaL ((bL s).drop f) by omega)
          clear hq hnone hsome hfc hne hg hjc
          go_wp2
          go_roundw
          case rel => exact ⟨f, j + 1, done, rfl, by go_num, by omega, .inl ⟨by omega, HC.out, HQ.out⟩, hdl, hfs, HO.out, HB.out⟩
          case measure => simp [intOf]; omega
        · have hje : j = f + commaL ((bL s).drop f) := by
            by_cases hjs : j < s.size
            · exact (comma_str s f j hfj hjs hjc).1 (Classical.byContradiction fun c => hcont ⟨hjs, c⟩)
            · omega
          have hexit : (s.size : Int) ≤ (j : Int) ∨ ∃ h : j < s.size, (j : Int) < (s.size : Int) ∧ (((s[j]'h).toNat : Int) != 44) = false := by
            by_cases hjs : j < s.size
            · refine .inr ⟨hjs, by omega, ?_⟩
              rw [bne_eq_false_iff_eq]
              have := (comma_str s f j hfj hjs hjc).2 hje
              rw [gB_eq s j hjs] at this
              omega
            · exact .inl (by omega)
          obtain ⟨c, hc⟩ : ∃ c, commaL ((bL s).drop f) = c := ⟨_, rfl⟩
          rw [hc] at hje hfc hnone hsome
          have hsl := slice_nn (P := Try.prog) 9 (by kernel_rfl) s f c hfc
          rw [← Int.natCast_add, ← hje] at hsl
          rw [← hje] at hnone hsome
          have hpar := rParse_any (s.extract f j)
          have hsz : (s.extract f j).size ≤ 140737488355328 := by rw [size_extract _ _ _ hj]; omega
          clear hcont hjc hq
          cases hp : parseL (bL (s.extract f j)) with
          | none =>
            rw [hp] at hpar
            have HN := Lib.hid (hnone hp)
            clear hnone hsome hp hje hfc hc
            rcases hexit with hx | ⟨h, hx, hx2⟩
            all_goals
              go_wp2_with (go_at_call 9; refine (hpar _ hsz).mono ?_; rintro e w1 ⟨rfl, b1⟩; unfold optV)
              go_ret2
              unfold UnlistPost
              rw [HN.out]
              exact ⟨_, [], rfl, rfl, World.ownsRow_nil _ _ _ _, HB.out.trans (b1.mono hz0)⟩
          | some n =>
            rw [hp] at hpar
            obtain ⟨hb1, hb2⟩ := parseL_bd hp
            have HS := Lib.hid (hsome n hp)
            clear hnone hsome hp hje hfc hc
            rcases hexit with hx | ⟨h, hx, hx2⟩
            all_goals
              go_wp2_with (first
                | (go_at_call 9; refine (hpar _ hsz).mono ?_; rintro e w1 ⟨rfl, b1⟩; unfold optV; have o1 := own_below HO.out b1; have bb1 := HB.out.trans (b1.mono hz0); have hz1 := b1.size)
                | (at_builtin; refine wpList_push (.tmp 38) (.tmp 40) 30 3 8 (.int .i64 0) und_ints3 info_int3 rfl (by decide) rfl rfl w.heap.size _ _ _ _ rfl o1 rfl rfl (by omega) (by omega) ?_; intro v2 w2 o2 g2 at2; have b2 := below_push bb1 o1 g2 (Nat.le_refl _) (by omega); have hz2 := g2.size))
              go_roundw
              case rel =>
                obtain ⟨Q, hq, hQ⟩ := HS.out
                refine ⟨j + 1, j + 1, done ++ [n], by go_num, by go_num, by omega, ?_, by rw [List.length_append, List.length_singleton]; omega, by omega, by rw [List.length_append]; simpa [ints] using o2, b2⟩
                rcases hQ with ⟨q1, rfl⟩ | ⟨q1, rfl⟩
                · exact .inl ⟨q1, by omega, hq⟩
                · exact .inr ⟨q1, by rw [← hq]; simp [allP]⟩
              case measure => simp [intOf]; omega
      · have HD := Lib.hid hd
        have lj : ¬ (j : Int) ≤ (s.size : Int) := by omega
        clear hd
        go_wp2
        go_ret2
        unfold UnlistPost
        rw [HD.out]
        exact ⟨_, done, rfl, rfl, HO.out, HB.out⟩
end Go.Proofs.Ytopbpajlmhfakaa
