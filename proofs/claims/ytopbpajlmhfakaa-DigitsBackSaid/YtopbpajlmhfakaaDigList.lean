/-
  The contracts of digits.List, digits.Unlist and of their helper. Conditions: a list of at most 1000000 numbers that are int64's; a string of at most 1000000000 bytes.
-/
import Derived.Test.YtopbpajlmhfakaaDigPut
import Derived.Test.YtopbpajlmhfakaaDigTake
import Derived.Test.YtopbpajlmhfakaaReads
namespace Go.Proofs.Ytopbpajlmhfakaa
open Go.ChangeShapes Go.WideShapes Go.ChangeAt Go.RowKit
set_option linter.unusedVariables false
set_option linter.unusedSimpArgs false
theorem commaOrEnd_any (s : ByteArray) (a : Nat) (w : World) (hs : s.size ≤ 140737488355328) (ha : a ≤ s.size) : Calls Try.prog 23 #[.string s, .int .i64 a] w fun e w' => e = .returned (.int .i64 ((a + commaL ((bL s).drop a) : Nat) : Int)) ∧ w = w' := by
  go_enter Try.func23, Try.ntmps23
  go_wp2
  go_loop [1] (fun i => ∃ k : Nat, i = .int .i64 k ∧ k ≤ s.size ∧ k + commaL ((bL s).drop k) = a + commaL ((bL s).drop a)) (fun i => s.size - (intOf i).toNat)
  case atStart => exact ⟨a, rfl, ha, rfl⟩
  case round =>
    obtain ⟨k, rfl, hk, he⟩ := hrel
    by_cases h : k < s.size
    · have g := gB_eq s k h
      have hd := bL_drop s k h
      have l1 : (k : Int) < (s.size : Int) := by omega
      have l0 : decide (s.size ≤ k) = false := by simp; omega
      rw [g] at hd
      rw [hd] at he
      cases hD : (((s[k]'h).toNat : Int) == 44) with
      | true =>
        have hD' : (((s[k]'h).toNat : Int) != 44) = false := by unfold bne; rw [hD]; rfl
        rw [eq_of_beq hD, commaL_stop] at he
        have HE := Lib.hid he
        clear he hd g hD
        go_wp2
        go_ret
        exact ⟨rI (by have := HE.out; omega), rfl⟩
      | false =>
        have hD' : (((s[k]'h).toNat : Int) != 44) = true := by unfold bne; rw [hD]; rfl
        rw [commaL_cons _ (beq_eq_false_iff_ne.1 hD)] at he
        have HE := Lib.hid he
        clear he hd g hD
        go_wp2
        go_round
        case rel => exact ⟨k + 1, by go_num, by omega, by have := HE.out; omega⟩
        case measure => simp [intOf]; omega
    · rw [bL_drop_nil s k (by omega), commaL_nil] at he
      have HE := Lib.hid he
      clear he
      go_wp2
      go_ret
      exact ⟨rI (by have := HE.out; omega), rfl⟩
def ints (y : List Int) : List Value := y.map (Value.int .i64)
theorem und_bytes : Try.prog.underlying 39 = some (.slice 5) := by kernel_rfl
theorem info_byte : (Try.prog.info? 5).map (fun i => (i.zero, i.size, i.bytes)) = some (some (.int .u8 0), 1, 1) := by kernel_rfl
theorem List_any (y : List Int) (A : Option Addr) (c : Nat) (w : World) (hy : Reads w A (ints y)) (hb : ∀ n ∈ y, -9223372036854775808 ≤ n ∧ n ≤ 9223372036854775807) (hl : y.length ≤ 1000000) :
    Calls Try.prog 16 #[.slice A y.length c] w fun e w' => e = .returned (.string (strOfNums (listL y))) ∧ Below w.heap.size w w' := by
  go_enter Try.func16, Try.ntmps16
  go_wp2
  go_loopw [3, 4, 5, 8] (fun t _ _ j wr => ∃ k : Nat, j = .int .i64 k ∧ k ≤ y.length ∧ (listL (y.take k)).length ≤ 21 * k ∧ wr.ownsRow w.heap.size 5 1 t (listL (y.take k)).length ((listL (y.take k)).map (Value.int .u8)) ∧ Below w.heap.size w wr) (fun _ _ _ j _ => y.length - (intOf j).toNat)
  case atStart => exact ⟨0, rfl, by omega, by simp [listL, joinC], World.ownsRow_nil _ _ _ _, Below.refl _ _⟩
  case round =>
    obtain ⟨k, rfl, hk, hln, ho, hbl⟩ := hrel
    by_cases hkl : k < y.length
    · have hl2 : (ints y).length = y.length := by simp [ints]
      obtain ⟨x, rfl, hx, hc⟩ := (hy.below hbl).at_ (by omega)
      have hcell := hc k (by omega)
      have hyk : (ints y)[k]? = some (.int .i64 (y[k])) := by simp [ints, hkl]
      rw [hyk] at hcell
      have hbk := hb _ (List.getElem_mem hkl)
      have lk : (k : Int) < (y.length : Int) := by omega
      have HO := Lib.hid ho
      have HB := Lib.hid hbl
      clear ho hbl hc hyk
      have hbd := hbk
      obtain ⟨hb1, hb2⟩ := hbd
      generalize hyv : y[k] = yk at *
      have hpl := putL_len yk hb1 hb2
      have hby := putL_by yk
      have hput := Put_any yk hb1 hb2
      have HBY := Lib.hid hby
      have HYV := Lib.hid hyv
      clear hby hyv hbk
      have hz0 := HB.out.size
      by_cases k0 : (k : Int) ≤ 0
      · have hr : listL (y.take (k + 1)) = putL yk := by
          obtain rfl : k = 0 := by omega
          rw [List.take_succ_eq_append_getElem hkl, HYV.out]; rfl
        have hr0 : listL (y.take k) = [] := by
          obtain rfl : k = 0 := by omega
          rfl
        have HR := Lib.hid hr
        have ho := HO.out
        rw [hr0] at ho
        clear HO hr hr0
        go_wp2_with (first
          | (go_at_call 10; refine (hput _).mono ?_; rintro e w1 ⟨rfl, hb1⟩; have o1 := own_below ho hb1; have b1 := HB.out.trans (hb1.mono hz0); have hz1 := hb1.size)
          | (at_builtin; refine wpList_pushS (.tmp 18) (.tmp 20) 39 9 5 und_bytes (by kernel_rfl) info_byte rfl rfl w.heap.size _ _ [] (putL yk) rfl o1 rfl HBY.out (by simp; omega) (by omega) ?_; intro v2 w2 o2 g2; have b2 := below_push b1 o1 g2 (Nat.le_refl _) (by omega)))
        go_roundw
        case rel => exact ⟨k + 1, by go_num, by omega, by rw [HR.out]; omega, by rw [HR.out]; simpa using o2, b2⟩
        case measure => simp [intOf]; omega
      · have hk0 : y.take k ≠ [] := by
          intro c
          have := congrArg List.length c
          rw [List.length_take, List.length_nil] at this
          omega
        have hr : listL (y.take (k + 1)) = listL (y.take k) ++ 44 :: putL yk := by
          rw [List.take_succ_eq_append_getElem hkl, HYV.out, listL_snoc _ _ hk0]
        generalize listL (y.take k) = T at *
        have HR := Lib.hid hr
        have ho := HO.out
        clear HO hr
        go_wp2_with (first
          | (go_at_call 10; refine (hput _).mono ?_; rintro e w3 ⟨rfl, hb3⟩; have o3 := own_below o2 hb3; have b3 := b2.trans (hb3.mono (by omega)); have hz3 := hb3.size)
          | (at_builtin; refine wpList_push (.tmp 15) (.tmp 16) 39 5 1 (.int .u8 0) und_bytes info_byte rfl (by decide) rfl rfl w.heap.size _ _ _ _ rfl ho rfl rfl (by omega) (by omega) ?_; intro v2 w2 o2 g2 at2; have b2 := below_push HB.out ho g2 (Nat.le_refl _) (by omega); have hz2 := g2.size)
          | (at_builtin; refine wpList_pushS (.tmp 18) (.tmp 20) 39 9 5 und_bytes (by kernel_rfl) info_byte rfl rfl w.heap.size _ _ (T ++ [44]) (putL yk) rfl (by rw [List.map_append]; exact o3) rfl HBY.out (by omega) (by omega) ?_; intro v4 w4 o4 g4; have b4 := below_push b3 o3 g4 (Nat.le_refl _) (by omega)))
        go_roundw
        case rel => exact ⟨k + 1, by go_num, by omega, by rw [HR.out, List.length_append, List.length_cons]; omega, by rw [HR.out, show T.length + 1 + (putL yk).length = (T ++ 44 :: putL yk).length from by simp; omega] at *; simpa using o4, b4⟩
        case measure => simp [intOf]; omega
    · have e : y.take k = y := List.take_of_length_le (by omega)
      rw [e] at ho
      have hcv := conv_own (P := Try.prog) (src := 39) (e := 5) und_bytes (by kernel_rfl) ho rfl
      clear ho hln
      have HB := Lib.hid hbl
      clear hbl
      go_wp2
      go_ret
      exact ⟨rfl, HB.out⟩
/-- What Unlist hands back: a row of the call's own, and whether the text was a list. -/
def UnlistPost (s : ByteArray) (w : World) (e : Ending) (w' : World) : Prop :=
  ∃ (v : Value) (y : List Int), e = .returned (.tuple #[v, .bool (unlistL (bL s)).isSome]) ∧ y = (unlistL (bL s)).getD [] ∧ w'.ownsRow w.heap.size 3 1 v y.length (ints y) ∧ Below w.heap.size w w'
theorem und_ints3 : Try.prog.underlying 30 = some (.slice 3) := by kernel_rfl
theorem info_int3 : (Try.prog.info? 3).map (fun i => (i.zero, i.size, i.bytes)) = some (some (.int .i64 0), 1, 8) := by kernel_rfl
theorem str_empty (s : ByteArray) : s.toList.isEmpty = decide (s.size = 0) := by
  rw [ByteArray.toList_eq, Bool.eq_iff_iff, List.isEmpty_iff, decide_eq_true_iff]
  constructor
  · intro e; rw [← ByteArray.size_data, ← Array.length_toList, e]; rfl
  · intro e
    have : s.data = #[] := Array.eq_empty_of_size_eq_zero e
    rw [this]
theorem unlist_step (s : ByteArray) (f : Nat) (done : List Int) (hf : f ≤ s.size) (h : (allP (pieces ((bL s).drop f))).map (done ++ ·) = unlistL (bL s)) :
    f + commaL ((bL s).drop f) ≤ s.size ∧
    (parseL (bL (s.extract f (f + commaL ((bL s).drop f)))) = none → unlistL (bL s) = none) ∧
    (∀ n, parseL (bL (s.extract f (f + commaL ((bL s).drop f)))) = some n → ∃ Q, (allP Q).map ((done ++ [n]) ++ ·) = unlistL (bL s) ∧ ((f + commaL ((bL s).drop f) + 1 ≤ s.size ∧ Q = pieces ((bL s).drop (f + commaL ((bL s).drop f) + 1))) ∨ (f + commaL ((bL s).drop f) + 1 = s.size + 1 ∧ Q = []))) := by
  have hle := commaL_le ((bL s).drop f)
  have hlen : ((bL s).drop f).length = s.size - f := by rw [List.length_drop, bL_length]
  have hfc : f + commaL ((bL s).drop f) ≤ s.size := by omega
  rw [bL_extract s f _ hfc]
  rw [pieces_eq] at h
  refine ⟨hfc, ?_, ?_⟩
  · intro hp
    rw [allP, hp] at h
    exact h.symm
  · intro n hp
    rw [allP, hp] at h
    generalize hc : commaL ((bL s).drop f) = c at *
    refine ⟨if c < ((bL s).drop f).length then pieces (((bL s).drop f).drop (c + 1)) else [], ?_, ?_⟩
    · rw [← h]
      generalize allP _ = o
      cases o with
      | none => rfl
      | some z => simp
    · by_cases hcl : c < ((bL s).drop f).length
      · rw [if_pos hcl, List.drop_drop]
        exact .inl ⟨by omega, by rw [Nat.add_assoc]⟩
      · exact .inr ⟨by omega, if_neg hcl⟩
theorem parseL_bd {l : List Int} {n : Int} (h : parseL l = some n) : -999999999 ≤ n ∧ n ≤ 999999999 := ⟨((parseL_iff l n).1 h).1, ((parseL_iff l n).1 h).2.1⟩
theorem Unlist_any (s : ByteArray) (w : World) (hs : s.size ≤ 1000000000) : Calls Try.prog 14 #[.string s] w (UnlistPost s w) := by
  by_cases h0 : s.size = 0
  · have hbl : bL s = [] := List.eq_nil_of_length_eq_zero (by rw [bL_length]; exact h0)
    have he : s.toList.isEmpty = true := by rw [str_empty, h0]; rfl
    have HU := Lib.hid (show unlistL (bL s) = some [] by rw [hbl]; rfl)
    clear hbl h0
    go_enter Try.func14, Try.ntmps14
    go_wp2
    go_ret2
    unfold UnlistPost
    rw [HU.out]
    exact ⟨_, [], rfl, rfl, World.ownsRow_nil _ _ _ _, Below.refl _ _⟩
  · have he : s.toList.isEmpty = false := by rw [str_empty]; simp [h0]
    have hu : unlistL (bL s) = allP (pieces (bL s)) := by
      unfold unlistL
      rw [if_neg]
      intro c
      have := congrArg List.length c
      rw [bL_length] at this
      exact h0 this
    have HU := Lib.hid hu
    clear hu
    go_enter Try.func14, Try.ntmps14
    go_wp2
    go_loopw [4, 5, 6, 7, 8] (fun v i _ _ _ wr => ∃ (f : Nat) (done : List Int) (Q : List (List Int)), i = .int .i64 f ∧ (allP Q).map (done ++ ·) = unlistL (bL s) ∧ ((f ≤ s.size ∧ Q = pieces ((bL s).drop f)) ∨ (f = s.size + 1 ∧ Q = [])) ∧ done.length ≤ f ∧ wr.ownsRow w.heap.size 3 1 v done.length (ints done) ∧ Below w.heap.size w wr) (fun _ i _ _ _ _ => s.size + 1 - (intOf i).toNat)
    case atStart => exact ⟨0, [], _, rfl, by rw [HU.out, List.drop_zero]; simp, .inl ⟨by omega, rfl⟩, by simp, World.ownsRow_nil _ _ _ _, Below.refl _ _⟩
    case round =>
      obtain ⟨f, done, Q, rfl, hq, hQ, hdl, ho, hb⟩ := hrel
      have HO := Lib.hid ho
      have HB := Lib.hid hb
      have hz0 := hb.size
      clear ho hb
      rcases hQ with ⟨hf, rfl⟩ | ⟨hf, rfl⟩
      · obtain ⟨hfc, hnone, hsome⟩ := unlist_step s f done hf hq
        have hcom := commaOrEnd_any s f
        generalize hc : commaL ((bL s).drop f) = c at *
        have hsl := slice_nn (P := Try.prog) 9 (by kernel_rfl) s f c hfc
        have hpar := Parse_any (s.extract f (f + c))
        have hsz : (s.extract f (f + c)).size ≤ 140737488355328 := by rw [size_extract _ _ _ hfc]; omega
        have lf : (f : Int) ≤ (s.size : Int) := by omega
        cases hp : parseL (bL (s.extract f (f + c))) with
        | none =>
          rw [hp] at hpar
          have HN := Lib.hid (hnone hp)
          clear hnone hsome hp hq
          go_wp2_with (first
            | (go_at_call 23; refine (hcom _ (by omega) hf).mono ?_; rintro e w1 ⟨rfl, rfl⟩)
            | (go_at_call 8; refine (hpar _ hsz).mono ?_; rintro e w1 ⟨rfl, rfl⟩; unfold optV))
          go_ret2
          unfold UnlistPost
          rw [HN.out]
          exact ⟨_, [], rfl, rfl, World.ownsRow_nil _ _ _ _, HB.out⟩
        | some n =>
          rw [hp] at hpar
          obtain ⟨hb1, hb2⟩ := parseL_bd hp
          have HS := Lib.hid (hsome n hp)
          clear hnone hsome hp hq
          go_wp2_with (first
            | (go_at_call 23; refine (hcom _ (by omega) hf).mono ?_; rintro e w1 ⟨rfl, rfl⟩)
            | (go_at_call 8; refine (hpar _ hsz).mono ?_; rintro e w1 ⟨rfl, rfl⟩; unfold optV)
            | (at_builtin; refine wpList_push (.tmp 28) (.tmp 30) 30 3 8 (.int .i64 0) und_ints3 info_int3 rfl (by decide) rfl rfl w.heap.size _ _ _ _ rfl HO.out rfl rfl (by omega) (by omega) ?_; intro v2 w2 o2 g2 at2; have b2 := below_push HB.out HO.out g2 (Nat.le_refl _) (by omega); have hz2 := g2.size))
          go_roundw
          case rel =>
            obtain ⟨Q, hq, hQ⟩ := HS.out
            exact ⟨f + c + 1, done ++ [n], Q, by go_num, hq, hQ, by rw [List.length_append, List.length_singleton]; omega, by rw [List.length_append]; simpa [ints] using o2, b2⟩
          case measure => simp [intOf]; omega
      · have hd : unlistL (bL s) = some done := by rw [← hq]; simp [allP]
        have HD := Lib.hid hd
        have lf : ¬ (f : Int) ≤ (s.size : Int) := by omega
        clear hq hd
        go_wp2
        go_ret2
        unfold UnlistPost
        rw [HD.out]
        exact ⟨_, done, rfl, rfl, HO.out, HB.out⟩
end Go.Proofs.Ytopbpajlmhfakaa
