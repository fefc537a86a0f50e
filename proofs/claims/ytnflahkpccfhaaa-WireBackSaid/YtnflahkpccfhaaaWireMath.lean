/-
  What a writer and a reader come to, as numbers. No program, no conditions.
-/
import Derived.Test.YtnflahkpccfhaaaVariBackMath
namespace Go.Proofs.Ytnflahkpccfhaaa
set_option linter.unusedVariables false
/-- A writer as (error, bytes): some bytes are written, none are an error. -/
def wput (q : Int × List Int) (m : List Int) : Int × List Int := if q.1 = 0 then (if m = [] then (12, q.2) else (0, q.2 ++ m)) else q
/-- Bytes are added while there is no error. -/
def wadd (q : Int × List Int) (m : List Int) : Int × List Int := if q.1 = 0 then (0, q.2 ++ m) else q
def wtext (q : Int × List Int) (m : List Int) : Int × List Int := wadd (wput q (bytesL m.length)) m
theorem wput_bad {q : Int × List Int} (m : List Int) (h : q.1 ≠ 0) : wput q m = q := by rw [wput, if_neg h]
theorem wput_no {q : Int × List Int} (h : q.1 = 0) : wput q [] = (12, q.2) := by rw [wput, if_pos h, if_pos rfl]
theorem wput_ok {q : Int × List Int} {m : List Int} (h : q.1 = 0) (hm : m ≠ []) : wput q m = (0, q.2 ++ m) := by rw [wput, if_pos h, if_neg hm]
theorem wadd_bad {q : Int × List Int} (m : List Int) (h : q.1 ≠ 0) : wadd q m = q := by rw [wadd, if_neg h]
theorem wadd_ok {q : Int × List Int} (m : List Int) (h : q.1 = 0) : wadd q m = (0, q.2 ++ m) := by rw [wadd, if_pos h]
theorem wput_wadd {q : Int × List Int} {m : List Int} (hm : m ≠ []) : wput q m = wadd q m := by
  unfold wput wadd; rw [if_neg hm]
theorem wput_len (q : Int × List Int) (m : List Int) : (wput q m).2.length ≤ q.2.length + m.length := by
  unfold wput; split <;> (try split) <;> simp
theorem wadd_len (q : Int × List Int) (m : List Int) : (wadd q m).2.length ≤ q.2.length + m.length := by
  unfold wadd; split <;> simp
theorem wtext_len (q : Int × List Int) (m : List Int) : (wtext q m).2.length ≤ q.2.length + 5 + m.length := by
  have h1 := wadd_len (wput q (bytesL m.length)) m
  have h2 := wput_len q (bytesL m.length)
  have h3 := bytesL_len (m.length : Int)
  unfold wtext
  omega
/-- A reader of S as ((place, error), what was read). -/
def rnum (S : ByteArray) (a E most : Int) : (Int × Int) × Int :=
  if E = 0 then (if (vtakeOf S a).2.2 = 0 then (if (vtakeOf S a).1 > most ∧ (vtakeOf S a).1 > 0 then ((a, 12), 0) else (((vtakeOf S a).2.1, 0), (vtakeOf S a).1)) else ((a, (vtakeOf S a).2.2), 0)) else ((a, E), 0)
def rsig (S : ByteArray) (a E least most : Int) : (Int × Int) × Int :=
  if E = 0 then (if (stakeOf S a).2.2 = 0 then (if (stakeOf S a).1 < least ∨ (stakeOf S a).1 > most then ((a, 12), 0) else (((stakeOf S a).2.1, 0), (stakeOf S a).1)) else ((a, (stakeOf S a).2.2), 0)) else ((a, E), 0)
def rbool (S : ByteArray) (a E : Int) : (Int × Int) × Bool :=
  if E = 0 then (if a = S.size then ((a, 2), false) else if gB S a.toNat ≤ 1 then ((a + 1, 0), decide (gB S a.toNat = 1)) else ((a, 4), false)) else ((a, E), false)
def rtext (S : ByteArray) (a E most : Int) : (Int × Int) × ByteArray :=
  if (rnum S a E most).1.2 = 0 then (if (rnum S a E most).2 > S.size - (rnum S a E most).1.1 then ((a, 2), ByteArray.empty) else (((rnum S a E most).1.1 + (rnum S a E most).2, 0), S.extract (rnum S a E most).1.1.toNat ((rnum S a E most).1.1 + (rnum S a E most).2).toNat))
  else ((rnum S a E most).1, ByteArray.empty)
def rfail (E x : Int) : Int := if E = 0 then x else E
def rend (S : ByteArray) (a E : Int) : Int := if E = 0 ∧ a < S.size then 4 else E
/-- What is read off what stands at a place, as the program reads it. -/
def rnumber (a E lo most : Int) (t : Int × Int × Int) : (Int × Int) × Int :=
  if E = 0 then (if t.2.2 = 0 then (if t.1 < lo ∨ t.1 > most then ((a, 12), 0) else ((a + t.2.1, 0), t.1)) else ((a, t.2.2), 0)) else ((a, E), 0)
theorem rnumber_bad {a E lo most : Int} {t : Int × Int × Int} (h : E ≠ 0) : rnumber a E lo most t = ((a, E), 0) := by rw [rnumber, if_neg h]
theorem rnumber_no {a lo most : Int} {t : Int × Int × Int} (h : t.2.2 ≠ 0) : rnumber a 0 lo most t = ((a, t.2.2), 0) := by rw [rnumber, if_pos rfl, if_neg h]
theorem rnumber_far {a lo most : Int} {t : Int × Int × Int} (h : t.2.2 = 0) (h2 : t.1 < lo ∨ t.1 > most) : rnumber a 0 lo most t = ((a, 12), 0) := by rw [rnumber, if_pos rfl, if_pos h, if_pos h2]
theorem rnumber_ok {a lo most : Int} {t : Int × Int × Int} (h : t.2.2 = 0) (h2 : ¬(t.1 < lo ∨ t.1 > most)) : rnumber a 0 lo most t = ((a + t.2.1, 0), t.1) := by rw [rnumber, if_pos rfl, if_pos h, if_neg h2]
theorem vplace (S : ByteArray) (a : Int) (h0 : 0 ≤ a) (h1 : a ≤ S.size) (h : (vtakeOf S a).2.2 = 0) : a < (vtakeOf S a).2.1 ∧ (vtakeOf S a).2.1 ≤ S.size ∧ (vtakeOf S a).2.1 ≤ a + 5 ∧ 0 ≤ (vtakeOf S a).1 ∧ (vtakeOf S a).1 ≤ 2147483647 := by
  by_cases hc : (takeP ((bL S).drop a.toNat)).2.2 = 0
  · have hb := takeP_back _ hc
    rw [vtakeOf_ok S a h0 h1 hc]
    obtain ⟨b1, b2, b3, b4, b5, _⟩ := hb
    rw [List.length_drop, bL_length] at b4
    refine ⟨?_, ?_, ?_, b1, b2⟩ <;> simp only <;> omega
  · rw [vtakeOf_no S a h0 h1 hc] at h
    exact absurd h hc
theorem bL_tail (S : ByteArray) (a : Int) (h0 : 0 ≤ a) (h1 : a ≤ S.size) : bL (S.extract a.toNat S.size) = (bL S).drop a.toNat := by
  have e := bL_extract S a.toNat (S.size - a.toNat) (by omega)
  rw [show a.toNat + (S.size - a.toNat) = S.size from by omega] at e
  rw [e, List.take_of_length_le (by rw [List.length_drop, bL_length]; omega)]
theorem vshift (S : ByteArray) (a : Int) (h0 : 0 ≤ a) (h1 : a ≤ S.size) : vtakeOf (S.extract a.toNat S.size) 0 = ((vtakeOf S a).1, (if (vtakeOf S a).2.2 = 0 then (vtakeOf S a).2.1 - a else 0), (vtakeOf S a).2.2) := by
  rw [vtake_at0, bL_tail S a h0 h1]
  by_cases hc : (takeP ((bL S).drop a.toNat)).2.2 = 0
  · rw [vtakeOf_ok S a h0 h1 hc, if_pos hc, if_pos rfl]
    simp only
    congr 2
    omega
  · rw [vtakeOf_no S a h0 h1 hc, if_neg hc]
    simp only
    rw [if_neg hc]
theorem sshift (S : ByteArray) (a : Int) (h0 : 0 ≤ a) (h1 : a ≤ S.size) : stakeOf (S.extract a.toNat S.size) 0 = ((stakeOf S a).1, (if (stakeOf S a).2.2 = 0 then (stakeOf S a).2.1 - a else 0), (stakeOf S a).2.2) := by
  unfold stakeOf
  rw [vshift S a h0 h1]
  by_cases hc : (vtakeOf S a).2.2 = 0
  · simp only [if_pos hc, if_true]
  · simp only [if_neg hc]
theorem splace (S : ByteArray) (a : Int) (h0 : 0 ≤ a) (h1 : a ≤ S.size) (h : (stakeOf S a).2.2 = 0) : a < (stakeOf S a).2.1 ∧ (stakeOf S a).2.1 ≤ S.size ∧ (stakeOf S a).2.1 ≤ a + 5 := by
  unfold stakeOf at h ⊢
  by_cases hc : (vtakeOf S a).2.2 = 0
  · rw [if_pos hc]
    have := vplace S a h0 h1 hc
    exact ⟨this.1, this.2.1, this.2.2.1⟩
  · rw [if_neg hc] at h
    exact absurd h hc
theorem rnumber_num (S : ByteArray) (a E most : Int) (h0 : 0 ≤ a) (h1 : a ≤ S.size) : rnumber a E 0 (max most 0) (vtakeOf (S.extract a.toNat S.size) 0) = rnum S a E most := by
  rw [vshift S a h0 h1]
  unfold rnumber rnum
  by_cases hE : E = 0
  · rw [if_pos hE, if_pos hE]
    by_cases hc : (vtakeOf S a).2.2 = 0
    · have hp := vplace S a h0 h1 hc
      simp only [if_pos hc]
      by_cases hm : (vtakeOf S a).1 > most ∧ (vtakeOf S a).1 > 0
      · rw [if_pos hm, if_pos (by omega)]
      · rw [if_neg hm, if_neg (by omega)]
        congr 2
        omega
    · simp only [if_neg hc]
  · rw [if_neg hE, if_neg hE]
theorem rnumber_sig (S : ByteArray) (a E least most : Int) (h0 : 0 ≤ a) (h1 : a ≤ S.size) : rnumber a E least most (stakeOf (S.extract a.toNat S.size) 0) = rsig S a E least most := by
  rw [sshift S a h0 h1]
  unfold rnumber rsig
  by_cases hE : E = 0
  · rw [if_pos hE, if_pos hE]
    by_cases hc : (stakeOf S a).2.2 = 0
    · simp only [if_pos hc]
      by_cases hm : (stakeOf S a).1 < least ∨ (stakeOf S a).1 > most
      · rw [if_pos hm, if_pos hm]
      · rw [if_neg hm, if_neg hm]
        congr 2
        omega
    · simp only [if_neg hc]
  · rw [if_neg hE, if_neg hE]
theorem extract_from (S : ByteArray) (a k : Int) (h0 : 0 ≤ a) (h1 : a ≤ S.size) (k0 : 0 ≤ k) (k1 : a + k ≤ S.size) : (S.extract a.toNat S.size).extract k.toNat (S.extract a.toNat S.size).size = S.extract (a + k).toNat S.size := by
  rw [ByteArray.extract_extract]
  congr 1
  · omega
  · rw [ByteArray.size_extract]; omega
theorem tail_size (S : ByteArray) (a : Int) (h0 : 0 ≤ a) (h1 : a ≤ S.size) : ((S.extract a.toNat S.size).size : Int) = S.size - a := by
  rw [ByteArray.size_extract]; omega
theorem extract_to (S : ByteArray) (a k : Int) (h0 : 0 ≤ a) (h1 : a ≤ S.size) (k0 : 0 ≤ k) (k1 : a + k ≤ S.size) : (S.extract a.toNat S.size).extract 0 k.toNat = S.extract a.toNat (a + k).toNat := by
  rw [ByteArray.extract_extract]
  congr 1
  omega
theorem gB_tail (S : ByteArray) (a : Int) (h0 : 0 ≤ a) (h1 : a < S.size) : gB (S.extract a.toNat S.size) 0 = gB S a.toNat := by
  rw [gB_extract S a.toNat S.size 0 (by omega) (Nat.le_refl _), Nat.add_zero]
theorem rnum_cases (S : ByteArray) (a most : Int) (h0 : 0 ≤ a) (h1 : a ≤ S.size) : ((rnum S a 0 most).1.2 ≠ 0 ∧ (rnum S a 0 most).1.1 = a ∧ (rnum S a 0 most).2 = 0) ∨
    ((rnum S a 0 most).1.2 = 0 ∧ a < (rnum S a 0 most).1.1 ∧ (rnum S a 0 most).1.1 ≤ S.size ∧ 0 ≤ (rnum S a 0 most).2 ∧ (rnum S a 0 most).2 ≤ 2147483647) := by
  unfold rnum
  rw [if_pos rfl]
  by_cases hc : (vtakeOf S a).2.2 = 0
  · have hp := vplace S a h0 h1 hc
    rw [if_pos hc]
    by_cases hm : (vtakeOf S a).1 > most ∧ (vtakeOf S a).1 > 0
    · rw [if_pos hm]; exact .inl ⟨show (12 : Int) ≠ 0 by decide, rfl, rfl⟩
    · rw [if_neg hm]; exact .inr ⟨rfl, hp.1, hp.2.1, hp.2.2.2⟩
  · rw [if_neg hc]; exact .inl ⟨hc, rfl, rfl⟩
theorem rtext_err {S : ByteArray} {a E most : Int} {x : (Int × Int) × Int} (hx : rnum S a E most = x) (h : x.1.2 ≠ 0) : rtext S a E most = (x.1, ByteArray.empty) := by
  unfold rtext; rw [hx, if_neg h]
theorem rtext_far {S : ByteArray} {a E most : Int} {x : (Int × Int) × Int} (hx : rnum S a E most = x) (h : x.1.2 = 0) (h2 : x.2 > S.size - x.1.1) : rtext S a E most = ((a, 2), ByteArray.empty) := by
  unfold rtext; rw [hx, if_pos h, if_pos h2]
theorem rtext_ok {S : ByteArray} {a E most : Int} {x : (Int × Int) × Int} (hx : rnum S a E most = x) (h : x.1.2 = 0) (h2 : ¬ x.2 > S.size - x.1.1) : rtext S a E most = ((x.1.1 + x.2, 0), S.extract x.1.1.toNat (x.1.1 + x.2).toNat) := by
  unfold rtext; rw [hx, if_pos h, if_neg h2]
theorem rnum_bad {S : ByteArray} {a E most : Int} (h : E ≠ 0) : rnum S a E most = ((a, E), 0) := by unfold rnum; rw [if_neg h]
theorem rbool_bad {S : ByteArray} {a E : Int} (h : E ≠ 0) : rbool S a E = ((a, E), false) := by unfold rbool; rw [if_neg h]
theorem rbool_end {S : ByteArray} {a : Int} (h : a = S.size) : rbool S a 0 = ((a, 2), false) := by unfold rbool; rw [if_pos rfl, if_pos h]
theorem rbool_far {S : ByteArray} {a : Int} (h : a ≠ S.size) (h2 : 1 < gB S a.toNat) : rbool S a 0 = ((a, 4), false) := by unfold rbool; rw [if_pos rfl, if_neg h, if_neg (by omega)]
theorem rbool_ok {S : ByteArray} {a : Int} (h : a ≠ S.size) (h2 : gB S a.toNat ≤ 1) : rbool S a 0 = ((a + 1, 0), decide (gB S a.toNat = 1)) := by unfold rbool; rw [if_pos rfl, if_neg h, if_pos h2]
end Go.Proofs.Ytnflahkpccfhaaa
