/-
  Integers in groups of seven bits, as lists of bytes, for the walks of layer 4 and of those above it: the encoding of a number, the number of some bytes, what stands at the front of some bytes. No program, no conditions.
-/
import Derived.Test.YtdjcbhkcciabpaaDigitsMath
namespace Go.Proofs.Ytdjcbhkcciabpaa
open Go
/-- The bytes of n, the lowest group first. -/
def encL (n : Nat) : List Int := if n < 128 then [(n : Int)] else (128 + ((n % 128 : Nat) : Int)) :: encL (n / 128)
theorem encL_lt {n : Nat} (h : n < 128) : encL n = [(n : Int)] := by rw [encL, if_pos h]
theorem encL_ge {n : Nat} (h : 128 ≤ n) : encL n = (128 + ((n % 128 : Nat) : Int)) :: encL (n / 128) := by
  conv => lhs; rw [encL]
  rw [if_neg (by omega)]
/-- Bytes that others follow, and a last one. -/
structure Form (l m : List Int) (b : Int) : Prop where
  eq : l = m ++ [b]
  many : ∀ x ∈ m, 128 ≤ x ∧ x < 256
  low : 0 ≤ b
  high : b < 128
theorem encL_form (n : Nat) : ∃ m b, Form (encL n) m b ∧ (m = [] ∨ b ≠ 0) := by
  induction n using Nat.strongRecOn with
  | ind n ih =>
    by_cases h : n < 128
    · exact ⟨[], n, ⟨by rw [encL_lt h]; rfl, by simp, by omega, by omega⟩, .inl rfl⟩
    · obtain ⟨m, b, ⟨e, h1, h2, h3⟩, h4⟩ := ih (n / 128) (by omega)
      refine ⟨(128 + ((n % 128 : Nat) : Int)) :: m, b, ⟨by rw [encL_ge (by omega), e]; rfl, ?_, h2, h3⟩, .inr ?_⟩
      · intro x hx
        rcases List.mem_cons.1 hx with hx | hx
        · omega
        · exact h1 x hx
      · rcases h4 with h4 | h4
        · subst h4
          rw [List.nil_append] at e
          by_cases h5 : n / 128 < 128
          · rw [encL_lt h5] at e
            have := (List.cons.inj e).1
            omega
          · rw [encL_ge (by omega)] at e
            have := (List.cons.inj e).1
            omega
        · exact h4
theorem Form.by_ {l m : List Int} {b : Int} (h : Form l m b) : ∀ x ∈ l, 0 ≤ x ∧ x < 256 := by
  intro x hx
  rw [h.eq] at hx
  rcases List.mem_append.1 hx with hx | hx
  · have := h.many x hx; omega
  · rw [List.mem_singleton] at hx
    have := h.low; have := h.high; omega
theorem encL_by (n : Nat) : ∀ x ∈ encL n, 0 ≤ x ∧ x < 256 := by
  obtain ⟨m, b, h, _⟩ := encL_form n
  exact h.by_
theorem encL_len_pos (n : Nat) : 1 ≤ (encL n).length := by
  obtain ⟨m, b, h, _⟩ := encL_form n
  rw [h.eq]; simp
theorem encL_len (n k : Nat) (hk : 1 ≤ k) (h : n < 128 ^ k) : (encL n).length ≤ k := by
  induction k generalizing n with
  | zero => omega
  | succ k ih =>
    by_cases h1 : n < 128
    · rw [encL_lt h1]; simp
    · rw [encL_ge (by omega), List.length_cons]
      have e : (128 : Nat) ^ (k + 1) = 128 ^ k * 128 := Nat.pow_succ _ _
      cases k with
      | zero => rw [Nat.zero_add, Nat.pow_one] at h; omega
      | succ k =>
        have := ih (n / 128) (by omega) (by rw [e] at h; exact Nat.div_lt_of_lt_mul (by rw [Nat.mul_comm]; exact h))
        omega
theorem encL_len5 (n : Nat) (h : n ≤ 2147483647) : (encL n).length ≤ 5 := encL_len n 5 (by omega) (by omega)
/-- The number of some bytes. -/
def valG : List Int → Int
  | [] => 0
  | x :: r => x % 128 + 128 * valG r
theorem valG_bd (l : List Int) : 0 ≤ valG l ∧ valG l < 128 ^ l.length := by
  induction l with
  | nil => simp [valG]
  | cons x r ih =>
    rw [List.length_cons, Int.pow_succ]
    unfold valG
    omega
theorem valG_append (l r : List Int) : valG (l ++ r) = valG l + 128 ^ l.length * valG r := by
  induction l with
  | nil => simp [valG]
  | cons x l ih =>
    have e1 : valG (x :: (l ++ r)) = x % 128 + 128 * valG (l ++ r) := rfl
    have e2 : valG (x :: l) = x % 128 + 128 * valG l := rfl
    rw [List.cons_append, List.length_cons, Int.pow_succ, e1, e2, ih, Int.mul_add, Int.mul_comm (128 ^ l.length) 128, Int.mul_assoc, Int.add_assoc]
theorem valG_encL (n : Nat) : valG (encL n) = n := by
  induction n using Nat.strongRecOn with
  | ind n ih =>
    by_cases h : n < 128
    · rw [encL_lt h]; simp [valG]; omega
    · rw [encL_ge (by omega)]
      unfold valG
      rw [ih (n / 128) (by omega)]
      omega
theorem encL_valG {l m : List Int} {b : Int} (h : Form l m b) : encL (valG l).toNat = l ↔ (m = [] ∨ b ≠ 0) := by
  constructor
  · intro e
    obtain ⟨m', b', h', c⟩ := encL_form (valG l).toNat
    have e1 : m ++ [b] = m' ++ [b'] := by rw [← h.eq, ← h'.eq, e]
    have e2 := List.append_inj' e1 rfl
    rw [e2.1]
    rw [(List.cons.inj e2.2).1]
    exact c
  · intro c
    have ⟨e, h1, h2, h3⟩ := h
    subst e
    clear h
    induction m with
    | nil =>
      have e : valG ([] ++ [b]) = b := by simp [valG]; omega
      rw [e, encL_lt (by omega)]
      simp; omega
    | cons x m ih =>
      have hb : b ≠ 0 := by
        rcases c with c | c
        · cases c
        · exact c
      have i := ih (.inr hb) (fun x hx => h1 x (by simp [hx]))
      have hx := h1 x (by simp)
      have hp := (valG_bd (m ++ [b])).1
      have hne : valG (m ++ [b]) ≠ 0 := by
        intro z
        rw [z] at i
        rw [show Int.toNat 0 = 0 from rfl, encL_lt (by omega)] at i
        cases m with
        | nil => simp at i; omega
        | cons y m => have := congrArg List.length i; simp at this
      rw [List.cons_append]
      have e : valG (x :: (m ++ [b])) = x % 128 + 128 * valG (m ++ [b]) := rfl
      rw [e, encL_ge (by omega), show (x % 128 + 128 * valG (m ++ [b])).toNat / 128 = (valG (m ++ [b])).toNat from by omega, i]
      congr 1
      omega
/-- When some bytes are an encoding, as the program asks it. -/
theorem enc_iff {l m : List Int} {b : Int} (h : Form l m b) (hm : m.length ≤ 4) : (encL (valG l).toNat = l ∧ valG l ≤ 2147483647) ↔ (m = [] ∨ b ≠ 0) ∧ (m.length < 4 ∨ b ≤ 7) := by
  rw [encL_valG h]
  have e : valG l = valG m + 128 ^ m.length * b := by
    rw [h.eq, valG_append]
    have e : valG [b] = b := by have := h.low; have := h.high; simp [valG]; omega
    rw [e]
  have hb := valG_bd m
  have h0 := h.low
  have h1 := h.high
  constructor
  · rintro ⟨h2, h3⟩
    refine ⟨h2, ?_⟩
    by_cases h4 : m.length < 4
    · exact .inl h4
    · have h5 : m.length = 4 := by omega
      rw [h5] at e hb
      right
      omega
  · rintro ⟨h2, h3⟩
    refine ⟨h2, ?_⟩
    have h4 : m.length = 0 ∨ m.length = 1 ∨ m.length = 2 ∨ m.length = 3 ∨ m.length = 4 := by omega
    rcases h4 with h4 | h4 | h4 | h4 | h4 <;> rw [h4] at e hb h3 <;> omega
/-- The bytes at the front that others follow. -/
def lead (l : List Int) : List Int := l.takeWhile fun x => decide (128 ≤ x)
theorem lead_cons {x : Int} (r : List Int) (h : 128 ≤ x) : lead (x :: r) = x :: lead r := by simp [lead, h]
theorem lead_stop {x : Int} (r : List Int) (h : x < 128) : lead (x :: r) = [] := by
  have : ¬ 128 ≤ x := by omega
  simp [lead, this]
theorem lead_nil : lead [] = [] := rfl
theorem lead_all (m : List Int) (hm : ∀ x ∈ m, 128 ≤ x ∧ x < 256) : lead m = m := by
  induction m with
  | nil => rfl
  | cons x m ih => rw [lead_cons m (hm x (by simp)).1, ih (fun y hy => hm y (by simp [hy]))]
theorem lead_form (m r : List Int) (b : Int) (hm : ∀ x ∈ m, 128 ≤ x ∧ x < 256) (hb : b < 128) : lead (m ++ b :: r) = m := by
  induction m with
  | nil => exact lead_stop r hb
  | cons x m ih => rw [List.cons_append, lead_cons _ (hm x (by simp)).1, ih (fun y hy => hm y (by simp [hy]))]
theorem lead_take (l : List Int) : l.take (lead l).length = lead l := by
  induction l with
  | nil => rfl
  | cons x r ih =>
    by_cases h : 128 ≤ x
    · rw [lead_cons r h]; simp [ih]
    · rw [lead_stop r (by omega)]; rfl
theorem lead_len (l : List Int) : (lead l).length ≤ l.length := by
  have := congrArg List.length (lead_take l)
  rw [List.length_take] at this; omega
theorem lead_mem (l : List Int) : ∀ x ∈ lead l, 128 ≤ x := by
  intro x hx
  have : decide (128 ≤ x) = true := by
    unfold lead at hx
    exact (List.all_eq_true.1 (List.all_takeWhile (l := l) (p := fun x => decide (128 ≤ x)))) x hx
  simpa using this
theorem lead_next (l : List Int) (h : (lead l).length < l.length) : l[(lead l).length] < 128 := by
  induction l with
  | nil => simp at h
  | cons x r ih =>
    by_cases hx : 128 ≤ x
    · simp only [lead_cons r hx, List.length_cons] at h ⊢
      exact ih (by omega)
    · simp only [lead_stop r (show x < 128 by omega)]
      simp; omega
/-- The front of some bytes, up to the first that no other follows. -/
theorem front_form (l : List Int) (hl : ∀ x ∈ l, 0 ≤ x ∧ x < 256) (h : (lead l).length < l.length) : Form (l.take ((lead l).length + 1)) (lead l) (l[(lead l).length]) := by
  refine ⟨?_, ?_, ?_, lead_next l h⟩
  · rw [List.take_succ_eq_append_getElem h, lead_take]
  · intro x hx
    have h1 := lead_mem l x hx
    rw [← lead_take] at hx
    exact ⟨h1, (hl x (List.mem_of_mem_take hx)).2⟩
  · exact (hl _ (List.getElem_mem h)).1
/-- The encoding of a number, or none. -/
def bytesL (n : Int) : List Int := if 0 ≤ n ∧ n ≤ 2147483647 then encL n.toNat else []
def bytesS (n : Int) : ByteArray := strOfNums (bytesL n)
theorem bytesL_by (n : Int) : ∀ x ∈ bytesL n, 0 ≤ x ∧ x < 256 := by
  unfold bytesL
  split
  · exact encL_by _
  · simp
theorem bytesL_in {n : Int} (h0 : 0 ≤ n) (h1 : n ≤ 2147483647) : bytesL n = encL n.toNat := by rw [bytesL, if_pos ⟨h0, h1⟩]
theorem bytesL_out {n : Int} (h : n < 0 ∨ 2147483647 < n) : bytesL n = [] := by rw [bytesL, if_neg (by omega)]
theorem bytesL_len (n : Int) : (bytesL n).length ≤ 5 := by
  unfold bytesL
  split
  · exact encL_len5 _ (by omega)
  · simp
theorem bytesS_size (n : Int) : (bytesS n).size = (bytesL n).length := by
  unfold bytesS
  rw [strOfNums_size]
/-- The signed encoding. -/
def zig (n : Int) : Int := if n < 0 then -1 - 2 * n else 2 * n
def signedL (n : Int) : List Int := if -1073741824 ≤ n ∧ n ≤ 1073741823 then bytesL (zig n) else []
def signedS (n : Int) : ByteArray := strOfNums (signedL n)
def zag (n : Int) : Int := if n % 2 = 1 then -1 - n / 2 else n / 2
theorem zag_zig (n : Int) : zag (zig n) = n := by
  unfold zag zig
  split <;> split <;> omega
theorem zig_zag (n : Int) (h : 0 ≤ n) : zig (zag n) = n := by
  unfold zag zig
  split <;> split <;> omega
theorem zig_in {n : Int} (h0 : -1073741824 ≤ n) (h1 : n ≤ 1073741823) : 0 ≤ zig n ∧ zig n ≤ 2147483647 := by
  unfold zig
  split <;> omega
theorem signedL_len (n : Int) : (signedL n).length ≤ 5 := by
  unfold signedL
  split
  · exact bytesL_len _
  · simp
theorem signedL_by (n : Int) : ∀ x ∈ signedL n, 0 ≤ x ∧ x < 256 := by
  unfold signedL
  split
  · exact bytesL_by _
  · simp
/-- What stands at the front of some bytes: a number, how many bytes, an error. -/
def takeP (l : List Int) : Int × Nat × Int :=
  if 5 ≤ (lead l).length then (0, 0, 4)
  else if (lead l).length = l.length then (0, 0, 2)
  else if encL (valG (l.take ((lead l).length + 1))).toNat = l.take ((lead l).length + 1) ∧ valG (l.take ((lead l).length + 1)) ≤ 2147483647 then (valG (l.take ((lead l).length + 1)), (lead l).length + 1, 0)
  else (0, 0, 4)
/-- What Take answers. -/
def vtakeOf (s : ByteArray) (a : Int) : Int × Int × Int :=
  if a < 0 ∨ (s.size : Int) < a then (0, 0, 1)
  else if (takeP ((bL s).drop a.toNat)).2.2 = 0 then ((takeP ((bL s).drop a.toNat)).1, a + ((takeP ((bL s).drop a.toNat)).2.1 : Int), 0)
  else (0, 0, (takeP ((bL s).drop a.toNat)).2.2)
def stakeOf (s : ByteArray) (a : Int) : Int × Int × Int := if (vtakeOf s a).2.2 = 0 then (zag (vtakeOf s a).1, (vtakeOf s a).2.1, 0) else (0, 0, (vtakeOf s a).2.2)
theorem takeP_err (l : List Int) : (takeP l).2.2 = 0 ∨ (takeP l).2.2 = 2 ∨ (takeP l).2.2 = 4 := by
  unfold takeP
  repeat' split
  all_goals simp
/-- What is taken has just those bytes. -/
theorem takeP_back (l : List Int) (h : (takeP l).2.2 = 0) : 0 ≤ (takeP l).1 ∧ (takeP l).1 ≤ 2147483647 ∧ 1 ≤ (takeP l).2.1 ∧ (takeP l).2.1 ≤ l.length ∧ (takeP l).2.1 ≤ 5 ∧ encL (takeP l).1.toNat = l.take (takeP l).2.1 := by
  unfold takeP at h ⊢
  have h1 := lead_len l
  by_cases c1 : 5 ≤ (lead l).length
  · rw [if_pos c1] at h; simp at h
  · rw [if_neg c1] at h ⊢
    by_cases c2 : (lead l).length = l.length
    · rw [if_pos c2] at h; simp at h
    · rw [if_neg c2] at h ⊢
      by_cases c3 : encL (valG (l.take ((lead l).length + 1))).toNat = l.take ((lead l).length + 1) ∧ valG (l.take ((lead l).length + 1)) ≤ 2147483647
      · rw [if_pos c3]
        exact ⟨(valG_bd _).1, c3.2, by simp, by simp; omega, by simp; omega, c3.1⟩
      · rw [if_neg c3] at h; simp at h
/-- An encoding is taken, whatever stands behind it. -/
theorem takeP_enc (n : Nat) (r : List Int) (h : n ≤ 2147483647) : takeP (encL n ++ r) = ((n : Int), (encL n).length, 0) := by
  obtain ⟨m, b, f, _⟩ := encL_form n
  have h5 := encL_len5 n h
  have hl : lead (encL n ++ r) = m := by rw [f.eq, List.append_assoc, List.singleton_append]; exact lead_form m r b f.many f.high
  have hz : (encL n).length = m.length + 1 := by rw [f.eq]; simp
  have ht : (encL n ++ r).take (m.length + 1) = encL n := by rw [← hz]; simp
  unfold takeP
  rw [hl, if_neg (by omega), if_neg (by rw [List.length_append]; omega), ht, valG_encL, if_pos ⟨by rw [Int.toNat_natCast], by omega⟩, hz]
/-- Cut off, it ends too early. -/
theorem takeP_cut (n k : Nat) (h : n ≤ 2147483647) (hk : k < (encL n).length) : takeP ((encL n).take k) = (0, 0, 2) := by
  obtain ⟨m, b, f, _⟩ := encL_form n
  have h5 := encL_len5 n h
  have hz : (encL n).length = m.length + 1 := by rw [f.eq]; simp
  have e : (encL n).take k = m.take k := by rw [f.eq, List.take_append_of_le_length (by omega)]
  have hl : lead (m.take k) = m.take k := lead_all _ (fun x hx => f.many x (List.mem_of_mem_take hx))
  unfold takeP
  rw [e, hl, if_neg (by rw [List.length_take]; omega), if_pos rfl]
theorem vtakeOf_ok (s : ByteArray) (a : Int) (h0 : 0 ≤ a) (h1 : a ≤ s.size) (h : (takeP ((bL s).drop a.toNat)).2.2 = 0) : vtakeOf s a = ((takeP ((bL s).drop a.toNat)).1, a + ((takeP ((bL s).drop a.toNat)).2.1 : Int), 0) := by
  unfold vtakeOf
  rw [if_neg (by omega), if_pos h]
theorem vtakeOf_no (s : ByteArray) (a : Int) (h0 : 0 ≤ a) (h1 : a ≤ s.size) (h : (takeP ((bL s).drop a.toNat)).2.2 ≠ 0) : vtakeOf s a = (0, 0, (takeP ((bL s).drop a.toNat)).2.2) := by
  unfold vtakeOf
  rw [if_neg (by omega), if_neg h]
theorem vtakeOf_out (s : ByteArray) (a : Int) (h : a < 0 ∨ (s.size : Int) < a) : vtakeOf s a = (0, 0, 1) := by
  unfold vtakeOf
  rw [if_pos h]
end Go.Proofs.Ytdjcbhkcciabpaa
