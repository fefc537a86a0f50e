/-
  Decimal digits as lists of bytes, for the walks of layer 3 and of those above it: the text of a number, the number of some digits, lists with commas. No program, no conditions.
-/
import Derived.Test.YtkalpclckgbedaaRunesMath
namespace Go.Proofs.Ytkalpclckgbedaa
open Go
/-- The bytes of a string, as numbers. -/
def bL (s : ByteArray) : List Int := numsAt s 0 s.size
theorem bL_length (s : ByteArray) : (bL s).length = s.size := numsAt_length _ _ _
theorem bL_bd (s : ByteArray) : ∀ x ∈ bL s, 0 ≤ x ∧ x < 256 := numsAt_bd _ _ _
theorem str_bL (s : ByteArray) : strOfNums (bL s) = s := by
  have h := extract_nums s 0 s.size (by omega)
  rw [Nat.zero_add] at h
  unfold bL
  rw [← h]
  exact ByteArray.extract_zero_size
theorem bL_get (s : ByteArray) (i : Nat) (h : i < s.size) : (bL s)[i]? = some (gB s i : Int) := by
  simp [bL, numsAt, h]
theorem bL_str (l : List Int) (hl : ∀ x ∈ l, 0 ≤ x ∧ x < 256) : bL (strOfNums l) = l :=
  strOfNums_eq _ _ (bL_bd _) hl (str_bL _)
theorem str_eq_iff (l m : List Int) (hl : ∀ x ∈ l, 0 ≤ x ∧ x < 256) (hm : ∀ x ∈ m, 0 ≤ x ∧ x < 256) : ((strOfNums l).toList == (strOfNums m).toList) = decide (l = m) := by
  rw [ByteArray.toList_eq, ByteArray.toList_eq, Bool.eq_iff_iff, beq_iff_eq, decide_eq_true_iff]
  constructor
  · intro e; exact strOfNums_eq _ _ hl hm (ByteArray.ext (Array.toList_inj.1 e))
  · intro e; rw [e]
theorem bL_extract (s : ByteArray) (i n : Nat) (h : i + n ≤ s.size) : bL (s.extract i (i + n)) = ((bL s).drop i).take n := by
  rw [extract_nums s i n h, bL_str _ (numsAt_bd _ _ _)]
  apply List.ext_getElem?
  intro j
  by_cases hj : j < n
  · rw [List.getElem?_take_of_lt hj, List.getElem?_drop, bL_get s (i + j) (by omega)]
    simp [numsAt, hj]
  · rw [List.getElem?_eq_none (by rw [numsAt_length]; omega), List.getElem?_eq_none (by rw [List.length_take]; omega)]
theorem str_append (l m : List Int) : strOfNums l ++ strOfNums m = strOfNums (l ++ m) := by
  apply ByteArray.ext
  rw [ByteArray.data_append]
  simp [strOfNums]
/-- The digits of n, the highest first. -/
def digL (n : Nat) : List Int := if n < 10 then [48 + (n : Int)] else digL (n / 10) ++ [48 + ((n % 10 : Nat) : Int)]
theorem digL_lt {n : Nat} (h : n < 10) : digL n = [48 + (n : Int)] := by rw [digL, if_pos h]
theorem digL_ge {n : Nat} (h : 10 ≤ n) : digL n = digL (n / 10) ++ [48 + ((n % 10 : Nat) : Int)] := by
  conv => lhs; rw [digL]
  rw [if_neg (by omega)]
/-- Is it a digit's byte? -/
def isD (x : Int) : Bool := decide (48 ≤ x) && decide (x ≤ 57)
theorem isD_iff (x : Int) : isD x = true ↔ 48 ≤ x ∧ x ≤ 57 := by simp [isD]
theorem digL_isD (n : Nat) : ∀ x ∈ digL n, 48 ≤ x ∧ x ≤ 57 := by
  induction n using Nat.strongRecOn with
  | ind n ih =>
    by_cases h : n < 10
    · rw [digL_lt h]; intro x hx; simp at hx; omega
    · rw [digL_ge (by omega)]
      intro x hx
      rcases List.mem_append.1 hx with hx | hx
      · exact ih (n / 10) (by omega) x hx
      · simp at hx; omega
theorem digL_ne_nil (n : Nat) : digL n ≠ [] := by
  by_cases h : n < 10
  · rw [digL_lt h]; simp
  · rw [digL_ge (by omega)]; simp
theorem digL_len (n k : Nat) (hk : 1 ≤ k) : (digL n).length ≤ k ↔ n < 10 ^ k := by
  induction k generalizing n with
  | zero => omega
  | succ k ih =>
    by_cases h : n < 10
    · rw [digL_lt h]
      have : 10 ≤ 10 ^ (k + 1) := by
        have := Nat.pow_le_pow_right (show 0 < 10 by omega) (show 1 ≤ k + 1 by omega)
        omega
      simp; omega
    · rw [digL_ge (by omega), List.length_append]
      have e : (10 : Nat) ^ (k + 1) = 10 ^ k * 10 := Nat.pow_succ _ _
      cases k with
      | zero => 
        have := List.length_pos_iff.2 (digL_ne_nil (n / 10))
        rw [show 0 + 1 = 1 from rfl, Nat.pow_one, List.length_singleton]
        omega
      | succ k =>
        have := ih (n / 10) (by omega)
        simp only [List.length_singleton]
        rw [e]
        omega
/-- The number of some digits. -/
def valL (l : List Int) : Int := l.foldl (fun n d => 10 * n + (d - 48)) 0
theorem valL_snoc (l : List Int) (d : Int) : valL (l ++ [d]) = 10 * valL l + (d - 48) := by simp [valL]
theorem valL_digL (n : Nat) : valL (digL n) = n := by
  induction n using Nat.strongRecOn with
  | ind n ih =>
    by_cases h : n < 10
    · rw [digL_lt h]; simp [valL]; omega
    · rw [digL_ge (by omega), valL_snoc, ih (n / 10) (by omega)]; omega
theorem digL_inj {n m : Nat} (h : digL n = digL m) : n = m := by
  have := congrArg valL h
  rw [valL_digL, valL_digL] at this; omega
/-- A list, taken apart at its end. -/
theorem snoc_cases (l : List Int) : l = [] ∨ ∃ m d, l = m ++ [d] := by
  rcases List.eq_nil_or_concat l with h | ⟨m, d, h⟩
  · exact .inl h
  · exact .inr ⟨m, d, by rw [h, List.concat_eq_append]⟩
theorem valL_nonneg (l : List Int) (hl : ∀ x ∈ l, 48 ≤ x ∧ x ≤ 57) : 0 ≤ valL l ∧ valL l < 10 ^ l.length := by
  generalize hn : l.length = n
  induction n generalizing l with
  | zero => rw [List.eq_nil_of_length_eq_zero hn]; simp [valL]
  | succ n ih =>
    rcases snoc_cases l with rfl | ⟨m, d, rfl⟩
    · simp at hn
    · have := ih m (fun x hx => hl x (by simp [hx])) (by simpa using hn)
      have := hl d (by simp)
      rw [valL_snoc, Int.pow_succ]
      omega
theorem pow10_le {k : Nat} (h : k ≤ 9) : (10 : Int) ^ k ≤ 1000000000 := by
  have h : k = 0 ∨ k = 1 ∨ k = 2 ∨ k = 3 ∨ k = 4 ∨ k = 5 ∨ k = 6 ∨ k = 7 ∨ k = 8 ∨ k = 9 := by omega
  rcases h with rfl | rfl | rfl | rfl | rfl | rfl | rfl | rfl | rfl | rfl <;> decide
/-- No digit too many at the front. -/
def plain (l : List Int) : Bool := !decide (l[0]? = some 48) || decide (l.length = 1)
theorem digL_plain (n : Nat) : plain (digL n) = true := by
  induction n using Nat.strongRecOn with
  | ind n ih =>
    by_cases h : n < 10
    · rw [digL_lt h]; simp [plain]
    · have h1 := ih (n / 10) (by omega)
      rw [digL_ge (by omega)]
      by_cases h2 : n / 10 < 10
      · rw [digL_lt h2]; simp [plain]; omega
      · have := List.length_pos_iff.2 (digL_ne_nil (n / 10 / 10))
        have e : (digL (n / 10)).length ≠ 1 := by rw [digL_ge (by omega), List.length_append, List.length_singleton]; omega
        have p := List.length_pos_iff.2 (digL_ne_nil (n / 10))
        simp only [plain, Bool.or_eq_true, Bool.not_eq_true', decide_eq_false_iff_not, decide_eq_true_iff] at h1 ⊢
        left
        rw [List.getElem?_append_left p]
        rcases h1 with h1 | h1
        · exact h1
        · exact absurd h1 e
theorem digL_valL (l : List Int) (hl : ∀ x ∈ l, 48 ≤ x ∧ x ≤ 57) (h0 : l ≠ []) : digL (valL l).toNat = l ↔ plain l = true := by
  constructor
  · intro h; rw [← h]; exact digL_plain _
  · generalize hn : l.length = n
    induction n generalizing l with
    | zero => exact absurd (List.eq_nil_of_length_eq_zero hn) h0
    | succ n ih =>
      intro hp
      rcases snoc_cases l with rfl | ⟨m, d, rfl⟩
      · exact absurd rfl h0
      · have hd := hl d (by simp)
        have hm := fun x hx => hl x (List.mem_append_left [d] hx)
        have hv := valL_nonneg m hm
        rw [valL_snoc]
        by_cases hm0 : m = []
        · subst hm0
          simp only [valL, List.foldl_nil]
          rw [digL_lt (by omega)]
          simp; omega
        · have hpm : 0 < m.length := List.length_pos_iff.2 hm0
          simp only [plain, Bool.or_eq_true, Bool.not_eq_true', decide_eq_false_iff_not, decide_eq_true_iff, List.length_append, List.length_singleton] at hp
          have hp1 : ¬ (m ++ [d])[0]? = some 48 := by
            rcases hp with hp | hp
            · exact hp
            · omega
          rw [List.getElem?_append_left hpm] at hp1
          have hi := ih m hm hm0 (by simpa using hn) (by simp [plain, hp1])
          have hv1 : valL m ≠ 0 := by
            intro c
            rw [c] at hi
            rw [← hi] at hp1
            exact hp1 (by rw [show Int.toNat 0 = 0 from rfl, digL_lt (by omega)]; rfl)
          rw [digL_ge (by omega), show (10 * valL m + (d - 48)).toNat / 10 = (valL m).toNat from by omega, hi]
          congr 2
          omega
/-- The text of a number. -/
def putL (n : Int) : List Int := if n < 0 then 45 :: digL (-n).toNat else digL n.toNat
def putS (n : Int) : ByteArray := strOfNums (putL n)
theorem putL_neg {n : Int} (h : n < 0) : putL n = 45 :: digL (-n).toNat := by rw [putL, if_pos h]
theorem putL_pos {n : Int} (h : 0 ≤ n) : putL n = digL n.toNat := by rw [putL, if_neg (by omega)]
theorem putL_bd (n : Int) : ∀ x ∈ putL n, 45 ≤ x ∧ x ≤ 57 := by
  unfold putL
  split
  · intro x hx
    rcases List.mem_cons.1 hx with h | h
    · omega
    · have := digL_isD _ x h; omega
  · intro x hx; have := digL_isD _ x hx; omega
theorem putL_by (n : Int) : ∀ x ∈ putL n, 0 ≤ x ∧ x < 256 := fun x hx => by have := putL_bd n x hx; omega
theorem putL_ne_nil (n : Int) : putL n ≠ [] := by
  unfold putL
  split
  · simp
  · exact digL_ne_nil _
theorem digL_ne_minus (n : Nat) (r : List Int) : digL n ≠ 45 :: r := by
  intro h
  have := digL_isD n 45 (by rw [h]; simp)
  omega
theorem putL_inj {n m : Int} (h : putL n = putL m) : n = m := by
  unfold putL at h
  split at h <;> split at h
  · have := digL_inj (List.cons.inj h).2; omega
  · exact absurd h.symm (digL_ne_minus _ _)
  · exact absurd h (digL_ne_minus _ _)
  · have := digL_inj h; omega
theorem putL_len (n : Int) (h1 : -9223372036854775808 ≤ n) (h2 : n ≤ 9223372036854775807) : (putL n).length ≤ 20 := by
  unfold putL
  split
  · have := (digL_len (-n).toNat 19 (by omega)).2 (by omega)
    simp; omega
  · have := (digL_len n.toNat 19 (by omega)).2 (by omega)
    omega
theorem putS_size (n : Int) (h1 : -9223372036854775808 ≤ n) (h2 : n ≤ 9223372036854775807) : (putS n).size ≤ 20 := by
  unfold putS
  rw [strOfNums_size]
  exact putL_len n h1 h2
/-- The digits at the front. -/
def firstD (l : List Int) : List Int := l.takeWhile isD
theorem firstD_cons {x : Int} (r : List Int) (h : isD x = true) : firstD (x :: r) = x :: firstD r := by simp [firstD, h]
theorem firstD_stop {x : Int} (r : List Int) (h : isD x = false) : firstD (x :: r) = [] := by simp [firstD, h]
theorem firstD_isD (l : List Int) : ∀ x ∈ firstD l, 48 ≤ x ∧ x ≤ 57 := by
  intro x hx
  have : isD x = true := by
    unfold firstD at hx
    exact (List.all_eq_true.1 (List.all_takeWhile (l := l) (p := isD))) x hx
  exact (isD_iff x).1 this
theorem firstD_take (l : List Int) : l.take (firstD l).length = firstD l := by
  induction l with
  | nil => rfl
  | cons x r ih =>
    cases h : isD x with
    | true => rw [firstD_cons r h]; simp [ih]
    | false => rw [firstD_stop r h]; rfl
theorem firstD_len (l : List Int) : (firstD l).length ≤ l.length := by
  have := congrArg List.length (firstD_take l)
  rw [List.length_take] at this; omega
theorem drop_cons {l : List Int} {i : Nat} (h : i < l.length) : l.drop i = l[i] :: l.drop (i + 1) := List.drop_eq_getElem_cons h
theorem bL_drop (s : ByteArray) (i : Nat) (h : i < s.size) : (bL s).drop i = (gB s i : Int) :: (bL s).drop (i + 1) := by
  have hl : i < (bL s).length := by rw [bL_length]; exact h
  rw [drop_cons hl]
  congr 1
  have := bL_get s i h
  rw [List.getElem?_eq_getElem hl] at this
  exact Option.some.inj this
theorem bL_drop_nil (s : ByteArray) (i : Nat) (h : s.size ≤ i) : (bL s).drop i = [] := List.drop_eq_nil_of_le (by rw [bL_length]; exact h)
/-- What Take answers. -/
def takeOf (s : ByteArray) (a most : Int) : Int × Int × Bool :=
  if a < 0 ∨ (s.size : Int) ≤ a then (0, 0, false)
  else if firstD ((bL s).drop a.toNat) ≠ [] ∧ ((firstD ((bL s).drop a.toNat)).length : Int) ≤ most ∧ (firstD ((bL s).drop a.toNat)).length ≤ 9 ∧ plain (firstD ((bL s).drop a.toNat)) = true then
    (valL (firstD ((bL s).drop a.toNat)), a + ((firstD ((bL s).drop a.toNat)).length : Int), true)
  else (0, 0, false)
/-- The number that all of a list is, without a sign. -/
def wholeL (l : List Int) : Option Int := if l ≠ [] ∧ l.length ≤ 9 ∧ plain l = true ∧ l.all isD = true then some (valL l) else none
theorem all_isD {l : List Int} (h : l.all isD = true) : ∀ x ∈ l, 48 ≤ x ∧ x ≤ 57 := fun x hx => (isD_iff x).1 (List.all_eq_true.1 h x hx)
theorem firstD_all {l : List Int} (h : l.all isD = true) : firstD l = l := by
  induction l with
  | nil => rfl
  | cons x r ih =>
    simp only [List.all_cons, Bool.and_eq_true] at h
    rw [firstD_cons r h.1, ih h.2]
theorem wholeL_iff (l : List Int) (n : Int) : wholeL l = some n ↔ 0 ≤ n ∧ n ≤ 999999999 ∧ digL n.toNat = l := by
  unfold wholeL
  constructor
  · intro h
    split at h
    · rename_i c
      obtain ⟨c1, c2, c3, c4⟩ := c
      have hd := all_isD c4
      have e := (digL_valL l hd c1).2 c3
      obtain rfl := Option.some.inj h
      have hv := valL_nonneg l hd
      have : (digL (valL l).toNat).length ≤ 9 := by rw [e]; exact c2
      have := (digL_len _ 9 (by omega)).1 this
      exact ⟨hv.1, by omega, e⟩
    · cases h
  · rintro ⟨h1, h2, rfl⟩
    rw [if_pos ⟨digL_ne_nil _, (digL_len _ 9 (by omega)).2 (by omega), digL_plain _, List.all_eq_true.2 fun x hx => (isD_iff x).2 (digL_isD _ x hx)⟩, valL_digL]
    congr 1; omega
/-- Take over the rest of a text, as a whole. -/
theorem take_whole (s : ByteArray) (a : Nat) : wholeL ((bL s).drop a) = if (takeOf s a 9).2.2 = true ∧ (takeOf s a 9).2.1 = (s.size : Int) then some (takeOf s a 9).1 else none := by
  have hl : ((bL s).drop a).length = s.size - a := by rw [List.length_drop, bL_length]
  unfold takeOf
  rw [Int.toNat_natCast]
  generalize hD : (bL s).drop a = D at hl
  by_cases h : (a : Int) < 0 ∨ (s.size : Int) ≤ a
  · rw [if_pos h]
    have : D = [] := List.eq_nil_of_length_eq_zero (by omega)
    subst this
    rfl
  · rw [if_neg h]
    by_cases h2 : firstD D ≠ [] ∧ ((firstD D).length : Int) ≤ 9 ∧ (firstD D).length ≤ 9 ∧ plain (firstD D) = true
    · rw [if_pos h2]
      by_cases h3 : D.all isD = true
      · have e := firstD_all h3
        rw [e] at h2 ⊢
        rw [if_pos ⟨rfl, by show (a : Int) + (D.length : Int) = _; omega⟩]
        unfold wholeL
        rw [if_pos ⟨h2.1, h2.2.2.1, h2.2.2.2, h3⟩]
      · rw [if_neg (fun c => ?_)]
        · unfold wholeL; rw [if_neg (fun c => h3 c.2.2.2)]
        · have c2 : (a : Int) + ((firstD D).length : Int) = (s.size : Int) := c.2
          have e := firstD_take D
          rw [List.take_of_length_le (by omega)] at e
          apply h3
          rw [e]
          exact List.all_eq_true.2 fun x hx => (isD_iff x).2 (firstD_isD _ x hx)
    · rw [if_neg h2]
      have : wholeL D = none := by
        unfold wholeL
        rw [if_neg]
        intro c
        have e := firstD_all c.2.2.2
        apply h2
        rw [e]
        exact ⟨c.1, by have := c.2.1; omega, c.2.1, c.2.2.1⟩
      rw [this]; simp
/-- The number whose text a list is. -/
def parseL (l : List Int) : Option Int :=
  if l[0]? = some 45 then (match wholeL (l.drop 1) with | some n => if n = 0 then none else some (-n) | none => none) else wholeL l
theorem parseL_iff (l : List Int) (n : Int) : parseL l = some n ↔ -999999999 ≤ n ∧ n ≤ 999999999 ∧ putL n = l := by
  unfold parseL
  cases l with
  | nil =>
    rw [if_neg (by simp)]
    constructor
    · intro h; exact absurd h (by simp [wholeL])
    · rintro ⟨_, _, h⟩; exact absurd h (putL_ne_nil n)
  | cons x r =>
    by_cases hx : x = 45
    · subst hx
      rw [if_pos (by rfl), List.drop_one, List.tail_cons]
      constructor
      · intro h
        cases hw : wholeL r with
        | none => rw [hw] at h; cases h
        | some m =>
          rw [hw] at h
          have h' : (if m = 0 then none else some (-m)) = some n := h
          by_cases hm : m = 0
          · rw [if_pos hm] at h'; cases h'
          · rw [if_neg hm] at h'
            obtain rfl := Option.some.inj h'
            obtain ⟨a1, a2, a3⟩ := (wholeL_iff r m).1 hw
            refine ⟨by omega, by omega, ?_⟩
            rw [putL_neg (by omega), Int.neg_neg, a3]
      · rintro ⟨h1, h2, h3⟩
        by_cases hn : n < 0
        · rw [putL_neg hn] at h3
          have := (wholeL_iff r (-n)).2 ⟨by omega, by omega, (List.cons.inj h3).2⟩
          rw [this]
          show (if -n = 0 then none else some (- -n)) = some n
          rw [if_neg (by omega), Int.neg_neg]
        · rw [putL_pos (by omega)] at h3
          exact absurd h3 (digL_ne_minus _ _)
    · rw [if_neg (by simpa using hx), wholeL_iff]
      constructor
      · rintro ⟨h1, h2, h3⟩; exact ⟨by omega, h2, by rw [putL_pos h1, h3]⟩
      · rintro ⟨h1, h2, h3⟩
        by_cases hn : n < 0
        · rw [putL_neg hn] at h3
          exact absurd (List.cons.inj h3).1.symm hx
        · rw [putL_pos (by omega)] at h3
          exact ⟨by omega, h2, h3⟩
/-- Texts with commas between them. -/
def joinC : List (List Int) → List Int
  | [] => []
  | [p] => p
  | p :: q :: r => p ++ 44 :: joinC (q :: r)
def listL (y : List Int) : List Int := joinC (y.map putL)
theorem joinC_cons (p : List Int) {r : List (List Int)} (h : r ≠ []) : joinC (p :: r) = p ++ 44 :: joinC r := by
  cases r with
  | nil => exact absurd rfl h
  | cons q r => rfl
theorem joinC_snoc (l : List (List Int)) (p : List Int) (h : l ≠ []) : joinC (l ++ [p]) = joinC l ++ 44 :: p := by
  induction l with
  | nil => exact absurd rfl h
  | cons q r ih =>
    by_cases hr : r = []
    · subst hr; rfl
    · rw [List.cons_append, joinC_cons q (by simp), ih hr, joinC_cons q hr, List.append_assoc]; rfl
theorem listL_one (x : Int) : listL [x] = putL x := rfl
theorem listL_snoc (y : List Int) (x : Int) (h : y ≠ []) : listL (y ++ [x]) = listL y ++ 44 :: putL x := by
  unfold listL
  rw [List.map_append]
  exact joinC_snoc _ _ (by simpa using h)
theorem listL_by (y : List Int) : ∀ x ∈ listL y, 0 ≤ x ∧ x < 256 := by
  induction y with
  | nil => intro x hx; cases hx
  | cons a r ih =>
    by_cases hr : r = []
    · subst hr; exact putL_by a
    · have e : listL (a :: r) = putL a ++ 44 :: listL r := by unfold listL; rw [List.map_cons, joinC_cons _ (by simpa using hr)]
      rw [e]
      intro x hx
      rcases List.mem_append.1 hx with hx | hx
      · exact putL_by a x hx
      · rcases List.mem_cons.1 hx with hx | hx
        · omega
        · exact ih x hx
/-- The parts between the commas. -/
def pieces : List Int → List (List Int)
  | [] => [[]]
  | c :: r => if c = 44 then [] :: pieces r else (c :: (pieces r).headD []) :: (pieces r).tail
theorem pieces_ne_nil (l : List Int) : pieces l ≠ [] := by
  cases l with
  | nil => simp [pieces]
  | cons c r => simp only [pieces]; split <;> simp
/-- Where the first comma stands, or the end. -/
def commaL (l : List Int) : Nat := (l.takeWhile fun x => !decide (x = 44)).length
theorem commaL_nil : commaL [] = 0 := rfl
theorem commaL_stop (r : List Int) : commaL (44 :: r) = 0 := by simp [commaL]
theorem commaL_cons {x : Int} (r : List Int) (h : x ≠ 44) : commaL (x :: r) = commaL r + 1 := by simp [commaL, h]
theorem commaL_le (l : List Int) : commaL l ≤ l.length := by
  induction l with
  | nil => simp [commaL]
  | cons c r ih =>
    by_cases h : c = 44
    · subst h; rw [commaL_stop]; omega
    · rw [commaL_cons r h]; simp; omega
theorem pieces_eq (l : List Int) : pieces l = l.take (commaL l) :: (if commaL l < l.length then pieces (l.drop (commaL l + 1)) else []) := by
  induction l with
  | nil => rfl
  | cons c r ih =>
    by_cases h : c = 44
    · subst h
      rw [commaL_stop]
      simp [pieces]
    · rw [commaL_cons r h]
      simp only [pieces, if_neg h, List.take_succ_cons, List.length_cons, List.drop_succ_cons]
      rw [ih]
      simp
theorem pieces_none (p : List Int) (h : ∀ x ∈ p, x ≠ 44) : pieces p = [p] := by
  induction p with
  | nil => rfl
  | cons c r ih =>
    have hc := h c (by simp)
    simp only [pieces, if_neg hc]
    rw [ih fun x hx => h x (by simp [hx])]
    rfl
theorem pieces_append (p r : List Int) (h : ∀ x ∈ p, x ≠ 44) : pieces (p ++ 44 :: r) = p :: pieces r := by
  induction p with
  | nil => simp [pieces]
  | cons c p ih =>
    have hc := h c (by simp)
    simp only [List.cons_append, pieces, if_neg hc]
    rw [ih fun x hx => h x (by simp [hx])]
    rfl
theorem joinC_pieces (l : List Int) : joinC (pieces l) = l := by
  induction l with
  | nil => rfl
  | cons c r ih =>
    by_cases h : c = 44
    · subst h
      simp only [pieces, if_pos]
      rw [joinC_cons _ (pieces_ne_nil r), ih]; rfl
    · simp only [pieces, if_neg h]
      generalize pieces r = q at ih ⊢
      cases q with
      | nil => rw [← ih]; rfl
      | cons p q =>
        cases q with
        | nil => rw [← ih]; rfl
        | cons p2 q => rw [← ih]; rfl
theorem putL_no_comma (n : Int) : ∀ x ∈ putL n, x ≠ 44 := fun x hx => by have := putL_bd n x hx; omega
theorem pieces_listL (y : List Int) (h : y ≠ []) : pieces (listL y) = y.map putL := by
  induction y with
  | nil => exact absurd rfl h
  | cons a r ih =>
    by_cases hr : r = []
    · subst hr; exact pieces_none _ (putL_no_comma a)
    · have e : listL (a :: r) = putL a ++ 44 :: listL r := by unfold listL; rw [List.map_cons, joinC_cons _ (by simpa using hr)]
      rw [e, pieces_append _ _ (putL_no_comma a), ih hr]; rfl
/-- The numbers of some parts. -/
def allP : List (List Int) → Option (List Int)
  | [] => some []
  | p :: r => match parseL p with | none => none | some n => (allP r).map (n :: ·)
def inB (y : List Int) : Prop := ∀ n ∈ y, -999999999 ≤ n ∧ n ≤ 999999999
theorem allP_iff (ps : List (List Int)) (ys : List Int) : allP ps = some ys ↔ inB ys ∧ ps = ys.map putL := by
  induction ps generalizing ys with
  | nil =>
    simp only [allP, Option.some.injEq]
    constructor
    · rintro rfl; exact ⟨fun n hn => absurd hn (by simp), rfl⟩
    · rintro ⟨_, h⟩
      exact (List.map_eq_nil_iff.1 h.symm).symm
  | cons p r ih =>
    simp only [allP]
    cases hp : parseL p with
    | none =>
      constructor
      · intro h; cases h
      · rintro ⟨hb, h⟩
        cases ys with
        | nil => cases h
        | cons n ys =>
          have := (parseL_iff p n).2 ⟨(hb n (by simp)).1, (hb n (by simp)).2, (List.cons.inj h).1.symm⟩
          rw [hp] at this; cases this
    | some n =>
      obtain ⟨h1, h2, h3⟩ := (parseL_iff p n).1 hp
      show (allP r).map (n :: ·) = some ys ↔ _
      constructor
      · intro h
        obtain ⟨zs, hz, rfl⟩ := Option.map_eq_some_iff.1 h
        obtain ⟨hb, rfl⟩ := (ih zs).1 hz
        refine ⟨fun m hm => ?_, by rw [List.map_cons, h3]⟩
        rcases List.mem_cons.1 hm with rfl | hm
        · exact ⟨h1, h2⟩
        · exact hb m hm
      · rintro ⟨hb, h⟩
        cases ys with
        | nil => cases h
        | cons m ys =>
          have e : n = m := putL_inj (h3.trans (List.cons.inj h).1)
          subst e
          have := (ih ys).2 ⟨fun k hk => hb k (by simp [hk]), (List.cons.inj h).2⟩
          rw [this]; rfl
def unlistL (l : List Int) : Option (List Int) := if l = [] then some [] else allP (pieces l)
theorem listL_ne_nil (y : List Int) (h : y ≠ []) : listL y ≠ [] := by
  intro c
  have := pieces_listL y h
  rw [c] at this
  cases y with
  | nil => exact h rfl
  | cons a r => exact putL_ne_nil a (List.cons.inj this).1.symm
theorem unlist_back (l y : List Int) (h : unlistL l = some y) : listL y = l := by
  unfold unlistL at h
  split at h
  · rename_i e; subst e; obtain rfl := Option.some.inj h; rfl
  · have := (allP_iff _ _).1 h
    unfold listL
    rw [← this.2, joinC_pieces]
theorem unlist_list (y z : List Int) : unlistL (listL y) = some z ↔ z = y ∧ inB y := by
  unfold unlistL
  by_cases hy : y = []
  · subst hy
    rw [if_pos (show listL [] = [] from rfl)]
    simp [inB, eq_comm]
  · rw [if_neg (listL_ne_nil y hy), pieces_listL y hy, allP_iff]
    constructor
    · rintro ⟨hb, h⟩
      have : y = z := by
        clear hb hy
        induction y generalizing z with
        | nil => exact (List.map_eq_nil_iff.1 h.symm).symm
        | cons a r ih =>
          cases z with
          | nil => cases h
          | cons b z => rw [putL_inj (List.cons.inj h).1, ih z (List.cons.inj h).2]
      subst this; exact ⟨rfl, hb⟩
    · rintro ⟨rfl, hb⟩; exact ⟨hb, rfl⟩
end Go.Proofs.Ytkalpclckgbedaa
