/-
  Plain facts of the tokens of card texts: what one token is, what lies between tokens, the whole scan. No program, no conditions.
-/
import Derived.Test.YtnlnkjjegaihcaaTokMath
namespace Go.Proofs.Ytnlnkjjegaihcaa
open Go
def isSm (x : Int) : Bool := decide (97 ≤ x) && decide (x ≤ 122)
theorem isSm_iff (x : Int) : isSm x = true ↔ 97 ≤ x ∧ x ≤ 122 := by unfold isSm; simp
def notC (c : Int) (x : Int) : Bool := !decide (x = c)
theorem notC_iff (c x : Int) : notC c x = true ↔ x ≠ c := by unfold notC; simp
def isBl (x : Int) : Bool := decide (x = 32) || decide (x = 9) || decide (x = 10)
theorem isBl_iff (x : Int) : isBl x = true ↔ x = 32 ∨ x = 9 ∨ x = 10 := by unfold isBl; simp [or_assoc]
/-- How many of a list's first numbers are of a kind. -/
def tw (p : Int → Bool) (l : List Int) : Nat := (l.takeWhile p).length
theorem tw_nil (p : Int → Bool) : tw p [] = 0 := rfl
theorem tw_cons {p : Int → Bool} {x : Int} (r : List Int) (h : p x = true) : tw p (x :: r) = tw p r + 1 := by simp [tw, h]
theorem tw_stop {p : Int → Bool} {x : Int} (r : List Int) (h : p x = false) : tw p (x :: r) = 0 := by simp [tw, h]
theorem tw_le (p : Int → Bool) : ∀ l : List Int, tw p l ≤ l.length
  | [] => Nat.le_refl _
  | x :: r => by
    cases h : p x with
    | true => rw [tw_cons r h, List.length_cons]; have := tw_le p r; omega
    | false => rw [tw_stop r h]; omega
theorem tw_at (p : Int → Bool) : ∀ (l : List Int) (k : Nat), k < tw p l → ∃ x, l[k]? = some x ∧ p x = true
  | [], k, h => by rw [tw_nil] at h; omega
  | x :: r, k, h => by
    cases hp : p x with
    | true =>
      rw [tw_cons r hp] at h
      cases k with
      | zero => exact ⟨x, rfl, hp⟩
      | succ k =>
        obtain ⟨y, h1, h2⟩ := tw_at p r k (by omega)
        exact ⟨y, by simpa using h1, h2⟩
    | false => rw [tw_stop r hp] at h; omega
theorem tw_end (p : Int → Bool) : ∀ (l : List Int), tw p l = l.length ∨ ∃ x, l[tw p l]? = some x ∧ p x = false
  | [] => .inl rfl
  | x :: r => by
    cases hp : p x with
    | true =>
      rw [tw_cons r hp]
      rcases tw_end p r with h | ⟨y, h1, h2⟩
      · exact .inl (by rw [h, List.length_cons])
      · exact .inr ⟨y, by simpa using h1, h2⟩
    | false => rw [tw_stop r hp]; exact .inr ⟨x, rfl, hp⟩
/-- All of a piece, and then what is none: just the piece. -/
theorem tw_piece (p : Int → Bool) : ∀ (a : List Int) (x : Int) (r : List Int), (∀ y ∈ a, p y = true) → p x = false → tw p (a ++ x :: r) = a.length
  | [], x, r, _, hx => by rw [List.nil_append, tw_stop r hx]; rfl
  | y :: a, x, r, h, hx => by
    rw [List.cons_append, tw_cons _ (h y (by simp)), tw_piece p a x r (fun z hz => h z (by simp [hz])) hx, List.length_cons]
theorem tw_take (p : Int → Bool) (l : List Int) : ∀ y ∈ l.take (tw p l), p y = true := by
  intro y hy
  obtain ⟨k, hk⟩ := List.mem_iff_getElem?.1 hy
  rw [List.getElem?_take] at hk
  split at hk
  · rename_i h
    obtain ⟨x, h1, h2⟩ := tw_at p l k h
    rw [h1] at hk
    cases hk
    exact h2
  · cases hk
theorem tw_firstD (l : List Int) : (firstD l).length = tw isD l := rfl
theorem firstD_tw (l : List Int) : firstD l = l.take (tw isD l) := (firstD_take l).symm
/-- How long the mark is that stands there; 0: none. -/
def markL : List Int → Nat
  | [] => 0
  | c :: r => if (c = 60 ∨ c = 62 ∨ c = 33) ∧ r.head? = some 61 then 2
    else if c = 123 ∨ c = 125 ∨ c = 40 ∨ c = 41 ∨ c = 59 ∨ c = 43 ∨ c = 45 ∨ c = 42 ∨ c = 61 ∨ c = 60 ∨ c = 62 then 1 else 0
theorem markL_cons (c : Int) (r : List Int) : markL (c :: r) = if (c = 60 ∨ c = 62 ∨ c = 33) ∧ r.head? = some 61 then 2
    else if c = 123 ∨ c = 125 ∨ c = 40 ∨ c = 41 ∨ c = 59 ∨ c = 43 ∨ c = 45 ∨ c = 42 ∨ c = 61 ∨ c = 60 ∨ c = 62 then 1 else 0 := rfl
/-- One token (or a remark, or a fault) at a list's beginning: kind, from, to, behind. -/
def tokL : List Int → Int × Nat × Nat × Nat
  | [] => (0, 0, 0, 0)
  | c :: r =>
    if isSm c = true then (1, 0, tw isSm (c :: r), tw isSm (c :: r))
    else if isD c = true then (if 2 < tw isD (c :: r) ∨ (tw isD (c :: r) = 2 ∧ c = 48) then (-2, 0, 0, 0) else (2, 0, tw isD (c :: r), tw isD (c :: r)))
    else if c = 35 then (-1, 0, tw (notC 10) (c :: r), tw (notC 10) (c :: r))
    else if c = 34 then (if tw (notC 34) r = r.length ∨ nameB (strOfNums (r.take (tw (notC 34) r))) = false then (-3, 0, 0, 0) else (3, 1, tw (notC 34) r + 1, tw (notC 34) r + 2))
    else if markL (c :: r) = 0 then (-4, 0, 0, 0) else (4, 0, markL (c :: r), markL (c :: r))
theorem tokL_cons (c : Int) (r : List Int) : tokL (c :: r) =
    if isSm c = true then (1, 0, tw isSm (c :: r), tw isSm (c :: r))
    else if isD c = true then (if 2 < tw isD (c :: r) ∨ (tw isD (c :: r) = 2 ∧ c = 48) then (-2, 0, 0, 0) else (2, 0, tw isD (c :: r), tw isD (c :: r)))
    else if c = 35 then (-1, 0, tw (notC 10) (c :: r), tw (notC 10) (c :: r))
    else if c = 34 then (if tw (notC 34) r = r.length ∨ nameB (strOfNums (r.take (tw (notC 34) r))) = false then (-3, 0, 0, 0) else (3, 1, tw (notC 34) r + 1, tw (notC 34) r + 2))
    else if markL (c :: r) = 0 then (-4, 0, 0, 0) else (4, 0, markL (c :: r), markL (c :: r)) := rfl
theorem markL_le (l : List Int) : markL l ≤ l.length ∧ markL l ≤ 2 := by
  cases l with
  | nil => simp [markL]
  | cons c r =>
    rw [markL_cons]
    split
    · rename_i h
      cases r with
      | nil => simp at h
      | cons d r => simp
    · split <;> simp
/-- Each kind, one by one. -/
theorem tokL_cases (c : Int) (r : List Int) (P : Int × Nat × Nat × Nat → Prop)
    (h1 : isSm c = true → P (1, 0, tw isSm (c :: r), tw isSm (c :: r)))
    (h2 : isD c = true → tw isD (c :: r) ≤ 2 → ¬ (tw isD (c :: r) = 2 ∧ c = 48) → P (2, 0, tw isD (c :: r), tw isD (c :: r)))
    (h2e : isD c = true → (2 < tw isD (c :: r) ∨ (tw isD (c :: r) = 2 ∧ c = 48)) → P (-2, 0, 0, 0))
    (h3 : c = 35 → P (-1, 0, tw (notC 10) (c :: r), tw (notC 10) (c :: r)))
    (h4 : c = 34 → tw (notC 34) r < r.length → nameB (strOfNums (r.take (tw (notC 34) r))) = true → P (3, 1, tw (notC 34) r + 1, tw (notC 34) r + 2))
    (h4e : c = 34 → (tw (notC 34) r = r.length ∨ nameB (strOfNums (r.take (tw (notC 34) r))) = false) → P (-3, 0, 0, 0))
    (h5 : isSm c = false → isD c = false → c ≠ 35 → c ≠ 34 → markL (c :: r) ≠ 0 → P (4, 0, markL (c :: r), markL (c :: r)))
    (h5e : isSm c = false → isD c = false → c ≠ 35 → c ≠ 34 → markL (c :: r) = 0 → P (-4, 0, 0, 0)) : P (tokL (c :: r)) := by
  rw [tokL_cons]
  split
  · exact h1 (by assumption)
  · rename_i n1
    rw [Bool.not_eq_true] at n1
    split
    · split
      · exact h2e (by assumption) (by assumption)
      · exact h2 (by assumption) (by omega) (by omega)
    · rename_i n2
      rw [Bool.not_eq_true] at n2
      split
      · exact h3 (by assumption)
      · split
        · split
          · exact h4e (by assumption) (by assumption)
          · rename_i hn
            have := tw_le (notC 34) r
            refine h4 (by assumption) (by omega) ?_
            rw [← Bool.not_eq_false]; intro hh; exact hn (.inr hh)
        · split
          · exact h5e n1 n2 (by assumption) (by assumption) (by assumption)
          · exact h5 n1 n2 (by assumption) (by assumption) (by assumption)
/-- What every token keeps: its bounds. -/
theorem tokL_bd (l : List Int) (h : l ≠ []) : (tokL l).2.1 ≤ (tokL l).2.2.1 ∧ (tokL l).2.2.1 ≤ (tokL l).2.2.2 ∧ (tokL l).2.2.2 ≤ l.length ∧ (-1 ≤ (tokL l).1 → 1 ≤ (tokL l).2.2.2) ∧
    (tokL l).1 ≠ 0 ∧ -4 ≤ (tokL l).1 ∧ (tokL l).1 ≤ 4 := by
  cases l with
  | nil => exact absurd rfl h
  | cons c r =>
    refine tokL_cases c r (fun x => x.2.1 ≤ x.2.2.1 ∧ x.2.2.1 ≤ x.2.2.2 ∧ x.2.2.2 ≤ (c :: r).length ∧ (-1 ≤ x.1 → 1 ≤ x.2.2.2) ∧ x.1 ≠ 0 ∧ -4 ≤ x.1 ∧ x.1 ≤ 4) ?_ ?_ ?_ ?_ ?_ ?_ ?_ ?_
    · intro hs
      have := tw_le isSm (c :: r)
      rw [tw_cons r hs] at *
      refine ⟨by simp, by simp, by simpa using this, fun _ => by simp, by simp, by simp, by simp⟩
    · intro hs _ _
      have := tw_le isD (c :: r)
      rw [tw_cons r hs] at *
      refine ⟨by simp, by simp, by simpa using this, fun _ => by simp, by simp, by simp, by simp⟩
    · intro _ _; simp
    · intro hc
      have hp : notC 10 c = true := by rw [notC_iff]; omega
      have := tw_le (notC 10) (c :: r)
      rw [tw_cons r hp] at *
      refine ⟨by simp, by simp, by simpa using this, fun _ => by simp, by simp, by simp, by simp⟩
    · intro _ h _
      refine ⟨by simp, by simp, by simp; omega, fun _ => by simp, by simp, by simp, by simp⟩
    · intro _ _; simp
    · intro _ _ _ _ h
      have := markL_le (c :: r)
      refine ⟨by simp, by simp, this.1, fun _ => by simp; omega, by simp, by simp, by simp⟩
    · intro _ _ _ _ _; simp
/-- The last byte of a token is ASCII. -/
theorem tokL_last (l : List Int) (h : 0 < (tokL l).1) : ∃ x, l[(tokL l).2.2.2 - 1]? = some x ∧ x < 128 := by
  cases l with
  | nil => simp [tokL] at h
  | cons c r =>
    revert h
    refine tokL_cases c r (fun x => 0 < x.1 → ∃ y, (c :: r)[x.2.2.2 - 1]? = some y ∧ y < 128) ?_ ?_ ?_ ?_ ?_ ?_ ?_ ?_
    · intro hs _
      obtain ⟨x, h1, h2⟩ := tw_at isSm (c :: r) (tw isSm (c :: r) - 1) (by rw [tw_cons r hs]; omega)
      exact ⟨x, h1, by rw [isSm_iff] at h2; omega⟩
    · intro hs _ _ _
      obtain ⟨x, h1, h2⟩ := tw_at isD (c :: r) (tw isD (c :: r) - 1) (by rw [tw_cons r hs]; omega)
      exact ⟨x, h1, by rw [isD_iff] at h2; omega⟩
    · intro _ _ h; simp at h
    · intro _ h; simp at h
    · intro _ h _ _
      rcases tw_end (notC 34) r with he | ⟨x, h1, h2⟩
      · omega
      · refine ⟨x, by simpa using h1, ?_⟩
        have : x = 34 := by
          rcases Decidable.em (x = 34) with e | e
          · exact e
          · rw [(notC_iff 34 x).2 e] at h2; cases h2
        omega
    · intro _ _ h; simp at h
    · intro _ _ _ _ h _
      rw [markL_cons] at h ⊢
      split
      · rename_i hc
        cases r with
        | nil => simp at hc
        | cons d r =>
          simp at hc
          refine ⟨d, by simp, by omega⟩
      · rename_i hc
        rw [if_neg hc] at h
        split
        · exact ⟨c, by simp, by omega⟩
        · rename_i hc2
          rw [if_neg hc2] at h
          exact absurd rfl h
    · intro _ _ _ _ _ h; simp at h
/-! ## What lies between tokens -/
/-- So many bytes of blanks and remarks stand at the beginning; true: inside a remark. -/
def gapM : List Int → Bool → Nat
  | [], _ => 0
  | c :: r, true => 1 + gapM r (notC 10 c)
  | c :: r, false => if c = 35 then 1 + gapM r true else if isBl c = true then 1 + gapM r false else 0
theorem gapM_le : ∀ (l : List Int) (b : Bool), gapM l b ≤ l.length
  | [], _ => Nat.le_refl _
  | c :: r, true => by have := gapM_le r (notC 10 c); simp only [gapM, List.length_cons]; omega
  | c :: r, false => by
    have h1 := gapM_le r true
    have h2 := gapM_le r false
    simp only [gapM, List.length_cons]
    split
    · omega
    · split <;> omega
theorem gapM_true : ∀ l : List Int, gapM l true = tw (notC 10) l + gapM (l.drop (tw (notC 10) l)) false
  | [] => rfl
  | c :: r => by
    cases h : notC 10 c with
    | true =>
      rw [tw_cons r h]
      simp only [gapM, h, List.drop_succ_cons]
      rw [gapM_true r]; omega
    | false =>
      have hc : c = 10 := by
        rcases Decidable.em (c = 10) with e | e
        · exact e
        · rw [(notC_iff 10 c).2 e] at h; cases h
      subst hc
      rw [tw_stop r h]
      simp only [gapM, h, List.drop_zero]
      rw [if_neg (by decide), if_pos (by decide)]; omega
/-! ## The scan -/
/-- A token with its line and column, and the place where it begins. -/
structure TokV where
  k : Int
  t : ByteArray
  n : Int
  line : Nat
  col : Nat
  p : Nat
def TokV.cells (v : TokV) : List Value := [.int .i64 v.k, .string v.t, .int .i64 v.n, .int .i64 (v.line : Int), .int .i64 (v.col : Int)]
/-- The bytes from a place on. -/
def restL (s : ByteArray) (a : Nat) : List Int := (bL s).drop a
theorem restL_nil (s : ByteArray) {a : Nat} (h : s.size ≤ a) : restL s a = [] := bL_drop_nil s a h
theorem restL_cons (s : ByteArray) {a : Nat} (h : a < s.size) : restL s a = (gB s a : Int) :: restL s (a + 1) := bL_drop s a h
theorem restL_length (s : ByteArray) (a : Nat) : (restL s a).length = s.size - a := by unfold restL; rw [List.length_drop, bL_length]
theorem restL_drop (s : ByteArray) (a n : Nat) : (restL s a).drop n = restL s (a + n) := by unfold restL; rw [List.drop_drop]
theorem restL_get (s : ByteArray) (a k : Nat) (h : a + k < s.size) : (restL s a)[k]? = some (gB s (a + k) : Int) := by
  unfold restL; rw [List.getElem?_drop, bL_get s _ h]
theorem restL_ne (s : ByteArray) {a : Nat} (h : a < s.size) : restL s a ≠ [] := by rw [restL_cons s h]; simp
def endV (s : ByteArray) (a : Nat) : TokV := ⟨0, ⟨#[]⟩, 0, (placeOf s (a : Int)).1, (placeOf s (a : Int)).2, a⟩
def numOf (k : Int) (l : List Int) : Int := if k = 2 then valL (firstD l) else 0
def tokV (s : ByteArray) (a : Nat) : TokV :=
  ⟨(tokL (restL s a)).1, s.extract (a + (tokL (restL s a)).2.1) (a + (tokL (restL s a)).2.2.1), numOf (tokL (restL s a)).1 (restL s a), (placeOf s (a : Int)).1, (placeOf s (a : Int)).2, a⟩
def errE (k : Int) : Int := if k = -2 then 12 else if k = -3 then 10 else 6
/-- The scan from a place on, behind the tokens 'acc': the tokens, the fault, the place where it is. -/
def scanF (s : ByteArray) : Nat → Nat → List TokV → List TokV × Int × Nat
  | 0, _, _ => ([], 0, 0)
  | b + 1, a, acc =>
    if s.size ≤ a then (acc ++ [endV s a], 0, 0)
    else if isBl (gB s a) = true then scanF s b (a + 1) acc
    else if (tokL (restL s a)).1 < -1 then ([], errE (tokL (restL s a)).1, a)
    else if (tokL (restL s a)).1 = -1 then scanF s b (a + (tokL (restL s a)).2.2.2) acc
    else scanF s b (a + (tokL (restL s a)).2.2.2) (acc ++ [tokV s a])
theorem tokL_adv (s : ByteArray) {a : Nat} (h : a < s.size) (hk : -1 ≤ (tokL (restL s a)).1) : 1 ≤ (tokL (restL s a)).2.2.2 ∧ a + (tokL (restL s a)).2.2.2 ≤ s.size := by
  have := tokL_bd (restL s a) (restL_ne s h)
  rw [restL_length] at this
  omega
theorem scanF_fuel (s : ByteArray) : ∀ (b c a : Nat) (acc : List TokV), a ≤ s.size → s.size < a + b → s.size < a + c → scanF s b a acc = scanF s c a acc
  | 0, c, a, acc, h1, h, hc => by exfalso; omega
  | b + 1, 0, a, acc, h1, h, hc => by exfalso; omega
  | b + 1, c + 1, a, acc, h1, h, hc => by
    unfold scanF
    by_cases h0 : s.size ≤ a
    · rw [if_pos h0, if_pos h0]
    · rw [if_neg h0, if_neg h0]
      split
      · exact scanF_fuel s b c _ _ (by omega) (by omega) (by omega)
      · split
        · rfl
        · rename_i hk
          have := tokL_adv s (by omega) (by omega : -1 ≤ (tokL (restL s a)).1)
          split
          · exact scanF_fuel s b c _ _ (by omega) (by omega) (by omega)
          · exact scanF_fuel s b c _ _ (by omega) (by omega) (by omega)
def scanA (s : ByteArray) (a : Nat) (acc : List TokV) : List TokV × Int × Nat := scanF s (s.size + 1) a acc
theorem scanA_eq (s : ByteArray) (a : Nat) (acc : List TokV) : scanA s a acc =
    if s.size ≤ a then (acc ++ [endV s a], 0, 0)
    else if isBl (gB s a) = true then scanA s (a + 1) acc
    else if (tokL (restL s a)).1 < -1 then ([], errE (tokL (restL s a)).1, a)
    else if (tokL (restL s a)).1 = -1 then scanA s (a + (tokL (restL s a)).2.2.2) acc
    else scanA s (a + (tokL (restL s a)).2.2.2) (acc ++ [tokV s a]) := by
  unfold scanA
  conv => lhs; unfold scanF
  by_cases h0 : s.size ≤ a
  · rw [if_pos h0, if_pos h0]
  · rw [if_neg h0, if_neg h0]
    split
    · exact scanF_fuel s _ _ _ _ (by omega) (by omega) (by omega)
    · split
      · rfl
      · rename_i hk
        have := tokL_adv s (by omega) (by omega : -1 ≤ (tokL (restL s a)).1)
        split
        · exact scanF_fuel s _ _ _ _ (by omega) (by omega) (by omega)
        · exact scanF_fuel s _ _ _ _ (by omega) (by omega) (by omega)
theorem scanA_end (s : ByteArray) {a : Nat} (acc : List TokV) (h : s.size ≤ a) : scanA s a acc = (acc ++ [endV s a], 0, 0) := by rw [scanA_eq, if_pos h]
theorem scanA_blank (s : ByteArray) {a : Nat} (acc : List TokV) (h : a < s.size) (hb : isBl (gB s a) = true) : scanA s a acc = scanA s (a + 1) acc := by
  rw [scanA_eq, if_neg (by omega), if_pos hb]
theorem scanA_err (s : ByteArray) {a : Nat} (acc : List TokV) (h : a < s.size) (hb : isBl (gB s a) = false) (hk : (tokL (restL s a)).1 < -1) : scanA s a acc = ([], errE (tokL (restL s a)).1, a) := by
  rw [scanA_eq, if_neg (by omega), if_neg (by rw [hb]; simp), if_pos hk]
theorem scanA_rem (s : ByteArray) {a : Nat} (acc : List TokV) (h : a < s.size) (hb : isBl (gB s a) = false) (hk : (tokL (restL s a)).1 = -1) : scanA s a acc = scanA s (a + (tokL (restL s a)).2.2.2) acc := by
  rw [scanA_eq, if_neg (by omega), if_neg (by rw [hb]; simp), if_neg (by omega), if_pos hk]
theorem scanA_tok (s : ByteArray) {a : Nat} (acc : List TokV) (h : a < s.size) (hb : isBl (gB s a) = false) (hk : 0 < (tokL (restL s a)).1) : scanA s a acc = scanA s (a + (tokL (restL s a)).2.2.2) (acc ++ [tokV s a]) := by
  rw [scanA_eq, if_neg (by omega), if_neg (by rw [hb]; simp), if_neg (by omega), if_neg (by omega)]
theorem tokL_hash (r : List Int) : tokL (35 :: r) = (-1, 0, tw (notC 10) r + 1, tw (notC 10) r + 1) := by
  rw [tokL_cons, if_neg (by decide), if_neg (by decide), if_pos rfl, tw_cons r (by decide)]
/-- Where the gap from a place on ends. -/
def gapE (s : ByteArray) (a : Nat) : Nat := a + gapM (restL s a) false
theorem gapE_le (s : ByteArray) {a : Nat} (h : a ≤ s.size) : a ≤ gapE s a ∧ gapE s a ≤ s.size := by
  have := gapM_le (restL s a) false
  rw [restL_length] at this
  unfold gapE; omega
/-- Behind the gap: the same scan; a rune begins there; and neither a blank nor a remark. -/
theorem gap_all (s : ByteArray) : ∀ (b a : Nat), s.size ≤ a + b → a ≤ s.size → Bd s a →
    (∀ acc, scanA s a acc = scanA s (gapE s a) acc) ∧ Bd s (gapE s a) ∧ (gapE s a < s.size → isBl (gB s (gapE s a)) = false ∧ gB s (gapE s a) ≠ 35)
  | 0, a, h, h1, hB => by
    have e : gapE s a = a := by unfold gapE; rw [restL_nil s (by omega)]; rfl
    rw [e]
    exact ⟨fun _ => rfl, hB, fun hh => by omega⟩
  | b + 1, a, h, h1, hB => by
    by_cases ha : a < s.size
    · by_cases h35 : gB s a = 35
      · have hbd : Bd s (a + (tw (notC 10) (restL s (a + 1)) + 1)) := by
          have hle := tw_le (notC 10) (restL s (a + 1))
          rw [restL_length] at hle
          rcases tw_end (notC 10) (restL s (a + 1)) with he | ⟨x, hx, hp⟩
          · rw [restL_length] at he
            rw [he, show a + (s.size - (a + 1) + 1) = s.size from by omega]
            exact Bd.end_ s
          · have hlt : tw (notC 10) (restL s (a + 1)) < (restL s (a + 1)).length := by
              rcases Nat.lt_or_ge (tw (notC 10) (restL s (a + 1))) (restL s (a + 1)).length with hh | hh
              · exact hh
              · rw [List.getElem?_eq_none hh] at hx; cases hx
            rw [restL_length] at hlt
            rw [restL_get s (a + 1) _ (by omega)] at hx
            cases hx
            refine Bd.reach (by omega) (.inr ?_)
            rw [show a + (tw (notC 10) (restL s (a + 1)) + 1) = a + 1 + tw (notC 10) (restL s (a + 1)) from by omega]
            rcases Decidable.em (gB s (a + 1 + tw (notC 10) (restL s (a + 1))) = 10) with e | e
            · omega
            · rw [(notC_iff 10 _).2 (by omega)] at hp; cases hp
        have hle := hbd.1
        obtain ⟨i1, i2, i3⟩ := gap_all s b (a + (tw (notC 10) (restL s (a + 1)) + 1)) (by omega) hle hbd
        have e : gapE s a = gapE s (a + (tw (notC 10) (restL s (a + 1)) + 1)) := by
          unfold gapE
          rw [restL_cons s ha, h35]
          simp only [gapM]
          rw [if_pos (show ((35 : Nat) : Int) = 35 from rfl), gapM_true, restL_drop, show a + 1 + tw (notC 10) (restL s (a + 1)) = a + (tw (notC 10) (restL s (a + 1)) + 1) from by omega]
          omega
        rw [e]
        refine ⟨fun acc => ?_, i2, i3⟩
        have ht : tokL (restL s a) = (-1, 0, tw (notC 10) (restL s (a + 1)) + 1, tw (notC 10) (restL s (a + 1)) + 1) := by rw [restL_cons s ha, h35]; exact tokL_hash _
        rw [scanA_rem s acc ha (by rw [h35]; decide) (by rw [ht]), ht]
        exact i1 acc
      · cases hbl : isBl (gB s a) with
        | true =>
          have h128 : gB s a < 128 := by rw [isBl_iff] at hbl; omega
          obtain ⟨i1, i2, i3⟩ := gap_all s b (a + 1) (by omega) (by omega) (Bd.behind ha h128)
          have e : gapE s a = gapE s (a + 1) := by
            unfold gapE
            rw [restL_cons s ha]
            simp only [gapM]
            rw [if_neg (by omega), if_pos hbl]
            omega
          rw [e]
          exact ⟨fun acc => (scanA_blank s acc ha hbl).trans (i1 acc), i2, i3⟩
        | false =>
          have e : gapE s a = a := by
            unfold gapE
            rw [restL_cons s ha]
            simp only [gapM]
            rw [if_neg (by omega), hbl, if_neg (by simp)]
            omega
          rw [e]
          exact ⟨fun _ => rfl, hB, fun _ => ⟨hbl, h35⟩⟩
    · exact gap_all s 0 a (by omega) h1 hB
/-- Behind a token a rune begins. -/
theorem tok_bd (s : ByteArray) {a : Nat} (h : a < s.size) (hk : 0 < (tokL (restL s a)).1) : Bd s (a + (tokL (restL s a)).2.2.2) := by
  obtain ⟨x, h1, h2⟩ := tokL_last (restL s a) hk
  have hb := tokL_adv s h (by omega)
  rw [restL_get s a _ (by omega)] at h1
  cases h1
  have := Bd.behind (s := s) (q := a + ((tokL (restL s a)).2.2.2 - 1)) (by omega) (by omega)
  rwa [show a + ((tokL (restL s a)).2.2.2 - 1) + 1 = a + (tokL (restL s a)).2.2.2 from by omega] at this
/-- Behind a remark, too. -/
theorem rem_bd (s : ByteArray) {a : Nat} (h : a < s.size) (hk : (tokL (restL s a)).1 = -1) : Bd s (a + (tokL (restL s a)).2.2.2) := by
  have hb := tokL_adv s h (by omega)
  have h35 : gB s a = 35 ∧ (tokL (restL s a)).2.2.2 = tw (notC 10) (restL s a) := by
    rw [restL_cons s h] at hk ⊢
    revert hk
    refine tokL_cases (gB s a) (restL s (a + 1)) (fun x => x.1 = -1 → gB s a = 35 ∧ x.2.2.2 = tw (notC 10) ((gB s a : Int) :: restL s (a + 1))) ?_ ?_ ?_ ?_ ?_ ?_ ?_ ?_
    · intro _ hh; simp at hh
    · intro _ _ _ hh; simp at hh
    · intro _ _ hh; simp at hh
    · intro hc _; exact ⟨by omega, rfl⟩
    · intro _ _ _ hh; simp at hh
    · intro _ _ hh; simp at hh
    · intro _ _ _ _ _ hh; simp at hh
    · intro _ _ _ _ _ hh; simp at hh
  rw [h35.2] at hb ⊢
  rcases tw_end (notC 10) (restL s a) with he | ⟨x, hx, hp⟩
  · rw [restL_length] at he
    rw [he, show a + (s.size - a) = s.size from by omega]
    exact Bd.end_ s
  · by_cases hlt : a + tw (notC 10) (restL s a) < s.size
    · rw [restL_get s a _ hlt] at hx
      cases hx
      refine Bd.reach hb.2 (.inr ?_)
      rcases Decidable.em (gB s (a + tw (notC 10) (restL s a)) = 10) with e | e
      · omega
      · rw [(notC_iff 10 _).2 (by omega)] at hp; cases hp
    · rw [show a + tw (notC 10) (restL s a) = s.size from by omega]
      exact Bd.end_ s
end Go.Proofs.Ytnlnkjjegaihcaa
