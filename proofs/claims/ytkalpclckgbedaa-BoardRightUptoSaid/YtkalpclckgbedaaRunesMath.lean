/-
  Plain facts of UTF-8 and of the runes of a string, without any program: when some bytes are the encoding of their number, the runes of a string with their places, lines and columns, names. No conditions.
-/
import Derived.Laws.RangeAny
import Derived.Laws.BytesArg
import Derived.Laws.Strings
namespace Go.Proofs.Ytkalpclckgbedaa
open Go
/-- The byte at a place, as a number (any number, if there is none). -/
def gB (s : ByteArray) (i : Nat) : Nat := (s.get! i).toNat
theorem gB_lt (s : ByteArray) (i : Nat) : gB s i < 256 := (s.get! i).toNat_lt
theorem gB_eq (s : ByteArray) (i : Nat) (h : i < s.size) : gB s i = (s[i]'h).toNat := by
  unfold gB
  have := get_at s i h
  rw [Nat.add_zero] at this
  rw [this]
def cB (s : ByteArray) (i : Nat) : Bool := decide (i < s.size) && decide (128 ≤ gB s i) && decide (gB s i < 192)
theorem cB_iff (s : ByteArray) (i : Nat) : cB s i = true ↔ i < s.size ∧ 128 ≤ gB s i ∧ gB s i < 192 := by
  unfold cB; simp; omega
theorem dec_eq (s : ByteArray) (i : Nat) : Utf8.decode s i =
    if gB s i < 128 then (gB s i, 1)
    else if gB s i / 32 = 6 ∧ cB s (i + 1) = true then
      (if 128 ≤ gB s i % 32 * 64 + gB s (i + 1) % 64 then (gB s i % 32 * 64 + gB s (i + 1) % 64, 2) else (65533, 1))
    else if gB s i / 16 = 14 ∧ cB s (i + 1) = true ∧ cB s (i + 2) = true then
      (if 2048 ≤ gB s i % 16 * 4096 + gB s (i + 1) % 64 * 64 + gB s (i + 2) % 64 ∧ ¬ (55296 ≤ gB s i % 16 * 4096 + gB s (i + 1) % 64 * 64 + gB s (i + 2) % 64 ∧ gB s i % 16 * 4096 + gB s (i + 1) % 64 * 64 + gB s (i + 2) % 64 ≤ 57343) then (gB s i % 16 * 4096 + gB s (i + 1) % 64 * 64 + gB s (i + 2) % 64, 3) else (65533, 1))
    else if gB s i / 8 = 30 ∧ cB s (i + 1) = true ∧ cB s (i + 2) = true ∧ cB s (i + 3) = true then
      (if 65536 ≤ gB s i % 8 * 262144 + gB s (i + 1) % 64 * 4096 + gB s (i + 2) % 64 * 64 + gB s (i + 3) % 64 ∧ gB s i % 8 * 262144 + gB s (i + 1) % 64 * 4096 + gB s (i + 2) % 64 * 64 + gB s (i + 3) % 64 ≤ 1114111 then (gB s i % 8 * 262144 + gB s (i + 1) % 64 * 4096 + gB s (i + 2) % 64 * 64 + gB s (i + 3) % 64, 4) else (65533, 1))
    else (65533, 1) := by
  have e : ∀ k, (s.get! k).toNat = gB s k := fun k => rfl
  have c : ∀ k, (decide (i + k < s.size) && (gB s (i + k) / 64 == 2)) = cB s (i + k) := by
    intro k
    rw [Bool.eq_iff_iff, cB_iff]
    simp
    omega
  have h0 := gB_lt s i
  have h1 := gB_lt s (i + 1)
  have h2 := gB_lt s (i + 2)
  unfold Utf8.decode
  simp only [e, c, Nat.add_zero, Utf8.runeError, Bool.and_eq_true, beq_iff_eq, Utf8.valid, Bool.or_eq_true, decide_eq_true_eq, and_assoc, ge_iff_le]
  generalize gB s i = a at *
  generalize gB s (i + 1) = b at *
  generalize gB s (i + 2) = d at *
  generalize gB s (i + 3) = f at *
  repeat' split
  all_goals first
    | rfl
    | (exfalso; omega)
theorem dec_bd (s : ByteArray) (i : Nat) (h : i < s.size) : 1 ≤ (Utf8.decode s i).2 ∧ i + (Utf8.decode s i).2 ≤ s.size ∧ (Utf8.decode s i).2 ≤ 4 ∧ (Utf8.decode s i).1 ≤ 1114111 := by
  have h0 := gB_lt s i
  rw [dec_eq]
  repeat' split
  all_goals simp only [cB_iff] at *
  all_goals ((try dsimp only); omega)
/-- An ASCII rune is one byte. -/
theorem dec_ascii (s : ByteArray) (i : Nat) (h : (Utf8.decode s i).1 < 128) : (Utf8.decode s i).1 = gB s i ∧ (Utf8.decode s i).2 = 1 := by
  rw [dec_eq] at h ⊢
  repeat' split
  all_goals (simp only [*] at h; revert h; dsimp only; repeat' split)
  all_goals first
    | (exact fun _ => ⟨rfl, rfl⟩)
    | (intro h; exfalso; simp only [*] at *; omega)
    | (intro h; exfalso; omega)
theorem dec_of_ascii (s : ByteArray) (i : Nat) (h : gB s i < 128) : Utf8.decode s i = (gB s i, 1) := by
  rw [dec_eq, if_pos h]
/-- The last byte of an encoding of several bytes is none below 128. -/
theorem dec_last (s : ByteArray) (i : Nat) (h : 1 < (Utf8.decode s i).2) : 128 ≤ gB s (i + (Utf8.decode s i).2 - 1) := by
  rw [dec_eq] at h ⊢
  repeat' split
  all_goals simp only [*, cB_iff] at *
  all_goals (try (simp at h; done))
  all_goals (simp; omega)
/-- The document's encoding of a number. -/
def encI (n : Int) : List Int :=
  if n < 0 ∨ 1114111 < n ∨ (55296 ≤ n ∧ n ≤ 57343) then []
  else if n < 128 then [n]
  else if n < 2048 then [192 + n / 64, 128 + n % 64]
  else if n < 65536 then [224 + n / 4096, 128 + n / 64 % 64, 128 + n % 64]
  else [240 + n / 262144, 128 + n / 4096 % 64, 128 + n / 64 % 64, 128 + n % 64]
/-- What so many bytes would be. -/
def numI : List Int → Int
  | [a] => a
  | [a, b] => (a - 192) * 64 + b - 128
  | [a, b, c] => (a - 224) * 4096 + (b - 128) * 64 + c - 128
  | [a, b, c, d] => (a - 240) * 262144 + (b - 128) * 4096 + (c - 128) * 64 + d - 128
  | _ => 0
def numsAt (s : ByteArray) (i n : Nat) : List Int := (List.range n).map fun j => (gB s (i + j) : Int)
theorem numsAt_length (s : ByteArray) (i n : Nat) : (numsAt s i n).length = n := by simp [numsAt]
theorem hit_iff1 {a : Int} (h0 : 0 ≤ a) (h1 : a < 256) : encI (numI [a]) = [a] ↔ a < 128 := by
  show encI (a) = _ ↔ _
  unfold encI
  repeat' split
  all_goals simp
  all_goals omega
theorem hit_iff2 {a b : Int} (h0 : 0 ≤ a) (h1 : a < 256) (h2 : 0 ≤ b) (h3 : b < 256) : encI (numI [a, b]) = [a, b] ↔ 194 ≤ a ∧ a < 224 ∧ 128 ≤ b ∧ b < 192 := by
  show encI ((a - 192) * 64 + b - 128) = _ ↔ _
  unfold encI
  repeat' split
  all_goals simp
  all_goals omega
theorem hit_iff3 {a b c : Int} (h0 : 0 ≤ a) (h1 : a < 256) (h2 : 0 ≤ b) (h3 : b < 256) (h4 : 0 ≤ c) (h5 : c < 256) : encI (numI [a, b, c]) = [a, b, c] ↔
    224 ≤ a ∧ a < 240 ∧ 128 ≤ b ∧ b < 192 ∧ 128 ≤ c ∧ c < 192 ∧ 2048 ≤ (a - 224) * 4096 + (b - 128) * 64 + c - 128 ∧ ¬ (55296 ≤ (a - 224) * 4096 + (b - 128) * 64 + c - 128 ∧ (a - 224) * 4096 + (b - 128) * 64 + c - 128 ≤ 57343) := by
  show encI ((a - 224) * 4096 + (b - 128) * 64 + c - 128) = _ ↔ _
  unfold encI
  repeat' split
  all_goals simp
  all_goals omega
theorem hit_iff4 {a b c d : Int} (h0 : 0 ≤ a) (h1 : a < 256) (h2 : 0 ≤ b) (h3 : b < 256) (h4 : 0 ≤ c) (h5 : c < 256) (h6 : 0 ≤ d) (h7 : d < 256) : encI (numI [a, b, c, d]) = [a, b, c, d] ↔
    240 ≤ a ∧ a < 248 ∧ 128 ≤ b ∧ b < 192 ∧ 128 ≤ c ∧ c < 192 ∧ 128 ≤ d ∧ d < 192 ∧ 65536 ≤ (a - 240) * 262144 + (b - 128) * 4096 + (c - 128) * 64 + d - 128 ∧ (a - 240) * 262144 + (b - 128) * 4096 + (c - 128) * 64 + d - 128 ≤ 1114111 := by
  show encI ((a - 240) * 262144 + (b - 128) * 4096 + (c - 128) * 64 + d - 128) = _ ↔ _
  unfold encI
  repeat' split
  all_goals simp
  all_goals omega

theorem numsAt1 (s : ByteArray) (i : Nat) : numsAt s i 1 = [(gB s i : Int)] := rfl
theorem numsAt2 (s : ByteArray) (i : Nat) : numsAt s i 2 = [(gB s i : Int), (gB s (i + 1) : Int)] := rfl
theorem numsAt3 (s : ByteArray) (i : Nat) : numsAt s i 3 = [(gB s i : Int), (gB s (i + 1) : Int), (gB s (i + 2) : Int)] := rfl
theorem numsAt4 (s : ByteArray) (i : Nat) : numsAt s i 4 = [(gB s i : Int), (gB s (i + 1) : Int), (gB s (i + 2) : Int), (gB s (i + 3) : Int)] := rfl
def hitAt (s : ByteArray) (i n : Nat) : Bool := decide (encI (numI (numsAt s i n)) = numsAt s i n)
theorem hitAt1 (s : ByteArray) (i : Nat) : hitAt s i 1 = true ↔ gB s i < 128 := by
  unfold hitAt; rw [decide_eq_true_iff, numsAt1, hit_iff1 (by omega) (by have := gB_lt s i; omega)]; omega
theorem hitAt2 (s : ByteArray) (i : Nat) : hitAt s i 2 = true ↔ 194 ≤ gB s i ∧ gB s i < 224 ∧ 128 ≤ gB s (i + 1) ∧ gB s (i + 1) < 192 := by
  have := gB_lt s i; have := gB_lt s (i + 1)
  unfold hitAt; rw [decide_eq_true_iff, numsAt2, hit_iff2 (by omega) (by omega) (by omega) (by omega)]; omega
theorem hitAt3 (s : ByteArray) (i : Nat) : hitAt s i 3 = true ↔ 224 ≤ gB s i ∧ gB s i < 240 ∧ 128 ≤ gB s (i + 1) ∧ gB s (i + 1) < 192 ∧ 128 ≤ gB s (i + 2) ∧ gB s (i + 2) < 192 ∧
    2048 ≤ gB s i % 16 * 4096 + gB s (i + 1) % 64 * 64 + gB s (i + 2) % 64 ∧ ¬ (55296 ≤ gB s i % 16 * 4096 + gB s (i + 1) % 64 * 64 + gB s (i + 2) % 64 ∧ gB s i % 16 * 4096 + gB s (i + 1) % 64 * 64 + gB s (i + 2) % 64 ≤ 57343) := by
  have := gB_lt s i; have := gB_lt s (i + 1); have := gB_lt s (i + 2)
  unfold hitAt; rw [decide_eq_true_iff, numsAt3, hit_iff3 (by omega) (by omega) (by omega) (by omega) (by omega) (by omega)]; omega
theorem hitAt4 (s : ByteArray) (i : Nat) : hitAt s i 4 = true ↔ 240 ≤ gB s i ∧ gB s i < 248 ∧ 128 ≤ gB s (i + 1) ∧ gB s (i + 1) < 192 ∧ 128 ≤ gB s (i + 2) ∧ gB s (i + 2) < 192 ∧ 128 ≤ gB s (i + 3) ∧ gB s (i + 3) < 192 ∧
    65536 ≤ gB s i % 8 * 262144 + gB s (i + 1) % 64 * 4096 + gB s (i + 2) % 64 * 64 + gB s (i + 3) % 64 ∧ gB s i % 8 * 262144 + gB s (i + 1) % 64 * 4096 + gB s (i + 2) % 64 * 64 + gB s (i + 3) % 64 ≤ 1114111 := by
  have := gB_lt s i; have := gB_lt s (i + 1); have := gB_lt s (i + 2); have := gB_lt s (i + 3)
  unfold hitAt; rw [decide_eq_true_iff, numsAt4, hit_iff4 (by omega) (by omega) (by omega) (by omega) (by omega) (by omega) (by omega) (by omega)]; omega
theorem dec_hit1 (s : ByteArray) (i : Nat) (h : hitAt s i 1 = true) : Utf8.decode s i = ((numI (numsAt s i 1)).toNat, 1) := by
  rw [dec_of_ascii s i ((hitAt1 s i).1 h)]; rfl
theorem dec_hit2 (s : ByteArray) (i : Nat) (hi : i + 2 ≤ s.size) (h : hitAt s i 2 = true) : Utf8.decode s i = ((numI (numsAt s i 2)).toNat, 2) := by
  rw [hitAt2] at h
  have c1 := (cB_iff s (i + 1)).2 ⟨by omega, by omega, by omega⟩
  rw [dec_eq, if_neg (by omega), if_pos ⟨by omega, c1⟩, if_pos (by omega), numsAt2]
  show _ = ((((gB s i : Int) - 192) * 64 + gB s (i + 1) - 128).toNat, 2)
  congr 1; omega
theorem dec_hit3 (s : ByteArray) (i : Nat) (hi : i + 3 ≤ s.size) (h : hitAt s i 3 = true) : Utf8.decode s i = ((numI (numsAt s i 3)).toNat, 3) := by
  rw [hitAt3] at h
  have c1 := (cB_iff s (i + 1)).2 ⟨by omega, by omega, by omega⟩
  have c2 := (cB_iff s (i + 2)).2 ⟨by omega, by omega, by omega⟩
  rw [dec_eq, if_neg (by omega), if_neg (by omega), if_pos ⟨by omega, c1, c2⟩, if_pos (by omega), numsAt3]
  show _ = ((((gB s i : Int) - 224) * 4096 + ((gB s (i + 1) : Int) - 128) * 64 + gB s (i + 2) - 128).toNat, 3)
  congr 1; omega
theorem dec_hit4 (s : ByteArray) (i : Nat) (hi : i + 4 ≤ s.size) (h : hitAt s i 4 = true) : Utf8.decode s i = ((numI (numsAt s i 4)).toNat, 4) := by
  rw [hitAt4] at h
  have c1 := (cB_iff s (i + 1)).2 ⟨by omega, by omega, by omega⟩
  have c2 := (cB_iff s (i + 2)).2 ⟨by omega, by omega, by omega⟩
  have c3 := (cB_iff s (i + 3)).2 ⟨by omega, by omega, by omega⟩
  rw [dec_eq, if_neg (by omega), if_neg (by omega), if_neg (by omega), if_pos ⟨by omega, c1, c2, c3⟩, if_pos (by omega), numsAt4]
  show _ = ((((gB s i : Int) - 240) * 262144 + ((gB s (i + 1) : Int) - 128) * 4096 + ((gB s (i + 2) : Int) - 128) * 64 + gB s (i + 3) - 128).toNat, 4)
  congr 1; omega
theorem dec_hit (s : ByteArray) (i n : Nat) (h1 : 1 ≤ n) (h4 : n ≤ 4) (hi : i + n ≤ s.size) (h : hitAt s i n = true) : Utf8.decode s i = ((numI (numsAt s i n)).toNat, n) := by
  have hn : n = 1 ∨ n = 2 ∨ n = 3 ∨ n = 4 := by omega
  rcases hn with rfl | rfl | rfl | rfl
  · exact dec_hit1 s i h
  · exact dec_hit2 s i hi h
  · exact dec_hit3 s i hi h
  · exact dec_hit4 s i hi h
theorem num_nonneg (s : ByteArray) (i n : Nat) (h1 : 1 ≤ n) (h4 : n ≤ 4) (h : hitAt s i n = true) : 0 ≤ numI (numsAt s i n) := by
  unfold hitAt at h; rw [decide_eq_true_iff] at h
  rcases Int.lt_or_le (numI (numsAt s i n)) 0 with hn | hn
  · exfalso
    have e : encI (numI (numsAt s i n)) = [] := by unfold encI; rw [if_pos (.inl hn)]
    rw [e] at h
    have := congrArg List.length h
    rw [numsAt_length] at this
    simp at this
    omega
  · exact hn
theorem dec_nohit (s : ByteArray) (i : Nat) (hi : i < s.size) (h : ∀ n, 1 ≤ n → n ≤ 4 → i + n ≤ s.size → hitAt s i n = false) : Utf8.decode s i = (65533, 1) := by
  have g1 := gB_lt s i; have g2 := gB_lt s (i + 1); have g3 := gB_lt s (i + 2); have g4 := gB_lt s (i + 3)
  have k1 : ¬ gB s i < 128 := by
    have := h 1 (by omega) (by omega) (by omega)
    rw [← hitAt1, this]; simp
  have k2 : i + 2 ≤ s.size → ¬ (194 ≤ gB s i ∧ gB s i < 224 ∧ 128 ≤ gB s (i + 1) ∧ gB s (i + 1) < 192) := fun hs => by
    have := h 2 (by omega) (by omega) hs
    rw [← hitAt2, this]; simp
  have k3 : i + 3 ≤ s.size → _ := fun hs => mt (hitAt3 s i).2 (by rw [h 3 (by omega) (by omega) hs]; simp)
  have k4 : i + 4 ≤ s.size → _ := fun hs => mt (hitAt4 s i).2 (by rw [h 4 (by omega) (by omega) hs]; simp)
  clear h
  rw [dec_eq, if_neg k1]
  repeat' split
  all_goals (try simp only [cB_iff] at *)
  all_goals first
    | rfl
    | (exfalso; omega)
theorem gB_extract (s : ByteArray) (a b i : Nat) (h : a + i < b) (hb : b ≤ s.size) : gB (s.extract a b) i = gB s (a + i) := by
  rw [gB_eq _ i (by rw [ByteArray.size_extract]; omega), gB_eq _ (a + i) (by omega), ByteArray.getElem_extract]
theorem size_extract (s : ByteArray) (a b : Nat) (hb : b ≤ s.size) : (s.extract a b).size = b - a := by rw [ByteArray.size_extract]; omega
theorem numsAt_extract (s : ByteArray) (a n : Nat) (h : a + n ≤ s.size) : numsAt (s.extract a (a + n)) 0 n = numsAt s a n := by
  unfold numsAt
  apply List.map_congr_left
  intro j hj
  rw [List.mem_range] at hj
  rw [Nat.zero_add, gB_extract s a (a + n) j (by omega) h]
theorem dec_extract (s : ByteArray) (a : Nat) (h : a ≤ s.size) (i : Nat) (hi : a + i < s.size) : Utf8.decode (s.extract a s.size) i = Utf8.decode s (a + i) := by
  have hz : (s.extract a s.size).size = s.size - a := size_extract s a s.size (Nat.le_refl _)
  have g0 : gB (s.extract a s.size) i = gB s (a + i) := gB_extract s a s.size i hi (Nat.le_refl _)
  have gc : ∀ k, cB (s.extract a s.size) (i + k) = cB s (a + i + k) ∧ (cB s (a + i + k) = true → gB (s.extract a s.size) (i + k) = gB s (a + i + k)) := by
    intro k
    by_cases hk : a + i + k < s.size
    · have g := gB_extract s a s.size (i + k) (by omega) (Nat.le_refl _)
      rw [show a + (i + k) = a + i + k from by omega] at g
      refine ⟨?_, fun _ => g⟩
      unfold cB; rw [hz, g]
      simp only [show (i + k < s.size - a) = True from by simp; omega, hk]
    · have e1 : cB (s.extract a s.size) (i + k) = false := by unfold cB; rw [hz]; simp; omega
      have e2 : cB s (a + i + k) = false := by unfold cB; simp; omega
      exact ⟨e1.trans e2.symm, fun h => by rw [e2] at h; cases h⟩
  obtain ⟨c1, d1⟩ := gc 1
  obtain ⟨c2, d2⟩ := gc 2
  obtain ⟨c3, d3⟩ := gc 3
  rw [dec_eq, dec_eq, g0, c1, c2, c3]
  by_cases e1 : cB s (a + i + 1) = true
  · rw [d1 e1]
    by_cases e2 : cB s (a + i + 2) = true
    · rw [d2 e2]
      by_cases e3 : cB s (a + i + 3) = true
      · rw [d3 e3]
      · simp [e3]
    · simp [e2]
  · simp [e1]
theorem strOfNums_eq (l m : List Int) (hl : ∀ x ∈ l, 0 ≤ x ∧ x < 256) (hm : ∀ x ∈ m, 0 ≤ x ∧ x < 256) (h : strOfNums l = strOfNums m) : l = m := by
  have e := congrArg (fun b : ByteArray => b.data.toList.map (fun c : UInt8 => (c.toNat : Int))) h
  have k : ∀ l : List Int, (∀ x ∈ l, 0 ≤ x ∧ x < 256) → (strOfNums l).data.toList.map (fun c : UInt8 => (c.toNat : Int)) = l := by
    intro l hl
    rw [strOfNums_data, List.map_map]
    conv => rhs; rw [← List.map_id l]
    apply List.map_congr_left
    intro x hx
    have := hl x hx
    simp
    omega
  rw [← k l hl, ← k m hm]
  exact e
theorem encI_bd (n : Int) : ∀ x ∈ encI n, 0 ≤ x ∧ x < 256 := by
  unfold encI
  repeat' split
  all_goals (intro x hx; simp at hx; try omega)
theorem numsAt_bd (s : ByteArray) (i n : Nat) : ∀ x ∈ numsAt s i n, 0 ≤ x ∧ x < 256 := by
  intro x hx
  simp only [numsAt, List.mem_map] at hx
  obtain ⟨j, _, rfl⟩ := hx
  have := gB_lt s (i + j)
  omega
theorem extract_nums (s : ByteArray) (i n : Nat) (h : i + n ≤ s.size) : s.extract i (i + n) = strOfNums (numsAt s i n) := by
  have hz : (s.extract i (i + n)).size = n := by rw [size_extract _ _ _ h]; omega
  apply ByteArray.ext
  apply Array.ext
  · show (s.extract i (i + n)).size = (strOfNums (numsAt s i n)).size
    rw [hz, strOfNums_size, numsAt_length]
  · intro j h1 h2
    have hj : j < n := by rw [← hz]; exact h1
    have e : (strOfNums (numsAt s i n)).data[j] = UInt8.ofNat (gB s (i + j)) := by
      simp [strOfNums, numsAt]
    rw [e]
    have g := gB_eq s (i + j) (by omega)
    apply UInt8.toNat_inj.1
    rw [g]
    simp
    rfl
/-- Go's test: the number's bytes are just those that stand there. -/
theorem hit_test (s : ByteArray) (i n : Nat) (h : i + n ≤ s.size) : ((strOfNums (encI (numI (numsAt s i n)))).toList == (s.extract i (i + n)).toList) = hitAt s i n := by
  rw [ByteArray.toList_eq, ByteArray.toList_eq, Bool.eq_iff_iff, beq_iff_eq, extract_nums s i n h]
  unfold hitAt
  rw [decide_eq_true_iff]
  constructor
  · intro e
    exact strOfNums_eq _ _ (encI_bd _) (numsAt_bd _ _ _) (ByteArray.ext (Array.toList_inj.1 e))
  · intro e; rw [e]
end Go.Proofs.Ytkalpclckgbedaa
