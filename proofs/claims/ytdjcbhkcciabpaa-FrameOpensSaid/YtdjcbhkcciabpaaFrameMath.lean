/-
  Mathematics of frames: a frame's bytes, what Open answers, and that the two fit. No program, no conditions but those named.
-/
import Derived.Test.YtdjcbhkcciabpaaSumMath
import Derived.Test.YtdjcbhkcciabpaaVariBackMath
namespace Go.Proofs.Ytdjcbhkcciabpaa
open Go
set_option linter.unusedVariables false
def hdS (k : Int) : ByteArray := strOfNums [84, k]
def bodyS (k : Int) (p : ByteArray) : ByteArray := hdS k ++ bytesS p.size ++ p
def frameS (k : Int) (p : ByteArray) : ByteArray := bodyS k p ++ endS (bodyS k p)
theorem hdS_size (k : Int) : (hdS k).size = 2 := by unfold hdS; rw [strOf_size]; rfl
theorem bodyS_size (k : Int) (p : ByteArray) : (bodyS k p).size = 2 + (bytesS p.size).size + p.size := by
  unfold bodyS; rw [ByteArray.size_append, ByteArray.size_append, hdS_size]
theorem frameS_size (k : Int) (p : ByteArray) : (frameS k p).size = 2 + (bytesS p.size).size + p.size + 2 := by
  unfold frameS; rw [ByteArray.size_append, bodyS_size, endS_size]
theorem bytes_len2 (n : Nat) (h : n < 128) : (bytesS n).size = 1 := by
  rw [size_bytesS (by omega) (by omega), Int.toNat_natCast, encL_lt h]; rfl
theorem bytes_len3 (n : Nat) (h : 128 ≤ n) (h2 : n < 16384) : (bytesS n).size = 2 := by
  rw [size_bytesS (by omega) (by omega), Int.toNat_natCast, encL_ge h, encL_lt (by omega)]; rfl
theorem frame_fits (k : Int) (p : ByteArray) (hp : p.size ≤ 2042) : (frameS k p).size ≤ 2048 := by
  rw [frameS_size]
  by_cases h : p.size < 128
  · rw [bytes_len2 _ h]; omega
  · rw [bytes_len3 _ (by omega) (by omega)]; omega
theorem frame_long (k : Int) (p : ByteArray) (hp : 2042 < p.size) (hp2 : p.size ≤ 10000) : 2048 < (frameS k p).size := by
  rw [frameS_size, bytes_len3 _ (by omega) (by omega)]; omega
/-- What Open answers. -/
def openOf (s : ByteArray) : Int × ByteArray × Int :=
  if 2048 < s.size then (0, { data := #[] }, 3) else if s.size = 0 then (0, { data := #[] }, 2) else if gB s 0 ≠ 84 then (0, { data := #[] }, 4)
  else if s.size < 2 then (0, { data := #[] }, 2) else if gB s 1 < 1 ∨ 9 < gB s 1 then (0, { data := #[] }, 13)
  else if (vtakeOf s 2).2.2 ≠ 0 then (0, { data := #[] }, (vtakeOf s 2).2.2)
  else if (s.size : Int) - (vtakeOf s 2).2.1 - 2 < (vtakeOf s 2).1 then (0, { data := #[] }, 2)
  else if (vtakeOf s 2).1 < (s.size : Int) - (vtakeOf s 2).2.1 - 2 then (0, { data := #[] }, 4)
  else if s.extract (s.size - 2) s.size = endS (s.extract 0 (s.size - 2)) then (gB s 1, s.extract (vtakeOf s 2).2.1.toNat ((vtakeOf s 2).2.1 + (vtakeOf s 2).1).toNat, 0) else (0, { data := #[] }, 5)
/-- A number that is taken at a place: its bytes stand there. -/
theorem vtake_at (s : ByteArray) (a : Nat) (k e : Int) (h : vtakeOf s a = (k, e, 0)) : 0 ≤ k ∧ k ≤ 2147483647 ∧ (a : Int) < e ∧ e ≤ s.size ∧ e ≤ a + 5 ∧ bytesS k = s.extract a e.toNat := by
  by_cases ha : a ≤ s.size
  · by_cases c : (takeP ((bL s).drop a)).2.2 = 0
    · have hv := vtakeOf_ok s a (by omega) (by omega) (by rw [Int.toNat_natCast]; exact c)
      rw [Int.toNat_natCast] at hv
      rw [hv] at h
      obtain ⟨b1, b2, b3, b4, b6, b5⟩ := takeP_back _ c
      have hk : (takeP ((bL s).drop a)).1 = k := congrArg (fun x : Int × Int × Int => x.1) h
      have he : (a : Int) + ((takeP ((bL s).drop a)).2.1 : Int) = e := congrArg (fun x : Int × Int × Int => x.2.1) h
      rw [hk] at b1 b2 b5
      rw [List.length_drop, bL_length] at b4
      refine ⟨b1, b2, by omega, by omega, by omega, ?_⟩
      have ex := bL_extract s a (takeP ((bL s).drop a)).2.1 (by omega)
      unfold bytesS
      rw [bytesL_in b1 b2, b5, ← ex, str_bL]
      congr 1
      omega
    · have hv := vtakeOf_no s a (by omega) (by omega) (by rw [Int.toNat_natCast]; exact c)
      rw [hv, Int.toNat_natCast] at h
      exact absurd (congrArg (fun x : Int × Int × Int => x.2.2) h) c
  · have hv := vtakeOf_out s a (.inr (by omega))
    rw [hv] at h
    have := congrArg (fun x : Int × Int × Int => x.2.2) h
    simp at this
theorem vtake_shape (s : ByteArray) (a : Int) : (vtakeOf s a).2.2 = 0 ∨ vtakeOf s a = (0, 0, (vtakeOf s a).2.2) := by
  by_cases ha : 0 ≤ a ∧ a ≤ s.size
  · by_cases c : (takeP ((bL s).drop a.toNat)).2.2 = 0
    · rw [vtakeOf_ok s a ha.1 ha.2 c]; exact .inl rfl
    · rw [vtakeOf_no s a ha.1 ha.2 c]; exact .inr rfl
  · rw [vtakeOf_out s a (by omega)]; exact .inr rfl
theorem head_pieces (s : ByteArray) (h2 : 2 ≤ s.size) (h0 : gB s 0 = 84) : s.extract 0 2 = hdS (gB s 1) := by
  have := extract_nums s 0 2 h2
  rw [Nat.zero_add, numsAt2, h0] at this
  exact this
theorem join_ext (s : ByteArray) (a b c : Nat) (h1 : a ≤ b) (h2 : b ≤ c) : s.extract a b ++ s.extract b c = s.extract a c := by
  rw [ByteArray.extract_append_extract, Nat.min_eq_left h1, Nat.max_eq_right h2]
/-- The parts that Open finds are those that the frame is made of. -/
theorem body_of_parts (s : ByteArray) (k e : Int) (h0 : gB s 0 = 84) (hv : vtakeOf s 2 = (k, e, 0)) (hz : (s.size : Int) - e - 2 = k) :
    bodyS (gB s 1) (s.extract e.toNat (e + k).toNat) = s.extract 0 (s.size - 2) ∧ (s.extract e.toNat (e + k).toNat).size = k.toNat ∧ (e + k).toNat = s.size - 2 ∧ e.toNat ≤ (e + k).toNat := by
  obtain ⟨b1, b2, b3, b4, _, b5⟩ := vtake_at s 2 k e hv
  have hsz : (s.extract e.toNat (e + k).toNat).size = k.toNat := by rw [size_extract _ _ _ (by omega)]; omega
  refine ⟨?_, hsz, by omega, by omega⟩
  unfold bodyS
  rw [hsz, Int.toNat_of_nonneg b1, b5, ← head_pieces s (by omega) h0, join_ext _ _ _ _ (by omega) (by omega), join_ext _ _ _ _ (by omega) (by omega)]
  congr 1
  omega
theorem frame_iff (s : ByteArray) (k e : Int) (h0 : gB s 0 = 84) (hv : vtakeOf s 2 = (k, e, 0)) (hz : (s.size : Int) - e - 2 = k) :
    frameS (gB s 1) (s.extract e.toNat (e + k).toNat) = s ↔ s.extract (s.size - 2) s.size = endS (s.extract 0 (s.size - 2)) := by
  obtain ⟨hb, _, _, _⟩ := body_of_parts s k e h0 hv hz
  unfold frameS
  rw [hb]
  exact pieces_iff s _ (s.size - 2) (by omega)
/-- The bytes of a frame. -/
theorem bL_hdS (k : Int) (h0 : 0 ≤ k) (h1 : k < 256) : bL (hdS k) = [84, k] := bL_str _ (by intro x hx; simp at hx; omega)
theorem bL_frame (k : Int) (p : ByteArray) (h0 : 0 ≤ k) (h1 : k < 256) (hp : p.size ≤ 10000) (r : ByteArray) : bL (frameS k p ++ r) = 84 :: k :: (encL p.size ++ (bL p ++ bL (endS (bodyS k p)) ++ bL r)) := by
  unfold frameS
  rw [bL_app, bL_app]
  conv => lhs; unfold bodyS
  rw [bL_app, bL_app, bL_hdS k h0 h1, bL_bytesS (by omega) (by omega), Int.toNat_natCast]
  simp only [List.cons_append, List.nil_append, List.append_assoc]
  rfl
theorem gB_of_bL (s : ByteArray) (i : Nat) (x : Int) (h : (bL s)[i]? = some x) : (gB s i : Int) = x := by
  have hi : i < s.size := by
    apply Nat.lt_of_not_le
    intro c
    rw [List.getElem?_eq_none (by rw [bL_length]; exact c)] at h
    cases h
  rw [bL_get s i hi] at h
  injection h
theorem bL_take (s : ByteArray) (c : Nat) (h : c ≤ s.size) : bL (s.extract 0 c) = (bL s).take c := by
  have := bL_extract s 0 c (by omega)
  rwa [Nat.zero_add, List.drop_zero] at this
theorem vtake_encs (s : ByteArray) (a b : Int) (n : Nat) (r : List Int) (h : bL s = a :: b :: (encL n ++ r)) (hn : n ≤ 2147483647) : vtakeOf s 2 = ((n : Int), 2 + ((encL n).length : Int), 0) := by
  have hl : s.size = (encL n ++ r).length + 2 := by rw [← bL_length, h]; rfl
  have hd : (bL s).drop (2 : Int).toNat = encL n ++ r := by rw [h]; rfl
  have ht := takeP_enc n r hn
  rw [vtakeOf_ok s 2 (by omega) (by omega) (by rw [hd, ht]), hd, ht]
theorem vtake_cuts (s : ByteArray) (a b : Int) (n k : Nat) (h : bL s = a :: b :: (encL n).take k) (hn : n ≤ 2147483647) (hk : k < (encL n).length) : vtakeOf s 2 = (0, 0, 2) := by
  have hl : s.size = ((encL n).take k).length + 2 := by rw [← bL_length, h]; rfl
  have hd : (bL s).drop (2 : Int).toNat = (encL n).take k := by rw [h]; rfl
  have ht := takeP_cut n k hn hk
  rw [vtakeOf_no s 2 (by omega) (by omega) (by rw [hd, ht]; simp), hd, ht]
theorem enc_small (n : Nat) (h : n ≤ 2042) : (encL n).length = (bytesS n).size := by rw [size_bytesS (by omega) (by omega), Int.toNat_natCast]
/-- A frame is opened as it was made. -/
theorem open_frame (k : Int) (p : ByteArray) (h1 : 1 ≤ k) (h9 : k ≤ 9) (hp : p.size ≤ 2042) : openOf (frameS k p) = (k, p, 0) := by
  have hb := bL_frame k p (by omega) (by omega) (by omega) { data := #[] }
  have he : frameS k p ++ { data := #[] } = frameS k p := ByteArray.append_empty
  rw [he] at hb
  have z := frameS_size k p
  have f := frame_fits k p hp
  have g0 : gB (frameS k p) 0 = 84 := by have := gB_of_bL _ 0 84 (by rw [hb]; rfl); omega
  have g1 : (gB (frameS k p) 1 : Int) = k := gB_of_bL _ 1 k (by rw [hb]; rfl)
  have hv := vtake_encs _ _ _ _ _ hb (by omega)
  have hl := enc_small p.size hp
  unfold openOf
  rw [hv]
  simp only
  rw [if_neg (by omega), if_neg (by omega), if_neg (by omega), if_neg (by omega), if_neg (by omega), if_neg (by simp), if_neg (by omega), if_neg (by omega)]
  have hz : (((frameS k p).size : Int) - (2 + ((encL p.size).length : Int)) - 2) = (p.size : Int) := by omega
  have hfi := frame_iff _ _ _ g0 hv hz
  obtain ⟨hbo, hps, _, _⟩ := body_of_parts _ _ _ g0 hv hz
  have hpay : (frameS k p).extract (2 + ((encL p.size).length : Int)).toNat (2 + ((encL p.size).length : Int) + (p.size : Int)).toNat = p := by
    have e1 : (frameS k p).extract 0 (2 + (bytesS p.size).size + p.size) = hdS k ++ bytesS p.size ++ p := by
      unfold frameS
      rw [show bodyS k p = hdS k ++ bytesS p.size ++ p from rfl]
      exact cut_append _ _ _ (by rw [ByteArray.size_append, ByteArray.size_append, hdS_size])
    have e2 := tail_append (hdS k ++ bytesS p.size) p (2 + (bytesS p.size).size) (2 + (bytesS p.size).size + p.size) (by rw [ByteArray.size_append, hdS_size]) (by rw [ByteArray.size_append, hdS_size])
    rw [← e1, ByteArray.extract_extract] at e2
    rw [hl, show (2 + ((bytesS p.size).size : Int)).toNat = 0 + (2 + (bytesS p.size).size) from by omega, show (2 + ((bytesS p.size).size : Int) + (p.size : Int)).toNat = min (0 + (2 + (bytesS p.size).size + p.size)) (2 + (bytesS p.size).size + p.size) from by omega]
    exact e2
  rw [hpay] at hfi ⊢
  rw [if_pos (hfi.1 (by
    have : (gB (frameS k p) 1 : Int) = k := g1
    rw [this])), g1]
/-- Cut off anywhere it is none. -/
theorem open_cut (k : Int) (p : ByteArray) (h1 : 1 ≤ k) (h9 : k ≤ 9) (hp : p.size ≤ 2042) (c : Nat) (hc : c < (frameS k p).size) : openOf ((frameS k p).extract 0 c) = (0, { data := #[] }, 2) := by
  have hb := bL_frame k p (by omega) (by omega) (by omega) { data := #[] }
  have he : frameS k p ++ { data := #[] } = frameS k p := ByteArray.append_empty
  rw [he] at hb
  have z := frameS_size k p
  have f := frame_fits k p hp
  have hz : ((frameS k p).extract 0 c).size = c := by rw [size_extract _ _ _ (by omega)]; omega
  have hbt := bL_take (frameS k p) c (by omega)
  rw [hb] at hbt
  generalize (frameS k p).extract 0 c = s at *
  unfold openOf
  rw [if_neg (by omega)]
  by_cases c0 : c = 0
  · rw [if_pos (by omega)]
  rw [if_neg (by omega)]
  obtain ⟨c', rfl⟩ : ∃ c', c = c' + 1 := ⟨c - 1, by omega⟩
  rw [List.take_succ_cons] at hbt
  have g0 : gB s 0 = 84 := by have := gB_of_bL s 0 84 (by rw [hbt]; rfl); omega
  rw [if_neg (by omega)]
  by_cases c1 : c' = 0
  · rw [if_pos (by omega)]
  obtain ⟨c, rfl⟩ : ∃ c, c' = c + 1 := ⟨c' - 1, by omega⟩
  rw [List.take_succ_cons] at hbt
  have g1 : (gB s 1 : Int) = k := gB_of_bL s 1 k (by rw [hbt]; rfl)
  rw [if_neg (by omega), if_neg (by omega)]
  have hl := enc_small p.size hp
  by_cases hs : c < (encL p.size).length
  · rw [List.take_append_of_le_length (by omega)] at hbt
    rw [vtake_cuts s _ _ _ _ hbt (by omega) hs]
    simp
  · rw [List.take_append, List.take_of_length_le (by omega)] at hbt
    rw [vtake_encs s _ _ _ _ hbt (by omega)]
    simp only
    rw [if_neg (by simp), if_pos (by omega)]
/-- With anything behind it it is none. -/
theorem open_more (k : Int) (p r : ByteArray) (h1 : 1 ≤ k) (h9 : k ≤ 9) (hp : p.size ≤ 2042) (hr : 0 < r.size) : openOf (frameS k p ++ r) = (0, { data := #[] }, 3) ∨ openOf (frameS k p ++ r) = (0, { data := #[] }, 4) := by
  have hb := bL_frame k p (by omega) (by omega) (by omega) r
  have z := frameS_size k p
  have hz : (frameS k p ++ r).size = 2 + (bytesS p.size).size + p.size + 2 + r.size := by rw [ByteArray.size_append, z]
  generalize frameS k p ++ r = s at *
  have g0 : gB s 0 = 84 := by have := gB_of_bL s 0 84 (by rw [hb]; rfl); omega
  have g1 : (gB s 1 : Int) = k := gB_of_bL s 1 k (by rw [hb]; rfl)
  have hv := vtake_encs s _ _ _ _ hb (by omega)
  have hl := enc_small p.size hp
  by_cases hbig : 2048 < s.size
  · left; unfold openOf; rw [if_pos hbig]
  · right
    unfold openOf
    rw [hv]
    simp only
    rw [if_neg (by omega), if_neg (by omega), if_neg (by omega), if_neg (by omega), if_neg (by omega), if_neg (by simp), if_neg (by omega), if_pos (by omega)]
/-- What is opened is made again of its parts. -/
theorem open_back (s : ByteArray) : ((openOf s).2.2 ≠ 0 ∧ openOf s = (0, { data := #[] }, (openOf s).2.2)) ∨ ∃ k p, openOf s = (k, p, 0) ∧ 1 ≤ k ∧ k ≤ 9 ∧ p.size ≤ 2042 ∧ frameS k p = s := by
  unfold openOf
  by_cases c1 : 2048 < s.size
  · simp only [c1, if_true]; left; simp
  by_cases c2 : s.size = 0
  · simp only [c2, if_neg (show ¬ 2048 < 0 by omega), if_true]; left; simp
  by_cases c3 : gB s 0 ≠ 84
  · simp only [if_neg c1, if_neg c2, if_pos c3]; left; simp
  by_cases c4 : s.size < 2
  · simp only [if_neg c1, if_neg c2, if_neg c3, if_pos c4]; left; simp
  by_cases c5 : gB s 1 < 1 ∨ 9 < gB s 1
  · simp only [if_neg c1, if_neg c2, if_neg c3, if_neg c4, if_pos c5]; left; simp
  by_cases c6 : (vtakeOf s 2).2.2 ≠ 0
  · simp only [if_neg c1, if_neg c2, if_neg c3, if_neg c4, if_neg c5, if_pos c6]; left; exact ⟨c6, trivial⟩
  simp only [if_neg c1, if_neg c2, if_neg c3, if_neg c4, if_neg c5, if_neg c6]
  obtain ⟨⟨k, e, z⟩, hv⟩ : ∃ x, vtakeOf s 2 = x := ⟨_, rfl⟩
  rw [hv] at c6 ⊢
  simp only at c6 ⊢
  obtain rfl : z = 0 := by omega
  by_cases c7 : (s.size : Int) - e - 2 < k
  · simp only [if_pos c7]; left; simp
  by_cases c8 : k < (s.size : Int) - e - 2
  · simp only [if_neg c7, if_pos c8]; left; simp
  have c9 := frame_iff s k e (by omega) hv (by omega)
  obtain ⟨_, hps, _, _⟩ := body_of_parts s k e (by omega) hv (by omega)
  obtain ⟨b1, b2, b3, b4, _, b5⟩ := vtake_at s 2 k e hv
  have bz : (bytesS k).size = e.toNat - 2 := by rw [b5, size_extract _ _ _ (by omega)]
  have big : k.toNat ≤ 2042 := by
    by_cases hk : k < 128
    · omega
    · have := bytes_len3 k.toNat (by omega) (by omega)
      rw [Int.toNat_of_nonneg b1, bz] at this
      omega
  by_cases c10 : s.extract (s.size - 2) s.size = endS (s.extract 0 (s.size - 2))
  · simp only [if_neg c7, if_neg c8, if_pos c10]
    refine .inr ⟨_, _, rfl, by omega, by omega, by omega, c9.2 c10⟩
  · simp only [if_neg c7, if_neg c8, if_neg c10]; left; simp
end Go.Proofs.Ytdjcbhkcciabpaa
