/-
  The contracts of package vari: Take, TakeSigned and their helpers. Conditions: a string is no longer than a string can be; the numbers are int64's.
-/
import Derived.Test.YtdjcbhkcciabpaaVari
namespace Go.Proofs.Ytdjcbhkcciabpaa
open Go.ChangeShapes Go.WideShapes Go.ChangeAt Go.RowKit
set_option linter.unusedVariables false
set_option linter.unusedSimpArgs false
/-- How many bytes, and an error. -/
def sizeP (l : List Int) : Int × Int := if 5 ≤ (lead l).length then (0, 4) else if (lead l).length = l.length then (0, 2) else ((lead l).length + 1, 0)
def twoV (x : Int × Int) : Value := .tuple #[.int .i64 x.1, .int .i64 x.2]
theorem lead_drop_size {l : List Int} {k : Nat} (h : k + (lead (l.drop k)).length = (lead l).length) (hk : l.length ≤ k) : (lead l).length = k := by
  rw [List.drop_eq_nil_of_le hk] at h
  simpa [lead] using h.symm
theorem sizeOf_any (s : ByteArray) (w : World) (hs : s.size ≤ 140737488355328) : Calls Try.prog 24 #[.string s] w fun e w' => e = .returned (twoV (sizeP (bL s))) ∧ w = w' := by
  have hlen := bL_length s
  by_cases h5 : (s.size : Int) ≤ 5
  · go_enter Try.func24, Try.ntmps24
    go_wp2
    go_loop [8] (fun i => ∃ k : Nat, i = .int .i64 k ∧ k ≤ s.size ∧ k + (lead ((bL s).drop k)).length = (lead (bL s)).length) (fun i => s.size - (intOf i).toNat)
    case atStart => exact ⟨0, rfl, by omega, by simp⟩
    case round =>
      obtain ⟨k, rfl, hk, he⟩ := hrel
      by_cases h : k < s.size
      · have g := gB_eq s k h
        have hd := bL_drop s k h
        have l1 : (k : Int) < (s.size : Int) := by omega
        by_cases hB : (gB s k : Int) < 128
        · rw [hd, lead_stop _ hB] at he
          have E := Lib.hid (show sizeP (bL s) = ((k : Int) + 1, 0) by
            have he : k = (lead (bL s)).length := he
            unfold sizeP; rw [if_neg (by omega), if_neg (by omega), ← he])
          rw [g] at hB
          clear he hd g
          go_wp2
          go_ret2
          exact ⟨by rw [E.out]; rfl, rfl⟩
        · rw [hd, lead_cons _ (by omega), List.length_cons] at he
          rw [g] at hB
          have HE := Lib.hid he
          clear he hd g
          go_wp2
          go_round
          case rel => exact ⟨k + 1, by go_num, by omega, by have := HE.out; omega⟩
          case measure => simp [intOf]; omega
      · have l1 : ¬ (k : Int) < (s.size : Int) := by omega
        by_cases h6 : (s.size : Int) < 5
        · have E := Lib.hid (show sizeP (bL s) = (0, 2) by
            have he := lead_drop_size he (by omega)
            unfold sizeP; rw [if_neg (by omega), if_pos (by omega)])
          clear he
          go_wp2
          go_ret2
          exact ⟨by rw [E.out]; rfl, rfl⟩
        · have E := Lib.hid (show sizeP (bL s) = (0, 4) by
            have he := lead_drop_size he (by omega)
            unfold sizeP; rw [if_pos (by omega)])
          clear he
          go_wp2
          go_ret2
          exact ⟨by rw [E.out]; rfl, rfl⟩
  · go_enter Try.func24, Try.ntmps24
    go_wp2
    go_loop [8] (fun i => ∃ k : Nat, i = .int .i64 k ∧ k ≤ 5 ∧ k + (lead ((bL s).drop k)).length = (lead (bL s)).length) (fun i => 5 - (intOf i).toNat)
    case atStart => exact ⟨0, rfl, by omega, by simp⟩
    case round =>
      obtain ⟨k, rfl, hk, he⟩ := hrel
      by_cases h : k < 5
      · have g := gB_eq s k (by omega)
        have hd := bL_drop s k (by omega)
        have l1 : (k : Int) < 5 := by omega
        have l2 : (k : Int) < (s.size : Int) := by omega
        by_cases hB : (gB s k : Int) < 128
        · rw [hd, lead_stop _ hB] at he
          have E := Lib.hid (show sizeP (bL s) = ((k : Int) + 1, 0) by
            have he : k = (lead (bL s)).length := he
            unfold sizeP; rw [if_neg (by omega), if_neg (by omega), ← he])
          rw [g] at hB
          clear he hd g
          go_wp2
          go_ret2
          exact ⟨by rw [E.out]; rfl, rfl⟩
        · rw [hd, lead_cons _ (by omega), List.length_cons] at he
          rw [g] at hB
          have HE := Lib.hid he
          clear he hd g
          go_wp2
          go_round
          case rel => exact ⟨k + 1, by go_num, by omega, by have := HE.out; omega⟩
          case measure => simp [intOf]; omega
      · have E := Lib.hid (show sizeP (bL s) = (0, 4) by
          unfold sizeP; rw [if_pos (by omega)])
        have l1 : ¬ (k : Int) < 5 := by omega
        clear he
        go_wp2
        go_ret2
        exact ⟨by rw [E.out]; rfl, rfl⟩
theorem isEncoding_any (s : ByteArray) (w : World) (hs : s.size ≤ 140737488355328) (m : List Int) (b : Int) (h : bL s = m ++ [b]) (hm : m.length ≤ 4) : Calls Try.prog 25 #[.string s] w fun e w' => e = .returned (.bool (decide ((m.length = 0 ∨ b ≠ 0) ∧ (m.length < 4 ∨ b ≤ 7)))) ∧ w = w' := by
  have hlen := bL_length s
  rw [h, List.length_append, List.length_singleton] at hlen
  have hz : m.length < s.size := by omega
  have hb : b = ((s[m.length]'hz).toNat : Int) := by
    have := bL_get s m.length hz
    rw [h, gB_eq s m.length hz, List.getElem?_append_right (by omega), Nat.sub_self] at this
    exact Option.some.inj this
  have hz1 : (s.size : Int) - 1 = (m.length : Int) := by omega
  have l2 : (m.length : Int) < (s.size : Int) := by omega
  have l3 : (0 : Int) ≤ (m.length : Int) := by omega
  have HL := Lib.hid hlen
  clear h
  subst hb
  generalize m.length = k at *
  by_cases h0 : ((s[k]'hz).toNat : Int) = 0
  · have h0' : (((s[k]'hz).toNat : Int) == 0) = true := by rw [beq_iff_eq]; exact h0
    have H0 := Lib.hid h0
    clear h0
    by_cases h1 : 1 < (s.size : Int)
    · go_enter Try.func25, Try.ntmps25
      go_wp2
      go_ret
      exact ⟨rB (by have := H0.out; have := HL.out; simp; omega), rfl⟩
    · have h2 : (s.size : Int) < 5 := by omega
      go_enter Try.func25, Try.ntmps25
      go_wp2
      go_ret
      exact ⟨rB (by have := H0.out; have := HL.out; simp; omega), rfl⟩
  · have h0' : (((s[k]'hz).toNat : Int) == 0) = false := by rw [beq_eq_false_iff_ne]; exact h0
    have H0 := Lib.hid h0
    clear h0
    by_cases h2 : (s.size : Int) < 5
    · go_enter Try.func25, Try.ntmps25
      go_wp2
      go_ret
      exact ⟨rB (by have := H0.out; have := HL.out; simp; omega), rfl⟩
    · by_cases h3 : ((s[k]'hz).toNat : Int) ≤ 7
      · go_enter Try.func25, Try.ntmps25
        go_wp2
        go_ret
        exact ⟨rB (by have := H0.out; have := HL.out; simp; omega), rfl⟩
      · go_enter Try.func25, Try.ntmps25
        go_wp2
        go_ret
        exact ⟨rB (by have := H0.out; have := HL.out; simp; omega), rfl⟩
theorem join_any (s : ByteArray) (w : World) (hs : s.size ≤ 5) : Calls Try.prog 26 #[.string s] w fun e w' => e = .returned (.int .i64 (valG (bL s))) ∧ w = w' := by
  have hlen := bL_length s
  go_enter Try.func26, Try.ntmps26
  go_wp2
  go_loop [3, 7] (fun n i => ∃ k : Nat, i = .int .i64 k ∧ k ≤ s.size ∧ n = .int .i64 (valG ((bL s).take k))) (fun _ i => s.size - (intOf i).toNat)
  case atStart => exact ⟨0, rfl, by omega, by simp [valG]⟩
  case round =>
    obtain ⟨k, rfl, hk, rfl⟩ := hrel
    by_cases h : k < s.size
    · have hx : (bL s)[k]'(by omega) = ((s[k]'h).toNat : Int) := by
        have h2 := bL_get s k h
        rw [List.getElem?_eq_getElem (by omega), gB_eq s k h] at h2
        exact Option.some.inj h2
      have l1 : (k : Int) < (s.size : Int) := by omega
      have hv := valG_bd ((bL s).take k)
      have hl : ((bL s).take k).length = k := by rw [List.length_take]; omega
      have hs2 : valG ((bL s).take (k + 1)) = valG ((bL s).take k) + 128 ^ k * (((s[k]'h).toNat : Int) % 128) := by
        rw [List.take_succ_eq_append_getElem (by omega), valG_append, hl, hx]
        simp [valG]
      have HS := Lib.hid hs2
      rw [hl] at hv
      obtain ⟨hv1, hv2⟩ := hv
      clear hs2 hl hx
      generalize valG ((bL s).take k) = V at *
      have hx0 : (0 : Int) ≤ ((s[k]'h).toNat : Int) := by omega
      have hx1 : ((s[k]'h).toNat : Int) < 256 := by have := (s[k]'h).toNat_lt; omega
      have h5 : k = 0 ∨ k = 1 ∨ k = 2 ∨ k = 3 ∨ k = 4 := by omega
      rcases h5 with rfl | rfl | rfl | rfl | rfl
      · go_wp2
        go_round
        case rel => exact ⟨1, rfl, by omega, by rw [HS.out]; exact vI (by omega)⟩
        case measure => simp [intOf]; omega
      · have hv3 : V < 128 := by omega
        have l2 : (1 : Int) < (s.size : Int) := by omega
        clear hv2 l1 hlen
        go_wp2
        go_round
        case rel => exact ⟨2, rfl, by omega, by rw [HS.out]; exact vI (by omega)⟩
        case measure => simp [intOf]; omega
      · have hv3 : V < 16384 := by omega
        have l2 : (2 : Int) < (s.size : Int) := by omega
        clear hv2 l1 hlen
        go_wp2
        go_round
        case rel => exact ⟨3, rfl, by omega, by rw [HS.out]; exact vI (by omega)⟩
        case measure => simp [intOf]; omega
      · have hv3 : V < 2097152 := by omega
        have l2 : (3 : Int) < (s.size : Int) := by omega
        clear hv2 l1 hlen
        go_wp2
        go_round
        case rel => exact ⟨4, rfl, by omega, by rw [HS.out]; exact vI (by omega)⟩
        case measure => simp [intOf]; omega
      · have hv3 : V < 268435456 := by omega
        have l2 : (4 : Int) < (s.size : Int) := by omega
        clear hv2 l1 hlen
        go_wp2
        go_round
        case rel => exact ⟨5, rfl, by omega, by rw [HS.out]; exact vI (by omega)⟩
        case measure => simp [intOf]; omega
    · have E := Lib.hid (show (bL s).take k = bL s from List.take_of_length_le (by omega))
      have l1 : ¬ (k : Int) < (s.size : Int) := by omega
      go_wp2
      go_ret
      exact ⟨by rw [E.out]; rfl, rfl⟩
/-- What stands at index a, by the program's own tests. -/
theorem Form.shape {s : ByteArray} {m : List Int} {b : Int} (h : Form (bL s) m b) : s.size = m.length + 1 := by rw [← bL_length, h.eq]; simp
theorem bL_from (s : ByteArray) (a : Nat) (h : a ≤ s.size) : bL (s.extract a s.size) = (bL s).drop a := by
  have := bL_extract s a (s.size - a) (by omega)
  rw [show a + (s.size - a) = s.size from by omega] at this
  rw [this]
  exact List.take_of_length_le (by rw [List.length_drop, bL_length]; omega)
theorem sizeP_takeP (l : List Int) : ((sizeP l).2 ≠ 0 → (takeP l) = (0, 0, (sizeP l).2)) ∧ ((sizeP l).2 = 0 → (lead l).length ≤ 4 ∧ (lead l).length < l.length ∧ sizeP l = (((lead l).length : Int) + 1, 0)) := by
  have h1 := lead_len l
  unfold sizeP takeP
  by_cases c1 : 5 ≤ (lead l).length
  · rw [if_pos c1, if_pos c1]; simp
  · rw [if_neg c1, if_neg c1]
    by_cases c2 : (lead l).length = l.length
    · rw [if_pos c2, if_pos c2]; simp
    · rw [if_neg c2, if_neg c2]
      exact ⟨fun c => absurd rfl c, fun _ => ⟨by omega, by omega, rfl⟩⟩
theorem sizeP_err (l : List Int) (h : (sizeP l).2 ≠ 0) : sizeP l = (0, (sizeP l).2) := by
  unfold sizeP at h ⊢
  by_cases c1 : 5 ≤ (lead l).length
  · rw [if_pos c1]
  · rw [if_neg c1] at h ⊢
    by_cases c2 : (lead l).length = l.length
    · rw [if_pos c2]
    · rw [if_neg c2] at h; exact absurd rfl h
theorem takeP_iff (l : List Int) (h1 : (lead l).length ≤ 4) (h2 : (lead l).length < l.length) : takeP l = if encL (valG (l.take ((lead l).length + 1))).toNat = l.take ((lead l).length + 1) ∧ valG (l.take ((lead l).length + 1)) ≤ 2147483647 then (valG (l.take ((lead l).length + 1)), (lead l).length + 1, 0) else (0, 0, 4) := by
  unfold takeP
  rw [if_neg (by omega), if_neg (by omega)]
/-- Take's three answers. -/
def takeV3 (x : Int × Int × Int) : Value := .tuple #[.int .i64 x.1, .int .i64 x.2.1, .int .i64 x.2.2]
theorem Take_any (s : ByteArray) (a : Int) (w : World) (hs : s.size ≤ 140737488355328) (a1 : -9223372036854775808 ≤ a) (a2 : a ≤ 9223372036854775807) :
    Calls Try.prog 18 #[.string s, .int .i64 a] w fun e w' => e = .returned (takeV3 (vtakeOf s a)) ∧ w = w' := by
  by_cases h0 : a < 0
  · have T := Lib.hid (vtakeOf_out s a (.inl h0))
    go_enter Try.func18, Try.ntmps18
    go_wp2
    go_ret3
    exact ⟨by rw [T.out]; rfl, rfl⟩
  · by_cases h1 : (s.size : Int) < a
    · have T := Lib.hid (vtakeOf_out s a (.inr h1))
      go_enter Try.func18, Try.ntmps18
      go_wp2
      go_ret3
      exact ⟨by rw [T.out]; rfl, rfl⟩
    · obtain ⟨i, rfl⟩ : ∃ i : Nat, a = i := ⟨a.toNat, by omega⟩
      have hi : i ≤ s.size := by omega
      have hb := bL_from s i hi
      have hsz := sizeOf_any (s.extract i s.size)
      rw [hb] at hsz
      have hsp := sizeP_takeP ((bL s).drop i)
      have hok := vtakeOf_ok s (i : Int) (by omega) (by omega)
      have hno := vtakeOf_no s (i : Int) (by omega) (by omega)
      rw [Int.toNat_natCast] at hok hno
      have hx : (s.extract i s.size).size = s.size - i := by rw [ByteArray.size_extract]; omega
      have hln : ((bL s).drop i).length = s.size - i := by rw [List.length_drop, bL_length]
      by_cases hz : (sizeP ((bL s).drop i)).2 = 0
      · obtain ⟨k1, k2, k3⟩ := hsp.2 hz
        have hfm := front_form _ (fun x hx => bL_bd s x (List.mem_of_mem_drop hx)) k2
        have hti := takeP_iff _ k1 k2
        rw [k3] at hsz
        clear hsp hz k3
        obtain ⟨m, hm⟩ : ∃ m, lead ((bL s).drop i) = m := ⟨_, rfl⟩
        generalize hbb : ((bL s).drop i)[(lead ((bL s).drop i)).length] = b at hfm
        rw [hm] at hsz hfm k1 k2 hti
        obtain ⟨n, hn⟩ : ∃ n, m.length + 1 = n := ⟨_, rfl⟩
        rw [hn] at hfm hti
        have hin : i + n ≤ s.size := by omega
        have hsl := slice_nn (P := Try.prog) 9 (by kernel_rfl) s i n hin
        have hbe : bL (s.extract i (i + n)) = ((bL s).drop i).take n := bL_extract s i n hin
        have hxe : (s.extract i (i + n)).size = n := by rw [ByteArray.size_extract]; omega
        have hie0 := isEncoding_any (s.extract i (i + n))
        have hji := join_any (s.extract i (i + n))
        rw [hbe] at hji
        have hie := fun w h => hie0 w h m b (by rw [hbe]; exact hfm.eq) k1
        have heq := enc_iff hfm k1
        have hsz2 : ∀ w, (s.extract i s.size).size ≤ 140737488355328 → Calls Try.prog 24 #[.string (s.extract i s.size)] w fun e w' => e = .returned (twoV ((n : Int), 0)) ∧ w = w' := by
          rw [show ((m.length : Int) + 1) = (n : Int) from by omega] at hsz
          exact hsz
        have hle : (i : Int) + (n : Int) ≤ (s.size : Int) := by omega
        have hn5 : n ≤ 5 := by omega
        clear hsz hie0
        by_cases hc : encL (valG (((bL s).drop i).take n)).toNat = ((bL s).drop i).take n ∧ valG (((bL s).drop i).take n) ≤ 2147483647
        · rw [if_pos hc] at hti
          have T := hok (by rw [hti])
          rw [hti] at T
          have T := Lib.hid T
          rw [decide_eq_true (by rw [List.length_eq_zero_iff]; exact heq.1 hc)] at hie
          clear hok hno heq hc hti hbe hfm k1 hn
          generalize valG (((bL s).drop i).take n) = V at *
          clear k2 hm hbb hb hln
          go_enter Try.func18, Try.ntmps18
          go_wp2_with (first
            | (go_at_call 24; refine (hsz2 _ (by omega)).mono ?_; rintro e w1 ⟨rfl, rfl⟩; unfold twoV)
            | (go_at_call 25; refine (hie _ (by omega)).mono ?_; rintro e w1 ⟨rfl, rfl⟩)
            | (go_at_call 26; refine (hji _ (by omega)).mono ?_; rintro e w1 ⟨rfl, rfl⟩))
          go_ret3
          exact ⟨by rw [T.out]; rfl, rfl⟩
        · rw [if_neg hc] at hti
          have T := hno (by rw [hti]; decide)
          rw [hti] at T
          have T := Lib.hid T
          rw [decide_eq_false (by rw [List.length_eq_zero_iff]; exact fun c => hc (heq.2 c))] at hie
          clear hok hno heq hc hti hbe hfm k1 hn hji
          clear k2 hm hbb hb hln
          go_enter Try.func18, Try.ntmps18
          go_wp2_with (first
            | (go_at_call 24; refine (hsz2 _ (by omega)).mono ?_; rintro e w1 ⟨rfl, rfl⟩; unfold twoV)
            | (go_at_call 25; refine (hie _ (by omega)).mono ?_; rintro e w1 ⟨rfl, rfl⟩))
          go_ret3
          exact ⟨by rw [T.out]; rfl, rfl⟩
      · have hti := hsp.1 hz
        obtain ⟨e, he⟩ : ∃ e, (sizeP ((bL s).drop i)).2 = e := ⟨_, rfl⟩
        have hs1 : sizeP ((bL s).drop i) = (0, e) := by rw [← he]; exact sizeP_err _ hz
        rw [he] at hti hz
        have T := hno (by rw [hti]; exact hz)
        rw [hti] at T
        have T := Lib.hid T
        rw [hs1] at hsz
        have hz' : (e != 0) = true := by rw [bne_iff_ne]; exact hz
        clear hok hno hsp hti he hs1 hz hb hln
        go_enter Try.func18, Try.ntmps18
        go_wp2_with (first
          | (go_at_call 24; refine (hsz _ (by omega)).mono ?_; rintro e w1 ⟨rfl, rfl⟩; unfold twoV))
        go_ret3
        exact ⟨by rw [T.out]; rfl, rfl⟩
theorem vtakeOf_bd (s : ByteArray) (a : Int) (hs : s.size ≤ 140737488355328) : 0 ≤ (vtakeOf s a).1 ∧ (vtakeOf s a).1 ≤ 2147483647 := by
  unfold vtakeOf
  split
  · simp
  · split
    · have := takeP_back _ (by assumption)
      exact ⟨this.1, this.2.1⟩
    · simp
end Go.Proofs.Ytdjcbhkcciabpaa
