/-
  The round trip of layer 4, without any program: what is encoded is taken, cut off it ends too early, what is taken has just those bytes. No conditions.
-/
import Derived.Test.YtdjcbhkcciabpaaVariMath
namespace Go.Proofs.Ytdjcbhkcciabpaa
open Go
theorem bL_append (s t : ByteArray) : bL (s ++ t) = bL s ++ bL t := by
  have e : s ++ t = strOfNums (bL s ++ bL t) := by rw [← str_append, str_bL, str_bL]
  rw [e, bL_str]
  intro x hx
  rcases List.mem_append.1 hx with hx | hx
  · exact bL_bd s x hx
  · exact bL_bd t x hx
theorem bL_bytesS {n : Int} (h0 : 0 ≤ n) (h1 : n ≤ 2147483647) : bL (bytesS n) = encL n.toNat := by
  unfold bytesS
  rw [bL_str _ (bytesL_by n), bytesL_in h0 h1]
theorem size_bytesS {n : Int} (h0 : 0 ≤ n) (h1 : n ≤ 2147483647) : (bytesS n).size = (encL n.toNat).length := by rw [bytesS_size, bytesL_in h0 h1]
theorem vtake_at0 (s : ByteArray) : vtakeOf s 0 = if (takeP (bL s)).2.2 = 0 then ((takeP (bL s)).1, ((takeP (bL s)).2.1 : Int), 0) else (0, 0, (takeP (bL s)).2.2) := by
  unfold vtakeOf
  rw [if_neg (by omega), show Int.toNat 0 = 0 from rfl, List.drop_zero, Int.zero_add]
theorem vtake_enc (n : Int) (r : ByteArray) (h0 : 0 ≤ n) (h1 : n ≤ 2147483647) : vtakeOf (bytesS n ++ r) 0 = (n, ((bytesS n).size : Int), 0) := by
  rw [vtake_at0, bL_append, bL_bytesS h0 h1, takeP_enc _ _ (by omega), size_bytesS h0 h1]
  simp; omega
theorem vtake_cut (n cut : Int) (h0 : 0 ≤ n) (h1 : n ≤ 2147483647) (c0 : 0 ≤ cut) (c1 : cut < (bytesS n).size) : vtakeOf ((bytesS n).extract 0 cut.toNat) 0 = (0, 0, 2) := by
  have e := bL_extract (bytesS n) 0 cut.toNat (by omega)
  rw [Nat.zero_add, List.drop_zero, bL_bytesS h0 h1] at e
  rw [vtake_at0, e, takeP_cut _ _ (by omega) (by rw [← size_bytesS h0 h1]; omega)]
  rfl
theorem signedS_in {n : Int} (h0 : -1073741824 ≤ n) (h1 : n ≤ 1073741823) : signedS n = bytesS (zig n) := by
  unfold signedS signedL bytesS
  rw [if_pos ⟨h0, h1⟩]
theorem stake_enc (n : Int) (r : ByteArray) (h0 : -1073741824 ≤ n) (h1 : n ≤ 1073741823) : stakeOf (signedS n ++ r) 0 = (n, ((signedS n).size : Int), 0) := by
  have hz := zig_in h0 h1
  rw [signedS_in h0 h1]
  unfold stakeOf
  rw [vtake_enc _ _ hz.1 hz.2, if_pos rfl, zag_zig]
theorem vtake_back (s : ByteArray) (k e : Int) (h : vtakeOf s 0 = (k, e, 0)) : 0 ≤ k ∧ k ≤ 2147483647 ∧ 0 < e ∧ e ≤ s.size ∧ bytesS k = s.extract 0 e.toNat := by
  rw [vtake_at0] at h
  by_cases c : (takeP (bL s)).2.2 = 0
  · rw [if_pos c] at h
    obtain ⟨b1, b2, b3, b4, _, b5⟩ := takeP_back _ c
    have hk : (takeP (bL s)).1 = k := congrArg (fun x : Int × Int × Int => x.1) h
    have he : ((takeP (bL s)).2.1 : Int) = e := congrArg (fun x : Int × Int × Int => x.2.1) h
    rw [hk] at b1 b2 b5
    rw [bL_length] at b4
    refine ⟨b1, b2, by omega, by omega, ?_⟩
    have ex := bL_extract s 0 e.toNat (by omega)
    rw [Nat.zero_add, List.drop_zero] at ex
    unfold bytesS
    rw [bytesL_in b1 b2, b5, show (takeP (bL s)).2.1 = e.toNat from by omega, ← ex, str_bL]
  · rw [if_neg c] at h
    exact absurd (congrArg (fun x : Int × Int × Int => x.2.2) h) c
theorem vtake_err (s : ByteArray) (c : Int) (k e : Int) (h : vtakeOf s 0 = (k, e, c)) (hc : c ≠ 0) : k = 0 ∧ e = 0 := by
  rw [vtake_at0] at h
  by_cases d : (takeP (bL s)).2.2 = 0
  · rw [if_pos d] at h
    exact absurd (congrArg (fun x : Int × Int × Int => x.2.2) h).symm hc
  · rw [if_neg d] at h
    exact ⟨(congrArg (fun x : Int × Int × Int => x.1) h).symm, (congrArg (fun x : Int × Int × Int => x.2.1) h).symm⟩
theorem bytesS_lo {n : Int} (h0 : 0 ≤ n) (h1 : n ≤ 2147483647) : 1 ≤ (bytesS n).size ∧ (bytesS n).size ≤ 5 := by
  rw [size_bytesS h0 h1]
  exact ⟨encL_len_pos _, encL_len5 _ (by omega)⟩
theorem bytesS_le (n : Int) : (bytesS n).size ≤ 5 := by rw [bytesS_size]; exact bytesL_len n
theorem signedS_le (n : Int) : (signedS n).size ≤ 5 := by
  unfold signedS
  rw [strOfNums_size]; exact signedL_len n
end Go.Proofs.Ytdjcbhkcciabpaa
