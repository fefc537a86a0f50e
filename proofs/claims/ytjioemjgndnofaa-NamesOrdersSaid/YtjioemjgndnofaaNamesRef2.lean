/-
  The document's Next. No statement.
-/
import Derived.Test.YtjioemjgndnofaaNamesRef
namespace Go.Proofs.Ytjioemjgndnofaa
open Go Go.RowKit Go.Lib Go.Sort
set_option linter.unusedVariables false
set_option linter.unusedSimpArgs false
def bestK (L : List ByteArray) (s : ByteArray) (k : Nat) : ByteArray := baOf (nextN ((bsOf L).take k) s.toList)
theorem bestK_all (L : List ByteArray) (s : ByteArray) {n : Nat} (h : L.length = n) : bestK L s n = nextS L s := by
  unfold bestK nextS
  rw [List.take_of_length_le (by rw [bsOf_len]; omega)]
theorem bestK_zero (L : List ByteArray) (s : ByteArray) : bestK L s 0 = ⟨#[]⟩ := rfl
theorem bestK_succ {L : List ByteArray} (s : ByteArray) {k : Nat} (h : k < L.length) :
    bestK L s (k + 1) = if (Op.bytesLess s.toList (nmS L k).toList && ((bestK L s k).toList == [] || Op.bytesLess (nmS L k).toList (bestK L s k).toList)) = true then nmS L k else bestK L s k := by
  unfold bestK
  rw [nextN_take s.toList (by rw [bsOf_len]; exact h), baOf_list, nmS_at]
  unfold nextStep
  rw [bytesLess_lt, bytesLess_lt]
  by_cases h1 : s.toList < (nmS L k).toList
  · by_cases h2 : nextN ((bsOf L).take k) s.toList = []
    · simp [h1, h2, baOf_eq]
    · by_cases h3 : (nmS L k).toList < nextN ((bsOf L).take k) s.toList
      · simp [h1, h2, h3, baOf_eq]
      · simp [h1, h2, h3]
  · simp [h1]
theorem gt_less (a b : Bs) : Op.bytesLess a b = (!Op.bytesLess b a && !(b == a)) := by
  rw [bytesLess_lt, bytesLess_lt]
  rcases bs_tri a b with h | h | h
  · have h2 := bs_asym h
    have h3 : b ≠ a := fun e => by rw [e] at h; exact bs_irr _ h
    simp [h, h2, h3]
  · subst h; simp
  · have h2 := bs_asym h
    simp [h, h2]
set_option maxHeartbeats 2000000 in
theorem rNext_any (A : Option Addr) (cap : Nat) (L : List ByteArray) (s : ByteArray) (w : World) (hr : Reads w A (strCs L)) (hmax : L.length ≤ 1000000) :
    Calls Try.prog 19 #[.slice A L.length cap, .string s] w fun e w' => e = .returned (.string (nextS L s)) ∧ w = w' := by
  obtain ⟨n, hn⟩ : ∃ n, L.length = n := ⟨_, rfl⟩
  have HE := Lib.hid (bestK_all L s hn)
  have HN := Lib.hid hn
  have HR := Lib.hid hr
  have HZ := Lib.hid (bestK_zero L s)
  rw [hn] at hmax ⊢
  clear hn hr
  go_enter Try.func19, Try.ntmps19
  go_wp2
  go_loop [5, 6] (fun b i => ∃ k : Nat, k ≤ n ∧ i = .int .i64 k ∧ b = .string (bestK L s k)) (fun _ i => n - (intOf i).toNat)
  case atStart => exact ⟨0, by omega, rfl, by rw [HZ.out]⟩
  case round =>
    obtain ⟨k, hk, rfl, rfl⟩ := hrel
    by_cases hlt : k < n
    · obtain ⟨x, rfl, hx, hc⟩ := reads_at HR.out (show k < L.length by rw [HN.out]; exact hlt)
      have HS := Lib.hid (bestK_succ s (show k < L.length by rw [HN.out]; exact hlt))
      generalize nmS L k = y at *
      generalize bestK L s k = b at *
      rw [gt_less] at HS
      go_wp2_with fail
      all_goals
        go_round
        case rel =>
          refine ⟨k + 1, by omega, by go_num, ?_⟩
          have h := HS.out
          rw [h]
          clear h HS
          simp_all
          try (intro h1 h2; rename_i h3; exact absurd (h3 h1) h2)
        case measure => simp [intOf]; omega
    · obtain rfl : k = n := by omega
      go_wp2
      go_ret
      exact ⟨by rw [HE.out]; rfl, rfl⟩
end Go.Proofs.Ytjioemjgndnofaa
