/-
  names.Twice; the document's Find, Twice, Unlike and Next. No statement.
-/
import Derived.Test.YtjioemjgndnofaaNamesIdx
namespace Go.Proofs.Ytjioemjgndnofaa
open Go Go.RowKit Go.Lib Go.Sort
set_option linter.unusedVariables false
set_option linter.unusedSimpArgs false
def FirstsTo (N : List Bs) (k : Nat) : Prop := ∀ j, j < k → isF N j = true
theorem FirstsTo.next {N : List Bs} {k : Nat} (h : FirstsTo N k) (hk : isF N k = true) : FirstsTo N (k + 1) := fun j hj => by
  by_cases e : j = k
  · rw [e]; exact hk
  · exact h j (by omega)
theorem reads_at {w : World} {A : Option Addr} {L : List ByteArray} (hr : Reads w A (strCs L)) {k : Nat} (hk : k < L.length) : ∃ x, A = some x ∧ x.block < w.heap.size ∧ w.cell? (x.add k) = some (.string (nmS L k)) := by
  have hl : (strCs L).length = L.length := by unfold strCs; rw [List.length_map]
  obtain ⟨x, hA, hx, hc⟩ := hr.at_ (by omega)
  exact ⟨x, hA, hx, by rw [hc k (by omega)]; exact strCs_get hk⟩
set_option maxHeartbeats 1000000 in
theorem Twice_any (A : Option Addr) (cap : Nat) (L : List ByteArray) (w : World) (hr : Reads w A (strCs L)) (hmax : L.length ≤ 1000000) :
    Calls Try.prog 11 #[.slice A L.length cap] w fun e w' => e = .returned (.int .i64 (twiceN (bsOf L))) ∧ Below w.heap.size w w' := by
  have p1 := New_any A cap L w hr hmax
  have p2 := fun X s w hi => Find_any L X s w hmax hi
  obtain ⟨n, hn⟩ : ∃ n, L.length = n := ⟨_, rfl⟩
  have HN := Lib.hid hn
  rw [hn] at p1 hmax ⊢
  have HR := Lib.hid hr
  clear hn hr
  go_enter Try.func11, Try.ntmps11
  go_wp2_with (go_at_call 13; refine p1.mono ?_; rintro e w1 ⟨X, rfl, hi, hb⟩)
  have HI := Lib.hid hi
  have HB := Lib.hid hb
  clear hi hb p1
  go_loopw [10] (fun i wr => ∃ k : Nat, k ≤ n ∧ i = .int .i64 k ∧ FirstsTo (bsOf L) k ∧ Below w1.heap.size w1 wr) (fun i _ => n - (intOf i).toNat)
  case atStart => exact ⟨0, by omega, rfl, fun j hj => by omega, Below.refl _ _⟩
  case round =>
    obtain ⟨k, hk, rfl, hf, hb⟩ := hrel
    by_cases hlt : k < n
    · have hbb := bthen HB.out hb
      obtain ⟨x, rfl, hx, hc⟩ := reads_at HR.out (show k < L.length by rw [HN.out]; exact hlt)
      have hcr : wr.cell? (x.add k) = some (.string (nmS L k)) := by rw [hbb.cell (p := x.add k) (add_lt hx k)]; exact hc
      have p3 := fun s => p2 X s wr (HI.out.below hb)
      have HFF := Lib.hid hf
      have HB2 := Lib.hid hb
      have hN : (bsOf L).length = n := by rw [bsOf_len]; exact HN.out
      have hfz : ∀ b, isF (bsOf L) k = b → (findZ (bsOf L) (nmS L k).toList < (k : Int) ↔ b = false) := fun b hb => by rw [← nmS_at]; exact isF_of (by rw [hN]; exact hlt) b hb
      cases hff : isF (bsOf L) k with
      | true =>
        have hd : decide (findZ (bsOf L) (nmS L k).toList < (k : Int)) = false := by rw [decide_eq_false_iff_not, hfz _ hff]; simp
        have p4 := p3 (nmS L k)
        generalize findZ (bsOf L) (nmS L k).toList = z at *
        clear hf hb hbb hc hN p3 hfz
        go_wp2_with (go_at_call 14; refine p4.mono ?_; rintro e w' ⟨rfl, q, rfl⟩)
        go_roundw
        case rel => exact ⟨k + 1, by omega, by go_num, HFF.out.next hff, below_drewN HB2.out _⟩
        case measure => simp [intOf]; omega
      | false =>
        have hd : decide (findZ (bsOf L) (nmS L k).toList < (k : Int)) = true := by rw [decide_eq_true_eq, hfz _ hff]
        have p4 := p3 (nmS L k)
        have ht := twice_at (N := bsOf L) (by rw [hN]; exact hlt) hff HFF.out
        have HT := Lib.hid ht
        generalize findZ (bsOf L) (nmS L k).toList = z at *
        clear hf hb hbb hc hN p3 hfz ht
        go_wp2_with (go_at_call 14; refine p4.mono ?_; rintro e w' ⟨rfl, q, rfl⟩)
        go_ret
        exact ⟨by rw [HT.out]; rfl, below_drewN (bthen HB.out HB2.out) _⟩
    · obtain rfl : k = n := by omega
      have ht := twice_no (N := bsOf L) (by rw [bsOf_len, HN.out]; exact hf)
      have HT := Lib.hid ht
      have HB2 := Lib.hid hb
      clear hf hb ht p2
      go_wp2
      go_ret
      exact ⟨by rw [HT.out]; rfl, bthen HB.out HB2.out⟩
theorem findN_le (N : List Bs) (s : Bs) : findN N s ≤ N.length := List.findIdx_le_length
set_option maxHeartbeats 1000000 in
theorem rFind_any (A : Option Addr) (cap : Nat) (L : List ByteArray) (s : ByteArray) (w : World) (hr : Reads w A (strCs L)) (hmax : L.length ≤ 1000000) :
    Calls Try.prog 15 #[.slice A L.length cap, .string s] w fun e w' => e = .returned (.int .i64 (findZ (bsOf L) s.toList)) ∧ w = w' := by
  obtain ⟨n, hn⟩ : ∃ n, L.length = n := ⟨_, rfl⟩
  have hN : (bsOf L).length = n := by rw [bsOf_len]; exact hn
  have hfl := findN_le (bsOf L) s.toList
  rw [hN] at hfl
  have HNN := Lib.hid hN
  have HN := Lib.hid hn
  have HR := Lib.hid hr
  have HFL := Lib.hid hfl
  rw [hn] at hmax ⊢
  clear hn hr hN hfl
  go_enter Try.func15, Try.ntmps15
  go_wp2
  go_loop [5] (fun i => ∃ k : Nat, k ≤ n ∧ i = .int .i64 k ∧ k ≤ findN (bsOf L) s.toList) (fun i => n - (intOf i).toNat)
  case atStart => exact ⟨0, by omega, rfl, by omega⟩
  case round =>
    obtain ⟨k, hk, rfl, hf⟩ := hrel
    by_cases hlt : k < n
    · obtain ⟨x, rfl, hx, hc⟩ := reads_at HR.out (show k < L.length by rw [HN.out]; exact hlt)
      have hkN : k < (bsOf L).length := by rw [HNN.out]; exact hlt
      by_cases he : (nmS L k).toList = s.toList
      · have hle := findN_first (s := s.toList) hkN (by rw [nmS_at]; exact he)
        have hz : findZ (bsOf L) s.toList = k := by unfold findZ; rw [if_pos (by omega)]; omega
        have HZ := Lib.hid hz
        have hd : ((nmS L k).toList == s.toList) = true := by simpa using he
        generalize nmS L k = y at *
        clear hz hle hf he
        go_wp2
        go_ret
        exact ⟨by rw [HZ.out]; rfl, rfl⟩
      · have hne : k ≠ findN (bsOf L) s.toList := by
          intro e
          have hm : s.toList ∈ bsOf L := findN_lt.1 (by omega)
          have := findN_at hm
          rw [← e, nmS_at] at this
          exact he this
        have hd : ((nmS L k).toList == s.toList) = false := by simpa using he
        generalize nmS L k = y at *
        clear he
        go_wp2
        go_round
        case rel => exact ⟨k + 1, by omega, by go_num, by omega⟩
        case measure => simp [intOf]; omega
    · obtain rfl : k = n := by omega
      have hz : findZ (bsOf L) s.toList = -1 := by unfold findZ; rw [if_neg]; rw [HNN.out]; have := HFL.out; omega
      have HZ := Lib.hid hz
      clear hz hf
      go_wp2
      go_ret
      exact ⟨by rw [HZ.out]; rfl, rfl⟩
set_option maxHeartbeats 1000000 in
theorem rTwice_any (A : Option Addr) (cap : Nat) (L : List ByteArray) (w : World) (hr : Reads w A (strCs L)) (hmax : L.length ≤ 1000000) :
    Calls Try.prog 12 #[.slice A L.length cap] w fun e w' => e = .returned (.int .i64 (twiceN (bsOf L))) ∧ w = w' := by
  have p2 := fun s => rFind_any A cap L s w hr hmax
  obtain ⟨n, hn⟩ : ∃ n, L.length = n := ⟨_, rfl⟩
  have HN := Lib.hid hn
  rw [hn] at p2 hmax ⊢
  have HR := Lib.hid hr
  clear hn hr
  go_enter Try.func12, Try.ntmps12
  go_wp2
  go_loop [3] (fun i => ∃ k : Nat, k ≤ n ∧ i = .int .i64 k ∧ FirstsTo (bsOf L) k) (fun i => n - (intOf i).toNat)
  case atStart => exact ⟨0, by omega, rfl, fun j hj => by omega⟩
  case round =>
    obtain ⟨k, hk, rfl, hf⟩ := hrel
    by_cases hlt : k < n
    · obtain ⟨x, rfl, hx, hc⟩ := reads_at HR.out (show k < L.length by rw [HN.out]; exact hlt)
      have HFF := Lib.hid hf
      have hN : (bsOf L).length = n := by rw [bsOf_len]; exact HN.out
      have hfz : ∀ b, isF (bsOf L) k = b → (findZ (bsOf L) (nmS L k).toList < (k : Int) ↔ b = false) := fun b hb => by rw [← nmS_at]; exact isF_of (by rw [hN]; exact hlt) b hb
      cases hff : isF (bsOf L) k with
      | true =>
        have hd : decide (findZ (bsOf L) (nmS L k).toList < (k : Int)) = false := by rw [decide_eq_false_iff_not, hfz _ hff]; simp
        have p4 := p2 (nmS L k)
        generalize findZ (bsOf L) (nmS L k).toList = z at *
        clear hf hN p2 hfz
        go_wp2_with (go_at_call 15; refine p4.mono ?_; rintro e w' ⟨rfl, rfl⟩)
        go_round
        case rel => exact ⟨k + 1, by omega, by go_num, HFF.out.next hff⟩
        case measure => simp [intOf]; omega
      | false =>
        have hd : decide (findZ (bsOf L) (nmS L k).toList < (k : Int)) = true := by rw [decide_eq_true_eq, hfz _ hff]
        have p4 := p2 (nmS L k)
        have ht := twice_at (N := bsOf L) (by rw [hN]; exact hlt) hff HFF.out
        have HT := Lib.hid ht
        generalize findZ (bsOf L) (nmS L k).toList = z at *
        clear hf hN p2 hfz ht
        go_wp2_with (go_at_call 15; refine p4.mono ?_; rintro e w' ⟨rfl, rfl⟩)
        go_ret
        exact ⟨by rw [HT.out]; rfl, rfl⟩
    · obtain rfl : k = n := by omega
      have ht := twice_no (N := bsOf L) (by rw [bsOf_len, HN.out]; exact hf)
      have HT := Lib.hid ht
      clear hf ht p2
      go_wp2
      go_ret
      exact ⟨by rw [HT.out]; rfl, rfl⟩
set_option maxHeartbeats 1000000 in
theorem rUnlike_any (A : Option Addr) (cap : Nat) (L : List ByteArray) (w : World) (hr : Reads w A (strCs L)) (hmax : L.length ≤ 1000000) :
    Calls Try.prog 17 #[.slice A L.length cap] w fun e w' => e = .returned (.int .i64 (nF L : Int)) ∧ w = w' := by
  have p2 := fun s => rFind_any A cap L s w hr hmax
  obtain ⟨n, hn⟩ : ∃ n, L.length = n := ⟨_, rfl⟩
  have hu : nF L = unlikeK (bsOf L) n := by unfold nF; rw [unlike_len, bsOf_len, hn]
  have HU := Lib.hid hu
  have HN := Lib.hid hn
  rw [hn] at p2 hmax ⊢
  have HR := Lib.hid hr
  clear hn hr hu
  go_enter Try.func17, Try.ntmps17
  go_wp2
  go_loop [3, 4] (fun c i => ∃ k : Nat, k ≤ n ∧ i = .int .i64 k ∧ c = .int .i64 (unlikeK (bsOf L) k : Int)) (fun _ i => n - (intOf i).toNat)
  case atStart => exact ⟨0, by omega, rfl, rfl⟩
  case round =>
    obtain ⟨k, hk, rfl, rfl⟩ := hrel
    by_cases hlt : k < n
    · obtain ⟨x, rfl, hx, hc⟩ := reads_at HR.out (show k < L.length by rw [HN.out]; exact hlt)
      have hN : (bsOf L).length = n := by rw [bsOf_len]; exact HN.out
      have hus := unlikeK_succ (bsOf L) k
      have hul := unlikeK_le (bsOf L) k
      have hkl := isF_lt (N := bsOf L) (i := k) (by rw [hN]; exact hlt)
      rw [nmS_at] at hkl
      have HUS := Lib.hid hus
      have p4 := p2 (nmS L k)
      cases hff : isF (bsOf L) k with
      | true =>
        have hd : (findZ (bsOf L) (nmS L k).toList == (k : Int)) = true := by
          rw [hkl.1]
          unfold isF at hff
          rw [nmS_at] at hff
          simp at hff ⊢
          omega
        rw [hff] at HUS
        generalize findZ (bsOf L) (nmS L k).toList = z at *
        clear hN p2 hus hkl hff
        generalize unlikeK (bsOf L) k = u at *
        have hu0 : (0 : Int) ≤ (u : Int) := Int.natCast_nonneg _
        have hu1 : (u : Int) < 1000000 := by omega
        go_wp2_with (go_at_call 15; refine p4.mono ?_; rintro e w' ⟨rfl, rfl⟩)
        go_round
        case rel => exact ⟨k + 1, by omega, by go_num, by rw [HUS.out]; go_num⟩
        case measure => simp [intOf]; omega
      | false =>
        have hd : (findZ (bsOf L) (nmS L k).toList == (k : Int)) = false := by
          rw [hkl.1]
          unfold isF at hff
          rw [nmS_at] at hff
          simp at hff ⊢
          omega
        rw [hff] at HUS
        generalize findZ (bsOf L) (nmS L k).toList = z at *
        clear hN p2 hus hkl hff
        generalize unlikeK (bsOf L) k = u at *
        go_wp2_with (go_at_call 15; refine p4.mono ?_; rintro e w' ⟨rfl, rfl⟩)
        go_round
        case rel => exact ⟨k + 1, by omega, by go_num, by rw [HUS.out]; rfl⟩
        case measure => simp [intOf]; omega
    · obtain rfl : k = n := by omega
      clear p2
      go_wp2
      go_ret
      exact ⟨by rw [HU.out]; rfl, rfl⟩
end Go.Proofs.Ytjioemjgndnofaa
