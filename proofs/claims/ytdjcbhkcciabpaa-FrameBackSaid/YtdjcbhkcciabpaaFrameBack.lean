/-
  The law FrameBack: it returns true for every input and writes nothing that was there. No conditions.
-/
import Derived.Test.YtdjcbhkcciabpaaFrameLaws
import Derived.Test.YtdjcbhkcciabpaaOpen
namespace Go.Proofs.Ytdjcbhkcciabpaa
open Go.ChangeShapes Go.WideShapes Go.ChangeAt Go.RowKit
set_option linter.unusedVariables false
set_option linter.unusedSimpArgs false
theorem slice_0h {P : Program} (t : TypeId) (h : P.underlying t = some .string) (s : ByteArray) (hi : Int) (h0 : 0 ≤ hi) (h2 : hi ≤ s.size) (w : World) :
    (Instr.slice t (.string s) none (some (.int .i64 hi)) none).run P w = .ok (.string (s.extract 0 hi.toNat)) w := by
  rw [run_slice_string_to_if w t s .i64 hi h, if_pos (by omega)]
def NoMake (k : Int) (p : ByteArray) (c : Int) : Prop := ∀ w, Calls Try.prog 7 #[.int .i64 k, .string p] w fun e w' => e = .returned (.tuple #[.string { data := #[] }, .int .i64 c]) ∧ Below w.heap.size w w'
def OkMake (k : Int) (p F : ByteArray) : Prop := ∀ w, Calls Try.prog 7 #[.int .i64 k, .string p] w fun e w' => e = .returned (.tuple #[.string F, .int .i64 0]) ∧ Below w.heap.size w w'
def OpenIs (s : ByteArray) (k : Int) (p : ByteArray) (c : Int) : Prop := ∀ w, Calls Try.prog 10 #[.string s] w fun e w' => e = .returned (.tuple #[.int .i64 k, .string p, .int .i64 c]) ∧ Below w.heap.size w w'
theorem OpenIs.of (s : ByteArray) (k : Int) (p : ByteArray) (c : Int) (hs : s.size ≤ 9000) (h : openOf s = (k, p, c)) : OpenIs s k p c := fun w => by
  have := Open_any s w hs
  simp only [openV, h] at this
  exact this
def Behind (b : ByteArray) : Prop := (∃ c, (c == 0) = false ∧ OpenIs b 0 { data := #[] } c) ∨ ∃ k p, OpenIs b k p 0 ∧ OkMake k p b
theorem OkMake.of (k : Int) (p : ByteArray) (h1 : 1 ≤ k) (h9 : k ≤ 9) (hp : p.size ≤ 2042) : OkMake k p (frameS k p) := fun w => by
  have := Make_any k p w (by omega)
  unfold makeV at this
  rw [if_neg (by omega), if_neg (by omega)] at this
  exact this
theorem Behind.of (b : ByteArray) (hb : b.size ≤ 3000) : Behind b := by
  rcases open_back b with ⟨h1, h2⟩ | ⟨k, p, h1, h2, h3, h4, h5⟩
  · exact .inl ⟨_, by rw [beq_eq_false_iff_ne]; exact h1, OpenIs.of b _ _ _ (by omega) h2⟩
  · refine .inr ⟨k, p, OpenIs.of b _ _ _ (by omega) h1, ?_⟩
    have := OkMake.of k p h2 h3 h4
    rwa [h5] at this
theorem NoMake.of (k : Int) (p : ByteArray) (h : k < 1 ∨ 9 < k ∨ 2042 < p.size) (hp : p.size ≤ 3000) : ∃ c, (c == 0) = false ∧ NoMake k p c := by
  by_cases hk : k < 1 ∨ 9 < k
  · refine ⟨13, rfl, fun w => ?_⟩
    have := Make_any k p w (by omega)
    unfold makeV at this
    rw [if_pos hk] at this
    exact this
  · refine ⟨3, rfl, fun w => ?_⟩
    have := Make_any k p w (by omega)
    unfold makeV at this
    rw [if_neg hk, if_pos (by omega)] at this
    exact this
set_option maxRecDepth 100000 in
set_option maxHeartbeats 6400000 in
theorem back_no (k : Int) (p b : ByteArray) (cut : Int) (w : World) (hp : p.size ≤ 3000) (hb : b.size ≤ 3000) (k1 : -9223372036854775808 ≤ k) (k2 : k ≤ 9223372036854775807) (c1 : -9223372036854775808 ≤ cut) (c2 : cut ≤ 9223372036854775807) (hD : Behind b) (c : Int) (hc : (c == 0) = false) (hM : NoMake k p c) :
    Calls Try.prog 5 #[.int .i64 k, .agg #[.string p, .string b], .int .i64 cut] w fun e w' => e = .returned (.bool true) ∧ Below w.heap.size w w' := by
  rcases hD with ⟨c', hc', hO⟩ | ⟨k', p', hO, hN⟩
  · unfold OpenIs at hO
    unfold NoMake at hM
    have hc2 : (c' != 0) = true := by unfold bne; rw [hc']; rfl
    go_enter Try.func5, Try.ntmps5
    go_wp2_with fail
    go_region
    have d0 : Below w.heap.size w ((w.alloc (.cells #[.string p, .string b] 35)).drew) := below_drew1 (below_more (Below.refl _ _) _)
    go_wp2_with (first
      | (go_at_call 7; (with_reducible refine (hM _).mono ?_); rintro e w1 ⟨rfl, b1⟩; have d1 := bthen (by assumption) b1; clear b1)
      | (go_at_call 10; (with_reducible refine (hO _).mono ?_); rintro e w1 ⟨rfl, b1⟩; have d1 := bthen (by assumption) b1; clear b1)
      | (go_at_call 6; refine (lives07 _).mono ?_; rintro e w1 ⟨rfl, b1⟩; have d1 := bthen (by assumption) b1; clear b1))
    go_ret
    exact ⟨rfl, by assumption⟩
  · unfold OpenIs at hO
    unfold NoMake at hM
    unfold OkMake at hN
    go_enter Try.func5, Try.ntmps5
    go_wp2_with fail
    go_region
    have d0 : Below w.heap.size w ((w.alloc (.cells #[.string p, .string b] 35)).drew) := below_drew1 (below_more (Below.refl _ _) _)
    go_wp2_with (first
      | (go_at_call 7; (with_reducible refine (hM _).mono ?_); rintro e w1 ⟨rfl, b1⟩; have d1 := bthen (by assumption) b1; clear b1)
      | (go_at_call 7; (with_reducible refine (hN _).mono ?_); rintro e w1 ⟨rfl, b1⟩; have d1 := bthen (by assumption) b1; clear b1)
      | (go_at_call 10; (with_reducible refine (hO _).mono ?_); rintro e w1 ⟨rfl, b1⟩; have d1 := bthen (by assumption) b1; clear b1)
      | (go_at_call 6; refine (lives07 _).mono ?_; rintro e w1 ⟨rfl, b1⟩; have d1 := bthen (by assumption) b1; clear b1))
    go_ret
    exact ⟨rfl, by assumption⟩
set_option maxRecDepth 100000 in
set_option maxHeartbeats 6400000 in
theorem back_cut_more (k : Int) (p b : ByteArray) (cut : Int) (w : World) (hp : p.size ≤ 3000) (hb : b.size ≤ 3000) (k1 : -9223372036854775808 ≤ k) (k2 : k ≤ 9223372036854775807) (c1 : -9223372036854775808 ≤ cut) (c2 : cut ≤ 9223372036854775807) (hD : Behind b) (F : ByteArray) (hF : F.size ≤ 2048) (hM : OkMake k p F) (hS : OpenIs F k p 0) (u0 : 0 ≤ cut) (u1 : cut < F.size) (hC : OpenIs (F.extract 0 cut.toNat) 0 { data := #[] } 2) (y : b.toList.isEmpty = false) (m : Int) (hm : m = 4 ∨ m = 3) (hA : OpenIs (F ++ b) 0 { data := #[] } m) :
    Calls Try.prog 5 #[.int .i64 k, .agg #[.string p, .string b], .int .i64 cut] w fun e w' => e = .returned (.bool true) ∧ Below w.heap.size w w' := by
  unfold OpenIs at hS
  unfold OkMake at hM
  unfold OpenIs at hC
  have hsl := slice_0h (P := Try.prog) 9 (by kernel_rfl) F cut u0 (by omega)
  unfold OpenIs at hA
  have hab : F.size + b.size ≤ 6000 := by omega
  rcases hm with rfl | rfl
  all_goals
    rcases hD with ⟨c', hc', hO⟩ | ⟨k', p', hO, hN⟩
    · unfold OpenIs at hO
      have hc2 : (c' != 0) = true := by unfold bne; rw [hc']; rfl
      go_enter Try.func5, Try.ntmps5
      go_wp2_with fail
      go_region
      have d0 : Below w.heap.size w ((w.alloc (.cells #[.string p, .string b] 35)).drew) := below_drew1 (below_more (Below.refl _ _) _)
      go_wp2_with (first
        | (go_at_call 7; (with_reducible refine (hM _).mono ?_); rintro e w1 ⟨rfl, b1⟩; have d1 := bthen (by assumption) b1; clear b1)
        | (go_at_call 10; (with_reducible refine (hS _).mono ?_); rintro e w1 ⟨rfl, b1⟩; have d1 := bthen (by assumption) b1; clear b1)
        | (go_at_call 10; (with_reducible refine (hC _).mono ?_); rintro e w1 ⟨rfl, b1⟩; have d1 := bthen (by assumption) b1; clear b1)
        | (go_at_call 10; (with_reducible refine (hA _).mono ?_); rintro e w1 ⟨rfl, b1⟩; have d1 := bthen (by assumption) b1; clear b1)
        | (go_at_call 10; (with_reducible refine (hO _).mono ?_); rintro e w1 ⟨rfl, b1⟩; have d1 := bthen (by assumption) b1; clear b1)
        | (go_at_call 6; refine (lives07 _).mono ?_; rintro e w1 ⟨rfl, b1⟩; have d1 := bthen (by assumption) b1; clear b1))
      go_ret
      exact ⟨rfl, by assumption⟩
    · unfold OpenIs at hO
      unfold OkMake at hN
      go_enter Try.func5, Try.ntmps5
      go_wp2_with fail
      go_region
      have d0 : Below w.heap.size w ((w.alloc (.cells #[.string p, .string b] 35)).drew) := below_drew1 (below_more (Below.refl _ _) _)
      go_wp2_with (first
        | (go_at_call 7; (with_reducible refine (hM _).mono ?_); rintro e w1 ⟨rfl, b1⟩; have d1 := bthen (by assumption) b1; clear b1)
        | (go_at_call 10; (with_reducible refine (hS _).mono ?_); rintro e w1 ⟨rfl, b1⟩; have d1 := bthen (by assumption) b1; clear b1)
        | (go_at_call 10; (with_reducible refine (hC _).mono ?_); rintro e w1 ⟨rfl, b1⟩; have d1 := bthen (by assumption) b1; clear b1)
        | (go_at_call 10; (with_reducible refine (hA _).mono ?_); rintro e w1 ⟨rfl, b1⟩; have d1 := bthen (by assumption) b1; clear b1)
        | (go_at_call 10; (with_reducible refine (hO _).mono ?_); rintro e w1 ⟨rfl, b1⟩; have d1 := bthen (by assumption) b1; clear b1)
        | (go_at_call 7; (with_reducible refine (hN _).mono ?_); rintro e w1 ⟨rfl, b1⟩; have d1 := bthen (by assumption) b1; clear b1)
        | (go_at_call 6; refine (lives07 _).mono ?_; rintro e w1 ⟨rfl, b1⟩; have d1 := bthen (by assumption) b1; clear b1))
      go_ret
      exact ⟨rfl, by assumption⟩
set_option maxRecDepth 100000 in
set_option maxHeartbeats 6400000 in
theorem back_cut_none (k : Int) (p b : ByteArray) (cut : Int) (w : World) (hp : p.size ≤ 3000) (hb : b.size ≤ 3000) (k1 : -9223372036854775808 ≤ k) (k2 : k ≤ 9223372036854775807) (c1 : -9223372036854775808 ≤ cut) (c2 : cut ≤ 9223372036854775807) (hD : Behind b) (F : ByteArray) (hF : F.size ≤ 2048) (hM : OkMake k p F) (hS : OpenIs F k p 0) (u0 : 0 ≤ cut) (u1 : cut < F.size) (hC : OpenIs (F.extract 0 cut.toNat) 0 { data := #[] } 2) (y : b.toList.isEmpty = true) :
    Calls Try.prog 5 #[.int .i64 k, .agg #[.string p, .string b], .int .i64 cut] w fun e w' => e = .returned (.bool true) ∧ Below w.heap.size w w' := by
  unfold OpenIs at hS
  unfold OkMake at hM
  unfold OpenIs at hC
  have hsl := slice_0h (P := Try.prog) 9 (by kernel_rfl) F cut u0 (by omega)
  rcases hD with ⟨c', hc', hO⟩ | ⟨k', p', hO, hN⟩
  · unfold OpenIs at hO
    have hc2 : (c' != 0) = true := by unfold bne; rw [hc']; rfl
    go_enter Try.func5, Try.ntmps5
    go_wp2_with fail
    go_region
    have d0 : Below w.heap.size w ((w.alloc (.cells #[.string p, .string b] 35)).drew) := below_drew1 (below_more (Below.refl _ _) _)
    go_wp2_with (first
      | (go_at_call 7; (with_reducible refine (hM _).mono ?_); rintro e w1 ⟨rfl, b1⟩; have d1 := bthen (by assumption) b1; clear b1)
      | (go_at_call 10; (with_reducible refine (hS _).mono ?_); rintro e w1 ⟨rfl, b1⟩; have d1 := bthen (by assumption) b1; clear b1)
      | (go_at_call 10; (with_reducible refine (hC _).mono ?_); rintro e w1 ⟨rfl, b1⟩; have d1 := bthen (by assumption) b1; clear b1)
      | (go_at_call 10; (with_reducible refine (hO _).mono ?_); rintro e w1 ⟨rfl, b1⟩; have d1 := bthen (by assumption) b1; clear b1)
      | (go_at_call 6; refine (lives07 _).mono ?_; rintro e w1 ⟨rfl, b1⟩; have d1 := bthen (by assumption) b1; clear b1))
    go_ret
    exact ⟨rfl, by assumption⟩
  · unfold OpenIs at hO
    unfold OkMake at hN
    go_enter Try.func5, Try.ntmps5
    go_wp2_with fail
    go_region
    have d0 : Below w.heap.size w ((w.alloc (.cells #[.string p, .string b] 35)).drew) := below_drew1 (below_more (Below.refl _ _) _)
    go_wp2_with (first
      | (go_at_call 7; (with_reducible refine (hM _).mono ?_); rintro e w1 ⟨rfl, b1⟩; have d1 := bthen (by assumption) b1; clear b1)
      | (go_at_call 10; (with_reducible refine (hS _).mono ?_); rintro e w1 ⟨rfl, b1⟩; have d1 := bthen (by assumption) b1; clear b1)
      | (go_at_call 10; (with_reducible refine (hC _).mono ?_); rintro e w1 ⟨rfl, b1⟩; have d1 := bthen (by assumption) b1; clear b1)
      | (go_at_call 10; (with_reducible refine (hO _).mono ?_); rintro e w1 ⟨rfl, b1⟩; have d1 := bthen (by assumption) b1; clear b1)
      | (go_at_call 7; (with_reducible refine (hN _).mono ?_); rintro e w1 ⟨rfl, b1⟩; have d1 := bthen (by assumption) b1; clear b1)
      | (go_at_call 6; refine (lives07 _).mono ?_; rintro e w1 ⟨rfl, b1⟩; have d1 := bthen (by assumption) b1; clear b1))
    go_ret
    exact ⟨rfl, by assumption⟩
set_option maxRecDepth 100000 in
set_option maxHeartbeats 6400000 in
theorem back_all_more (k : Int) (p b : ByteArray) (cut : Int) (w : World) (hp : p.size ≤ 3000) (hb : b.size ≤ 3000) (k1 : -9223372036854775808 ≤ k) (k2 : k ≤ 9223372036854775807) (c1 : -9223372036854775808 ≤ cut) (c2 : cut ≤ 9223372036854775807) (hD : Behind b) (F : ByteArray) (hF : F.size ≤ 2048) (hM : OkMake k p F) (hS : OpenIs F k p 0) (u : decide (0 ≤ cut) = false ∨ decide (0 ≤ cut) = true ∧ decide (cut < (F.size : Int)) = false) (y : b.toList.isEmpty = false) (m : Int) (hm : m = 4 ∨ m = 3) (hA : OpenIs (F ++ b) 0 { data := #[] } m) :
    Calls Try.prog 5 #[.int .i64 k, .agg #[.string p, .string b], .int .i64 cut] w fun e w' => e = .returned (.bool true) ∧ Below w.heap.size w w' := by
  unfold OpenIs at hS
  unfold OkMake at hM
  unfold OpenIs at hA
  have hab : F.size + b.size ≤ 6000 := by omega
  rcases u with u | ⟨u, u1⟩
  all_goals
    rcases hm with rfl | rfl
    all_goals
      rcases hD with ⟨c', hc', hO⟩ | ⟨k', p', hO, hN⟩
      · unfold OpenIs at hO
        have hc2 : (c' != 0) = true := by unfold bne; rw [hc']; rfl
        go_enter Try.func5, Try.ntmps5
        go_wp2_with fail
        go_region
        have d0 : Below w.heap.size w ((w.alloc (.cells #[.string p, .string b] 35)).drew) := below_drew1 (below_more (Below.refl _ _) _)
        go_wp2_with (first
          | (go_at_call 7; (with_reducible refine (hM _).mono ?_); rintro e w1 ⟨rfl, b1⟩; have d1 := bthen (by assumption) b1; clear b1)
          | (go_at_call 10; (with_reducible refine (hS _).mono ?_); rintro e w1 ⟨rfl, b1⟩; have d1 := bthen (by assumption) b1; clear b1)
          | (go_at_call 10; (with_reducible refine (hA _).mono ?_); rintro e w1 ⟨rfl, b1⟩; have d1 := bthen (by assumption) b1; clear b1)
          | (go_at_call 10; (with_reducible refine (hO _).mono ?_); rintro e w1 ⟨rfl, b1⟩; have d1 := bthen (by assumption) b1; clear b1)
          | (go_at_call 6; refine (lives07 _).mono ?_; rintro e w1 ⟨rfl, b1⟩; have d1 := bthen (by assumption) b1; clear b1))
        go_ret
        exact ⟨rfl, by assumption⟩
      · unfold OpenIs at hO
        unfold OkMake at hN
        go_enter Try.func5, Try.ntmps5
        go_wp2_with fail
        go_region
        have d0 : Below w.heap.size w ((w.alloc (.cells #[.string p, .string b] 35)).drew) := below_drew1 (below_more (Below.refl _ _) _)
        go_wp2_with (first
          | (go_at_call 7; (with_reducible refine (hM _).mono ?_); rintro e w1 ⟨rfl, b1⟩; have d1 := bthen (by assumption) b1; clear b1)
          | (go_at_call 10; (with_reducible refine (hS _).mono ?_); rintro e w1 ⟨rfl, b1⟩; have d1 := bthen (by assumption) b1; clear b1)
          | (go_at_call 10; (with_reducible refine (hA _).mono ?_); rintro e w1 ⟨rfl, b1⟩; have d1 := bthen (by assumption) b1; clear b1)
          | (go_at_call 10; (with_reducible refine (hO _).mono ?_); rintro e w1 ⟨rfl, b1⟩; have d1 := bthen (by assumption) b1; clear b1)
          | (go_at_call 7; (with_reducible refine (hN _).mono ?_); rintro e w1 ⟨rfl, b1⟩; have d1 := bthen (by assumption) b1; clear b1)
          | (go_at_call 6; refine (lives07 _).mono ?_; rintro e w1 ⟨rfl, b1⟩; have d1 := bthen (by assumption) b1; clear b1))
        go_ret
        exact ⟨rfl, by assumption⟩
set_option maxRecDepth 100000 in
set_option maxHeartbeats 6400000 in
theorem back_all_none (k : Int) (p b : ByteArray) (cut : Int) (w : World) (hp : p.size ≤ 3000) (hb : b.size ≤ 3000) (k1 : -9223372036854775808 ≤ k) (k2 : k ≤ 9223372036854775807) (c1 : -9223372036854775808 ≤ cut) (c2 : cut ≤ 9223372036854775807) (hD : Behind b) (F : ByteArray) (hF : F.size ≤ 2048) (hM : OkMake k p F) (hS : OpenIs F k p 0) (u : decide (0 ≤ cut) = false ∨ decide (0 ≤ cut) = true ∧ decide (cut < (F.size : Int)) = false) (y : b.toList.isEmpty = true) :
    Calls Try.prog 5 #[.int .i64 k, .agg #[.string p, .string b], .int .i64 cut] w fun e w' => e = .returned (.bool true) ∧ Below w.heap.size w w' := by
  unfold OpenIs at hS
  unfold OkMake at hM
  rcases u with u | ⟨u, u1⟩
  all_goals
    rcases hD with ⟨c', hc', hO⟩ | ⟨k', p', hO, hN⟩
    · unfold OpenIs at hO
      have hc2 : (c' != 0) = true := by unfold bne; rw [hc']; rfl
      go_enter Try.func5, Try.ntmps5
      go_wp2_with fail
      go_region
      have d0 : Below w.heap.size w ((w.alloc (.cells #[.string p, .string b] 35)).drew) := below_drew1 (below_more (Below.refl _ _) _)
      go_wp2_with (first
        | (go_at_call 7; (with_reducible refine (hM _).mono ?_); rintro e w1 ⟨rfl, b1⟩; have d1 := bthen (by assumption) b1; clear b1)
        | (go_at_call 10; (with_reducible refine (hS _).mono ?_); rintro e w1 ⟨rfl, b1⟩; have d1 := bthen (by assumption) b1; clear b1)
        | (go_at_call 10; (with_reducible refine (hO _).mono ?_); rintro e w1 ⟨rfl, b1⟩; have d1 := bthen (by assumption) b1; clear b1)
        | (go_at_call 6; refine (lives07 _).mono ?_; rintro e w1 ⟨rfl, b1⟩; have d1 := bthen (by assumption) b1; clear b1))
      go_ret
      exact ⟨rfl, by assumption⟩
    · unfold OpenIs at hO
      unfold OkMake at hN
      go_enter Try.func5, Try.ntmps5
      go_wp2_with fail
      go_region
      have d0 : Below w.heap.size w ((w.alloc (.cells #[.string p, .string b] 35)).drew) := below_drew1 (below_more (Below.refl _ _) _)
      go_wp2_with (first
        | (go_at_call 7; (with_reducible refine (hM _).mono ?_); rintro e w1 ⟨rfl, b1⟩; have d1 := bthen (by assumption) b1; clear b1)
        | (go_at_call 10; (with_reducible refine (hS _).mono ?_); rintro e w1 ⟨rfl, b1⟩; have d1 := bthen (by assumption) b1; clear b1)
        | (go_at_call 10; (with_reducible refine (hO _).mono ?_); rintro e w1 ⟨rfl, b1⟩; have d1 := bthen (by assumption) b1; clear b1)
        | (go_at_call 7; (with_reducible refine (hN _).mono ?_); rintro e w1 ⟨rfl, b1⟩; have d1 := bthen (by assumption) b1; clear b1)
        | (go_at_call 6; refine (lives07 _).mono ?_; rintro e w1 ⟨rfl, b1⟩; have d1 := bthen (by assumption) b1; clear b1))
      go_ret
      exact ⟨rfl, by assumption⟩
theorem isEmpty_iff (b : ByteArray) : b.toList.isEmpty = decide (b.size = 0) := by
  rw [ByteArray.toList_eq]
  have h3 : b.size = b.data.size := rfl
  cases hl : b.data.toList with
  | nil => rw [h3, ← Array.length_toList, hl]; rfl
  | cons x r => rw [h3, ← Array.length_toList, hl]; simp
set_option maxHeartbeats 800000 in
theorem walk_FrameBack {H : Type} {enc : TypeId × Value → H} {base : Nat} {d : DataW H} {q : List MemPlace} (k : Int) (v : Value) (cut : Int) (w : World) (wk : (Lit.int .i64 k).wf = true) (ok : Value.okWide Try.prog w .any base 35 v)
    (h : DataW.Trod enc Try.prog w 0 (fun _ => true) true 35 v d q) (wc : (Lit.int .i64 cut).wf = true) :
    Calls Try.prog 5 #[.int .i64 k, v, .int .i64 cut] w fun e w' => e = .returned (.bool true) ∧ Below w.heap.size w w' := by
  obtain ⟨p, b, rfl, hp, hb⟩ := open_str2 Try.underlying35 Try.underlying9 (by kernel_rfl) (by kernel_rfl) ok h
  clear ok h
  unfold maxLen at hp hb
  obtain ⟨k1, k2⟩ := bounds_i64 wk
  obtain ⟨c1, c2⟩ := bounds_i64 wc
  clear wk wc
  by_cases hz : 3000 < p.size ∨ 3000 < b.size
  · have hz1 : decide (3000 < (p.size : Int)) = true ∨ (decide (3000 < (p.size : Int)) = false ∧ decide (3000 < (b.size : Int)) = true) := by
      simp only [decide_eq_false_iff_not, decide_eq_true_eq]; omega
    clear hz
    rcases hz1 with h | ⟨h, h'⟩
    all_goals
      go_enter Try.func5, Try.ntmps5
      go_wp2_with fail
      go_region
      go_wp2_with (go_at_call 6; refine (lives07 _).mono ?_; rintro e w1 ⟨rfl, hb1⟩)
      go_ret
      exact ⟨rfl, bthen (below_drew1 (below_more (Below.refl _ _) _)) hb1⟩
  · have hD := Behind.of b (by omega)
    by_cases hM : k < 1 ∨ 9 < k ∨ 2042 < p.size
    · obtain ⟨c, hc, hN⟩ := NoMake.of k p hM (by omega)
      exact back_no k p b cut w (by omega) (by omega) k1 k2 c1 c2 hD c hc hN
    · have hm := OkMake.of k p (by omega) (by omega) (by omega)
      have hf := frame_fits k p (by omega)
      have hS := OpenIs.of (frameS k p) _ _ _ (by omega) (open_frame k p (by omega) (by omega) (by omega))
      have hcut : (0 ≤ cut ∧ cut < (frameS k p).size ∧ OpenIs ((frameS k p).extract 0 cut.toNat) 0 { data := #[] } 2) ∨ (decide (0 ≤ cut) = false ∨ decide (0 ≤ cut) = true ∧ decide (cut < ((frameS k p).size : Int)) = false) := by
        by_cases h0 : 0 ≤ cut
        · by_cases h1 : cut < (frameS k p).size
          · exact .inl ⟨h0, h1, OpenIs.of _ _ _ _ (by rw [size_extract _ _ _ (by omega)]; omega) (open_cut k p (by omega) (by omega) (by omega) cut.toNat (by omega))⟩
          · exact .inr (.inr ⟨decide_eq_true h0, decide_eq_false h1⟩)
        · exact .inr (.inl (decide_eq_false h0))
      have hmore : (b.toList.isEmpty = false ∧ ∃ m, (m = 4 ∨ m = 3) ∧ OpenIs (frameS k p ++ b) 0 { data := #[] } m) ∨ b.toList.isEmpty = true := by
        rw [isEmpty_iff]
        by_cases h0 : b.size = 0
        · exact .inr (decide_eq_true h0)
        · refine .inl ⟨decide_eq_false h0, ?_⟩
          have hsz : (frameS k p ++ b).size ≤ 9000 := by rw [ByteArray.size_append]; omega
          rcases open_more k p b (by omega) (by omega) (by omega) (by omega) with h | h
          · exact ⟨3, .inr rfl, OpenIs.of _ _ _ _ hsz h⟩
          · exact ⟨4, .inl rfl, OpenIs.of _ _ _ _ hsz h⟩
      rcases hcut with ⟨u0, u1, hC⟩ | u <;> rcases hmore with ⟨y, m, hm4, hA⟩ | y
      · exact back_cut_more k p b cut w (by omega) (by omega) k1 k2 c1 c2 hD _ hf hm hS u0 u1 hC y m hm4 hA
      · exact back_cut_none k p b cut w (by omega) (by omega) k1 k2 c1 c2 hD _ hf hm hS u0 u1 hC y
      · exact back_all_more k p b cut w (by omega) (by omega) k1 k2 c1 c2 hD _ hf hm hS u y m hm4 hA
      · exact back_all_none k p b cut w (by omega) (by omega) k1 k2 c1 c2 hD _ hf hm hS u y
end Go.Proofs.Ytdjcbhkcciabpaa
