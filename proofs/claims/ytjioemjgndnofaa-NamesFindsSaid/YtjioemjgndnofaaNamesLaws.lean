/-
  The laws of layer 8: each returns true for every input and writes nothing that was there. No conditions.
-/
import Derived.Test.YtjioemjgndnofaaNamesRefO
import Derived.Test.YtjioemjgndnofaaSame
import Derived.Deep.Strs
import Derived.WideShapes
import Derived.OpenShut
import Derived.ShutString
import Derived.ChangeOld
namespace Go.Proofs.Ytjioemjgndnofaa
open Go Go.ChangeShapes Go.WideShapes Go.ChangeAt Go.RowKit Go.Deep
set_option linter.unusedVariables false
set_option linter.unusedSimpArgs false
theorem open_names {H : Type} {enc : TypeId × Value → H} {base : Nat} {w : World} {v : Value} {d : DataW H} {p : List MemPlace} (ok : Value.okWide Try.prog w .any base 22 v)
    (h : DataW.Trod enc Try.prog w 0 (fun _ => true) true 22 v d p) : ∃ A cap L, v = .slice A L.length cap ∧ Reads w A (strCs L) ∧ L.length ≤ maxLen ∧ ∀ s ∈ L, s.size ≤ maxLen := by
  obtain ⟨A, len, cap, rfl⟩ := okWide_slice Try.underlying22 ok
  obtain ⟨fuel, hf⟩ := h
  rcases open_strs Try.underlying22 Try.underlying9 (by kernel_rfl) hf with ⟨hcs, _⟩ | ⟨a, l, c, m, Sx, hcs, _, hl, hm, hmm, _, hx⟩
  · simp [Value.cells] at hcs
    obtain ⟨rfl, rfl, rfl⟩ := hcs
    exact ⟨none, 0, [], rfl, .inl rfl, Nat.zero_le _, fun s h => by cases h⟩
  · simp [Value.cells] at hcs
    obtain ⟨rfl, rfl, rfl⟩ := hcs
    have hlm : len ≤ m := by rw [hmm]; simp; omega
    refine ⟨some a, cap, (List.range len).map Sx, by simp, ?_, by simp; omega, fun s hs => ?_⟩
    · by_cases h0 : 0 < len
      · refine .inr ⟨a, rfl, ?_, fun j hj => ?_⟩
        · have := World.block_lt_of_cell? w _ (hx 0 (by omega)).1
          unfold Addr.add at this
          simpa using this
        · have hj2 : j < len := by simpa [strCs] using hj
          rw [(hx j (by omega)).1]
          simp [strCs, hj2]
      · refine .inl ?_
        have : len = 0 := by omega
        subst this
        rfl
    · rw [List.mem_map] at hs
      obtain ⟨i, hi, rfl⟩ := hs
      have := List.mem_range.1 hi
      exact (hx i (by omega)).2
/-- What light says: of a list that is not too much there are at most 60. -/
def LightIs (L : List ByteArray) (w : World) (e : Ending) (w' : World) : Prop := ∃ b, e = .returned (.bool b) ∧ (b = true → L.length ≤ 60) ∧ w = w'
set_option maxHeartbeats 1000000 in
theorem light_any (A : Option Addr) (cap : Nat) (L : List ByteArray) (w : World) (hr : Reads w A (strCs L)) (hmax : L.length ≤ maxLen) (hsz : ∀ s ∈ L, s.size ≤ maxLen) :
    Calls Try.prog 6 #[.slice A L.length cap] w (LightIs L w) := by
  unfold maxLen at hmax hsz
  obtain ⟨n, hn⟩ : ∃ n, L.length = n := ⟨_, rfl⟩
  have hsz2 : ∀ i, i < n → (nmS L i).size ≤ 2 ^ 63 - 1 := fun i hi => by
    refine hsz _ ?_
    unfold nmS
    rw [List.getD_eq_getElem?_getD, List.getElem?_eq_getElem (by omega)]
    simp
  have HSZ := Lib.hid hsz2
  have HR := Lib.hid hr
  have HN := Lib.hid hn
  rw [hn] at hmax ⊢
  clear hn hr hsz hsz2
  go_enter Try.func6, Try.ntmps6
  go_wp2
  go_loop [3] (fun i => ∃ k : Nat, k ≤ n ∧ k ≤ 60 ∧ i = .int .i64 k) (fun i => 60 - (intOf i).toNat)
  case atStart => exact ⟨0, by omega, by omega, rfl⟩
  case round =>
    obtain ⟨k, hk, hk2, rfl⟩ := hrel
    by_cases hlt : k < n
    · by_cases h60 : k < 60
      · obtain ⟨x, rfl, hx, hc⟩ := reads_at HR.out (show k < L.length by rw [HN.out]; exact hlt)
        have hs := HSZ.out k hlt
        generalize nmS L k = y at *
        by_cases hb : 100 < y.size
        · have hd : decide ((100 : Int) < (y.size : Int)) = true := by simp; omega
          go_wp2
          go_ret
          exact ⟨false, rfl, fun h => (by cases h), rfl⟩
        · have hd : decide ((100 : Int) < (y.size : Int)) = false := by simp; omega
          go_wp2
          go_round
          case rel => exact ⟨k + 1, by omega, by omega, by go_num⟩
          case measure => simp [intOf]; omega
      · obtain rfl : k = 60 := by omega
        by_cases hn60 : n ≤ 60
        · omega
        · have hd : decide ((n : Int) ≤ 60) = false := by simp; omega
          go_wp2
          go_ret
          exact ⟨false, by simp, fun h => (by cases h), rfl⟩
    · obtain rfl : k = n := by omega
      have hd : decide ((k : Int) ≤ 60) = true := by simp; omega
      go_wp2
      go_ret
      exact ⟨true, by simp, fun _ => by rw [HN.out]; omega, rfl⟩
def L3 : List ByteArray := [⟨#[98]⟩, ⟨#[97]⟩, ⟨#[98]⟩]
theorem L3_bs : bsOf L3 = [[98], [97], [98]] := by simp [bsOf, L3, Lib.toList_data]
theorem L3_twice : twiceN (bsOf L3) = 2 := by rw [L3_bs]; decide +kernel
theorem L3_find : findZ (bsOf L3) (ByteArray.toList ⟨#[98]⟩) = 0 := by rw [L3_bs, Lib.toList_data]; decide +kernel
theorem L3_len : nF L3 = 2 := by unfold nF; rw [unlike_len, L3_bs]; decide +kernel
theorem L3_reads (w : World) : Reads (w.alloc (.cells #[.string ⟨#[98]⟩, .string ⟨#[97]⟩, .string ⟨#[98]⟩] 9)) (some ⟨w.heap.size, 0, none⟩) (strCs L3) := Reads.made w _ _
theorem New_n (n : Nat) (A : Option Addr) (cap : Nat) (L : List ByteArray) (w : World) (hn : L.length = n) (hr : Reads w A (strCs L)) (hmax : n ≤ 1000000) : Calls Try.prog 13 #[.slice A n cap] w (Made L w) := by
  subst hn; exact New_any A cap L w hr hmax
theorem Twice_n (n : Nat) (A : Option Addr) (cap : Nat) (L : List ByteArray) (w : World) (hn : L.length = n) (hr : Reads w A (strCs L)) (hmax : n ≤ 1000000) : Calls Try.prog 11 #[.slice A n cap] w fun e w' => e = .returned (.int .i64 (twiceN (bsOf L))) ∧ Below w.heap.size w w' := by
  subst hn; exact Twice_any A cap L w hr hmax
set_option maxHeartbeats 1000000 in
theorem lives08 (w : World) : Calls Try.prog 7 #[] w fun e w' => e = .returned (.bool true) ∧ Below w.heap.size w w' := by
  have q1 := fun A w h => Twice_n 3 A 3 L3 w rfl h (by decide)
  have q2 := fun A w h => New_n 3 A 3 L3 w rfl h (by decide)
  have q3 := fun X w h => Find_any L3 X ⟨#[98]⟩ w (by decide) h
  have q4 := fun X w h => Len_any L3 X w h
  rw [L3_twice] at q1
  rw [L3_find] at q3
  rw [L3_len] at q4
  have HR := Lib.hid (L3_reads w)
  have c0 := Below.refl w.heap.size w
  have hb0 : Below w.heap.size w (w.alloc (.cells #[.string ⟨#[98]⟩, .string ⟨#[97]⟩, .string ⟨#[98]⟩] 9)) := c0.alloc (Nat.le_refl _) _
  have HB0 := Lib.hid hb0
  clear hb0 c0
  go_enter Try.func7, Try.ntmps7
  rw [show ((2 : Nat) : Int) = 2 from rfl] at q4
  go_wp2_with (first
    | (go_at_call 11; refine (q1 _ _ HR.out).mono ?_; rintro e w1 ⟨rfl, b1⟩; have B1 := Lib.hid b1; clear b1)
    | (go_at_call 13; first
        | (refine (q2 _ _ (HR.out.below (bthen B1.out (below_drewN B2.out _)))).mono ?_; rintro e w4 ⟨X4, rfl, hx, b4⟩; have X4 := Lib.hid hx; have B4 := Lib.hid b4; clear hx b4)
        | (refine (q2 _ _ (HR.out.below B1.out)).mono ?_; rintro e w2 ⟨X, rfl, hx, b2⟩; have X1 := Lib.hid hx; have B2 := Lib.hid b2; clear hx b2))
    | (go_at_call 14; refine (q3 _ _ X1.out).mono ?_; rintro e w3 ⟨rfl, q, rfl⟩)
    | (go_at_call 16; refine (q4 _ _ X4.out).mono ?_; rintro e w3 ⟨rfl, q, rfl⟩))
  go_ret
  exact ⟨rfl, below_drewN (bthen (bthen (bthen HB0.out B1.out) (below_drewN B2.out _)) B4.out) _⟩
theorem natCells_ints (O : List Nat) : natCells O = ints (O.map fun i : Nat => (i : Int)) := by unfold natCells ints; rw [List.map_map]; rfl
theorem own_reads8 {w : World} {base : Nat} {e : TypeId} {size : Nat} {v : Value} {n : Nat} {xs : List Value} (h : w.ownsRow base e size v n xs) : ∃ A c, v = .slice A n c ∧ Reads w A xs := by
  obtain ⟨A, c, rfl, _, _, hc⟩ := own_form h
  exact ⟨A, c, rfl, hc.reads⟩
set_option maxHeartbeats 1000000 in
theorem walk_NamesOrders (v : Value) {H : Type} {enc : TypeId × Value → H} {base : Nat} {d : DataW H} {p : List MemPlace} (w : World) (ok : Value.okWide Try.prog w .any base 22 v)
    (h : DataW.Trod enc Try.prog w 0 (fun _ => true) true 22 v d p) :
    Calls Try.prog 3 #[v] w fun e w' => e = .returned (.bool true) ∧ Below w.heap.size w w' := by
  obtain ⟨A, cap, L, rfl, hr, hmax, hsz⟩ := open_names ok h
  have p0 := light_any A cap L w hr hmax hsz
  by_cases hbig : L.length ≤ 60
  · have p1 := fun w h => order_any A cap L w h (by omega)
    have p2 := fun w h => rOrder_any A cap L w h (by omega)
    have p3 := fun w h => Twice_any A cap L w h (by omega)
    have p4 := fun w h => rTwice_any A cap L w h (by omega)
    obtain ⟨n, hn⟩ : ∃ n, L.length = n := ⟨_, rfl⟩
    have hN : ((orderN (bsOf L)).map fun i : Nat => (i : Int)).length = n := by rw [List.length_map, orderN_len, bsOf_len, hn]
    have HNN := Lib.hid hN
    have HR := Lib.hid hr
    rw [hn] at p0 p1 p2 p3 p4 hbig ⊢
    generalize twiceN (bsOf L) = z at *
    clear hn hr hmax hsz hN ok h
    go_enter Try.func3, Try.ntmps3
    go_wp2_with (go_at_call 6; refine p0.mono ?_; rintro e w' ⟨b, rfl, hb, rfl⟩; clear hb; cases b)
    · go_wp2_with (go_at_call 7; refine (lives08 _).mono ?_; rintro e w1 ⟨rfl, hb1⟩)
      go_ret
      exact ⟨rfl, hb1⟩
    · go_wp2_with (first
        | (go_at_call 9; refine (p1 _ HR.out).mono ?_; rintro e w1 ⟨g, rfl, _, _, hr1, b1⟩; have R1 := Lib.hid hr1; have B1 := Lib.hid b1; clear hr1 b1)
        | (go_at_call 10; refine (p2 _ (HR.out.below B1.out)).mono ?_; rintro e w2 ⟨v2, rfl, ho2, b2⟩; obtain ⟨A2, c2, rfl, hr2⟩ := own_reads8 ho2; have R2 := Lib.hid hr2; have B2 := Lib.hid (bthen B1.out b2); have R1b := Lib.hid (R1.out.below b2); clear hr2 b2 ho2)
        | (go_at_call 8; refine (Same_any ((orderN (bsOf L)).map fun i : Nat => (i : Int)) ((orderN (bsOf L)).map fun i : Nat => (i : Int)) n n _ _ _ _ _ (by rw [← natCells_ints]; exact R1b.out) (by rw [← natCells_ints]; exact R2.out) HNN.out HNN.out (by omega) (by omega)).mono ?_; rintro e w3 ⟨he, b3⟩; rw [decide_eq_true rfl] at he; subst he; have B3 := Lib.hid (bthen B2.out b3); clear b3)
        | (go_at_call 11; refine (p3 _ (HR.out.below B3.out)).mono ?_; rintro e w4 ⟨rfl, b4⟩; have B4 := Lib.hid (bthen B3.out b4); clear b4)
        | (go_at_call 12; refine (p4 _ (HR.out.below B4.out)).mono ?_; rintro e w5 ⟨rfl, rfl⟩)
        | (go_at_call 7; refine (lives08 _).mono ?_; rintro e w6 ⟨rfl, b6⟩; have B6 := Lib.hid (bthen B4.out b6); clear b6))
      go_ret
      exact ⟨rfl, B6.out⟩
  · have HB := Lib.hid hbig
    clear hbig hr hsz ok h hmax
    go_enter Try.func3, Try.ntmps3
    go_wp2_with (go_at_call 6; refine p0.mono ?_; rintro e w' ⟨b, rfl, hb, rfl⟩; cases b; clear hb; rotate_left; exact absurd (hb rfl) HB.out)
    go_wp2_with (go_at_call 7; refine (lives08 _).mono ?_; rintro e w1 ⟨rfl, hb1⟩)
    go_ret
    exact ⟨rfl, hb1⟩
theorem IdxAt.drawn {L : List ByteArray} {X : Nat} {w w' : World} (h : IdxAt L X w) (hw : ∃ q, w' = w.drewN q) : IdxAt L X w' := by
  obtain ⟨q, rfl⟩ := hw; exact h.drewN q
theorem rFind_n (n : Nat) (A : Option Addr) (cap : Nat) (L : List ByteArray) (s : ByteArray) (w : World) (hn : L.length = n) (hr : Reads w A (strCs L)) (hmax : n ≤ 1000000) :
    Calls Try.prog 15 #[.slice A n cap, .string s] w fun e w' => e = .returned (.int .i64 (findZ (bsOf L) s.toList)) ∧ w = w' := by subst hn; exact rFind_any A cap L s w hr hmax
theorem rUnlike_n (n : Nat) (A : Option Addr) (cap : Nat) (L : List ByteArray) (w : World) (hn : L.length = n) (hr : Reads w A (strCs L)) (hmax : n ≤ 1000000) :
    Calls Try.prog 17 #[.slice A n cap] w fun e w' => e = .returned (.int .i64 (nF L : Int)) ∧ w = w' := by subst hn; exact rUnlike_any A cap L w hr hmax
theorem rNext_n (n : Nat) (A : Option Addr) (cap : Nat) (L : List ByteArray) (s : ByteArray) (w : World) (hn : L.length = n) (hr : Reads w A (strCs L)) (hmax : n ≤ 1000000) :
    Calls Try.prog 19 #[.slice A n cap, .string s] w fun e w' => e = .returned (.string (nextS L s)) ∧ w = w' := by subst hn; exact rNext_any A cap L s w hr hmax
set_option maxRecDepth 100000 in
set_option maxHeartbeats 3200000 in
theorem walk_NamesFinds (v : Value) (s : ByteArray) {H : Type} {enc : TypeId × Value → H} {base : Nat} {d : DataW H} {p : List MemPlace} (w : World) (ok : Value.okWide Try.prog w .any base 22 v)
    (h : DataW.Trod enc Try.prog w 0 (fun _ => true) true 22 v d p) (ws : s.size ≤ maxLen) :
    Calls Try.prog 4 #[v, .string s] w fun e w' => e = .returned (.bool true) ∧ Below w.heap.size w w' := by
  obtain ⟨A, cap, L, rfl, hr, hmax, hsz⟩ := open_names ok h
  unfold maxLen at ws
  have p0 := light_any A cap L w hr hmax hsz
  by_cases hbig : L.length ≤ 60
  · obtain ⟨n, hn⟩ : ∃ n, L.length = n := ⟨_, rfl⟩
    rw [hn] at hbig p0 ⊢
    have p1 := fun w h => New_n n A cap L w hn h (by omega)
    have p2 := fun X w h => Find_any L X s w (by omega) h
    have p3 := fun w h => rFind_n n A cap L s w hn h (by omega)
    have p4 := fun X w h => Len_any L X w h
    have p5 := fun w h => rUnlike_n n A cap L w hn h (by omega)
    have p6 := fun X w h => Next_any L X s w (by omega) h
    have p7 := fun w h => rNext_n n A cap L s w hn h (by omega)
    have HR := Lib.hid hr
    generalize findZ (bsOf L) s.toList = z at *
    generalize nextS L s = y at *
    have HNF := Lib.hid (nF_le (L := L) (by omega))
    generalize nF L = u at *
    have c0 := Lib.hid (Below.refl w.heap.size w)
    clear hn hr hmax hsz ok h
    have hds : decide ((100 : Int) < (s.size : Int)) = true ∨ decide ((100 : Int) < (s.size : Int)) = false := by cases decide ((100 : Int) < (s.size : Int)) <;> simp
    rcases hds with hd | hd
    all_goals
      go_enter Try.func4, Try.ntmps4
      go_wp2_with (first
      | (go_at_call 6; refine p0.mono ?_; rintro e w' ⟨b, rfl, hb, rfl⟩; clear hb; cases b)
      | (go_at_call 13; refine (p1 _ HR.out).mono ?_; rintro e w1 ⟨X, rfl, hx, b1⟩; have I1 := Lib.hid hx; have B1 := Lib.hid b1; clear hx b1)
      | (go_at_call 14; first
        | ((with_reducible refine (p2 _ _ I1.out).mono ?_); rintro e w2 ⟨rfl, q, rfl⟩)
        | ((with_reducible refine (Find_none _ _).mono ?_); rintro e w2 ⟨rfl, q, rfl⟩))
      | (go_at_call 15; refine (p3 _ (HR.out.below (below_drewN B1.out _))).mono ?_; rintro e w5 ⟨rfl, rfl⟩)
      | (go_at_call 16; first
        | ((with_reducible refine (p4 _ _ (I1.out.drewN _)).mono ?_); rintro e w2 ⟨rfl, q, rfl⟩)
        | ((with_reducible refine (Len_none _).mono ?_); rintro e w2 ⟨rfl, q, rfl⟩))
      | (go_at_call 17; refine (p5 _ (HR.out.below (below_drewN B1.out _))).mono ?_; rintro e w5 ⟨rfl, rfl⟩)
      | (go_at_call 18; first
        | ((with_reducible refine (p6 _ _ (I1.out.drewN _)).mono ?_); rintro e w2 ⟨rfl, q, rfl⟩)
        | ((with_reducible refine (Next_none _ _).mono ?_); rintro e w2 ⟨rfl, q, rfl⟩))
      | (go_at_call 19; refine (p7 _ (HR.out.below (below_drewN B1.out _))).mono ?_; rintro e w5 ⟨rfl, rfl⟩)
      | (go_at_call 7; refine (lives08 _).mono ?_; rintro e w6 ⟨rfl, b6⟩; first | (have B6 := Lib.hid (bthen (below_drewN B1.out _) b6); clear b6) | (have B6 := Lib.hid b6; clear b6)))
      all_goals
        go_ret
        exact ⟨rfl, B6.out⟩
  · have HB := Lib.hid hbig
    clear hbig hr hsz ok h hmax
    go_enter Try.func4, Try.ntmps4
    go_wp2_with (go_at_call 6; refine p0.mono ?_; rintro e w' ⟨b, rfl, hb, rfl⟩; cases b; clear hb; rotate_left; exact absurd (hb rfl) HB.out)
    go_wp2_with (go_at_call 7; refine (lives08 _).mono ?_; rintro e w1 ⟨rfl, hb1⟩)
    go_ret
    exact ⟨rfl, hb1⟩
def sS (L : List ByteArray) (k : Nat) : ByteArray := baOf (sAt (bsOf L) k)
def dS (L : List ByteArray) (k : Nat) : ByteArray := baOf (dAt (bsOf L) k)
theorem sS_zero (L : List ByteArray) : sS L 0 = ⟨#[]⟩ := rfl
theorem sS_succ (L : List ByteArray) (k : Nat) : sS L (k + 1) = dS L k := by unfold sS dS; rw [sAt_succ]
theorem nextS_walk {L : List ByteArray} {k : Nat} (h : k < (dpos (bsOf L)).length) : nextS L (sS L k) = dS L k := by unfold nextS sS dS; rw [baOf_list, next_walk h]
theorem nextS_done (L : List ByteArray) : nextS L (sS L (dpos (bsOf L)).length) = ⟨#[]⟩ := by unfold nextS sS; rw [baOf_list, next_done]; rfl
/-- What holds of the k-th of the names that aren't empty. -/
theorem dS_facts {L : List ByteArray} {k : Nat} (h : k < (dpos (bsOf L)).length) : ∃ i, i < L.length ∧ findZ (bsOf L) (dS L k).toList = (i : Int) ∧ nmS L i = dS L k ∧ ((dS L k).toList == []) = false ∧ (sS L k).toList < (dS L k).toList := by
  obtain ⟨h1, h2⟩ := dAt_mem h
  have hl := findN_lt.2 h1
  refine ⟨findN (bsOf L) (dAt (bsOf L) k), by rw [← bsOf_len]; exact hl, ?_, ?_, ?_, ?_⟩
  · unfold dS; rw [baOf_list]; unfold findZ; rw [if_pos hl]
  · apply ba_eq.1
    rw [← nmS_at, findN_at h1]; unfold dS; rw [baOf_list]
  · unfold dS; rw [baOf_list]; simpa using h2
  · unfold sS dS; rw [baOf_list, baOf_list]; exact (sAt_lt (by omega) h).2 (Nat.le_refl _)
theorem find_empty (L : List ByteArray) : ((0 ≤ findZ (bsOf L) (ByteArray.toList ⟨#[]⟩)) ∧ nF L = (dpos (bsOf L)).length + 1) ∨ (findZ (bsOf L) (ByteArray.toList ⟨#[]⟩) < 0 ∧ nF L = (dpos (bsOf L)).length) := by
  have he : ByteArray.toList ⟨#[]⟩ = [] := by rw [Lib.toList_data]
  have hc := dpos_count (bsOf L)
  rw [he]
  by_cases h : [] ∈ bsOf L
  · left
    rw [if_pos h] at hc
    exact ⟨by unfold findZ; rw [if_pos (findN_lt.2 h)]; omega, hc.symm⟩
  · right
    rw [if_neg h] at hc
    exact ⟨by unfold findZ; rw [if_neg (fun c => h (findN_lt.1 c))]; omega, hc.symm⟩
theorem dpos_leL (L : List ByteArray) : (dpos (bsOf L)).length ≤ L.length := by have := dpos_le (bsOf L); rw [bsOf_len] at this; exact this
set_option maxRecDepth 100000 in
set_option maxHeartbeats 3200000 in
theorem walk_NamesWalk (v : Value) {H : Type} {enc : TypeId × Value → H} {base : Nat} {d : DataW H} {p : List MemPlace} (w : World) (ok : Value.okWide Try.prog w .any base 22 v)
    (h : DataW.Trod enc Try.prog w 0 (fun _ => true) true 22 v d p) :
    Calls Try.prog 5 #[v] w fun e w' => e = .returned (.bool true) ∧ Below w.heap.size w w' := by
  obtain ⟨A, cap, L, rfl, hr, hmax, hsz⟩ := open_names ok h
  have p0 := light_any A cap L w hr hmax hsz
  by_cases hbig : L.length ≤ 60
  · obtain ⟨n, hn⟩ : ∃ n, L.length = n := ⟨_, rfl⟩
    have hdl := dpos_leL L
    rw [hn] at hbig p0 hdl ⊢
    have p1 := fun w h => New_n n A cap L w hn h (by omega)
    have p2 := fun X s w h => Find_any L X s w (by omega) h
    have p4 := fun X w h => Len_any L X w h
    have p6 := fun X s w h => Next_any L X s w (by omega) h
    have HR := Lib.hid hr
    have HN := Lib.hid hn
    have HE := Lib.hid (find_empty L)
    have HD := Lib.hid (nextS_done L)
    have HK := Lib.hid (fun k h => dS_facts (L := L) (k := k) h)
    have HW := Lib.hid (fun k h => nextS_walk (L := L) (k := k) h)
    generalize (dpos (bsOf L)).length = D at *
    clear hn hr hmax hsz ok h
    go_enter Try.func5, Try.ntmps5
    go_wp2_with (first
      | (go_at_call 6; refine p0.mono ?_; rintro e w' ⟨b, rfl, hb, rfl⟩; clear hb; cases b)
      | (go_at_call 7; refine (lives08 _).mono ?_; rintro e w6 ⟨rfl, b6⟩; have B6 := Lib.hid b6; clear b6)
      | (go_at_call 13; refine (p1 _ HR.out).mono ?_; rintro e w1 ⟨X, rfl, hx, b1⟩; have I1 := Lib.hid hx; have B1 := Lib.hid b1; clear hx b1))
    · go_ret
      exact ⟨rfl, B6.out⟩
    · go_loopw [4, 5, 6] (fun c s i wr => ∃ (k q : Nat), k ≤ D ∧ c = .int .i64 k ∧ s = .string (sS L k) ∧ i = .int .i64 k ∧ wr = w1.drewN q) (fun _ _ i _ => n + 1 - (intOf i).toNat)
      case atStart => exact ⟨0, 0, by omega, rfl, rfl, rfl, rfl⟩
      case round =>
        obtain ⟨k, q, hk, rfl, rfl, rfl, rfl⟩ := hrel
        have hle : decide ((k : Int) ≤ (n : Int)) = true := by simp; omega
        by_cases hlt : k < D
        · obtain ⟨i, hi, hf, hni, hne, hst⟩ := HK.out k hlt
          have hwk := HW.out k hlt
          obtain ⟨x, rfl, hx, hc⟩ := reads_at HR.out hi
          have hcr : (w1.drewN q).cell? (x.add i) = some (.string (dS L k)) := by rw [(below_drewN B1.out q).cell (p := x.add i) (add_lt hx i), hc, hni]
          have hin : i < n := by rw [← HN.out]; exact hi
          have p2k := fun w h => p2 X (dS L k) w h
          have p6k := fun w h => p6 X (sS L k) w h
          rw [hf] at p2k
          rw [hwk] at p6k
          have HSS := Lib.hid (sS_succ L k)
          have hcw : w1.cell? (x.add i) = some (.string (dS L k)) := hcr
          clear hf hni hwk hc p2 p6 hcr
          generalize dS L k = y at *
          generalize sS L k = z at *
          have t1 : Op.bytesLess z.toList y.toList = true := by rw [bytesLess_lt]; simpa using hst
          have t2 : Op.bytesLess y.toList z.toList = false := by rw [bytesLess_lt]; simpa using bs_asym hst
          have t3 : (y.toList == z.toList) = false := by rw [beq_eq_false_iff_ne]; intro e; rw [e] at hst; exact bs_irr _ hst
          have hxw : x.block < w1.heap.size := Nat.lt_of_lt_of_le hx B1.out.size
          clear hst
          go_wp2_with (first
            | (go_at_call 18; (with_reducible refine (p6k _ (I1.out.drewN _)).mono ?_); rintro e w2 ⟨rfl, q2, rfl⟩)
            | (go_at_call 14; (with_reducible refine (p2k _ (I1.out.drewN _)).mono ?_); rintro e w2 ⟨rfl, q3, rfl⟩))
          go_roundw
          case rel => exact ⟨k + 1, _, by omega, by go_num, by rw [HSS.out], by go_num, rfl⟩
          case measure => simp [intOf]; omega
        · obtain rfl : k = D := by omega
          have p6k := fun w h => p6 X (sS L k) w h
          have p2k := fun w h => p2 X ⟨#[]⟩ w h
          rw [HD.out] at p6k
          have he := HE.out
          generalize findZ (bsOf L) (ByteArray.toList ⟨#[]⟩) = z0 at *
          generalize sS L k = z at *
          generalize nF L = u at *
          clear p6 p2
          rcases he with ⟨hz, hu⟩ | ⟨hz, hu⟩
          · have hzd : decide (0 ≤ z0) = true := by simpa using hz
            subst hu
            clear hz
            go_wp2_with (first
              | (go_at_call 18; (with_reducible refine (p6k _ (I1.out.drewN _)).mono ?_); rintro e w2 ⟨rfl, q2, rfl⟩)
              | (go_at_call 14; (with_reducible refine (p2k _ (I1.out.drewN _)).mono ?_); rintro e w2 ⟨rfl, q3, rfl⟩)
              | (go_at_call 16; (with_reducible refine (p4 _ _ (I1.out.drewN _)).mono ?_); rintro e w2 ⟨rfl, q4, rfl⟩)
              | (go_at_call 7; refine (lives08 _).mono ?_; rintro e w6 ⟨rfl, b6⟩; have B6 := Lib.hid (bthen (below_drewN B1.out _) b6); clear b6))
            go_ret
            exact ⟨rfl, B6.out⟩
          · have hzd : decide (0 ≤ z0) = false := by simpa using hz
            subst hu
            clear hz
            go_wp2_with (first
              | (go_at_call 18; (with_reducible refine (p6k _ (I1.out.drewN _)).mono ?_); rintro e w2 ⟨rfl, q2, rfl⟩)
              | (go_at_call 14; (with_reducible refine (p2k _ (I1.out.drewN _)).mono ?_); rintro e w2 ⟨rfl, q3, rfl⟩)
              | (go_at_call 16; (with_reducible refine (p4 _ _ (I1.out.drewN _)).mono ?_); rintro e w2 ⟨rfl, q4, rfl⟩)
              | (go_at_call 7; refine (lives08 _).mono ?_; rintro e w6 ⟨rfl, b6⟩; have B6 := Lib.hid (bthen (below_drewN B1.out _) b6); clear b6))
            go_ret
            exact ⟨rfl, B6.out⟩
  · have HB := Lib.hid hbig
    clear hbig hr hsz ok h hmax
    go_enter Try.func5, Try.ntmps5
    go_wp2_with (go_at_call 6; refine p0.mono ?_; rintro e w' ⟨b, rfl, hb, rfl⟩; cases b; clear hb; rotate_left; exact absurd (hb rfl) HB.out)
    go_wp2_with (go_at_call 7; refine (lives08 _).mono ?_; rintro e w1 ⟨rfl, hb1⟩)
    go_ret
    exact ⟨rfl, hb1⟩
end Go.Proofs.Ytjioemjgndnofaa
