/-
  Package shuffle: alike, Draws. Conditions: lists that can be read, at most 1000000 numbers.
-/
import Derived.Test.YticbnanfijkodaaShufC
import Derived.Test.YticbnanfijkodaaShufV
namespace Go.Proofs.Yticbnanfijkodaa
open Go.ChangeShapes Go.WideShapes Go.ChangeAt Go.RowKit
set_option linter.unusedVariables false
set_option linter.unusedSimpArgs false
set_option maxRecDepth 20000
set_option maxHeartbeats 3200000
theorem sorted_iff (x y : List Int) : decide ((x.mergeSort fun a b => decide (a ≤ b)) = (y.mergeSort fun a b => decide (a ≤ b))) = alikeB x y := by
  have hs : ∀ z : List Int, (z.mergeSort fun a b => decide (a ≤ b)).Pairwise fun a b => decide (a ≤ b) = true := fun z =>
    List.pairwise_mergeSort (fun a b c => by simp only [decide_eq_true_eq]; omega) (fun a b => by simp only [Bool.or_eq_true, decide_eq_true_eq]; omega) z
  have key : ((x.mergeSort fun a b => decide (a ≤ b)) = (y.mergeSort fun a b => decide (a ≤ b))) ↔ x.Perm y := by
    constructor
    · intro e
      exact (List.mergeSort_perm x _).symm.trans (e ▸ List.mergeSort_perm y _)
    · intro h
      exact List.Perm.eq_of_pairwise (fun a b _ _ h1 h2 => by simp only [decide_eq_true_eq] at h1 h2; omega) (hs x) (hs y) (((List.mergeSort_perm x _).trans h).trans (List.mergeSort_perm y _).symm)
  cases ha : alikeB x y with
  | true => exact decide_eq_true (key.2 (alike_iff.1 ha))
  | false => exact decide_eq_false fun e => by rw [alike_iff.2 (key.1 e)] at ha; cases ha
theorem pAlike (x y : List Int) (n m c d : Nat) (A B : Option Addr) (w : World) (hx : Reads w A (ints x)) (hy : Reads w B (ints y)) (hn : x.length = n) (hm : y.length = m) (hl : n ≤ 1000000) (hl2 : m ≤ 1000000) :
    Calls Try.prog 19 #[.slice A n c, .slice B m d] w fun e w' => e = .returned (.bool (alikeB x y)) ∧ Below w.heap.size w w' := by
  have K1 := Lib.hid (cloneI x n c A w hx hn hl)
  have K2 : Hid (∀ z, Below w.heap.size w z → Calls Try.prog 16 #[.slice B m d] z fun e w' => ∃ v, e = .returned v ∧ w'.ownsRow z.heap.size 3 1 v m (ints y) ∧ Below z.heap.size z w') := Lib.hid fun z hz => cloneI y m d B z (hy.below hz) hm hl2
  have HA := Lib.hid (sorted_iff x y)
  have HN : Hid ((x.mergeSort fun a b => decide (a ≤ b)).length = n) := Lib.hid (by rw [List.length_mergeSort]; exact hn)
  have HM : Hid ((y.mergeSort fun a b => decide (a ≤ b)).length = m) := Lib.hid (by rw [List.length_mergeSort]; exact hm)
  have S1 : Hid (∀ b v z, z.ownsRow b 3 1 v n (ints x) → Calls Try.prog 22 #[v] z fun e w' => e = .returned (.tuple #[]) ∧ w'.ownsRow b 3 1 v n (ints (x.mergeSort fun a b => decide (a ≤ b))) ∧ Keeps (fun k => v.ownBlock = some k) z w') := Lib.hid fun b v z h => sortI x n b v z h hl
  have S2 : Hid (∀ b v z, z.ownsRow b 3 1 v m (ints y) → Calls Try.prog 22 #[v] z fun e w' => e = .returned (.tuple #[]) ∧ w'.ownsRow b 3 1 v m (ints (y.mergeSort fun a b => decide (a ≤ b))) ∧ Keeps (fun k => v.ownBlock = some k) z w') := Lib.hid fun b v z h => sortI y m b v z h hl2
  obtain ⟨p, hp⟩ : ∃ p, (x.mergeSort fun a b => decide (a ≤ b)) = p := ⟨_, rfl⟩
  obtain ⟨q, hq⟩ : ∃ q, (y.mergeSort fun a b => decide (a ≤ b)) = q := ⟨_, rfl⟩
  rw [hp, hq] at HA
  rw [hp] at HN S1
  rw [hq] at HM S2
  clear hx hy hn hm hp hq
  go_enter Try.func19, Try.ntmps19
  go_wp2_with (first
    | (go_at_call 16; (with_reducible refine K1.out.mono ?_); rintro e w1 ⟨v1, rfl, o1, b1⟩; have O1 := Lib.hid o1; have B1 := Lib.hid b1; have SZ := Lib.hid b1.size; clear o1 b1 K1)
    | (go_at_call 16; (with_reducible refine (K2.out _ B1.out).mono ?_); rintro e w2 ⟨v2, rfl, o2, b2⟩; have O2 := Lib.hid o2; have P2 := Lib.hid (own_below O1.out b2); have AP : Hid (Apart v1 v2) := Lib.hid (fun k h1 h2 => by have := (O1.out.lt k h1).2; have := (o2.lt k h2).1; omega); have B2 := Lib.hid (bthen B1.out b2); clear o2 b2)
    | (go_at_call 22; (with_reducible refine (S1.out _ _ _ P2.out).mono ?_); rintro e w3 ⟨rfl, o3, k3⟩; have O3 := Lib.hid o3; have P3 := Lib.hid (k3.owns O2.out (fun k h1 h2 => AP.out k h2 h1)); have B3 := Lib.hid (B2.out.trans (k3.below B2.out.size (fun k h => (P2.out.lt k h).1))); clear o3 k3)
    | (go_at_call 22; (with_reducible refine (S2.out _ _ _ P3.out).mono ?_); rintro e w4 ⟨rfl, o4, k4⟩; have P4 := Lib.hid (k4.owns O3.out (fun k h1 h2 => AP.out k h1 h2)); have B4 := Lib.hid (B3.out.trans (k4.below B3.out.size (fun k h => Nat.le_trans SZ.out (P3.out.lt k h).1))); obtain ⟨A1, c1, rfl, _, R1⟩ := own_reads P4.out; obtain ⟨A2, c2, rfl, _, R2⟩ := own_reads o4; have KE := Lib.hid (equalI p q n m c1 c2 A1 A2 _ R1 R2 HN.out HM.out hl hl2); clear o4 k4 R1 R2)
    | (go_at_call 23; (with_reducible refine KE.out.mono ?_); rintro e w5 ⟨rfl, b5⟩; have B5 := Lib.hid (bthen B4.out b5); clear b5))
  go_ret
  exact ⟨rB HA.out, B5.out⟩
theorem least_hits (l to : List Int) (hp : l.Perm to) (k i : Nat) (hi : i = l.length - 1 - k) (hk : k + 1 < l.length) :
    leastN (drawK l to k).1 (to.getD i 0) i ≤ i ∧ (drawK l to k).1.getD (leastN (drawK l to k).1 (to.getD i 0) i) 0 = to.getD i 0 ∧ ∀ j, j < leastN (drawK l to k).1 (to.getD i 0) i → (drawK l to k).1.getD j 0 ≠ to.getD i 0 := by
  have h := leastN_spec (drawK l to k).1 (to.getD i 0) i
  have hl := (drawK_len l to k).1
  subst hi
  exact ⟨h.1, least_at ((drawK_perm l to k (by omega)).trans hp) (by omega) (fun j h1 h2 => drawK_at l to hp k (by omega) j h1 (by omega)), h.2.1⟩
theorem pDraws (l to : List Int) (n m c d : Nat) (A B : Option Addr) (w : World) (hx : Reads w A (ints l)) (hy : Reads w B (ints to)) (hn : l.length = n) (hm : to.length = m) (hl : n ≤ 1000000) (hl2 : m ≤ 1000000) :
    Calls Try.prog 12 #[.slice A n c, .slice B m d] w fun e w' => ∃ V, e = .returned (.tuple #[V, .bool (alikeB l to)]) ∧ w'.ownsRow w.heap.size 3 1 V (drawsOf l to).length (ints (drawsOf l to)) ∧ Below w.heap.size w w' := by
  have KL : Hid (∀ z, Below w.heap.size w z → Calls Try.prog 19 #[.slice A n c, .slice B m d] z fun e w' => e = .returned (.bool (alikeB l to)) ∧ Below z.heap.size z w') := Lib.hid fun z hz => pAlike l to n m c d A B z (hx.below hz) (hy.below hz) hn hm hl hl2
  have KC : Hid (∀ z, Below w.heap.size w z → Calls Try.prog 16 #[.slice A n c] z fun e w' => ∃ v, e = .returned v ∧ w'.ownsRow z.heap.size 3 1 v n (ints l) ∧ Below z.heap.size z w') := Lib.hid fun z hz => cloneI l n c A z (hx.below hz) hn hl
  have HB0 : Hid (Below w.heap.size w w) := Lib.hid (Below.refl _ _)
  unfold drawsOf
  cases ha : alikeB l to with
  | false =>
    rw [ha] at KL
    rw [if_neg (by decide)]
    clear hx hy hn hm
    go_enter Try.func12, Try.ntmps12
    go_wp2_with (go_at_call 19; (with_reducible refine (KL.out _ HB0.out).mono ?_); rintro e w1 ⟨rfl, b1⟩; have B1 := Lib.hid b1; clear b1)
    go_ret2
    exact ⟨_, rfl, World.ownsRow_nil _ _ _ _, B1.out⟩
  | true =>
    rw [ha] at KL
    rw [if_pos rfl]
    have HP := Lib.hid (alike_iff.1 ha)
    obtain rfl : n = m := by rw [← hn, ← hm]; exact (alike_iff.1 ha).length_eq
    have HN := Lib.hid hn
    have HM := Lib.hid hm
    have HX := Lib.hid hx
    have HY := Lib.hid hy
    clear hx hy hn hm ha
    go_enter Try.func12, Try.ntmps12
    go_wp2_with (first
      | (go_at_call 19; (with_reducible refine (KL.out _ HB0.out).mono ?_); rintro e w1 ⟨rfl, b1⟩; have B1 := Lib.hid b1; clear b1)
      | (go_at_call 16; (with_reducible refine (KC.out _ B1.out).mono ?_); rintro e w2 ⟨v2, rfl, o2, b2⟩; obtain ⟨A1, c1, rfl, _, _, _⟩ := own_form o2; have O2 := Lib.hid (own_mono o2 B1.out.size); have B2 := Lib.hid (bthen B1.out b2); clear o2 b2))
    go_loopw [6, 8] (fun V I wr => ∃ (k : Nat) (z : Int), I = .int .i64 z ∧ z = (n : Int) - 1 - k ∧ (k + 1 ≤ n ∨ k = 0) ∧ wr.ownsRow w.heap.size 3 1 (.slice A1 n c1) n (ints (drawK l to k).1) ∧ wr.ownsRow w.heap.size 3 1 V k (ints (drawK l to k).2) ∧ Apart V (.slice A1 n c1) ∧ Below w.heap.size w wr) (fun _ i _ => (intOf i).toNat)
    case atStart => exact ⟨0, _, rfl, by omega, by omega, O2.out, World.ownsRow_nil _ _ _ _, Apart.nil _, B2.out⟩
    case round =>
      obtain ⟨k, z, rfl, hz, hk, hr, ho, hna, hb⟩ := hrel
      have HB := Lib.hid hb
      have HO := Lib.hid ho
      have HL := Lib.hid (drawK_len l to k)
      by_cases hkn : k + 1 < n
      · obtain ⟨i, rfl⟩ : ∃ i : Nat, z = (i : Int) := ⟨n - 1 - k, by omega⟩
        have hi : i = n - 1 - k := by omega
        have hi0 : (0 : Int) < (i : Int) := by omega
        have hi00 : 0 < i := by omega
        have hin : (i : Int) < (n : Int) := by omega
        obtain ⟨q1, q2, q3⟩ := least_hits l to HP.out k i (by rw [HN.out]; exact hi) (by rw [HN.out]; exact hkn)
        have ED : Hid (drawK l to (k + 1) = (swp (drawK l to k).1 i (leastN (drawK l to k).1 (to.getD i 0) i), (drawK l to k).2 ++ [(leastN (drawK l to k).1 (to.getD i 0) i : Int)])) := Lib.hid (by
          show (swp (drawK l to k).1 (l.length - 1 - k) (leastN (drawK l to k).1 (to.getD (l.length - 1 - k) 0) (l.length - 1 - k)), (drawK l to k).2 ++ [(leastN (drawK l to k).1 (to.getD (l.length - 1 - k) 0) (l.length - 1 - k) : Int)]) = _
          rw [HN.out, ← hi])
        obtain ⟨L, hL⟩ : ∃ L, (drawK l to k).1 = L := ⟨_, rfl⟩
        obtain ⟨O, hO⟩ : ∃ O, (drawK l to k).2 = O := ⟨_, rfl⟩
        obtain ⟨x, hx⟩ : ∃ x, to.getD i 0 = x := ⟨_, rfl⟩
        have hLl : L.length = n := by rw [← hL, HL.out.1, HN.out]
        rw [hL, hx] at q1 q2 q3
        rw [hL, hO, hx] at ED
        rw [hL] at hr
        rw [hO] at HO ho
        obtain ⟨j, hj⟩ : ∃ j, leastN L x i = j := ⟨_, rfl⟩
        rw [hj] at q1 q2 q3 ED
        obtain ⟨g, c', e, hg1, hg2⟩ := own_some hr (by omega)
        injection e with e1 _ e3
        subst e1 e3
        obtain ⟨g2, off2, rfl, hgb, hc2⟩ := reads_lit (HY.out.below HB.out) (by rw [HM.out]; omega)
        have c2 := hc2 i (by rw [HM.out]; omega)
        rw [hx] at c2
        have rr : Reads wr (some ⟨g, 0, none⟩) (ints L) := by
          obtain ⟨A2, c2, e, _, r⟩ := own_reads hr
          injection e with e1 _ e3
          subst e1
          exact r
        have KI : Hid (Calls Try.prog 20 #[.slice (some ⟨g, 0, none⟩) n c1, .int .i64 x] wr fun e w' => e = .returned (.int .i64 j) ∧ w' = wr) := Lib.hid (indexI L x n c1 j _ wr rr hLl hl (by omega) q2 q3)
        have KE : Hid (Calls Try.prog 17 #[.slice (some ⟨g, 0, none⟩) n c1, .int .i64 i, .int .i64 j] wr fun e w' => e = .returned (.tuple #[]) ∧ w'.ownsRow w.heap.size 3 1 (.slice (some ⟨g, 0, none⟩) n c1) n (ints (swp L i j)) ∧ Keeps (fun k => k = g) wr w') := Lib.hid (pExch g n c1 i j L _ wr hr (by omega) (by omega) (by omega))
        have HP1 : Hid (∀ z, Keeps (fun k => k = g) wr z → z.ownsRow w.heap.size 3 1 _ k (ints O) ∧ Below w.heap.size w z) := Lib.hid (fun z hk => ⟨hk.owns ho (fun q h1 h2 => hna q h1 (by have h3 : q = g := h2; rw [h3]; rfl)), hb.trans (hk.below hb.size (fun q h => by have h3 : q = g := h; omega))⟩)
        have HNA := Lib.hid hna
        have HI := Lib.hid hi
        have SZ : Hid (w.heap.size ≤ wr.heap.size) := Lib.hid hb.size
        have hj0 : (j : Int) ≤ 1000000 := by omega
        clear hr ho hna hb hz hkn hi q1 q2 q3 hL hO hx hLl hj hc2 rr
        go_wp2_with (first
          | (go_at_call 20; (with_reducible refine KI.out.mono ?_); rintro e w3 ⟨rfl, rfl⟩)
          | (go_at_call 17; (with_reducible refine KE.out.mono ?_); rintro e w4 ⟨rfl, o4, k4⟩; have O4 := Lib.hid o4; have P4 := Lib.hid (HP1.out _ k4).1; have B4 := Lib.hid (HP1.out _ k4).2; have Z4 := Lib.hid (HP1.out _ k4).2.size; clear o4 k4)
          | (at_builtin; refine wpList_push (.tmp 33) (.tmp 35) 22 3 8 (.int .i64 0) und_ints3 info_int3 rfl (by decide) rfl rfl w.heap.size _ _ _ _ rfl P4.out rfl rfl (by omega) Z4.out ?_; intro v5 w5 o5 g5 at5; have O5 := Lib.hid o5; have P5 := Lib.hid (Apart.kept HNA.out.symm O4.out g5); have N5 := Lib.hid (Apart.grown HNA.out.symm O4.out (Nat.le_succ _) at5).symm; have B5 := Lib.hid (below_push B4.out P4.out g5 (Nat.le_refl _) Z4.out); clear o5 g5 at5))
        go_roundw
        case rel => exact ⟨k + 1, (i : Int) - 1, rfl, by have := HI.out; omega, by have := HI.out; omega, by rw [ED.out]; exact P5.out, by rw [ED.out, ints_snoc]; exact O5.out, N5.out, B5.out⟩
        case measure => simp [intOf]; omega
      · have hz0 : ¬ (0 : Int) < z := by omega
        have e : (drawK l to k).2 = drawL l to := by
          unfold drawL
          rw [HN.out]
          congr 2
          omega
        have e2 : k = (drawL l to).length := by rw [← e, HL.out.2]
        have HE := Lib.hid e
        have HE2 := Lib.hid e2
        clear e e2 hb hz ho hr hna
        go_wp2
        go_ret2
        exact ⟨_, rfl, by rw [← HE2.out, ← HE.out]; exact HO.out, HB.out⟩
end Go.Proofs.Yticbnanfijkodaa
