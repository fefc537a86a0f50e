/-
  Layer 21: the document's answer: Draws. Conditions: lists that can be read, at most 1000000 numbers.
-/
import Derived.Test.YticbnanfijkodaaShufU
import Derived.BigQuiet
namespace Go.Proofs.Yticbnanfijkodaa
open Go.ChangeShapes Go.WideShapes Go.ChangeAt Go.RowKit
set_option linter.unusedVariables false
set_option linter.unusedSimpArgs false
set_option maxRecDepth 20000
set_option maxHeartbeats 3200000
def NotAt (V : Value) (A : Option Addr) : Prop := ∀ p, A = some p → V.ownBlock ≠ some p.block
theorem reads_grown {w w' : World} {A : Option Addr} {xs : List Value} {V : Value} (h : Reads w A xs) (hg : w.grownBy w' V.ownBlock) (hn : NotAt V A) : Reads w' A xs := by
  rcases h with h | ⟨x, rfl, hx, hc⟩
  · exact .inl h
  · refine .inr ⟨x, rfl, Nat.lt_of_lt_of_le hx hg.size, fun j hj => ?_⟩
    have hb : (x.add j).block = x.block := by unfold Addr.add; split <;> rfl
    rw [World.cell?_of_block (w := w) (by rw [hb]; exact hg.block _ hx (fun e => hn x rfl e.symm))]
    exact hc j hj
theorem notAt_new {w1 w2 : World} {b1 b2 n m : Nat} {T S : TypeId} {u v : Value} {xs ys : List Value} {A : Option Addr} {k c : Nat} (h : w1.ownsRow b1 T 1 u n xs) (h2 : w2.ownsRow b2 S 1 v m ys) (hv : v = .slice A k c) (hb : w1.heap.size ≤ b2) : NotAt u A := by
  intro p hp e
  have h3 := (h.lt _ e).2
  have h4 := (h2.lt p.block (by rw [hv, hp]; rfl)).1
  omega
theorem ints_snoc (x : List Int) (v : Int) : ints (x ++ [v]) = ints x ++ [.int .i64 v] := by
  unfold ints
  rw [List.map_append]
  rfl
theorem least_up {L : List Int} {x : Int} {i j : Nat} (h : j ≤ leastN L x i) (hi : j < i) (hx : L.getD j 0 ≠ x) : j + 1 ≤ leastN L x i := by
  obtain ⟨h1, h2, h3⟩ := leastN_spec L x i
  rcases Nat.lt_or_ge j (leastN L x i) with q | q
  · exact q
  · have e : leastN L x i = j := by omega
    rw [e] at h3
    exact absurd (h3 hi) hx
theorem least_hit {L : List Int} {x : Int} {i j : Nat} (h : j ≤ leastN L x i) (hx : L.getD j 0 = x) : j = leastN L x i := by
  obtain ⟨h1, h2, h3⟩ := leastN_spec L x i
  rcases Nat.lt_or_ge j (leastN L x i) with q | q
  · exact absurd hx (h2 j q)
  · omega
theorem least_end {L : List Int} {x : Int} {i j : Nat} (h : j ≤ leastN L x i) (hi : ¬ j < i) : j = leastN L x i := by
  obtain ⟨h1, h2, h3⟩ := leastN_spec L x i
  omega
def drawsOf (l to : List Int) : List Int := if alikeB l to then drawL l to else []
theorem rDraws_any (l to : List Int) (n m c d : Nat) (A B : Option Addr) (w : World) (hx : Reads w A (ints l)) (hy : Reads w B (ints to)) (hn : l.length = n) (hm : to.length = m) (hl : n ≤ 1000000) (hl2 : m ≤ 1000000) :
    Calls Try.prog 13 #[.slice A n c, .slice B m d] w fun e w' => ∃ V, e = .returned (.tuple #[V, .bool (alikeB l to)]) ∧ w'.ownsRow w.heap.size 3 1 V (drawsOf l to).length (ints (drawsOf l to)) ∧ Below w.heap.size w w' := by
  have KL : Hid (∀ z, Below w.heap.size w z → Calls Try.prog 14 #[.slice A n c, .slice B m d] z fun e w' => e = .returned (.bool (alikeB l to)) ∧ Below z.heap.size z w') := Lib.hid fun z hz => rAlike_any l to n m c d A B z (hx.below hz) (hy.below hz) hn hm hl hl2
  have HB0 : Hid (Below w.heap.size w w) := Lib.hid (Below.refl _ _)
  unfold drawsOf
  cases ha : alikeB l to with
  | false =>
    rw [ha] at KL
    rw [if_neg (by decide)]
    clear hx hy hn hm
    go_enter Try.func13, Try.ntmps13
    go_wp2_with (go_at_call 14; (with_reducible refine (KL.out _ HB0.out).mono ?_); rintro e w1 ⟨rfl, b1⟩; have B1 := Lib.hid b1; clear b1)
    go_ret2
    exact ⟨_, rfl, World.ownsRow_nil _ _ _ _, B1.out⟩
  | true =>
    rw [ha] at KL
    rw [if_pos rfl]
    obtain rfl : n = m := by rw [← hn, ← hm]; exact (alike_iff.1 ha).length_eq
    have HN := Lib.hid hn
    have HM := Lib.hid hm
    have HX := Lib.hid hx
    have HY := Lib.hid hy
    clear hx hy hn hm ha
    go_enter Try.func13, Try.ntmps13
    go_wp2_with (go_at_call 14; (with_reducible refine (KL.out _ HB0.out).mono ?_); rintro e w1 ⟨rfl, b1⟩; have B1 := Lib.hid b1; clear b1)
    go_loopw [6, 7, 8] (fun V L I wr => ∃ (k : Nat) (A' : Option Addr) (c' : Nat) (z : Int), I = .int .i64 z ∧ L = .slice A' n c' ∧ z = (n : Int) - 1 - k ∧ (k + 1 ≤ n ∨ k = 0) ∧ Reads wr A' (ints (drawK l to k).1) ∧ wr.ownsRow w.heap.size 3 1 V k (ints (drawK l to k).2) ∧ NotAt V A' ∧ Below w.heap.size w wr) (fun _ _ i _ => (intOf i).toNat)
    case atStart => exact ⟨0, A, c, _, rfl, rfl, by omega, by omega, HX.out.below B1.out, World.ownsRow_nil _ _ _ _, fun p hp e => by simp [Value.ownBlock] at e, B1.out⟩
    case round =>
      obtain ⟨k, A', c', z, rfl, rfl, hz, hk, hr, ho, hna, hb⟩ := hrel
      have HB := Lib.hid hb
      have HR := Lib.hid hr
      have HO := Lib.hid ho
      have HNA := Lib.hid hna
      have HL := Lib.hid (drawK_len l to k)
      clear hr ho hna
      by_cases hkn : k + 1 < n
      · obtain ⟨i, rfl⟩ : ∃ i : Nat, z = (i : Int) := ⟨n - 1 - k, by omega⟩
        have hi : i = n - 1 - k := by omega
        have hi0 : (0 : Int) < (i : Int) := by omega
        have hi00 : 0 < i := by omega
        have hin : (i : Int) < (n : Int) := by omega
        obtain ⟨L, hL⟩ : ∃ L, (drawK l to k).1 = L := ⟨_, rfl⟩
        obtain ⟨O, hO⟩ : ∃ O, (drawK l to k).2 = O := ⟨_, rfl⟩
        obtain ⟨x, hx⟩ : ∃ x, to.getD i 0 = x := ⟨_, rfl⟩
        have ED : Hid (drawK l to (k + 1) = (swp L i (leastN L x i), O ++ [(leastN L x i : Int)])) := Lib.hid (by
          show (swp (drawK l to k).1 (l.length - 1 - k) (leastN (drawK l to k).1 (to.getD (l.length - 1 - k) 0) (l.length - 1 - k)), (drawK l to k).2 ++ [(leastN (drawK l to k).1 (to.getD (l.length - 1 - k) 0) (l.length - 1 - k) : Int)]) = _
          rw [HN.out, ← hi, hL, hO, hx])
        have hLl : L.length = n := by rw [← hL, HL.out.1, HN.out]
        rw [hL] at HR
        rw [hO] at HO
        obtain ⟨g, off, rfl, hg, hc⟩ := reads_lit HR.out (by omega)
        obtain ⟨g2, off2, rfl, hg2, hc2⟩ := reads_lit (HY.out.below HB.out) (by rw [HM.out]; omega)
        have c2 := hc2 i (by rw [HM.out]; omega)
        rw [hx] at c2
        have hle := (leastN_spec L x i).1
        have HC := Lib.hid hc
        have HLl := Lib.hid hLl
        have HO2 : Hid (∀ N, (wr.drewN N).ownsRow w.heap.size 3 1 _ k (ints O)) := Lib.hid fun N => HO.out
        have HR2 : Hid (∀ N, Reads (wr.drewN N) (some ⟨g, off, none⟩) (ints L)) := Lib.hid fun N => HR.out
        have HB3 : Hid (∀ N, Below w.heap.size w (wr.drewN N)) := Lib.hid fun N => below_drewN HB.out N
        have SZ : Hid (w.heap.size ≤ wr.heap.size) := Lib.hid hb.size
        have HI := Lib.hid hi
        clear hc hc2 hL hO hx hLl hb hz hkn hi
        go_wp2_with fail
        go_loopw [9] (fun t wi => ∃ j N : Nat, t = .int .i64 j ∧ j ≤ leastN L x i ∧ wi = wr.drewN N) (fun t _ => i - (intOf t).toNat)
        case atStart => exact ⟨0, 0, rfl, Nat.zero_le _, rfl⟩
        case round =>
          obtain ⟨j, N, rfl, hj, rfl⟩ := hrel
          by_cases hji : j < i
          · have c1 := HC.out j (by rw [HLl.out]; omega)
            obtain ⟨y, hy⟩ : ∃ y, L.getD j 0 = y := ⟨_, rfl⟩
            rw [hy] at c1
            have d1 : (j : Int) < (n : Int) := by omega
            have d2 : (j : Int) < (i : Int) := by omega
            have d3 : decide ((j : Int) < (i : Int)) = true := by simpa using hji
            have d4 : decide (j < i) = true := by simpa using hji
            by_cases hyx : y = x
            · have hjl : j = leastN L x i := least_hit hj (by rw [hy, hyx])
              have KS : Hid (∀ z, Reads z (some ⟨g, off, none⟩) (ints L) → Calls Try.prog 18 #[.slice (some ⟨g, off, none⟩) n c', .int .i64 i, .int .i64 j] z fun e w' => ∃ v, e = .returned v ∧ w'.ownsRow z.heap.size 3 1 v n (ints (swp L i j)) ∧ Below z.heap.size z w') := Lib.hid fun z hz => rSwap_any L n c' i j _ z hz HLl.out hl (by omega) (by omega)
              rw [← hjl] at ED
              have ky : (y != x) = false := by simpa using hyx
              clear hy hjl
              go_wp2_with fail
              go_quiet (fail)
              go_wp2_with (first
                | (at_builtin; refine wpList_push (.tmp 38) (.tmp 40) 22 3 8 (.int .i64 0) und_ints3 info_int3 rfl (by decide) rfl rfl w.heap.size _ _ _ _ rfl (HO2.out _) rfl rfl (by omega) SZ.out ?_; intro v2 w2 o2 g2 _; have O2 := Lib.hid o2; have G2 := Lib.hid g2; have R2 := Lib.hid (reads_grown (HR2.out _) g2 HNA.out); have B2 := Lib.hid (below_push (HB3.out _) (HO2.out _) g2 (Nat.le_refl _) SZ.out); clear o2 g2)
                | (go_at_call 18; (with_reducible refine (KS.out _ R2.out).mono ?_); rintro e w3 ⟨v3, rfl, o3, b3⟩; obtain ⟨A3, c3, rfl, _, r3⟩ := own_reads o3; have R3 := Lib.hid r3; have O3 := Lib.hid (own_below O2.out b3); have N3 := Lib.hid (notAt_new O2.out o3 rfl (Nat.le_refl _)); have B3 := Lib.hid (bthen B2.out b3); clear o3 r3 b3))
              go_roundw
              case rel => exact ⟨k + 1, A3, c3, (i : Int) - 1, rfl, rfl, by have := HI.out; omega, by have := HI.out; omega, by rw [ED.out]; exact R3.out, by rw [ED.out, ints_snoc]; exact O3.out, N3.out, B3.out⟩
              case measure => simp [intOf]; omega
            · have hj2 := least_up hj hji (by rw [hy]; exact hyx)
              have HJ2 := Lib.hid hj2
              have ky : (y != x) = true := by simpa using hyx
              clear hy hj2
              go_wp2_with fail
              go_quiet (fail)
              go_wp2
              go_roundw
              case rel => exact ⟨j + 1, _, by go_num, HJ2.out, rfl⟩
              case measure => simp [intOf]; omega
          · have hjl : j = leastN L x i := least_end hj hji
            have d3 : decide ((j : Int) < (i : Int)) = false := by simpa using hji
            have d4 : decide (j < i) = false := by simpa using hji
            have KS : Hid (∀ z, Reads z (some ⟨g, off, none⟩) (ints L) → Calls Try.prog 18 #[.slice (some ⟨g, off, none⟩) n c', .int .i64 i, .int .i64 j] z fun e w' => ∃ v, e = .returned v ∧ w'.ownsRow z.heap.size 3 1 v n (ints (swp L i j)) ∧ Below z.heap.size z w') := Lib.hid fun z hz => rSwap_any L n c' i j _ z hz HLl.out hl (by omega) (by omega)
            rw [← hjl] at ED
            clear hjl
            go_wp2_with fail
            go_quiet (fail)
            go_wp2_with (first
              | (at_builtin; refine wpList_push (.tmp 38) (.tmp 40) 22 3 8 (.int .i64 0) und_ints3 info_int3 rfl (by decide) rfl rfl w.heap.size _ _ _ _ rfl (HO2.out _) rfl rfl (by omega) SZ.out ?_; intro v2 w2 o2 g2 _; have O2 := Lib.hid o2; have G2 := Lib.hid g2; have R2 := Lib.hid (reads_grown (HR2.out _) g2 HNA.out); have B2 := Lib.hid (below_push (HB3.out _) (HO2.out _) g2 (Nat.le_refl _) SZ.out); clear o2 g2)
              | (go_at_call 18; (with_reducible refine (KS.out _ R2.out).mono ?_); rintro e w3 ⟨v3, rfl, o3, b3⟩; obtain ⟨A3, c3, rfl, _, r3⟩ := own_reads o3; have R3 := Lib.hid r3; have O3 := Lib.hid (own_below O2.out b3); have N3 := Lib.hid (notAt_new O2.out o3 rfl (Nat.le_refl _)); have B3 := Lib.hid (bthen B2.out b3); clear o3 r3 b3))
            go_roundw
            case rel => exact ⟨k + 1, A3, c3, (i : Int) - 1, rfl, rfl, by have := HI.out; omega, by have := HI.out; omega, by rw [ED.out]; exact R3.out, by rw [ED.out, ints_snoc]; exact O3.out, N3.out, B3.out⟩
            case measure => simp [intOf]; omega
      · have hz0 : ¬ (0 : Int) < z := by omega
        have e : (drawK l to k).2 = drawL l to := by
          unfold drawL
          rw [HN.out]
          congr 2
          omega
        have e2 : k = (drawL l to).length := by rw [← e, HL.out.2]
        have HE := Lib.hid e
        have HE2 := Lib.hid e2
        clear e e2 hb hz
        go_wp2
        go_ret2
        exact ⟨_, rfl, by rw [← HE2.out, ← HE.out]; exact HO.out, HB.out⟩
end Go.Proofs.Yticbnanfijkodaa
