/-
  Package shuffle: the closure that hands out the draws, Shuffle. Conditions: lists that can be read, at most 1000000 numbers that are int64's.
-/
import Derived.Test.YticbnanfijkodaaShufC
import Derived.Test.YticbnanfijkodaaShufU
namespace Go.Proofs.Yticbnanfijkodaa
open Go.ChangeShapes Go.WideShapes Go.ChangeAt Go.RowKit
set_option linter.unusedVariables false
set_option linter.unusedSimpArgs false
set_option maxRecDepth 20000
set_option maxHeartbeats 3200000
theorem cut_one (g off m c : Nat) (w : World) (h0 : 0 < m) :
    (Instr.slice 22 (.slice (some ⟨g, off, none⟩) m c) (some (.int .i64 1)) none none).run Try.prog w = .ok (.slice (some (if c = 1 then ⟨g, off, none⟩ else ⟨g, off + 1, none⟩)) (m - 1) (c - 1)) w := by
  have hs : ∀ w, (Go.sizeOf (Try.prog.elem 22)).run Try.prog w = .ok 1 w := fun w => by kernel_rfl
  rw [run_slice_l w 22 (some ⟨g, off, none⟩) m c (by kernel_rfl) .i64 1 (by omega) (by omega), hs]
  simp only [Result.andThen, sliced]
  by_cases h : c = 1
  · simp [h]
  · simp [h, Addr.add]
theorem reads_tail {w : World} {g off m c : Nat} {x : Int} {ds : List Int} (h : Reads w (some ⟨g, off, none⟩) (ints (x :: ds))) (hm : (x :: ds).length = m) (hc : m ≤ c) :
    Reads w (some (if c = 1 then ⟨g, off, none⟩ else ⟨g, off + 1, none⟩)) (ints ds) := by
  by_cases q : c = 1
  · have : ds = [] := List.length_eq_zero_iff.1 (by simp at hm; omega)
    rw [this]
    exact .inl rfl
  · rw [if_neg q]
    obtain ⟨p, e, hp, hcl⟩ := h.at_ (by simp [ints])
    injection e with e
    subst e
    refine .inr ⟨_, rfl, hp, fun j hj => ?_⟩
    have := hcl (j + 1) (by simp [ints] at hj ⊢; omega)
    rw [Addr.add_lit] at this ⊢
    rw [show off + 1 + j = off + (j + 1) by omega, this]
    simp [ints]
theorem pNext (cb m c : Nat) (A : Option Addr) (ds : List Int) (w0 w : World) (hW : Whole w cb 22 #[.slice A m c]) (hR : Reads w0 A (ints ds)) (hB : Below w0.heap.size w0 w) (hcb : w0.heap.size ≤ cb) (hm : ds.length = m) (hmc : m ≤ c) (hl : m ≤ 1000000) :
    Calls Try.prog 15 #[.pointer (some ⟨cb, 0, none⟩)] w fun e w' => e = .returned (.int .i64 (ds.getD 0 0)) ∧ ∃ A' c', Whole w' cb 22 #[.slice A' (m - 1) c'] ∧ Reads w0 A' (ints ds.tail) ∧ m - 1 ≤ c' ∧ Keeps (fun k => k = cb) w w' := by
  have c0 : w.cell? ⟨cb, 0, none⟩ = some (.slice A m c) := by rw [hW.read]; rfl
  have f0 : w.frozen? ⟨cb, 0, none⟩ = false := hW.thawed 0
  have HW := Lib.hid hW
  have HR := Lib.hid hR
  have HM := Lib.hid hm
  clear hW hm
  cases ds with
  | nil =>
    obtain rfl : m = 0 := HM.out.symm
    have HC := Lib.hid hmc
    clear hmc
    go_enter Try.func15, Try.ntmps15
    go_wp2
    go_ret
    exact ⟨rfl, A, c, HW.out, HR.out, HC.out, Keeps.refl _ _⟩
  | cons x ds =>
    have hm1 : 0 < m := by have := HM.out; simp at this; omega
    obtain ⟨g, off, rfl, hg, hc⟩ := reads_lit HR.out (by simp)
    have c1 := hc 0 (by simp)
    rw [Nat.add_zero] at c1
    have c2 : w.cell? ⟨g, off, none⟩ = some (.int .i64 x) := by rw [hB.cell hg]; exact c1
    have hcut := fun w => cut_one g off m c w hm1
    have HT := Lib.hid (reads_tail HR.out HM.out hmc)
    have HA : Hid (∀ a : Option Addr, Whole (w.setCell ⟨cb, 0, none⟩ (.slice a (m - 1) (c - 1))) cb 22 #[.slice a (m - 1) (c - 1)]) := Lib.hid fun a => HW.out.write 0 _
    have HK : Hid (∀ u, Keeps (fun k => k = cb) w (w.setCell ⟨cb, 0, none⟩ u)) := Lib.hid fun u => Keeps.setCell (S := fun k => k = cb) (Keeps.refl _ w) (p := ⟨cb, 0, none⟩) rfl u
    have HL : Hid (m - 1 ≤ c - 1) := Lib.hid (by omega)
    obtain ⟨a, ha⟩ : ∃ a, (if c = 1 then (⟨g, off, none⟩ : Addr) else ⟨g, off + 1, none⟩) = a := ⟨_, rfl⟩
    rw [ha] at HT
    simp only [ha] at hcut
    clear ha hc c1 hR
    have hm2 : (0 : Int) < (m : Int) := by omega
    have hm3 : ((m : Int) == 0) = false := by simp; omega
    have hm4 : ¬ (m : Int) = 0 := by omega
    go_enter Try.func15, Try.ntmps15
    go_wp2
    go_ret
    exact ⟨rfl, some a, c - 1, HA.out _, HT.out, HL.out, HK.out _⟩
theorem shufK_at (l ds : List Int) (k i : Nat) (h : i = l.length - 1 - k) (hk : k + 1 < l.length) : ∃ b : Nat, b ≤ i ∧ aroundZ (ds.getD k 0) ((i : Int) + 1) = b ∧ shufK l ds (k + 1) = swp (shufK l ds k) i b := by
  subst h
  have hb := aroundZ_bd (n := ds.getD k 0) (most := ((l.length - 1 - k : Nat) : Int) + 1) (by omega)
  exact ⟨(aroundZ (ds.getD k 0) (((l.length - 1 - k : Nat) : Int) + 1)).toNat, by omega, by omega, rfl⟩
theorem drop_head (ds : List Int) (k : Nat) : (ds.drop k).getD 0 0 = ds.getD k 0 := by
  rw [List.getD_eq_getElem?_getD, List.getD_eq_getElem?_getD, List.getElem?_drop, Nat.add_zero]
theorem pShuffle (l ds : List Int) (n m c d : Nat) (A D : Option Addr) (w : World) (hx : Reads w A (ints l)) (hy : Reads w D (ints ds)) (hn : l.length = n) (hm : ds.length = m) (hmd : m ≤ d) (hl : n ≤ 1000000) (hl2 : m ≤ 1000000) (hbd : ∀ n ∈ ds, -9223372036854775808 ≤ n ∧ n ≤ 9223372036854775807) :
    Calls Try.prog 7 #[.slice A n c, .slice D m d] w fun e w' => ∃ v, e = .returned v ∧ w'.ownsRow w.heap.size 3 1 v n (ints (shufL l ds)) ∧ Below w.heap.size w w' := by
  obtain ⟨cb, hcb⟩ : ∃ cb, w.heap.size = cb := ⟨_, rfl⟩
  have W0 : Hid (Whole (w.alloc (.cells #[.slice D m d] 22)) w.heap.size 22 #[.slice D m d]) := Lib.hid (Whole.made w _ _)
  have B0 : Hid (Below w.heap.size w (w.alloc (.cells #[.slice D m d] 22))) := Lib.hid ((Below.refl _ _).alloc (Nat.le_refl _) _)
  have KC : Hid (Calls Try.prog 16 #[.slice A n c] (w.alloc (.cells #[.slice D m d] 22)) fun e w' => ∃ v, e = .returned v ∧ w'.ownsRow (w.heap.size + 1) 3 1 v n (ints l) ∧ Below (w.heap.size + 1) (w.alloc (.cells #[.slice D m d] 22)) w') := Lib.hid (by
    have h := cloneI l n c A (w.alloc (.cells #[.slice D m d] 22)) (hx.alloc _) hn hl
    rw [World.size_alloc] at h
    exact h)
  have HN := Lib.hid hn
  have HM := Lib.hid hm
  have HY := Lib.hid hy
  have HBD := Lib.hid hbd
  have HMD := Lib.hid hmd
  have HCB := Lib.hid hcb
  clear hx hn hm hy hbd hmd hcb
  go_enter Try.func7, Try.ntmps7
  go_wp2_with (go_at_call 16; (with_reducible refine KC.out.mono ?_); rintro e w1 ⟨v, rfl, o1, b1⟩; obtain ⟨A1, c1, rfl, _, _, _⟩ := own_form o1; have O1 := Lib.hid o1; have B1 := Lib.hid (B0.out.trans (b1.mono (Nat.le_succ _))); have W1 := Lib.hid (W0.out.below b1 (Nat.lt_succ_self _)); clear o1 b1)
  go_loopw [7] (fun I wr => ∃ (k : Nat) (D' : Option Addr) (d' : Nat) (z : Int), I = .int .i64 z ∧ z = (n : Int) - 1 - k ∧ (k + 1 ≤ n ∨ k = 0) ∧ Whole wr w.heap.size 22 #[.slice D' (m - k) d'] ∧ Reads w D' (ints (ds.drop k)) ∧ m - k ≤ d' ∧ wr.ownsRow (w.heap.size + 1) 3 1 (.slice A1 n c1) n (ints (shufK l ds k)) ∧ Below w.heap.size w wr) (fun I _ => (intOf I).toNat)
  case atStart => exact ⟨0, D, d, _, rfl, by omega, by omega, W1.out, HY.out, HMD.out, O1.out, B1.out⟩
  case round =>
    obtain ⟨k, D', d', z, rfl, hz, hk, hW, hR, hd, ho, hb⟩ := hrel
    have HB := Lib.hid hb
    have HO := Lib.hid ho
    have HW := Lib.hid hW
    by_cases hkn : k + 1 < n
    · obtain ⟨i, rfl⟩ : ∃ i : Nat, z = (i : Int) := ⟨n - 1 - k, by omega⟩
      have hi : i = n - 1 - k := by omega
      have hi0 : (0 : Int) < (i : Int) := by omega
      obtain ⟨b, hb1, hb2, hb3⟩ := shufK_at l ds k i (by rw [HN.out]; exact hi) (by rw [HN.out]; exact hkn)
      obtain ⟨g, c', e, hg1, hg2⟩ := own_some ho (by omega)
      injection e with e1 _ e3
      subst e1 e3
      have hbd := getD_bd HBD.out k
      have hdl : (ds.drop k).length = m - k := by rw [List.length_drop, HM.out]
      have KN : Hid (∀ z, z = wr → Calls Try.prog 15 #[.pointer (some ⟨w.heap.size, 0, none⟩)] z fun e w' => e = .returned (.int .i64 (ds.getD k 0)) ∧ ∃ A' c', Whole w' w.heap.size 22 #[.slice A' (m - k - 1) c'] ∧ Reads w A' (ints (ds.drop (k + 1))) ∧ m - k - 1 ≤ c' ∧ Keeps (fun k => k = w.heap.size) wr w') := Lib.hid (by
        rintro z rfl
        have h := pNext w.heap.size (m - k) d' D' (ds.drop k) w z hW hR hb (Nat.le_refl _) hdl hd (by omega)
        rw [drop_head, List.tail_drop] at h
        exact h)
      obtain ⟨y, hy⟩ : ∃ y, ds.getD k 0 = y := ⟨_, rfl⟩
      rw [hy] at hb2 hbd KN
      have KA : Hid (∀ z, Calls Try.prog 10 #[.int .i64 y, .int .i64 ((i : Int) + 1)] z fun e w' => e = .returned (.int .i64 b) ∧ w' = z) := Lib.hid (by
        intro z
        have h := pAround_any y ((i : Int) + 1) z hbd.1 hbd.2 (by omega)
        rw [hb2] at h
        exact h)
      have KE : Hid (∀ z, z.ownsRow (w.heap.size + 1) 3 1 (.slice (some ⟨g, 0, none⟩) n c1) n (ints (shufK l ds k)) → Calls Try.prog 17 #[.slice (some ⟨g, 0, none⟩) n c1, .int .i64 i, .int .i64 b] z fun e w' => e = .returned (.tuple #[]) ∧ w'.ownsRow (w.heap.size + 1) 3 1 (.slice (some ⟨g, 0, none⟩) n c1) n (ints (swp (shufK l ds k) i b)) ∧ Keeps (fun k => k = g) z w') := Lib.hid (fun z hz => pExch g n c1 i b _ _ z hz (by omega) (by omega) (by omega))
      have HS := Lib.hid hb3
      have HI := Lib.hid hi
      have HP1 : Hid (∀ z, Keeps (fun k => k = w.heap.size) wr z → z.ownsRow (w.heap.size + 1) 3 1 (.slice (some ⟨g, 0, none⟩) n c1) n (ints (shufK l ds k)) ∧ Below w.heap.size w z) := Lib.hid (fun z hk => ⟨hk.owns ho (fun k h c => by
          have e : g = k := by simpa [Value.ownBlock] using h
          have c2 : k = w.heap.size := c
          omega), hb.trans (hk.below hb.size (fun k h => Nat.le_of_eq (Eq.symm h)))⟩)
      have HP2 : Hid (∀ z u x, Whole z w.heap.size 22 x → Below w.heap.size w z → Keeps (fun k => k = g) z u → Whole u w.heap.size 22 x ∧ Below w.heap.size w u) := Lib.hid (fun z u x hw hz hk => ⟨hk.whole hw (fun e => by have e2 : w.heap.size = g := e; omega), hz.trans (hk.below hz.size (fun k h => by have e2 : k = g := h; omega))⟩)
      have hi1 : (i : Int) ≤ 1000000 := by omega
      have hw1 : IntKind.i64.wrap ((i : Int) + 1) = (i : Int) + 1 := IntWalk.i64_in _ (by omega)
      clear hW hR hd ho hb hb2 hb3 hbd hdl hy hkn hi hz
      go_wp2_with (first
        | (go_at_call 15; (with_reducible refine (KN.out _ rfl).mono ?_); rintro e w1 ⟨rfl, D2, d2, hw1, hr1, hd1, hk1⟩; have W1 := Lib.hid hw1; have R1 := Lib.hid hr1; have E1 := Lib.hid hd1; have O1 := Lib.hid (HP1.out _ hk1).1; have B1 := Lib.hid (HP1.out _ hk1).2; clear hw1 hr1 hd1 hk1)
        | (go_at_call 10; (with_reducible refine (KA.out _).mono ?_); rintro e w2 ⟨rfl, rfl⟩)
        | (go_at_call 17; (with_reducible refine (KE.out _ O1.out).mono ?_); rintro e w3 ⟨rfl, o3, k3⟩; have O3 := Lib.hid o3; have W3 := Lib.hid (HP2.out _ _ _ W1.out B1.out k3).1; have B3 := Lib.hid (HP2.out _ _ _ W1.out B1.out k3).2; clear o3 k3))
      go_roundw
      case rel => exact ⟨k + 1, D2, d2, (i : Int) - 1, rfl, by have := HI.out; omega, by have := HI.out; omega, W3.out, R1.out, E1.out, by rw [HS.out]; exact O3.out, B3.out⟩
      case measure => simp [intOf]; omega
    · have hz0 : ¬ (0 : Int) < z := by omega
      have e : shufK l ds k = shufL l ds := by
        unfold shufL
        rw [HN.out]
        congr 1
        omega
      have HE := Lib.hid e
      clear e hb hz ho hW
      go_wp2
      go_ret
      exact ⟨_, rfl, by rw [← HE.out]; exact own_mono HO.out (Nat.le_succ _), HB.out⟩
end Go.Proofs.Yticbnanfijkodaa
