/-
  Texts DigPut. No conditions but those that each theorem names.
-/
import Derived.IntWalk
import Derived.Test.YtljdgdphldckhaaGreatQA1
set_option maxRecDepth 20000
set_option maxHeartbeats 12800000
namespace Go.Proofs.YtljdgdphldckhaaGreat
open Go.ChangeShapes Go.WideShapes Go.ChangeAt Go.RowKit
set_option linter.unusedVariables false
set_option linter.unusedSimpArgs false
theorem lastDigit_any (n : Int) (h1 : -9223372036854775808 ≤ n) (h2 : n ≤ 9223372036854775807) (w : World) : Calls Tryz.prog 153 #[.int .i64 n] w fun e w' => e = .returned (.int .u8 (48 + ((n.natAbs % 10 : Nat) : Int))) ∧ w = w' := by
 have ha : (n.tmod 10).natAbs = n.natAbs % 10 := Int.natAbs_tmod n 10
 have hr : n.tmod 10 < 10 ∧ -10 < n.tmod 10 := by omega
 by_cases hn : n.tmod 10 < 0
 · go_enter Tryz.func153, Tryz.ntmps153
   go_wp2
   go_ret
   refine ⟨rI ?_, rfl⟩
   omega
 · go_enter Tryz.func153, Tryz.ntmps153
   go_wp2
   go_ret
   refine ⟨rI ?_, rfl⟩
   omega
theorem slice20 (g : Nat) (z : Int) (f : Nat) (hz : z.toNat = f) (h0 : 0 ≤ z) (h1 : f < 20) (W : World) :
   (Instr.sliceAt 212 (.pointer (some ⟨g, 0, none⟩)) (some (.int .i64 z)) none none).run Tryz.prog W = .ok (.slice (some ⟨g, f, none⟩) (20 - f) (20 - f)) W := by
 have hu : Tryz.prog.underlying 212 = some (.array (Tryz.prog.arrayLen 212) (Tryz.prog.elem 212)) := by kernel_rfl
 have hl : Tryz.prog.arrayLen 212 = 20 := by kernel_rfl
 have he : Tryz.prog.elem 212 = 5 := by kernel_rfl
 have hs : (sizeOf 5).run Tryz.prog W = .ok 1 W := by kernel_rfl
 rw [run_sliceAt_array_l W _ _ hu .i64 z h0 (by rw [hl]; omega), he, hs, hl, hz]
 have hne : ¬ 20 = f := by omega
 simp [slicedAt, hne, Addr.add_lit]
theorem conv_tail {W : World} {g f len : Nat} {t : TypeId} {cs : Array Value} {l : List Int} (hw : Zb W g t cs) (ht : TailIs cs f l) (hl : len = l.length) :
   ∀ dst, Tryz.prog.underlying dst = some .string → (convert 158 dst (.slice (some ⟨g, f, none⟩) len len)).run Tryz.prog W = .ok (.string (strOfNums l)) W :=
 run_convert_bytes_arg _ 158 5 (by kernel_rfl) (by kernel_rfl) g f len len l hl.symm (fun i hi => ht.cells hw i (by omega))
theorem put_done {n m : Int} {k : Nat} {ds : List Int} (hd : k = 0 ∧ m = n ∧ ds = [] ∨ m ≠ 0 ∧ m.natAbs * 10 ^ k ≤ n.natAbs ∧ digL n.natAbs = digL m.natAbs ++ ds) (hq : m.natAbs / 10 = 0) : digL n.natAbs = (48 + (m.natAbs : Int) % 10) :: ds := by
 have hm : digL m.natAbs = [48 + (m.natAbs : Int) % 10] := by rw [digL_lt (by omega)]; congr 1; omega
 rcases hd with ⟨_, rfl, rfl⟩ | ⟨_, _, h⟩
 · exact hm
 · rw [h, hm]; rfl
theorem put_round {n m : Int} {k : Nat} {ds : List Int} (hd : k = 0 ∧ m = n ∧ ds = [] ∨ m ≠ 0 ∧ m.natAbs * 10 ^ k ≤ n.natAbs ∧ digL n.natAbs = digL m.natAbs ++ ds) (hq : (m.tdiv 10).natAbs = m.natAbs / 10) (hz : m.tdiv 10 ≠ 0) :
   m.tdiv 10 ≠ 0 ∧ (m.tdiv 10).natAbs * 10 ^ (k + 1) ≤ n.natAbs ∧ digL n.natAbs = digL (m.tdiv 10).natAbs ++ ((48 + (m.natAbs : Int) % 10) :: ds) := by
 have hm : digL m.natAbs = digL (m.tdiv 10).natAbs ++ [48 + (m.natAbs : Int) % 10] := by rw [digL_ge (by omega), hq]; congr 2
 refine ⟨hz, ?_, ?_⟩
 · have h1 : m.natAbs * 10 ^ k ≤ n.natAbs := by
     rcases hd with ⟨rfl, rfl, _⟩ | ⟨_, h, _⟩
     · omega
     · exact h
   rw [hq, Nat.pow_succ, Nat.mul_comm (10 ^ k) 10, ← Nat.mul_assoc]
   exact Nat.le_trans (Nat.mul_le_mul_right _ (Nat.div_mul_le_self _ _)) h1
 · rcases hd with ⟨_, rfl, rfl⟩ | ⟨_, _, h⟩
   · exact hm
   · rw [h, hm, List.append_assoc]; rfl
theorem putS_neg {n : Int} {l : List Int} (hn : n < 0) (h : digL n.natAbs = l) : putS n = strOfNums (45 :: l) := by
 unfold putS
 rw [putL_neg hn, show (-n).toNat = n.natAbs from by omega, h]
theorem putS_pos {n : Int} {l : List Int} (hn : 0 ≤ n) (h : digL n.natAbs = l) : putS n = strOfNums l := by
 unfold putS
 rw [putL_pos hn, show n.toNat = n.natAbs from by omega, h]
theorem tail_len {cs : Array Value} {f : Nat} {l : List Int} (h : TailIs cs f l) (hc : cs.size = 20) : l.length = 20 - f := by have := h.1; omega
theorem dPut_any (n : Int) (h1 : -9223372036854775808 ≤ n) (h2 : n ≤ 9223372036854775807) (w : World) : Calls Tryz.prog 109 #[.int .i64 n] w fun e w' => e = .returned (.string (putS n)) ∧ Below w.heap.size w w' := by
 go_enter Tryz.func109, Tryz.ntmps109
 go_wp2
 go_loopw [4, 5, 7] (fun f r i wr => ∃ (k : Nat) (m : Int) (ds : List Int) (cs : Array Value), k ≤ 18 ∧ i = .int .i64 k ∧ f = .int .i64 (20 - (k : Int)) ∧ r = .int .i64 m ∧ -9223372036854775808 ≤ m ∧ m ≤ 9223372036854775807 ∧ (k = 0 ∧ m = n ∧ ds = [] ∨ m ≠ 0 ∧ m.natAbs * 10 ^ k ≤ n.natAbs ∧ digL n.natAbs = digL m.natAbs ++ ds) ∧ cs.size = 20 ∧ TailIs cs (20 - k) ds ∧ Zb wr w.heap.size 212 cs ∧ Below w.heap.size w wr) (fun _ _ i _ => 20 - (intOf i).toNat)
 case atStart => exact ⟨0, n, [], _, by omega, rfl, rfl, rfl, h1, h2, .inl ⟨rfl, rfl, rfl⟩, rfl, ⟨rfl, fun j hj => by simp at hj⟩, Zb.made _ _ _, (Below.refl _ _).alloc (Nat.le_refl _) _⟩
 case round =>
   obtain ⟨k, m, ds, cs, hk, rfl, rfl, rfl, hm1, hm2, hd, hc, ht, hw, hb⟩ := hrel
   have hi : k < 20 := by omega
   have hcell : wr.cell? ⟨w.heap.size, 19 - k, none⟩ = some (cs[19 - k]'(by omega)) := by rw [hw.read, Array.getElem?_eq_getElem]
   have hfz := hw.thawed (19 - k)
   have i0 : (0 : Int) ≤ 20 - (k : Int) - 1 := by omega
   have i1 : (20 - (k : Int) - 1).toNat = 19 - k := by omega
   have HB := Hh hb
   have HW := Hh hw
   have HT := Hh ht
   have HD := Hh hd
   clear hb hw ht hd
   have hlast : ∀ x, Calls Tryz.prog 153 #[.int .i64 m] x fun e w' => e = .returned (.int .u8 (48 + ((m.natAbs % 10 : Nat) : Int))) ∧ x = w' := fun x => lastDigit_any m hm1 hm2 x
   have hq : (m.tdiv 10).natAbs = m.natAbs / 10 := Int.natAbs_tdiv m 10
   have t0 := HT.out
   rw [show 20 - k = 19 - k + 1 from by omega] at t0
   have T1 := Hh (t0.next (48 + (m.natAbs : Int) % 10))
   clear t0
   cases hz : (m.tdiv 10 == 0) with
   | true =>
     by_cases hn : n < 0
     · have hcell2 : wr.cell? ⟨w.heap.size, 19 - k - 1, none⟩ = some (cs[19 - k - 1]'(by omega)) := by rw [HW.out.read, Array.getElem?_eq_getElem]
       have hfz2 := HW.out.thawed (19 - k - 1)
       have hsl := slice20 w.heap.size (20 - (k : Int) - 1 - 1) (19 - k - 1) (by omega) (by omega) (by omega)
       have t1 := T1.out
       rw [show 19 - k = 19 - k - 1 + 1 from by omega] at t1
       have t2 := t1.next 45
       rw [show 19 - k - 1 + 1 = 19 - k from by omega] at t2
       have hcv := conv_tail (len := 20 - (19 - k - 1)) ((HW.out.write (19 - k) (.int .u8 (48 + (m.natAbs : Int) % 10))).write (19 - k - 1) (.int .u8 45)) t2 (by rw [tail_len t2 (by simp [hc])])
       clear t1 t2
       go_wp2_with (go_at_call 153; refine (hlast _).mono ?_; rintro e w' ⟨rfl, rfl⟩)
       go_ret
       refine ⟨?_, (HB.out.setCell (Nat.le_refl _) _).setCell (Nat.le_refl _) _⟩
       rw [putS_neg hn (put_done HD.out (by have := eq_of_beq hz; omega))]; rfl
     · have hsl := slice20 w.heap.size (20 - (k : Int) - 1) (19 - k) (by omega) (by omega) (by omega)
       have t1 := T1.out
       have hcv := conv_tail (len := 20 - (19 - k)) (HW.out.write (19 - k) (.int .u8 (48 + (m.natAbs : Int) % 10))) t1 (by rw [tail_len t1 (by simp [hc])])
       clear t1
       go_wp2_with (go_at_call 153; refine (hlast _).mono ?_; rintro e w' ⟨rfl, rfl⟩)
       go_ret
       refine ⟨?_, HB.out.setCell (Nat.le_refl _) _⟩
       rw [putS_pos (by omega) (put_done HD.out (by have := eq_of_beq hz; omega))]; rfl
   | false =>
     have hr := Hh (put_round HD.out hq (by intro c; rw [c] at hz; cases hz))
     have hk1 : k + 1 ≤ 18 := by
       apply Nat.le_of_not_lt
       intro c
       have : 10 ^ 19 ≤ 10 ^ (k + 1) := Nat.pow_le_pow_right (by omega) (by omega)
       have h0 : 1 ≤ (m.tdiv 10).natAbs := by have := hr.out.1; omega
       have := Nat.mul_le_mul h0 this
       have := hr.out.2.1
       omega
     go_wp2_with (go_at_call 153; refine (hlast _).mono ?_; rintro e w' ⟨rfl, rfl⟩)
     go_roundw
     case rel =>
       have t1 : TailIs (cs.setIfInBounds (19 - k) (.int .u8 (48 + (m.natAbs : Int) % 10))) (20 - (k + 1)) ((48 + (m.natAbs : Int) % 10) :: ds) := by
         rw [show 20 - (k + 1) = 19 - k from by omega]; exact T1.out
       exact ⟨k + 1, m.tdiv 10, _, _, hk1, by go_num, by go_num, rfl, by omega, by omega, .inr hr.out, by simp [hc], t1, HW.out.write _ _, HB.out.setCell (Nat.le_refl _) _⟩
     case measure => simp [intOf]; omega
end Go.Proofs.YtljdgdphldckhaaGreat
