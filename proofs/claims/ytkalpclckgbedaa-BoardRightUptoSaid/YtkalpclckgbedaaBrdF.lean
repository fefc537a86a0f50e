/-
  Package board: the cards in the lanes one by one, until a closure says enough; Find, List. Conditions: at most 1000 cards a row.
-/
import Derived.Test.YtkalpclckgbedaaBrdE
import Derived.Test.YtkalpclckgbedaaStAll
import Derived.Test.YtkalpclckgbedaaStSpoil
import Derived.WalkMore
namespace Go.Proofs.Ytkalpclckgbedaa
open Go.ChangeShapes Go.WideShapes Go.ChangeAt Go.RowKit
set_option linter.unusedVariables false
set_option linter.unusedSimpArgs false
set_option maxRecDepth 20000
set_option maxHeartbeats 3200000
def laneC (c : Sc) (r : Nat → Value) (i : Nat) : List Value := [.int .i64 (c.place i), .bool (c.opn i), r (2 * i), r (2 * i + 1)]
theorem stC_lanes (c : Sc) (r : Nat → Value) : ∃ pre post : List Value, stC c r = pre ++ (laneC c r 0 ++ laneC c r 1 ++ laneC c r 2) ++ post ∧ pre.length = 1 := ⟨[.int .i64 c.round], (stC c r).drop 13, rfl, rfl⟩
theorem bthenB {B : Nat} {a b c : World} (hB : B ≤ a.heap.size) (h : Below B a b) (k : Below b.heap.size b c) : Below B a c := h.trans (k.mono (Nat.le_trans hB h.size))
theorem ins_one (x : Ins) : ∀ v ∈ x.cells, v.oneCell' = true := by
  intro v hv
  simp only [Ins.cells, List.mem_cons, List.not_mem_nil, or_false] at hv
  rcases hv with rfl | rfl | rfl | rfl | rfl | rfl | rfl <;> rfl
theorem laneC_one (c : Sc) {r : Nat → Value} {L : Nat → List Ins} {B : Nat} {w : World} (h : ∀ x, Below B w x → Rows12 x r L) {i : Nat} (hi : i < 3) : ∀ v ∈ laneC c r i, v.oneCell' = true := by
  intro v hv
  have h1 := (h w (Below.refl _ _)).one
  simp only [laneC, List.mem_cons, List.not_mem_nil, or_false] at hv
  rcases hv with rfl | rfl | rfl | rfl
  · rfl
  · rfl
  · exact h1 _ (by omega)
  · exact h1 _ (by omega)
/-- each: I q n: all ahead of card n of row q has been seen; D: enough. -/
theorem pEach (c : Sc) (r : Nat → Value) (L : Nat → List Ins) (F : FuncId) (caps : Array Value) (B : Nat) (I : Nat → Nat → World → Prop) (D : World → Prop) (w : World)
    (hF : ∀ (args : Array Value) (w : World), (callFunc F args).run Try.prog w = .ok (.enter F args) w)
    (hR : ∀ x, Below B w x → Rows12 x r L) (hsz : ∀ q, q < 12 → (L q).length ≤ 9223372036854775807)
    (stab : ∀ q n x y, I q n x → Below x.heap.size x y → I q n y)
    (next : ∀ q x, q < 6 → I q (L q).length x → I (q + 1) 0 x)
    (call : ∀ i k n x (hi : i < 3) (hk : k < 2) (hn : n < (L (2 * i + k)).length), Below B w x → I (2 * i + k) n x → Calls Try.prog F (#[.int .i64 k, .int .i64 i, .int .i64 n, ((L (2 * i + k))[n]).vals] ++ caps) x fun e y => ∃ b, e = .returned (.bool b) ∧ Below B w y ∧ (b = false → I (2 * i + k) (n + 1) y) ∧ (b = true → D y))
    (h0 : I 0 0 w) (hB : B ≤ w.heap.size) :
    Calls Try.prog 33 #[stV c r, .func (.func F) #[] caps] w fun e y => e = .returned (.tuple #[]) ∧ Below B w y ∧ (I 6 0 y ∨ D y) := by
  have hv : stV c r = .agg (stC c r).toArray := rfl
  have X1 : Hid (Whole (w.alloc (.cells (stC c r).toArray 33)) w.heap.size 33 (stC c r).toArray) := Lib.hid (Whole.made w _ _)
  have I0 : Hid (I 0 0 (w.alloc (.cells (stC c r).toArray 33))) := Lib.hid (stab _ _ _ _ h0 ((Below.refl _ _).alloc (Nat.le_refl _) _))
  have B0 : Hid (Below B w (w.alloc (.cells (stC c r).toArray 33))) := Lib.hid ((Below.refl _ _).alloc hB _)
  have ROW := Lib.hid hR
  have HSZ := Lib.hid hsz
  have STAB := Lib.hid stab
  have NEXT := Lib.hid next
  have CALL := Lib.hid call
  have HFN := Lib.hid hF
  clear hR hsz stab next call h0 hF
  have HX : Hid (∀ i : Nat, i < 3 → ∀ w, (Instr.index 26 (.agg (laneC c r 0 ++ laneC c r 1 ++ laneC c r 2).toArray) (.int .i64 (i : Int))).run Try.prog w = .ok (.agg (laneC c r i).toArray) w) := Lib.hid fun i hi w => by
    match i, hi with
    | 0, _ => show _ = _; kernel_rfl
    | 1, _ => show _ = _; kernel_rfl
    | 2, _ => show _ = _; kernel_rfl
  have HX2 : Hid (∀ i k : Nat, i < 3 → k < 2 → ∀ w, (Instr.index 23 (.agg #[r (2 * i), r (2 * i + 1)]) (.int .i64 (k : Int))).run Try.prog w = .ok (r (2 * i + k)) w) := Lib.hid fun i k hi hk w => by
    match k, hk with
    | 0, _ => show _ = _; kernel_rfl
    | 1, _ => show _ = _; kernel_rfl
  have X1p : Hid (Whole (w.alloc (.cells (stC c r).toArray 33)) w.heap.size 33 ([Value.int .i64 c.round] ++ (laneC c r 0 ++ laneC c r 1 ++ laneC c r 2) ++ (stC c r).drop 13).toArray) := X1
  obtain ⟨LN, hLN⟩ : ∃ LN, laneC c r 0 ++ laneC c r 1 ++ laneC c r 2 = LN := ⟨_, rfl⟩
  have HLN : Hid (LN.length = 12) := Lib.hid (by rw [← hLN]; rfl)
  rw [hLN] at X1p HX
  rw [hv]
  clear hLN
  go_enter Try.func33, Try.ntmps33
  go_wp2
  go_step3
  go_wp2
  go_step3
  go_wp2_with ((with_reducible refine at_ld 11 ?_); refine wpList_loadP 26 (.tmp 10) 33 w.heap.size 1 [.int .i64 c.round] LN ((stC c r).drop 13) X1p.out rfl (by kernel_rfl) (by rw [HLN.out]; kernel_rfl) rfl rfl rfl ?_)
  clear X1 X1p
  go_loopw [12] (fun v wr => ∃ i : Nat, v = .int .i64 i ∧ i ≤ 3 ∧ I (2 * i) 0 wr ∧ Below B w wr) (fun v _ => 3 - (intOf v).toNat)
  case atStart => exact ⟨0, rfl, by omega, I0.out, B0.out⟩
  case round =>
    obtain ⟨i, rfl, hi, hF, hb⟩ := hrel
    have HF := Lib.hid hF
    have HB := Lib.hid hb
    clear hF hb
    by_cases hi3 : i < 3
    · have li : (i : Int) < 3 := by omega
      have hx := HX.out i hi3
      have HLL : Hid ((laneC c r i).length = 4) := Lib.hid rfl
      have HL1 : Hid (∀ v ∈ laneC c r i, v.oneCell' = true) := Lib.hid (laneC_one c ROW.out hi3)
      have LW : Hid (∀ x, Whole x wr.heap.size 25 (laneC c r i).toArray → Whole x wr.heap.size 25 ([Value.int .i64 (c.place i), .bool (c.opn i)] ++ [r (2 * i), r (2 * i + 1)] ++ []).toArray) := Lib.hid fun x h => h
      generalize laneC c r i = LA at *
      go_wp2_with (first
        | ((with_reducible refine at_st 5 15 ?_); refine wpList_storeW 25 (.tmp 5) (.tmp 15) 25 wr.heap.size [.int .i64 0, .bool false, .slice none 0 0, .slice none 0 0] LA (Whole.made wr _ _) HLL.out (by rw [HLL.out]; kernel_rfl) HL1.out rfl rfl rfl rfl rfl ?_; intro w9 p9; have P9 := Lib.hid p9; clear p9)
        | ((with_reducible refine at_ld 17 ?_); refine wpList_loadP 23 (.tmp 16) 25 wr.heap.size 2 [.int .i64 (c.place i), .bool (c.opn i)] [r (2 * i), r (2 * i + 1)] [] (LW.out _ P9.out.whole) rfl (by kernel_rfl) (by kernel_rfl) rfl rfl rfl ?_))
      have b9 : Below wr.heap.size wr w9 := ((Below.refl _ _).alloc (Nat.le_refl _) _).trans (P9.out.keeps.below (by simp) (fun k h => by have h3 : k = wr.heap.size := h; omega))
      have I9 := Lib.hid (STAB.out _ _ _ _ HF.out b9)
      have B9 := Lib.hid (bthenB hB HB.out b9)
      clear b9 P9 HLL HL1 LW hx
      go_loopw [18] (fun v wr => ∃ k : Nat, v = .int .i64 k ∧ k ≤ 2 ∧ I (2 * i + k) 0 wr ∧ Below B w wr) (fun v _ => 2 - (intOf v).toNat)
      case atStart => exact ⟨0, rfl, by omega, I9.out, B9.out⟩
      case round =>
        obtain ⟨k, rfl, hk, hF, hb⟩ := hrel
        have JF := Lib.hid hF
        have JB := Lib.hid hb
        clear hF hb
        by_cases hk2 : k < 2
        · have lk : (k : Int) < 2 := by omega
          have hy := HX2.out i k hi3 hk2
          obtain ⟨q, hq⟩ : ∃ q, 2 * i + k = q := ⟨_, rfl⟩
          have hq6 : q < 6 := by omega
          obtain ⟨A, cp, e, _, _, _, hml⟩ := ROW.out _ JB.out q (by omega)
          have HC : Hid (∀ n x (hn : n < (L q).length), Below B w x → I q n x → Calls Try.prog F (#[.int .i64 k, .int .i64 i, .int .i64 n, ((L q)[n]).vals] ++ caps) x fun e y => ∃ b, e = .returned (.bool b) ∧ Below B w y ∧ (b = false → I q (n + 1) y) ∧ (b = true → D y)) := Lib.hid fun n x hn => by
            subst hq
            exact CALL.out i k n x hi3 hk2 hn
          have HN1 : Hid (∀ x, I q (L q).length x → I (2 * i + (k + 1)) 0 x) := Lib.hid fun x h => by
            have h2 := NEXT.out q x hq6 h
            rw [← hq] at h2
            exact h2
          rw [hq] at JF hy
          rw [e] at hy
          have hlq := HSZ.out q (by omega)
          have RQ : Hid (∀ x, Below B w x → Reads x A (insC (L q))) := Lib.hid fun x hx => by
            obtain ⟨A', cp', e', hr, _⟩ := ROW.out x hx q (by omega)
            rw [e] at e'
            injection e' with e1 _ _
            rw [e1]; exact hr
          clear hq e hml
          obtain ⟨N, hN⟩ : ∃ N, (L q).length = N := ⟨_, rfl⟩
          have HNN := Lib.hid hN
          rw [hN] at hy hlq HN1
          clear hN
          go_wp2
          go_loopw [24] (fun v wr => ∃ n : Nat, v = .int .i64 n ∧ n ≤ N ∧ I q n wr ∧ Below B w wr) (fun v _ => N - (intOf v).toNat)
          case atStart => exact ⟨0, rfl, by omega, JF.out, JB.out⟩
          case round =>
            obtain ⟨n, rfl, hn, hF, hb⟩ := hrel
            have KF := Lib.hid hF
            have KB := Lib.hid hb
            clear hF hb
            by_cases hnN : n < N
            · have ln : (n : Int) < (N : Int) := by omega
              have hnq : n < (L q).length := by rw [HNN.out]; exact hnN
              obtain ⟨g, off, rfl, hg, hc⟩ := row_lit (RQ.out _ KB.out) (by omega)
              obtain ⟨p0, p1, p2, p3, p4, p5, p6⟩ := hc n hnq
              have HCN : Hid (∀ x, Below B w x → I q n x → Calls Try.prog F (#[.int .i64 k, .int .i64 i, .int .i64 n, .agg ((L q)[n]).cells.toArray] ++ caps) x fun e y => ∃ b, e = .returned (.bool b) ∧ Below B w y ∧ (b = false → I q (n + 1) y) ∧ (b = true → D y)) := Lib.hid fun x => HC.out n x hnq
              clear hc
              generalize (L q)[n] = X at *
              go_wp2_with (first
                | ((with_reducible refine at_st 9 28 ?_); refine wpList_storeW 50 (.tmp 9) (.tmp 28) 50 _ [.int .i64 0, .int .i64 0, .string ByteArray.empty, .int .i64 0, .int .i64 0, .int .i64 0, .int .i64 0] X.cells (Whole.made _ _ _) rfl (by kernel_rfl) (ins_one X) rfl rfl rfl rfl rfl ?_; intro w8 p8; have P8 := Lib.hid p8; clear p8)
                | ((with_reducible refine at_ld 33 ?_); refine wpList_loadW 50 (.tmp 9) 50 _ X.cells P8.out.whole (by kernel_rfl) (by kernel_rfl) rfl rfl rfl ?_)
                | (rw [HFN.out, Oper.upon_enter]
                   have b8 : Below wr.heap.size wr w8 := ((Below.refl _ _).alloc (Nat.le_refl _) _).trans (P8.out.keeps.below (by simp) (fun k h => by have h3 : k = wr.heap.size := h; omega))
                   refine (HCN.out w8 (bthenB hB KB.out b8) (STAB.out _ _ _ _ KF.out b8)).mono ?_
                   rintro e w5 ⟨bb, rfl, b5, h5, h6⟩
                   have B5 := Lib.hid b5
                   have H5 := Lib.hid h5
                   have H6 := Lib.hid h6
                   clear b8 b5 h5 h6))
              · rw [Exit.noGoto_normal]
                go_end0
                exact ⟨rfl, B5.out, .inr (H6.out (by assumption))⟩
              · exact ⟨⟨n + 1, by go_num, by omega, H5.out (by assumption), B5.out⟩, by simp [intOf]; omega⟩
            · have e : n = N := by omega
              subst e
              have ln : ¬ (n : Int) < (n : Int) := by omega
              have h2 := HN1.out _ KF.out
              have H2 := Lib.hid h2
              clear h2
              go_wp2
              go_roundw
              case rel => exact ⟨k + 1, by go_num, by omega, H2.out, KB.out⟩
              case measure => simp [intOf]; omega
        · have e6 : 2 * i + k = 2 * (i + 1) := by omega
          have lk : ¬ (k : Int) < 2 := by omega
          rw [e6] at JF
          clear e6
          go_wp2
          go_roundw
          case rel => exact ⟨i + 1, by go_num, by omega, JF.out, JB.out⟩
          case measure => simp [intOf]; omega
    · have e6 : 2 * i = 6 := by omega
      have li : ¬ (i : Int) < 3 := by omega
      rw [e6] at HF
      clear e6
      go_wp2
      go_end0
      exact ⟨rfl, HB.out, .inl HF.out⟩
end Go.Proofs.Ytkalpclckgbedaa
