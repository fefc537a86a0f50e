/-
  The law WireWrites: it returns true for every input and writes nothing that was there. No conditions.
-/
import Derived.Test.YtnflahkpccfhaaaWireR3
import Derived.Test.YtnflahkpccfhaaaWireRef3
import Derived.Test.YtnflahkpccfhaaaWireActs
namespace Go.Proofs.Ytnflahkpccfhaaa
open Go.ChangeShapes Go.WideShapes Go.ChangeAt Go.RowKit
set_option linter.unusedVariables false
set_option linter.unusedSimpArgs false
/-- What stands in a round of the loop. -/
structure WRound (w : World) (q : Int × List Int) (v : Value) (x : World) : Prop where
  at_ : WAt x (w.heap.size + 2) w.heap.size q v
  ref : Whole x (w.heap.size + 1) 26 #[.string (strOfNums q.2), .int .i64 q.1]
  below : Below w.heap.size w x
/-- In the middle of a round: the writer is at q', the document's at q, the act lies in block ha. -/
structure WMid (w : World) (q q' : Int × List Int) (v : Value) (ha : Nat) (cs : Array Value) (x : World) : Prop where
  at_ : WAt x (w.heap.size + 2) w.heap.size q' v
  ref : Whole x (w.heap.size + 1) 26 #[.string (strOfNums q.2), .int .i64 q.1]
  act : Whole x ha 28 cs
  below : Below w.heap.size w x
  far : v.ownBlock ≠ some ha
  past : w.heap.size + 2 ≤ ha
theorem WAt.keeps {w w' : World} {B g : Nat} {q : Int × List Int} {v : Value} (h : WAt w B g q v) {S : Nat → Prop} (hk : Keeps S w w') (hg : ¬ S g) (hr : ∀ k, v.ownBlock = some k → ¬ S k) : WAt w' B g q v :=
  ⟨hk.whole h.whole hg, hk.owns h.row hr, h.by_, h.lo, Nat.le_trans h.hi hk.size⟩
theorem WRound.start (w : World) : WRound w (0, []) (.slice none 0 0) ((w.alloc (.cells #[.bool true, .int .i64 0, .slice none 0 0] 64)).alloc (.cells #[.string { data := #[] }, .int .i64 0] 26)) := by
  have t := Two.start w 64 #[.bool true, .int .i64 0, .slice none 0 0] 26 #[.string { data := #[] }, .int .i64 0]
  have e : strOfNums [] = { data := #[] } := by decide +kernel
  exact ⟨⟨t.k0, World.ownsRow_nil _ _ _ _, by simp, by omega, by simp⟩, by rw [e]; exact t.k1, t.below⟩
theorem WMid.start {w x : World} {q : Int × List Int} {v : Value} (h : WRound w q v x) (cs : Array Value) : WMid w q q v x.heap.size cs (x.alloc (.cells cs 28)) := by
  have b := below_more (Below.refl _ x) (.cells cs 28)
  refine ⟨h.at_.below b, h.ref.below b h.ref.inside, Whole.made _ _ _, h.below.alloc h.below.size _, fun c => ?_, h.at_.hi⟩
  have := (h.at_.row.lt _ c).2
  omega
theorem WMid.step {w x y : World} {q q1 q2 : Int × List Int} {v v' : Value} {ha : Nat} {cs : Array Value} (h : WMid w q q1 v ha cs x) (ha2 : WAt y (w.heap.size + 2) w.heap.size q2 v') (hs : WStep w.heap.size v x v' y) : WMid w q q2 v' ha cs y := by
  refine ⟨ha2, hs.keeps.whole h.ref ?_, hs.keeps.whole h.act ?_, h.below.trans (hs.keeps.below h.below.size ?_), fun c => ?_, h.past⟩
  · rintro (c | c)
    · omega
    · exact h.at_.not_row (w.heap.size + 1) (by omega) c
  · rintro (c | c)
    · have := h.past; omega
    · exact h.far c
  · rintro k (c | c)
    · omega
    · have := h.at_.rowAt k c; omega
  · rcases hs.fresh ha c with c | c
    · exact h.far c
    · have := h.act.inside; omega
theorem WMid.next {w x y : World} {q q1 : Int × List Int} {v : Value} {ha : Nat} {cs : Array Value} (h : WMid w q q1 v ha cs x) (hb : Below x.heap.size x y) : WMid w q q1 v ha cs y :=
  ⟨h.at_.below hb, h.ref.below hb h.ref.inside, h.act.below hb h.act.inside, h.below.trans (hb.mono h.below.size), h.far, h.past⟩
theorem WMid.drew {w x : World} {q q1 : Int × List Int} {v : Value} {ha : Nat} {cs : Array Value} (h : WMid w q q1 v ha cs x) : WMid w q q1 v ha cs x.drew :=
  ⟨⟨h.at_.whole, h.at_.row, h.at_.by_, h.at_.lo, h.at_.hi⟩, h.ref, h.act, h.below.drew, h.far, h.past⟩
theorem WMid.done {w x : World} {q q1 : Int × List Int} {v : Value} {ha : Nat} {cs : Array Value} (h : WMid w q q1 v ha cs x) :
    WRound w q1 v ((x.setCell ⟨w.heap.size + 1, 0, none⟩ (.string (strOfNums q1.2))).setCell ⟨w.heap.size + 1, 1, none⟩ (.int .i64 q1.1)) := by
  have k : Keeps (fun k => k = w.heap.size + 1) x ((x.setCell ⟨w.heap.size + 1, 0, none⟩ (.string (strOfNums q1.2))).setCell ⟨w.heap.size + 1, 1, none⟩ (.int .i64 q1.1)) :=
    Keeps.setCell (S := fun k => k = w.heap.size + 1) (Keeps.setCell (S := fun k => k = w.heap.size + 1) (Keeps.refl _ _) rfl _) rfl _
  refine ⟨h.at_.keeps k (by omega) (fun j hj c => ?_), (h.ref.write 0 _).write 1 _, (h.below.setCell (Nat.le_succ _) _).setCell (Nat.le_succ _) _⟩
  subst c
  exact h.at_.not_row _ (by omega) hj
set_option maxRecDepth 20000 in
set_option maxHeartbeats 1600000 in
theorem walk_WireWrites {H : Type} {enc : TypeId × Value → H} {base : Nat} {d : DataW H} {p : List MemPlace} (v : Value) (w : World) (ok : Value.okWide Try.prog w .any base 22 v)
    (h : DataW.Trod enc Try.prog w 0 (fun _ => true) true 22 v d p) :
    Calls Try.prog 3 #[v] w fun e w' => e = .returned (.bool true) ∧ Below w.heap.size w w' := by
  obtain ⟨A, len, cap, f, rfl, hacts⟩ := open_acts ok h
  clear ok h
  have AC := Lib.hid hacts
  clear hacts
  by_cases h60 : 60 < len
  · go_enter Try.func3, Try.ntmps3
    go_wp2_with (first
      | (go_at_call 7; refine (Write_any _).mono ?_; rintro e w1 ⟨rfl, rfl⟩))
    go_ret
    exact ⟨rfl, below_more (Below.refl _ _) _⟩
  · have l60 : len ≤ 60 := by omega
    have R0 := Lib.hid (WRound.start w)
    go_enter Try.func3, Try.ntmps3
    go_wp2_with (first
      | (go_at_call 7; refine (Write_any _).mono ?_; rintro e w1 ⟨rfl, rfl⟩))
    go_loopw [5] (fun i wr => ∃ (k : Nat) (q : Int × List Int) (u : Value), i = .int .i64 k ∧ k ≤ len ∧ q.2.length ≤ 400 * k ∧ WRound w q u wr) (fun i _ => len - (intOf i).toNat)
    case atStart => exact ⟨0, (0, []), _, rfl, by omega, by simp, R0.out⟩
    case round =>
      obtain ⟨k, q, u, rfl, hk, hq, hr⟩ := hrel
      have RR := Lib.hid hr
      clear hr
      by_cases hkl : k < len
      · obtain ⟨x, rfl, hx, x0, x1, x2, x3, x4, hwf⟩ := AC.out.get hkl RR.out.below
        obtain ⟨wk, wn, wa, wb, ws⟩ := hwf
        generalize f k = y at *
        obtain ⟨ak, an, aa, ab, st⟩ := y
        simp only at x0 x1 x2 x3 x4 wk wn wa wb ws
        have M0 := Lib.hid (WMid.start RR.out #[.int .i64 ak, .int .i64 an, .int .i64 aa, .int .i64 ab, .string st])
        unfold maxLen at ws
        obtain ⟨n1, n2⟩ := bounds_i64 wn
        have hl : decide ((k : Int) < len) = true := by simp [hkl]
        clear wk wn wa wb
        by_cases h300 : 300 < st.size
        · go_wp2_with (first
            | (go_at_call 8; refine (lives_any _).mono ?_; rintro e w1 ⟨rfl, b1⟩))
          go_ret
          exact ⟨rfl, (M0.out.next b1).below⟩
        · have hst : st.size ≤ 300 := by omega
          by_cases h0 : ak = 0
          · subst h0
            have hq1 : q.2.length ≤ 1000000 := by omega
            have hml := bytesL_len an
            have hmb := Lib.hid (bytesL_by an)
            have cW := fun x h => Num_any x (w.heap.size + 2) w.heap.size q u h an n1 n2 hq1
            have cB := rBytes_any an n1 n2
            unfold bytesS at cB
            have cP := rPut_any q (bytesL an) hmb.out hq1 (by omega)
            have hlen := wput_len q (bytesL an)
            generalize bytesL an = m at *
            generalize hqq : wput q m = q1 at *
            clear hqq hmb
            unfold wV at cP
            go_wp2_with (first
              | (go_at_call 9; refine (cW _ M0.out.at_).mono ?_; rintro e w1 ⟨rfl, u1, h1, s1⟩
                 have m1 := M0.out.step h1 s1
                 have M1 := Lib.hid m1
                 obtain ⟨c0, c1, _, _⟩ := whole2 m1.ref
                 obtain ⟨_, a1, _, _, _⟩ := whole5 m1.act
                 clear h1 s1 m1))
            go_region_with (first
              | (go_at_call 11; (with_reducible refine (cB _).mono ?_); rintro e w2 ⟨rfl, b2⟩
                 have m2 := (WMid.drew M1.out).next b2
                 have M2 := Lib.hid m2
                 obtain ⟨c2, c3, _, _⟩ := whole2 m2.ref
                 clear b2 m2)
              | (go_at_call 10; (with_reducible refine (cP _).mono ?_); rintro e w3 ⟨rfl, b3⟩
                 have m3 := M2.out.next b3
                 have M3 := Lib.hid m3
                 obtain ⟨c4, c5, z4, z5⟩ := whole2 m3.ref
                 clear b3 m3))
            all_goals
              have D := Lib.hid M3.out.done
              go_wp2
              go_roundw
              case rel => exact ⟨k + 1, q1, u1, by go_num, by omega, by omega, D.out⟩
              case measure => simp [intOf]; omega
          · by_cases h1 : ak = 1
            · subst h1
              have hq1 : q.2.length ≤ 1000000 := by omega
              have hml := signedL_len an
              have hmb := Lib.hid (signedL_by an)
              have cW := fun x h => Signed_any x (w.heap.size + 2) w.heap.size q u h an n1 n2 hq1
              have cB := rSigned_any an n1 n2
              unfold signedS at cB
              have cP := rPut_any q (signedL an) hmb.out hq1 (by omega)
              have hlen := wput_len q (signedL an)
              generalize signedL an = m at *
              generalize hqq : wput q m = q1 at *
              clear hqq hmb
              unfold wV at cP
              go_wp2_with (first
                | (go_at_call 12; refine (cW _ M0.out.at_).mono ?_; rintro e w1 ⟨rfl, u1, h1, s1⟩
                   have m1 := M0.out.step h1 s1
                   have M1 := Lib.hid m1
                   obtain ⟨c0, c1, _, _⟩ := whole2 m1.ref
                   obtain ⟨_, a1, _, _, _⟩ := whole5 m1.act
                   clear h1 s1 m1))
              go_region_with (first
                | (go_at_call 13; (with_reducible refine (cB _).mono ?_); rintro e w2 ⟨rfl, b2⟩
                   have m2 := (WMid.drew M1.out).next b2
                   have M2 := Lib.hid m2
                   obtain ⟨c2, c3, _, _⟩ := whole2 m2.ref
                   clear b2 m2)
                | (go_at_call 10; (with_reducible refine (cP _).mono ?_); rintro e w3 ⟨rfl, b3⟩
                   have m3 := M2.out.next b3
                   have M3 := Lib.hid m3
                   obtain ⟨c4, c5, z4, z5⟩ := whole2 m3.ref
                   clear b3 m3))
              all_goals
                have D := Lib.hid M3.out.done
                go_wp2
                go_roundw
                case rel => exact ⟨k + 1, q1, u1, by go_num, by omega, by omega, D.out⟩
                case measure => simp [intOf]; omega
            · by_cases h2 : ak = 2
              · subst h2
                by_cases hp : 0 < an
                · have hp2 : decide (0 < an) = true := by simp [hp]
                  have hq1 : q.2.length ≤ 1000000 := by omega
                  have cW := fun x h => Bool_any x (w.heap.size + 2) w.heap.size q u h true hq1
                  rw [show (if true then (1 : Int) else 0) = 1 from rfl] at cW
                  have cP := rPut_any q [1] (by simp) hq1 (by simp)
                  rw [show strOfNums [1] = { data := #[1] } by decide +kernel] at cP
                  have hlen := wput_len q [1]
                  simp only [List.length_singleton] at hlen
                  generalize hqq : wput q [1] = q1 at *
                  clear hqq
                  unfold wV at cP
                  go_wp2_with (first
                    | (go_at_call 14; refine (cW _ M0.out.at_).mono ?_; rintro e w1 ⟨rfl, u1, h1, s1⟩
                       have m1 := M0.out.step h1 s1
                       have M1 := Lib.hid m1
                       obtain ⟨c0, c1, _, _⟩ := whole2 m1.ref
                       obtain ⟨_, a1, _, _, _⟩ := whole5 m1.act
                       clear h1 s1 m1)
                    | (go_at_call 10; refine (cP _).mono ?_; rintro e w3 ⟨rfl, b3⟩
                       have m3 := M1.out.next b3
                       have M3 := Lib.hid m3
                       obtain ⟨c4, c5, z4, z5⟩ := whole2 m3.ref
                       clear b3 m3))
                  have D := Lib.hid M3.out.done
                  go_roundw
                  case rel => exact ⟨k + 1, q1, u1, by go_num, by omega, by omega, D.out⟩
                  case measure => simp [intOf]; omega
                · have hp2 : decide (0 < an) = false := by simp; omega
                  have hq1 : q.2.length ≤ 1000000 := by omega
                  have cW := fun x h => Bool_any x (w.heap.size + 2) w.heap.size q u h false hq1
                  rw [show (if false then (1 : Int) else 0) = 0 from rfl] at cW
                  have cP := rPut_any q [0] (by simp) hq1 (by simp)
                  rw [show strOfNums [0] = { data := #[0] } by decide +kernel] at cP
                  have hlen := wput_len q [0]
                  simp only [List.length_singleton] at hlen
                  generalize hqq : wput q [0] = q1 at *
                  clear hqq
                  unfold wV at cP
                  go_wp2_with (first
                    | (go_at_call 14; refine (cW _ M0.out.at_).mono ?_; rintro e w1 ⟨rfl, u1, h1, s1⟩
                       have m1 := M0.out.step h1 s1
                       have M1 := Lib.hid m1
                       obtain ⟨c0, c1, _, _⟩ := whole2 m1.ref
                       obtain ⟨_, a1, _, _, _⟩ := whole5 m1.act
                       clear h1 s1 m1)
                    | (go_at_call 10; refine (cP _).mono ?_; rintro e w3 ⟨rfl, b3⟩
                       have m3 := M1.out.next b3
                       have M3 := Lib.hid m3
                       obtain ⟨c4, c5, z4, z5⟩ := whole2 m3.ref
                       clear b3 m3))
                  have D := Lib.hid M3.out.done
                  go_roundw
                  case rel => exact ⟨k + 1, q1, u1, by go_num, by omega, by omega, D.out⟩
                  case measure => simp [intOf]; omega
              · skip
                have hq1 : q.2.length ≤ 1000000 := by omega
                have hsl := bL_length st
                have cW := fun x h => Text_any x (w.heap.size + 2) w.heap.size q u h (bL st) (bL_bd st) (by omega) hq1
                have cP := rText5_any q (bL st) (bL_bd st) hq1 (by omega)
                rw [str_bL] at cW cP
                have hlen := wtext_len q (bL st)
                generalize hqq : wtext q (bL st) = q1 at *
                clear hqq
                rw [hsl] at hlen
                unfold wV at cP
                have K0 : (ak == 0) = false := by rw [beq_eq_false_iff_ne]; exact h0
                have K1 : (ak == 1) = false := by rw [beq_eq_false_iff_ne]; exact h1
                have K2 : (ak == 2) = false := by rw [beq_eq_false_iff_ne]; exact h2
                go_wp2_with (first
                  | (go_at_call 15; refine (cW _ M0.out.at_).mono ?_; rintro e w1 ⟨rfl, u1, h1, s1⟩
                     have m1 := M0.out.step h1 s1
                     have M1 := Lib.hid m1
                     obtain ⟨c0, c1, _, _⟩ := whole2 m1.ref
                     obtain ⟨_, _, _, _, a4⟩ := whole5 m1.act
                     clear h1 s1 m1)
                  | (go_at_call 16; refine (cP _).mono ?_; rintro e w3 ⟨rfl, b3⟩
                     have m3 := M1.out.next b3
                     have M3 := Lib.hid m3
                     obtain ⟨c4, c5, z4, z5⟩ := whole2 m3.ref
                     clear b3 m3))
                have D := Lib.hid M3.out.done
                go_roundw
                case rel => exact ⟨k + 1, q1, u1, by go_num, by omega, by omega, D.out⟩
                case measure => simp [intOf]; omega
      · skip
        have hl2 : decide ((k : Int) < len) = false := by simp; omega
        have cE := fun x h => End_any x (w.heap.size + 2) w.heap.size q u h
        obtain ⟨E, l⟩ := q
        simp only at cE
        have hW := RR.out.at_
        obtain ⟨c0, c1, _, _⟩ := whole2 RR.out.ref
        by_cases hE : E = 0
        · subst hE
          rw [show wendS ((0 : Int), l) = strOfNums l from if_pos rfl] at cE
          go_wp2_with (first
            | (go_at_call 17; refine (cE _ hW).mono ?_; rintro e w1 ⟨rfl, b1⟩
               obtain ⟨d0, d1, _, _⟩ := whole2 (RR.out.ref.below b1 RR.out.ref.inside)
               have B1 := Lib.hid (RR.out.below.trans (b1.mono RR.out.below.size))
               clear b1)
            | (go_at_call 8; refine (lives_any _).mono ?_; rintro e w2 ⟨rfl, b2⟩))
          go_ret
          exact ⟨rfl, B1.out.trans (b2.mono B1.out.size)⟩
        · have hE2 : (E != 0) = true := by rw [bne_iff_ne]; exact hE
          rw [show wendS (E, l) = { data := #[] } from if_neg hE] at cE
          go_wp2_with (first
            | (go_at_call 17; refine (cE _ hW).mono ?_; rintro e w1 ⟨rfl, b1⟩
               obtain ⟨d0, d1, _, _⟩ := whole2 (RR.out.ref.below b1 RR.out.ref.inside)
               have B1 := Lib.hid (RR.out.below.trans (b1.mono RR.out.below.size))
               clear b1)
            | (go_at_call 8; refine (lives_any _).mono ?_; rintro e w2 ⟨rfl, b2⟩))
          go_ret
          exact ⟨rfl, B1.out.trans (b2.mono B1.out.size)⟩
end Go.Proofs.Ytnflahkpccfhaaa
