/-
  CursorEnds: true for every input, and it writes nothing that was there. No conditions.
-/
import Derived.Test.YtnlnkjjegaihcaaCurLaws
namespace Go.Proofs.Ytnlnkjjegaihcaa
open Go.ChangeShapes Go.WideShapes Go.ChangeAt Go.RowKit
set_option linter.unusedVariables false
set_option linter.unusedSimpArgs false
theorem Moved.out {w0 w x : World} {p r K : Nat} {L : List TokV} {a d : Nat} (m : Moved w x p r K L a d) (hb : Below w0.heap.size w0 w) (hp : w0.heap.size ≤ p) : Below w0.heap.size w0 x :=
  hb.trans (m.keeps.below hb.size fun k hk => by rw [hk]; exact hp)
theorem okA : faultV okF = .agg #[.int .i64 0, .int .i64 0, .int .i64 0] := rfl
theorem cDown_full (w : World) (p r K : Nat) (L : List TokV) (a : Nat) (h : CurAt w p r K L a 8) :
    Calls Try.prog 24 #[.pointer (some ⟨p, 0, none⟩)] w (CPost w p r K L a 8 (.agg #[.int .i64 8, .int .i64 ((curT L a).line : Int), .int .i64 ((curT L a).col : Int)])) := cDown w p r K L a 8 h
theorem cDown_more (w : World) (p r K : Nat) (L : List TokV) (a d : Nat) (hd : d < 8) (h : CurAt w p r K L a d) :
    Calls Try.prog 24 #[.pointer (some ⟨p, 0, none⟩)] w (CPost w p r K L a (d + 1) (.agg #[.int .i64 0, .int .i64 0, .int .i64 0])) := by
  have := cDown w p r K L a d h
  have e1 : downD d = d + 1 := by unfold downD; rw [if_neg (by omega)]
  have e2 : downF L a d = okF := by unfold downF; rw [if_neg (by omega)]
  rw [e1, e2] at this
  exact this
theorem cWrongE (w : World) (p r K : Nat) (L : List TokV) (a d : Nat) (h : CurAt w p r K L a d) (hw : wrF (curT L a) = (2, (curT L a).line, (curT L a).col)) :
    Calls Try.prog 15 #[.pointer (some ⟨p, 0, none⟩)] w fun e w' => e = .returned (.agg #[.int .i64 2, .int .i64 ((curT L a).line : Int), .int .i64 ((curT L a).col : Int)]) ∧ Below w.heap.size w w' := by
  have := cWrong w _ _ _ _ _ _ _ h.look
  rw [hw] at this
  exact this
set_option maxHeartbeats 6400000 in
set_option maxRecDepth 100000 in
theorem walk_CursorEnds (s : ByteArray) (n : Int) (w : World) (ws : s.size ≤ maxLen) (wn : (Lit.int .i64 n).wf = true) :
    Calls Try.prog 5 #[.string s, .int .i64 n] w fun e w' => e = .returned (.bool true) ∧ Below w.heap.size w w' := by
  unfold maxLen at ws
  by_cases hz : 2000 < s.size
  · have l0 : 2000 < (s.size : Int) := by omega
    clear wn
    go_enter Try.func5, Try.ntmps5
    go_wp2_with (go_at_call 6; refine (lives10 _).mono ?_; rintro e w1 ⟨rfl, hb1⟩)
    go_ret
    exact ⟨rfl, hb1⟩
  · have l0 : (s.size : Int) ≤ 2000 := by omega
    have l0d : decide (2000 < (s.size : Int)) = false := by simp; omega
    by_cases hn0 : n < 0
    · clear wn
      go_enter Try.func5, Try.ntmps5
      go_wp2_with (go_at_call 6; refine (lives10 _).mono ?_; rintro e w1 ⟨rfl, hb1⟩)
      go_ret
      exact ⟨rfl, hb1⟩
    · by_cases hn1 : 20 < n
      · have hn2 : 0 ≤ n := by omega
        clear wn hn0
        go_enter Try.func5, Try.ntmps5
        go_wp2_with (go_at_call 6; refine (lives10 _).mono ?_; rintro e w1 ⟨rfl, hb1⟩)
        go_ret
        exact ⟨rfl, hb1⟩
      · obtain ⟨N, rfl⟩ : ∃ N : Nat, n = (N : Int) := ⟨n.toNat, by omega⟩
        have n0 : (0 : Int) ≤ (N : Int) := by omega
        have n20 : (N : Int) ≤ 20 := by omega
        have nd0 : decide ((N : Int) < 0) = false := by simp
        have nd1 : decide ((20 : Int) < (N : Int)) = false := by simp; omega
        clear hn0 hn1 wn
        rcases scan_cases s (by omega) with ⟨E, l, c, hv, hE⟩ | ⟨L, hv, hL, hlen⟩
        · have hn := cNew_err s w (by omega) E l c hv hE
          have q0 : (E != 0) = true := by rw [bne_iff_ne]; exact hE
          clear hv hE hz
          go_enter Try.func5, Try.ntmps5
          go_wp2_with (first
            | (go_at_call 7; refine hn.mono ?_; rintro e w1 ⟨rfl, b1⟩; have B1 := Lib.hid b1; clear b1; simp only [faultV])
            | (go_at_call 6; refine (lives10 _).mono ?_; rintro e w2 ⟨rfl, b2⟩))
          go_ret
          exact ⟨rfl, bthen (bthen B1.out (new_block _ _)) b2⟩
        · have hn := cNew_ok s w (by omega) L hv hL
          have HN := Lib.hid hlen
          clear hv hz hL hlen
          go_enter Try.func5, Try.ntmps5
          go_wp2_with (go_at_call 7; refine hn.mono ?_; rintro e w1 ⟨p, r, K, rfl, cu, hp, hr, b1⟩; have C1 := Lib.hid (cu.below (new_block w1 (.cells #[.int .i64 0, .int .i64 0, .int .i64 0] 27))); have B1 := Lib.hid (bthen b1 (new_block w1 (.cells #[.int .i64 0, .int .i64 0, .int .i64 0] 27))); have HP := Lib.hid hp; clear cu b1 hp hr; simp only [okA])
          go_loopw [7, 8] (fun k i wr => ∃ j d : Nat, i = .int .i64 (j : Int) ∧ j ≤ N ∧ k = .int .i64 (d : Int) ∧ d = min j 8 ∧ Moved (w1.alloc (.cells #[.int .i64 0, .int .i64 0, .int .i64 0] 27)) wr p r K L 0 d) (fun _ i _ => N - (intOf i).toNat)
          case atStart => exact ⟨0, 0, rfl, by omega, rfl, rfl, Moved.start C1.out⟩
          case round =>
            obtain ⟨j, d, rfl, hj, rfl, hd, hm⟩ := hrel
            have M := Lib.hid hm
            clear hm
            by_cases hjn : j < N
            · have l1 : (j : Int) < (N : Int) := by omega
              by_cases h8 : d = 8
              · subst h8
                have hfd := fun w => fault_field 8 ((curT L 0).line : Int) ((curT L 0).col : Int) w
                have HD := Lib.hid hd
                clear hd
                go_wp2_with (go_at_call 24; refine (cDown_full _ _ _ _ _ _ M.out.at_).mono ?_; rintro e w2 ⟨rfl, m2⟩; have M2 := Lib.hid (M.out.then m2); clear m2)
                go_roundw
                case rel => exact ⟨j + 1, 8, by go_num, by omega, rfl, by have := HD.out; omega, M2.out⟩
                case measure => simp [intOf]; omega
              · have hfd := fun w => fault_field 0 0 0 w
                have hd7 : d < 8 := by omega
                have d0 : (d : Int) ≤ 7 := by omega
                have HD := Lib.hid hd
                clear hd h8
                go_wp2_with (go_at_call 24; refine (cDown_more _ _ _ _ _ _ d hd7 M.out.at_).mono ?_; rintro e w2 ⟨rfl, m2⟩; have M2 := Lib.hid (M.out.then m2); clear m2)
                go_roundw
                case rel => exact ⟨j + 1, d + 1, by go_num, by omega, by go_num, by have := HD.out; omega, M2.out⟩
                case measure => simp [intOf]; omega
            · obtain rfl : j = N := by omega
              have hmin : ((d : Int) != min (j : Int) 8) = false := by rw [bne_eq_false_iff_eq]; omega
              clear hd hj hjn
              go_wp2_with (go_at_call 12; refine (cDepth _ _ _ _ _ _ _ _ M.out.at_.look).mono ?_; rintro e w2 ⟨rfl, rfl⟩)
              have hends := M.out.at_.ends
              have hcap := M.out.at_.capL
              have hcaM := M.out.at_.capM
              have HE := Lib.hid hends
              have BM := Lib.hid (M.out.out B1.out HP.out)
              clear hends
              go_loopw [9] (fun i wr => ∃ a : Nat, i = .int .i64 (a : Int) ∧ Moved (w1.alloc (.cells #[.int .i64 0, .int .i64 0, .int .i64 0] 27)) wr p r K L a d) (fun i _ => L.length - (intOf i).toNat)
              case atStart => exact ⟨0, rfl, M.out⟩
              case round =>
                obtain ⟨a, rfl, hm⟩ := hrel
                have Q := Lib.hid hm
                have hin := hm.at_.inn
                have hlast := HE.out.last a hin
                have hlen := HN.out
                have la : (a : Int) ≤ (s.size : Int) := by omega
                have hfd := fun w => tok_field (curT L a).k (curT L a).n ((curT L a).line : Int) ((curT L a).col : Int) (curT L a).t w
                clear hm hlen
                by_cases hk : (curT L a).k = 0
                · have k0 : ((curT L a).k != 0) = false := by rw [bne_eq_false_iff_eq]; exact hk
                  have k1 : ((curT L a).k == 0) = true := by rw [beq_iff_eq]; exact hk
                  have hw : wrF (curT L a) = (2, (curT L a).line, (curT L a).col) := by unfold wrF; rw [if_pos hk]
                  have ho : onA L a = a := by unfold onA; rw [if_pos hk]
                  have HO := Lib.hid (And.intro hw ho)
                  clear hk hlast hin hw ho
                  go_wp2_with (first
                    | (go_at_call 10; refine (cPeek _ _ _ _ _ _ _ _ Q.out.at_.look).mono ?_; rintro e w3 ⟨rfl, b3⟩; have Q3 := Lib.hid (Q.out.next b3); clear b3; simp only [tokA])
                    | (go_at_call 21; refine (cNext _ _ _ _ _ _ _ Q3.out.at_).mono ?_; rintro e w4 ⟨rfl, m4⟩; have Q4 := Lib.hid (Q3.out.then (HO.out.2 ▸ m4)); clear m4; simp only [tokA]))
                  have hff := fun w => fault_field 2 ((curT L a).line : Int) ((curT L a).col : Int) w
                  have P4 := Lib.hid (Whole.made w4 40 #[.int .i64 (curT L a).k, .string (curT L a).t, .int .i64 (curT L a).n, .int .i64 ((curT L a).line : Int), .int .i64 ((curT L a).col : Int)]).drew
                  have Q5 := Lib.hid ((Q4.out.next (new_block w4 (.cells #[.int .i64 (curT L a).k, .string (curT L a).t, .int .i64 (curT L a).n, .int .i64 ((curT L a).line : Int), .int .i64 ((curT L a).col : Int)] 40))).next (below_drew1 (Below.refl _ _)))
                  go_region_with (first
                    | (go_at_call 10; refine (cPeek _ _ _ _ _ _ _ _ Q5.out.at_.look).mono ?_; rintro e w5 ⟨rfl, b5⟩; have Q6 := Lib.hid (Q5.out.next b5); obtain ⟨e0, e1, e2, e3, e4⟩ := whole5 (P4.out.below b5 P4.out.inside); clear b5; simp only [tokA])
                    | (go_at_call 15; refine (cWrongE _ _ _ _ _ _ _ Q6.out.at_ HO.out.1).mono ?_; rintro e w6 ⟨rfl, b6⟩; have Q7 := Lib.hid (Q6.out.next b6); clear b6)
                    | (go_at_call 6; refine (lives10 _).mono ?_; rintro e w7 ⟨rfl, b7⟩; have B8 := Lib.hid (bthen (Q7.out.out B1.out HP.out) b7); clear b7))
                  all_goals
                    go_wp2
                    go_ret
                    exact ⟨rfl, B8.out⟩
                · have k0 : ((curT L a).k != 0) = true := by rw [bne_iff_ne]; exact hk
                  have ho : onA L a = a + 1 := by unfold onA; rw [if_neg hk]
                  have HO := Lib.hid ho
                  have hnl : a + 1 < L.length := by
                    have : ¬ (a + 1 = L.length) := fun e => hk (hlast.2 e)
                    omega
                  clear hk hlast ho
                  go_wp2_with (first
                    | (go_at_call 10; refine (cPeek _ _ _ _ _ _ _ _ Q.out.at_.look).mono ?_; rintro e w3 ⟨rfl, b3⟩; have Q3 := Lib.hid (Q.out.next b3); clear b3; simp only [tokA])
                    | (go_at_call 21; refine (cNext _ _ _ _ _ _ _ Q3.out.at_).mono ?_; rintro e w4 ⟨rfl, m4⟩; have Q4 := Lib.hid (Q3.out.then (HO.out ▸ m4)); clear m4; simp only [tokA]))
                  go_roundw
                  case rel => exact ⟨a + 1, by go_num, Q4.out⟩
                  case measure => simp [intOf]; omega
end Go.Proofs.Ytnlnkjjegaihcaa
