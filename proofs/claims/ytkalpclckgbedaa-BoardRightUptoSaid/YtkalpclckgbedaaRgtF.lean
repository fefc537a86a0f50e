/-
  Package board: Right. Conditions: at most 1000 cards a row.
-/
import Derived.Test.YtkalpclckgbedaaRgtE
namespace Go.Proofs.Ytkalpclckgbedaa
open Go.ChangeShapes Go.WideShapes Go.ChangeAt Go.RowKit
set_option linter.unusedVariables false
set_option linter.unusedSimpArgs false
set_option maxRecDepth 20000
set_option maxHeartbeats 3200000
theorem Ans.of {P : Prop} {prog : Program} {f : FuncId} {args : Array Value} {w : World} (h : Calls prog f args w (Ans P w)) (b : Bool) (hb : b = true ↔ P) : Calls prog f args w fun e w' => e = .returned (.bool b) ∧ Below w.heap.size w w' :=
  h.mono fun e w' ⟨b', e1, e2, e3⟩ => ⟨by rw [e1, show b' = b from Bool.eq_iff_iff.2 (e2.trans hb.symm)], e3⟩
theorem head_parts (c : Sc) : headB c = true ↔ betB c.round 0 7 = true ∧ stakeB c.stake = true ∧ ¬ c.next < 100 ∧ resB3 c = true := by
  unfold headB resB3
  cases h1 : betB c.round 0 7 <;> cases h2 : stakeB c.stake <;> cases h4 : betB c.kind 0 4 <;> cases h5 : betB c.winner 0 2 <;> cases h6 : stakeB c.rstake <;> simp
theorem pRight (c : Sc) (r : Nat → Value) (L : Nat → List Ins) (w : World) (hR : Rows12 w r L) (hsz : ∀ q, q < 12 → (L q).length ≤ 1000) :
    Calls Try.prog 30 #[stV c r] w (Ans (RightOK c L) w) := by
  have hv : stV c r = .agg (stC c r).toArray := rfl
  have x1 : Whole (w.alloc (.cells (stC c r).toArray 33)) w.heap.size 33 (stC c r).toArray := Whole.made w _ _
  have b0 : Below w.heap.size w (w.alloc (.cells (stC c r).toArray 33)) := (Below.refl _ _).alloc (Nat.le_refl _) _
  have q0 : (stC c r)[0]? = some (.int .i64 c.round) := rfl
  have q1 : (stC c r)[25]? = some (.int .i64 c.stake) := rfl
  have q2 : (stC c r)[26]? = some (.int .i64 c.next) := rfl
  have KL : Hid (∀ y, Below w.heap.size w y → Calls Try.prog 42 #[.agg (stC c r).toArray] y (Ans (∀ i, i < 3 → LaneOK c L i) y)) := Lib.hid fun y hy => pLanes c r L y (fun q hq => (hR q hq).below hy)
  have KP : Hid (∀ y, Below w.heap.size w y → Calls Try.prog 43 #[.agg (stC c r).toArray] y (Ans (∀ k, k < 2 → PlayOK c L k) y)) := Lib.hid fun y hy => pPlayers c r L y (fun q hq => (hR q hq).below hy)
  have KC : Hid (∀ y, Below w.heap.size w y → Calls Try.prog 44 #[.agg (stC c r).toArray] y (Ans (CardsTo c L 12 ∧ ((catL L 12).map (·.id)).Nodup) y)) := Lib.hid fun y hy => pCards c r L y (fun q hq => (hR q hq).below hy) hsz
  have KR : Hid (∀ y, Calls Try.prog 45 #[.agg #[.int .i64 c.kind, .int .i64 c.winner, .int .i64 c.rstake]] y fun e w' => e = .returned (.bool (resB3 c)) ∧ Below y.heap.size y w') := Lib.hid fun y => pResult c y
  have HP := head_parts c
  have HRE : RightOK c L ↔ headB c = true ∧ (∀ i, i < 3 → LaneOK c L i) ∧ (∀ k, k < 2 → PlayOK c L k) ∧ CardsTo c L 12 ∧ ((catL L 12).map (·.id)).Nodup := Iff.rfl
  have HT : Hid (∀ y, Whole y w.heap.size 33 (stC c r).toArray → y.cell? ⟨w.heap.size, 27, none⟩ = some (.int .i64 c.kind) ∧ y.cell? ⟨w.heap.size, 28, none⟩ = some (.int .i64 c.winner) ∧ y.cell? ⟨w.heap.size, 29, none⟩ = some (.int .i64 c.rstake)) := Lib.hid fun y hy => ⟨by rw [hy.read]; rfl, by rw [hy.read]; rfl, by rw [hy.read]; rfl⟩
  have K0 := Lib.hid (fun n a b w => pWithin n a b w)
  have K1 := Lib.hid (fun n w => pStake n w)
  have HSI : Hid ((Try.prog.info? 33).map (·.size) = some (stC c r).length) := Lib.hid (by rw [show (stC c r).length = 30 from rfl]; kernel_rfl)
  rw [hv, HRE, HP]
  have T := Lib.hid x1
  have BB := Lib.hid b0
  generalize (∀ i, i < 3 → LaneOK c L i) = PL at *
  generalize (∀ k, k < 2 → PlayOK c L k) = PP at *
  generalize (CardsTo c L 12 ∧ ((catL L 12).map (·.id)).Nodup) = PC at *
  generalize resB3 c = rb at *
  clear hv hR hsz HP HRE x1 b0
  generalize stC c r = S at *
  generalize c.kind = ck at *
  generalize c.winner = cw at *
  generalize c.rstake = cr at *
  generalize c.round = co at *
  generalize c.stake = cs at *
  generalize c.next = cn at *
  have ways : (betB co 0 7 = false) ∨ (betB co 0 7 = true ∧ stakeB cs = false) ∨ (betB co 0 7 = true ∧ stakeB cs = true ∧ cn < 100) ∨ (betB co 0 7 = true ∧ stakeB cs = true ∧ ¬ cn < 100) := by
    cases betB co 0 7 <;> cases stakeB cs <;> simp <;> omega
  rcases ways with h1 | ⟨h1, h2⟩ | ⟨h1, h2, h3⟩ | ⟨h1, h2, h3⟩
  case inr.inr.inr =>
    have KL0 : Hid (∀ bl : Bool, (bl = true ↔ PL) → ∀ y, Below w.heap.size w y → _) := Lib.hid fun bl hbl y hy => Ans.of (KL.out y hy) bl hbl
    have KP0 : Hid (∀ bl : Bool, (bl = true ↔ PP) → ∀ y, Below w.heap.size w y → _) := Lib.hid fun bl hbl y hy => Ans.of (KP.out y hy) bl hbl
    have KC0 : Hid (∀ bl : Bool, (bl = true ↔ PC) → ∀ y, Below w.heap.size w y → _) := Lib.hid fun bl hbl y hy => Ans.of (KC.out y hy) bl hbl
    have W2 : (∃ bl : Bool, (bl = true ↔ PL)) ∧ (∃ bp : Bool, (bp = true ↔ PP)) ∧ ∃ bc : Bool, (bc = true ↔ PC) := by
      refine ⟨?_, ?_, ?_⟩
      · by_cases h : PL
        · exact ⟨true, by simp [h]⟩
        · exact ⟨false, by simp [h]⟩
      · by_cases h : PP
        · exact ⟨true, by simp [h]⟩
        · exact ⟨false, by simp [h]⟩
      · by_cases h : PC
        · exact ⟨true, by simp [h]⟩
        · exact ⟨false, by simp [h]⟩
    obtain ⟨⟨bl, hbl⟩, ⟨bp, hbp⟩, ⟨bc, hbc⟩⟩ := W2
    have K2 := Lib.hid (KL0.out bl hbl)
    have K3 := Lib.hid (KP0.out bp hbp)
    have K4 := Lib.hid (KC0.out bc hbc)
    have FIN : Hid (∀ u : Bool, u = (bl && (bp && (bc && rb))) → ∀ w', Below w.heap.size w w' → Ans ((betB co 0 7 = true ∧ stakeB cs = true ∧ ¬ cn < 100 ∧ rb = true) ∧ PL ∧ PP ∧ PC) w (.returned (.bool u)) w') := Lib.hid fun u hu w' hb => ⟨u, rfl, by
      rw [hu, ← hbl, ← hbp, ← hbc, h1, h2]
      simp [h3, and_assoc]
      constructor
      · rintro ⟨a, b, c, d⟩; exact ⟨d, a, b, c⟩
      · rintro ⟨d, a, b, c⟩; exact ⟨a, b, c, d⟩, hb⟩
    clear KL0 KP0 KC0 hbl hbp hbc KL KP KC
    cases bl <;> cases bp <;> cases bc
    all_goals
      go_enter Try.func30, Try.ntmps30
      go_wp2_with (first
        | (go_at_call 38; (with_reducible refine (K0.out _ _ _ _).mono ?_); rintro e w1 ⟨rfl, rfl⟩)
        | (go_at_call 41; (with_reducible refine (K1.out _ _).mono ?_); rintro e w1 ⟨rfl, rfl⟩)
        | ((with_reducible refine at_ld 18 ?_); refine wpList_loadW 33 (.tmp 1) 33 w.heap.size S T.out (by kernel_rfl) HSI.out rfl rfl rfl ?_)
        | ((with_reducible refine at_ld 21 ?_); refine wpList_loadWG 33 (.tmp 1) 33 w.heap.size S T.out (by kernel_rfl) HSI.out (by rfl) rfl rfl ?_)
        | ((with_reducible refine at_ld 25 ?_); refine wpList_loadWG 33 (.tmp 1) 33 w.heap.size S T.out (by kernel_rfl) HSI.out (by rfl) rfl rfl ?_)
        | (go_at_call 42; refine (K2.out _ BB.out).mono ?_; rintro e w2 ⟨rfl, bx⟩; have BB := Lib.hid (bthen BB.out bx); have T := Lib.hid (T.out.below bx T.out.inside); clear bx)
        | (go_at_call 43; refine (K3.out _ BB.out).mono ?_; rintro e w3 ⟨rfl, bx⟩; have BB := Lib.hid (bthen BB.out bx); have T := Lib.hid (T.out.below bx T.out.inside); clear bx)
        | (go_at_call 44; refine (K4.out _ BB.out).mono ?_; rintro e w4 ⟨rfl, bx⟩; have BB := Lib.hid (bthen BB.out bx); have T := Lib.hid (T.out.below bx T.out.inside); obtain ⟨t1, t2, t3⟩ := HT.out _ T.out; clear bx)
        | (go_at_call 45; refine (KR.out _).mono ?_; rintro e w5 ⟨rfl, bx⟩; have BB := Lib.hid (bthen BB.out bx); clear bx))
      go_ret
      exact FIN.out _ (by simp) _ BB.out
  all_goals
    have hno : ¬ (betB co 0 7 = true ∧ stakeB cs = true ∧ ¬ cn < 100 ∧ rb = true) := fun h => by
      first
        | exact absurd (h1.symm.trans h.1) (by decide)
        | exact absurd (h2.symm.trans h.2.1) (by decide)
        | exact h.2.2.1 h3
    have HNO := Lib.hid hno
    clear hno
    go_enter Try.func30, Try.ntmps30
    go_wp2_with (first
      | (go_at_call 38; (with_reducible refine (K0.out _ _ _ _).mono ?_); rintro e w1 ⟨rfl, rfl⟩)
      | (go_at_call 41; (with_reducible refine (K1.out _ _).mono ?_); rintro e w1 ⟨rfl, rfl⟩))
    go_ret
    exact Ans.no (fun h => HNO.out h.1) BB.out
end Go.Proofs.Ytkalpclckgbedaa
