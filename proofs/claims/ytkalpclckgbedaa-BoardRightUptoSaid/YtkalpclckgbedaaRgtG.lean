/-
  The document's answer: Right, where the state's own numbers are within bounds. Conditions: at most 12000 cards.
-/
import Derived.Test.YtkalpclckgbedaaRgtB
import Derived.Test.YtkalpclckgbedaaStPiles
import Derived.Test.YtkalpclckgbedaaStW
import Derived.BigQuiet
namespace Go.Proofs.Ytkalpclckgbedaa
open Go.ChangeShapes Go.WideShapes Go.ChangeAt Go.RowKit
set_option linter.unusedVariables false
set_option linter.unusedSimpArgs false
set_option maxRecDepth 20000
set_option maxHeartbeats 6400000
theorem head_yes {c : Sc} (h : headB c = true) : betB c.round 0 7 = true ∧ stakeB c.stake = true ∧ ¬ c.next < 100 ∧ betB c.kind 0 4 = true ∧ betB c.winner 0 2 = true ∧ ((c.rstake != 0) = false ∨ ((c.rstake != 0) = true ∧ stakeB c.rstake = true)) := by
  unfold headB at h
  cases h1 : betB c.round 0 7 <;> cases h2 : stakeB c.stake <;> cases h4 : betB c.kind 0 4 <;> cases h5 : betB c.winner 0 2 <;> cases h6 : stakeB c.rstake <;> simp [h1, h2, h4, h5, h6] at h ⊢ <;> omega
theorem seats_int (L : Nat → List Ins) : ∀ j, j < (pilesL L 2).length → ∃ s : Int, (seatsL L 2)[j]? = some (.int .i64 s) := fun j hj => by
  have e1 : pilesL L 2 = mineL L 0 ++ mineL L 1 := by simp [pilesL]
  have e2 : seatsL L 2 = List.replicate (mineL L 0).length (.int .i64 0) ++ List.replicate (mineL L 1).length (.int .i64 1) := by simp [seatsL]
  rw [e1, List.length_append] at hj
  rw [e2]
  by_cases hl : j < (mineL L 0).length
  · exact ⟨0, by rw [List.getElem?_append_left (by simpa using hl), List.getElem?_replicate_of_lt hl]⟩
  · exact ⟨1, by rw [List.getElem?_append_right (by simp; omega), List.length_replicate, List.getElem?_replicate_of_lt (by omega)]⟩
theorem card_ways (next seat : Int) (x : Ins) : ((x.owner != seat) = true ∧ ¬ CardOK next seat x) ∨ ((x.owner != seat) = false ∧ betB x.power (-999) 999 = false ∧ ¬ CardOK next seat x) ∨ ((x.owner != seat) = false ∧ betB x.power (-999) 999 = true ∧ betB x.plus (-999) 999 = false ∧ ¬ CardOK next seat x) ∨
    ((x.owner != seat) = false ∧ betB x.power (-999) 999 = true ∧ betB x.plus (-999) 999 = true ∧ betB x.cost 0 9 = false ∧ ¬ CardOK next seat x) ∨ ((x.owner != seat) = false ∧ betB x.power (-999) 999 = true ∧ betB x.plus (-999) 999 = true ∧ betB x.cost 0 9 = true ∧ x.card < -1 ∧ ¬ CardOK next seat x) ∨
    ((x.owner != seat) = false ∧ betB x.power (-999) 999 = true ∧ betB x.plus (-999) 999 = true ∧ betB x.cost 0 9 = true ∧ ¬ x.card < -1 ∧ x.id < 1 ∧ ¬ CardOK next seat x) ∨ ((x.owner != seat) = false ∧ betB x.power (-999) 999 = true ∧ betB x.plus (-999) 999 = true ∧ betB x.cost 0 9 = true ∧ ¬ x.card < -1 ∧ ¬ x.id < 1 ∧ ¬ x.id < next ∧ ¬ CardOK next seat x) ∨
    ((x.owner != seat) = false ∧ betB x.power (-999) 999 = true ∧ betB x.plus (-999) 999 = true ∧ betB x.cost 0 9 = true ∧ ¬ x.card < -1 ∧ ¬ x.id < 1 ∧ x.id < next ∧ CardOK next seat x) := by
  unfold CardOK numB
  by_cases h1 : x.owner = seat
  · have e1 : (x.owner != seat) = false := by simp [h1]
    rw [e1]
    cases h3 : betB x.power (-999) 999 <;> cases h4 : betB x.plus (-999) 999 <;> cases h5 : betB x.cost 0 9 <;> by_cases h6 : x.card < -1 <;> by_cases h7 : x.id < 1 <;> by_cases h8 : x.id < next <;> simp [h1, h6, h7, h8] <;> omega
  · left
    exact ⟨by simpa using h1, fun h => h1 h.1⟩
theorem own_some7' {w : World} {B : Nat} {v : Value} {l : List Ins} (h : OwnI w B v l) (h0 : 0 < l.length) : ∃ g c, v = .slice (some ⟨g, 0, none⟩) l.length c ∧ B ≤ g ∧ g < w.heap.size := by
  rcases h.2 with ⟨_, e⟩ | ⟨g, c, cur, rfl, hb, hw, _⟩
  · omega
  · exact ⟨g, c, rfl, hb, (show Whole w g 50 cur from hw).inside⟩
theorem rRight_yes (c : Sc) (r : Nat → Value) (L : Nat → List Ins) (w : World) (hR : Rows12 w r L) (hN : (pilesL L 2).length ≤ 1000000) (hh : headB c = true) :
    Calls Try.prog 31 #[stV c r] w (Ans (RightOK c L) w) := by
  obtain ⟨h1, h2, h3, h4, h5, h6⟩ := head_yes hh
  have x1 : Whole (w.alloc (.cells (stC c r).toArray 33)) w.heap.size 33 (stC c r).toArray := Whole.made w _ _
  have b0 : Below w.heap.size w (w.alloc (.cells (stC c r).toArray 33)) := (Below.refl _ _).alloc (Nat.le_refl _) _
  obtain ⟨p0, p1, p2, p3, p4, p5⟩ := st_head x1
  have q0 : (stC c r).toArray[0]? = some (.int .i64 c.round) := rfl
  have q1 : (stC c r).toArray[25]? = some (.int .i64 c.stake) := rfl
  have q2 : (stC c r).toArray[26]? = some (.int .i64 c.next) := rfl
  have B1 : Hid (∀ o, Below w.heap.size w ((w.alloc (.cells (stC c r).toArray 33)).alloc o)) := Lib.hid fun o => b0.alloc b0.size o
  have T1 : Hid (∀ o, Whole ((w.alloc (.cells (stC c r).toArray 33)).alloc o) w.heap.size 33 (stC c r).toArray) := Lib.hid fun o => x1.alloc o
  have hv : stV c r = .agg (stC c r).toArray := rfl
  have K0 := Lib.hid (fun n a b w => rBetween n a b w)
  have K1 := Lib.hid (fun n w => rStake n w)
  have HP : Hid (∀ y, Below w.heap.size w y → Calls Try.prog 32 #[.agg (stC c r).toArray] y fun e w' => ∃ V U, e = .returned (.tuple #[V, U]) ∧ PiAt y c r (pilesL L 2) (seatsL L 2) w' V U) := Lib.hid fun y hy => rPiles c r L y (fun q hq => (hR q hq).below hy) (by omega)
  have HRE : Hid (RightOK c L ↔ (∀ i, i < 3 → LaneOK c L i) ∧ (∀ k, k < 2 → PlayOK c L k) ∧ (∀ j (h : j < (pilesL L 2).length), ∀ s : Int, (seatsL L 2)[j]? = some (.int .i64 s) → CardOK c.next s (pilesL L 2)[j]) ∧ ((pilesL L 2).map (·.id)).Nodup) := Lib.hid (by
    unfold RightOK
    rw [piles_mem (P := fun s x => CardOK c.next s x), ((piles_perm L).map (·.id)).nodup_iff]
    simp [hh])
  have HR := Lib.hid hR
  have HST : Hid (∀ y, Whole y w.heap.size 33 (stC c r).toArray → ∀ i, i < 3 → y.cell? ⟨w.heap.size, 1 + i * 4, none⟩ = some (.int .i64 (c.place i)) ∧ y.cell? ⟨w.heap.size, 1 + i * 4 + 1, none⟩ = some (.bool (c.opn i)) ∧ y.cell? ⟨w.heap.size, 1 + i * 4 + 2, none⟩ = some (r (2 * i)) ∧ y.cell? ⟨w.heap.size, 1 + i * 4 + 3, none⟩ = some (r (2 * i + 1))) := Lib.hid fun y hy i hi => st_lane hy i hi
  have HSP : Hid (∀ y, Whole y w.heap.size 33 (stC c r).toArray → ∀ k, k < 2 → y.cell? ⟨w.heap.size, 13 + k * 6, none⟩ = some (r (6 + 3 * k)) ∧ y.cell? ⟨w.heap.size, 13 + k * 6 + 1, none⟩ = some (r (6 + 3 * k + 1)) ∧ y.cell? ⟨w.heap.size, 13 + k * 6 + 2, none⟩ = some (r (6 + 3 * k + 2)) ∧
      y.cell? ⟨w.heap.size, 13 + k * 6 + 3, none⟩ = some (.int .i64 (c.energy k)) ∧ y.cell? ⟨w.heap.size, 13 + k * 6 + 4, none⟩ = some (.int .i64 (c.bonus k)) ∧ y.cell? ⟨w.heap.size, 13 + k * 6 + 5, none⟩ = some (.bool (c.raised k))) := Lib.hid fun y hy k hk => st_player hy k hk
  have HSN : Hid (∀ y, Whole y w.heap.size 33 (stC c r).toArray → y.cell? ⟨w.heap.size, 26, none⟩ = some (.int .i64 c.next)) := Lib.hid fun y hy => (st_head hy).2.2.1
  have HSI : Hid ((Try.prog.info? 33).map (·.size) = some (stC c r).length) := Lib.hid (by rw [show (stC c r).length = 30 from rfl]; kernel_rfl)
  have HSE := Lib.hid (seats_int L)
  have HSL := Lib.hid (seatsL_len L 2)
  have HNN := Lib.hid hN
  rw [hv]
  clear x1 b0 hv hh hR hN
  generalize RightOK c L = PR at *
  generalize pilesL L 2 = PL at *
  generalize seatsL L 2 = SL at *
  generalize hS : stC c r = S at *
  generalize hnx : c.next = nx at *
  rcases h6 with h6 | ⟨h6, h7⟩
  all_goals
    go_enter Try.func31, Try.ntmps31
    go_wp2_with (first
      | (go_at_call 46; (with_reducible refine (K0.out _ _ _ _).mono ?_); rintro e w1 ⟨rfl, rfl⟩)
      | (go_at_call 47; (with_reducible refine (K1.out _ _).mono ?_); rintro e w1 ⟨rfl, rfl⟩))
    clear p0 p1 p2 p3 p4 p5 q0 q1 q2 h1 h2 h3 h4 h5 h6
    (try clear h7)
  all_goals
    go_loopw [4] (fun v wr => ∃ i : Nat, v = .int .i64 i ∧ i ≤ 3 ∧ (∀ j, j < i → LaneOK c L j) ∧ Whole wr w.heap.size 33 S.toArray ∧ Below w.heap.size w wr) (fun v _ => 3 - (intOf v).toNat)
    case atStart => exact ⟨0, rfl, by omega, fun j hj => by omega, T1.out _, B1.out _⟩
    case round =>
      obtain ⟨i, rfl, hi, hok, ht, hb⟩ := hrel
      have HOK := Lib.hid hok
      have T := Lib.hid ht
      have BB := Lib.hid hb
      clear hok ht hb
      by_cases hi3 : i < 3
      · have li : (i : Int) < 3 := by omega
        obtain ⟨p0, p1, p2, p3⟩ := HST.out _ T.out i hi3
        obtain ⟨A0, c0, e0, _, _, _, _⟩ := HR.out (2 * i) (by omega)
        obtain ⟨A1, c1, e1, _, _, _, _⟩ := HR.out (2 * i + 1) (by omega)
        have ways : (c.place i < -1 ∧ ¬ LaneOK c L i) ∨ (¬ c.place i < -1 ∧ c.opn i = true ∧ c.place i < 0 ∧ ¬ LaneOK c L i) ∨ (¬ c.place i < -1 ∧ c.opn i = true ∧ ¬ c.place i < 0 ∧ (4 : Int) < ((L (2 * i)).length : Int) ∧ ¬ LaneOK c L i) ∨ (¬ c.place i < -1 ∧ c.opn i = false ∧ (4 : Int) < ((L (2 * i)).length : Int) ∧ ¬ LaneOK c L i) ∨
            (¬ c.place i < -1 ∧ c.opn i = true ∧ ¬ c.place i < 0 ∧ ¬ (4 : Int) < ((L (2 * i)).length : Int) ∧ (4 : Int) < ((L (2 * i + 1)).length : Int) ∧ ¬ LaneOK c L i) ∨ (¬ c.place i < -1 ∧ c.opn i = false ∧ ¬ (4 : Int) < ((L (2 * i)).length : Int) ∧ (4 : Int) < ((L (2 * i + 1)).length : Int) ∧ ¬ LaneOK c L i) ∨
            (¬ c.place i < -1 ∧ c.opn i = true ∧ ¬ c.place i < 0 ∧ ¬ (4 : Int) < ((L (2 * i)).length : Int) ∧ ¬ (4 : Int) < ((L (2 * i + 1)).length : Int) ∧ LaneOK c L i) ∨ (¬ c.place i < -1 ∧ c.opn i = false ∧ ¬ (4 : Int) < ((L (2 * i)).length : Int) ∧ ¬ (4 : Int) < ((L (2 * i + 1)).length : Int) ∧ LaneOK c L i) := by
          unfold LaneOK
          by_cases h1 : c.place i < -1 <;> cases h2 : c.opn i <;> by_cases h3 : c.place i < 0 <;> by_cases h4 : (L (2 * i)).length ≤ 4 <;> by_cases h5 : (L (2 * i + 1)).length ≤ 4 <;> simp [h1, h3, h4, h5] <;> omega
        obtain ⟨m0, hm0⟩ : ∃ m, (L (2 * i)).length = m := ⟨_, rfl⟩
        obtain ⟨m1, hm1⟩ : ∃ m, (L (2 * i + 1)).length = m := ⟨_, rfl⟩
        rw [hm0] at e0 ways
        rw [hm1] at e1 ways
        rw [e0] at p2
        rw [e1] at p3
        clear e0 e1 hm0 hm1
        generalize c.place i = pl at *
        generalize c.opn i = op at *
        have TN : Hid (∀ o, Whole (wr.alloc o) w.heap.size 33 S.toArray ∧ Below w.heap.size w (wr.alloc o)) := Lib.hid fun o => ⟨T.out.alloc o, BB.out.alloc BB.out.size o⟩
        rcases ways with ⟨h1, hy⟩ | ⟨h1, h2, h3, hy⟩ | ⟨h1, h2, h3, h4, hy⟩ | ⟨h1, h2, h3, hy⟩ | ⟨h1, h2, h3, h4, h5, hy⟩ | ⟨h1, h2, h3, h4, hy⟩ | ⟨h1, h2, h3, h4, h5, hy⟩ | ⟨h1, h2, h3, h4, hy⟩
        all_goals
          have HY := Lib.hid hy
          clear hy
          (try subst h2)
          go_wp2
        iterate 6
          · go_ret
            exact Ans.no (fun h => HY.out ((HRE.out.1 h).1 i hi3)) (TN.out _).2
        all_goals
          go_roundw
          case rel => exact ⟨i + 1, by go_num, by omega, fun j hj => by
            by_cases e : j = i
            · subst e; exact HY.out
            · exact HOK.out j (by omega), (TN.out _).1, (TN.out _).2⟩
          case measure => simp [intOf]; omega
      · have e3 : i = 3 := by omega
        subst e3
        have li : ¬ ((3 : Nat) : Int) < 3 := by omega
        have HLN := Lib.hid HOK.out
        clear HOK
        go_wp2
        go_loopw [6] (fun v wr => ∃ i : Nat, v = .int .i64 i ∧ i ≤ 2 ∧ (∀ j, j < i → PlayOK c L j) ∧ Whole wr w.heap.size 33 S.toArray ∧ Below w.heap.size w wr) (fun v _ => 2 - (intOf v).toNat)
        case atStart => exact ⟨0, rfl, by omega, fun j hj => by omega, T.out, BB.out⟩
        case round =>
          obtain ⟨i, rfl, hi, hok, ht, hb⟩ := hrel
          have HOK := Lib.hid hok
          have T := Lib.hid ht
          have BB := Lib.hid hb
          clear hok ht hb
          by_cases hi2 : i < 2
          · have li : (i : Int) < 2 := by omega
            obtain ⟨p0, p1, p2, p3, p4, p5⟩ := HSP.out _ T.out i hi2
            obtain ⟨A0, c0, e0, _, _, _, _⟩ := HR.out (6 + 3 * i) (by omega)
            obtain ⟨A1, c1, e1, _, _, _, _⟩ := HR.out (6 + 3 * i + 1) (by omega)
            obtain ⟨A2, c2, e2, _, _, _, _⟩ := HR.out (6 + 3 * i + 2) (by omega)
            have ways : (betB (c.energy i) 0 9 = false ∧ ¬ PlayOK c L i) ∨ (betB (c.energy i) 0 9 = true ∧ betB (c.bonus i) (-9) 9 = false ∧ ¬ PlayOK c L i) ∨ (betB (c.energy i) 0 9 = true ∧ betB (c.bonus i) (-9) 9 = true ∧ (7 : Int) < ((L (6 + 3 * i + 1)).length : Int) ∧ ¬ PlayOK c L i) ∨ (betB (c.energy i) 0 9 = true ∧ betB (c.bonus i) (-9) 9 = true ∧ ¬ (7 : Int) < ((L (6 + 3 * i + 1)).length : Int) ∧ PlayOK c L i) := by
              unfold PlayOK
              cases h1 : betB (c.energy i) 0 9 <;> cases h2 : betB (c.bonus i) (-9) 9 <;> by_cases h3 : (L (6 + 3 * i + 1)).length ≤ 7 <;> simp [h3] <;> omega
            obtain ⟨m0, hm0⟩ : ∃ m, (L (6 + 3 * i)).length = m := ⟨_, rfl⟩
            obtain ⟨m1, hm1⟩ : ∃ m, (L (6 + 3 * i + 1)).length = m := ⟨_, rfl⟩
            obtain ⟨m2, hm2⟩ : ∃ m, (L (6 + 3 * i + 2)).length = m := ⟨_, rfl⟩
            rw [hm0] at e0
            rw [hm1] at e1 ways
            rw [hm2] at e2
            rw [e0] at p0
            rw [e1] at p1
            rw [e2] at p2
            clear e0 e1 e2 hm0 hm1 hm2
            generalize c.energy i = en at *
            generalize c.bonus i = bo at *
            generalize c.raised i = ra at *
            have TN : Hid (∀ o, Whole (wr.alloc o) w.heap.size 33 S.toArray ∧ Below w.heap.size w (wr.alloc o)) := Lib.hid fun o => ⟨T.out.alloc o, BB.out.alloc BB.out.size o⟩
            rcases ways with ⟨h1, hy⟩ | ⟨h1, h2, hy⟩ | ⟨h1, h2, h3, hy⟩ | ⟨h1, h2, h3, hy⟩
            all_goals
              have HY := Lib.hid hy
              clear hy
              go_wp2_with (go_at_call 46; (with_reducible refine (K0.out _ _ _ _).mono ?_); rintro e w1 ⟨rfl, rfl⟩)
            iterate 3
              · go_ret
                exact Ans.no (fun h => HY.out ((HRE.out.1 h).2.1 i hi2)) (TN.out _).2
            go_roundw
            case rel => exact ⟨i + 1, by go_num, by omega, fun j hj => by
              by_cases e : j = i
              · subst e; exact HY.out
              · exact HOK.out j (by omega), (TN.out _).1, (TN.out _).2⟩
            case measure => simp [intOf]; omega
          · have e3 : i = 2 := by omega
            subst e3
            have li : ¬ ((2 : Nat) : Int) < 2 := by omega
            have HPL := Lib.hid HOK.out
            clear HOK
            go_wp2_with (first
              | ((with_reducible refine at_ld 112 ?_); refine wpList_loadW 33 (.tmp 1) 33 w.heap.size S T.out (by kernel_rfl) HSI.out rfl rfl rfl ?_)
              | (go_at_call 32; refine (HP.out _ BB.out).mono ?_; rintro e w5 ⟨V, U, rfl, hpi⟩; have PI := Lib.hid hpi; have T5 := Lib.hid (T.out.below hpi.below T.out.inside); have B5 := Lib.hid (bthen BB.out hpi.below); clear hpi))
            obtain ⟨A, cp, rfl⟩ := own_len PI.out.own
            obtain ⟨N, hNe⟩ : ∃ N, PL.length = N := ⟨_, rfl⟩
            have HNE := Lib.hid hNe
            have HN1 : Hid (N ≤ 1000000) := Lib.hid (by rw [← hNe]; exact HNN.out)
            rw [hNe]
            clear hNe BB T
            go_loopw [10] (fun v wr => ∃ j : Nat, v = .int .i64 j ∧ j ≤ N ∧ ((∀ i (h : i < PL.length), i < j → ∀ s : Int, SL[i]? = some (.int .i64 s) → CardOK nx s PL[i]) ∧ ((PL.map (·.id)).take j).Nodup) ∧ Below w5.heap.size w5 wr) (fun v _ => N - (intOf v).toNat)
            case atStart => exact ⟨0, rfl, by omega, ⟨fun i _ hi => by omega, by simp⟩, Below.refl _ _⟩
            case round =>
              obtain ⟨j, rfl, hj, hok, hb⟩ := hrel
              have HOK := Lib.hid hok
              have B6 := Lib.hid hb
              clear hok hb
              by_cases hjN : j < N
              · have lj : (j : Int) < (N : Int) := by omega
                have hjl : j < PL.length := by rw [HNE.out]; exact hjN
                obtain ⟨g, hgA, hgw⟩ : ∃ g, A = some ⟨g, 0, none⟩ ∧ ∀ i (hi : i < PL.length), w5.cell? ⟨g, i * 7, none⟩ = some (.int .i64 PL[i].id) ∧ w5.cell? ⟨g, i * 7 + 1, none⟩ = some (.int .i64 PL[i].card) ∧ w5.cell? ⟨g, i * 7 + 2, none⟩ = some (.string PL[i].name) ∧ w5.cell? ⟨g, i * 7 + 3, none⟩ = some (.int .i64 PL[i].cost) ∧ w5.cell? ⟨g, i * 7 + 4, none⟩ = some (.int .i64 PL[i].power) ∧ w5.cell? ⟨g, i * 7 + 5, none⟩ = some (.int .i64 PL[i].plus) ∧ w5.cell? ⟨g, i * 7 + 6, none⟩ = some (.int .i64 PL[i].owner) ∧ g < w5.heap.size := by
                  obtain ⟨g, c', e, hg1, hg2⟩ := own_some7' PI.out.own (by omega)
                  injection e with e1 _ _
                  refine ⟨g, e1, fun i hi => ?_⟩
                  obtain ⟨A', cp', e', hr, _⟩ := PI.out.own.row
                  injection e' with e2 _ _
                  rw [← e2] at hr
                  rw [e1] at hr
                  obtain ⟨g', off, e3, _, hc⟩ := row_lit hr (by omega)
                  injection e3 with e3
                  injection e3 with e4 e5
                  subst e4 e5
                  have h7 := hc i hi
                  rw [Nat.zero_add] at h7
                  exact ⟨h7.1, h7.2.1, h7.2.2.1, h7.2.2.2.1, h7.2.2.2.2.1, h7.2.2.2.2.2.1, h7.2.2.2.2.2.2, hg2⟩
                subst hgA
                obtain ⟨s, hs⟩ := HSE.out j hjl
                obtain ⟨g2, cp2, hU, hcs, hg2⟩ : ∃ g2 cp2, U = .slice (some ⟨g2, 0, none⟩) N cp2 ∧ w5.cell? ⟨g2, j, none⟩ = some (.int .i64 s) ∧ g2 < w5.heap.size := by
                  rcases PI.out.seats.2 with ⟨_, e⟩ | ⟨g2, cap2, cur, e, _, hw, _, _, _, h4⟩
                  · exfalso
                    have := HSL.out
                    omega
                  · have hl : SL.length = N := by rw [HSL.out]; exact HNE.out
                    have hw2 : Whole w5 g2 3 cur := hw
                    refine ⟨g2, cap2, by rw [e, hl], ?_, hw2.inside⟩
                    rw [hw2.read, ← hs, ← h4]
                    rw [List.getElem?_take_of_lt (by omega)]
                    simp
                subst hU
                obtain ⟨p0, p1, p2, p3, p4, p5, p6, hgl⟩ := hgw j hjl
                have c0 := (B6.out.cell (p := ⟨g, j * 7, none⟩) hgl).trans p0
                have c1 := (B6.out.cell (p := ⟨g, j * 7 + 1, none⟩) hgl).trans p1
                have c2 := (B6.out.cell (p := ⟨g, j * 7 + 2, none⟩) hgl).trans p2
                have c3 := (B6.out.cell (p := ⟨g, j * 7 + 3, none⟩) hgl).trans p3
                have c4 := (B6.out.cell (p := ⟨g, j * 7 + 4, none⟩) hgl).trans p4
                have c5 := (B6.out.cell (p := ⟨g, j * 7 + 5, none⟩) hgl).trans p5
                have c6 := (B6.out.cell (p := ⟨g, j * 7 + 6, none⟩) hgl).trans p6
                have HGW := Lib.hid hgw
                have HS := Lib.hid hs
                have HCS := Lib.hid hcs
                have HX : Hid (∃ X, PL[j] = X) := Lib.hid ⟨_, rfl⟩
                obtain ⟨X, hX⟩ := HX.out
                rw [hX] at c0 c1 c2 c3 c4 c5 c6
                have HXE := Lib.hid hX
                have ways := card_ways nx s X
                clear p0 p1 p2 p3 p4 p5 p6 hgw hs hcs hX HX
                obtain ⟨xi, xc, xn, xo, xp, xl, xw⟩ := X
                simp only at ways c0 c1 c2 c3 c4 c5 c6
                go_upto_region 21 with (fail)
                obtain ⟨W9, hW9⟩ : ∃ W9, wr.alloc (.cells #[.int .i64 xi, .int .i64 xc, .string xn, .int .i64 xo, .int .i64 xp, .int .i64 xl, .int .i64 xw] 50) = W9 := ⟨_, rfl⟩
                have x9 : Whole W9 wr.heap.size 50 #[.int .i64 xi, .int .i64 xc, .string xn, .int .i64 xo, .int .i64 xp, .int .i64 xl, .int .i64 xw] := by rw [← hW9]; exact Whole.made _ _ _
                have b9 : Below w5.heap.size w5 W9 := by rw [← hW9]; exact B6.out.alloc B6.out.size _
                rw [hW9]
                have y0 : W9.cell? ⟨wr.heap.size, 0, none⟩ = some (.int .i64 xi) := by rw [x9.read]; rfl
                have y1 : W9.cell? ⟨wr.heap.size, 1, none⟩ = some (.int .i64 xc) := by rw [x9.read]; rfl
                have y3 : W9.cell? ⟨wr.heap.size, 3, none⟩ = some (.int .i64 xo) := by rw [x9.read]; rfl
                have y4 : W9.cell? ⟨wr.heap.size, 4, none⟩ = some (.int .i64 xp) := by rw [x9.read]; rfl
                have y5 : W9.cell? ⟨wr.heap.size, 5, none⟩ = some (.int .i64 xl) := by rw [x9.read]; rfl
                have y6 : W9.cell? ⟨wr.heap.size, 6, none⟩ = some (.int .i64 xw) := by rw [x9.read]; rfl
                have ys := (b9.cell (p := ⟨g2, j, none⟩) hg2).trans HCS.out
                have yn : W9.cell? ⟨w.heap.size, 26, none⟩ = some (.int .i64 nx) := HSN.out W9 (T5.out.below b9 T5.out.inside)
                have KW := fun N => rBetween xp (-999) 999 (W9.drewN N)
                have KL := fun N => rBetween xl (-999) 999 (W9.drewN N)
                have KO := fun N => rBetween xo 0 9 (W9.drewN N)
                have B9 := Lib.hid b9
                have X9 := Lib.hid x9
                have l9 : wr.heap.size < W9.heap.size := x9.inside
                have lg2 : g2 < W9.heap.size := Nat.lt_of_lt_of_le hg2 b9.size
                have lw : w.heap.size < W9.heap.size := Nat.lt_of_lt_of_le T5.out.inside b9.size
                clear c0 c1 c2 c3 c4 c5 c6 hW9 b9 x9
                rcases ways with ⟨h1, hy⟩ | ⟨h1, h2, hy⟩ | ⟨h1, h2, h3, hy⟩ | ⟨h1, h2, h3, h4, hy⟩ | ⟨h1, h2, h3, h4, h5, hy⟩ | ⟨h1, h2, h3, h4, h5, h6, hy⟩ | ⟨h1, h2, h3, h4, h5, h6, h7, hy⟩ | ⟨h1, h2, h3, h4, h5, h6, h7, hy⟩
                all_goals
                  have HY := Lib.hid hy
                  clear hy
                  (try rw [h2] at KW)
                  (try rw [h3] at KL)
                  (try rw [h4] at KO)
                iterate 7
                  · go_quiet (first
                      | (go_at_call 46; with_reducible exact Calls.quiet_of_same (KW _))
                      | (go_at_call 46; with_reducible exact Calls.quiet_of_same (KL _))
                      | (go_at_call 46; with_reducible exact Calls.quiet_of_same (KO _)))
                    go_wp2
                    go_ret
                    exact Ans.no (fun h => HY.out (by have h2 := (HRE.out.1 h).2.2.1 j hjl s HS.out; rw [HXE.out] at h2; exact h2)) (bthen B5.out (below_drewN B9.out _))
                · go_quiet (first
                    | (go_at_call 46; with_reducible exact Calls.quiet_of_same (KW _))
                    | (go_at_call 46; with_reducible exact Calls.quiet_of_same (KL _))
                    | (go_at_call 46; with_reducible exact Calls.quiet_of_same (KO _)))
                  have HX9 : Hid (∀ n, (W9.drewN n).cell? ⟨wr.heap.size, 0, none⟩ = some (.int .i64 xi)) := Lib.hid fun n => y0
                  clear y0 y1 y3 y4 y5 y6 ys yn KW KL KO
                  go_wp2
                  clear h1 h2 h3 h4 h5 h6 h7
                  have hN1 := HN1.out
                  generalize wr.heap.size = bk at *
                  go_loopw [12] (fun v wq => ∃ n : Nat, v = .int .i64 n ∧ n ≤ j ∧ (∀ i (h : i < PL.length), i < n → PL[i].id ≠ xi) ∧ Below w5.heap.size w5 wq ∧ wq.cell? ⟨bk, 0, none⟩ = some (.int .i64 xi) ∧ bk < wq.heap.size) (fun v _ => j - (intOf v).toNat)
                  case atStart => exact ⟨0, rfl, by omega, fun i _ hi => by omega, below_drewN B9.out _, HX9.out _, l9⟩
                  case round =>
                    obtain ⟨n, rfl, hn, hne, hb, hc, hl⟩ := hrel
                    have HNQ := Lib.hid hne
                    have BQ := Lib.hid hb
                    clear hne hb
                    by_cases hnj : n < j
                    · have lnj : (n : Int) < (j : Int) := by omega
                      have lnN : (n : Int) < (N : Int) := by omega
                      have hnl : n < PL.length := by rw [HNE.out]; omega
                      obtain ⟨p0, _, _, _, _, _, _, hgn⟩ := HGW.out n hnl
                      have c0 := (BQ.out.cell (p := ⟨g, n * 7, none⟩) hgn).trans p0
                      have lgq : g < wr.heap.size := Nat.lt_of_lt_of_le hgn BQ.out.size
                      clear p0
                      obtain ⟨zi, hz⟩ : ∃ z, PL[n].id = z := ⟨_, rfl⟩
                      have HZ := Lib.hid hz
                      rw [hz] at c0
                      clear hz
                      cases he : (zi == xi)
                      · have hne : ¬ zi = xi := by intro e; rw [e] at he; simp at he
                        have HEN := Lib.hid hne
                        clear hne
                        go_wp2_with fail
                        go_quiet (fail)
                        go_wp2
                        go_roundw
                        case rel => exact ⟨n + 1, by go_num, by omega, fun i h hi => by
                          by_cases e : i = n
                          · subst e; rw [HZ.out]; exact HEN.out
                          · exact HNQ.out i h (by omega), below_drewN BQ.out _, hc, hl⟩
                        case measure => simp [intOf]; omega
                      · have hee : zi = xi := by simpa using he
                        have hno : ¬ PR := fun h => by
                          have h2 := (HRE.out.1 h).2.2.2
                          rw [List.Nodup, List.pairwise_iff_getElem] at h2
                          refine h2 n j (by rw [List.length_map]; exact hnl) (by rw [List.length_map]; exact hjl) hnj ?_
                          rw [List.getElem_map, List.getElem_map, HZ.out, HXE.out]
                          exact hee
                        have HNO := Lib.hid hno
                        clear hno hee
                        go_wp2_with fail
                        go_quiet (fail)
                        go_wp2
                        go_ret
                        exact Ans.no HNO.out (bthen B5.out (below_drewN BQ.out _))
                    · have e : n = j := by omega
                      subst e
                      have lnj : ¬ (n : Int) < (n : Int) := by omega
                      have hnd : ((PL.map (·.id)).take (n + 1)).Nodup := by
                        rw [nodup_step (by rw [List.length_map]; exact hjl) HOK.out.2]
                        intro i hi
                        rw [List.getElem_map, List.getElem_map, HXE.out]
                        exact HNQ.out i (by omega) hi
                      have HND := Lib.hid hnd
                      clear hnd hc
                      go_wp2
                      go_roundw
                      case rel => exact ⟨n + 1, by go_num, by omega, ⟨fun i h hi s2 hs2 => by
                        by_cases e : i = n
                        · subst e
                          rw [HS.out] at hs2
                          injection hs2 with hs2
                          injection hs2 with _ hs2
                          rw [HXE.out, ← hs2]
                          exact HY.out
                        · exact HOK.out.1 i h (by omega) s2 hs2, HND.out⟩, BQ.out⟩
                      case measure => simp [intOf]; omega
              · have e : j = N := by omega
                subst e
                have lj : ¬ (j : Int) < (j : Int) := by omega
                have hfin : PR := HRE.out.2 ⟨HLN.out, HPL.out, fun i h s hs => HOK.out.1 i h (by have := HNE.out; omega) s hs, by
                  have h := HOK.out.2
                  rw [List.take_of_length_le (by rw [List.length_map, HNE.out]; exact Nat.le_refl _)] at h
                  exact h⟩
                have HFIN := Lib.hid hfin
                clear hfin
                go_wp2
                go_ret
                exact Ans.yes HFIN.out (bthen B5.out B6.out)
end Go.Proofs.Ytkalpclckgbedaa
