/-
  The document's answer: a state is the same as one that is alike. No conditions.
-/
import Derived.Test.YtkalpclckgbedaaStFresh
namespace Go.Proofs.Ytkalpclckgbedaa
open Go.ChangeShapes Go.WideShapes Go.ChangeAt Go.RowKit
set_option linter.unusedVariables false
set_option linter.unusedSimpArgs false
set_option maxRecDepth 20000
set_option maxHeartbeats 3200000
structure TwoS (w : World) (c : Sc) (r s : Nat → Value) (x : World) : Prop where
  one : Whole x w.heap.size 33 (stC c r).toArray
  two : Whole x (w.heap.size + 1) 33 (stC c s).toArray
  below : Below w.heap.size w x
  size : w.heap.size + 2 ≤ x.heap.size
theorem TwoS.next {w : World} {c : Sc} {r s : Nat → Value} {x y : World} (h : TwoS w c r s x) (hb : Below x.heap.size x y) : TwoS w c r s y := by
  have := h.size
  exact ⟨h.one.below hb (by omega), h.two.below hb (by omega), h.below.trans (hb.mono h.below.size), by have := hb.size; omega⟩
theorem TwoS.alloc2 {w : World} {c : Sc} {r s : Nat → Value} {x : World} (h : TwoS w c r s x) (o1 o2 : Obj) : TwoS w c r s ((x.alloc o1).alloc o2).drew :=
  h.next (below_drew1 (((Below.refl _ _).alloc (Nat.le_refl _) _).alloc (by simp) _))
theorem lanes2 (x y : World) (T S : TypeId) (p q : Array Value) (hb : Below (((x.alloc (.cells p T)).alloc (.cells q S)).drew).heap.size ((x.alloc (.cells p T)).alloc (.cells q S)).drew y) (j : Nat) :
    y.cell? ⟨x.heap.size, j, none⟩ = p[j]? ∧ y.cell? ⟨x.heap.size + 1, j, none⟩ = q[j]? := by
  have h1 : Whole ((x.alloc (.cells p T)).alloc (.cells q S)).drew x.heap.size T p := (Whole.made x T p).alloc _
  have h2 : Whole ((x.alloc (.cells p T)).alloc (.cells q S)).drew (x.heap.size + 1) S q := by
    have h := Whole.made (x.alloc (.cells p T)) S q
    rw [World.size_alloc] at h
    exact h
  exact ⟨(h1.below hb h1.inside).read j, (h2.below hb h2.inside).read j⟩
theorem st_lane {w : World} {b : Nat} {T : TypeId} {c : Sc} {r : Nat → Value} (h : Whole w b T (stC c r).toArray) (i : Nat) (hi : i < 3) :
    w.cell? ⟨b, 1 + i * 4, none⟩ = some (.int .i64 (c.place i)) ∧ w.cell? ⟨b, 1 + i * 4 + 1, none⟩ = some (.bool (c.opn i)) ∧ w.cell? ⟨b, 1 + i * 4 + 2, none⟩ = some (r (2 * i)) ∧ w.cell? ⟨b, 1 + i * 4 + 3, none⟩ = some (r (2 * i + 1)) := by
  match i, hi with
  | 0, _ => exact ⟨by rw [h.read]; rfl, by rw [h.read]; rfl, by rw [h.read]; rfl, by rw [h.read]; rfl⟩
  | 1, _ => exact ⟨by rw [h.read]; rfl, by rw [h.read]; rfl, by rw [h.read]; rfl, by rw [h.read]; rfl⟩
  | 2, _ => exact ⟨by rw [h.read]; rfl, by rw [h.read]; rfl, by rw [h.read]; rfl, by rw [h.read]; rfl⟩
theorem st_player {w : World} {b : Nat} {T : TypeId} {c : Sc} {r : Nat → Value} (h : Whole w b T (stC c r).toArray) (k : Nat) (hk : k < 2) :
    w.cell? ⟨b, 13 + k * 6, none⟩ = some (r (6 + 3 * k)) ∧ w.cell? ⟨b, 13 + k * 6 + 1, none⟩ = some (r (6 + 3 * k + 1)) ∧ w.cell? ⟨b, 13 + k * 6 + 2, none⟩ = some (r (6 + 3 * k + 2)) ∧
      w.cell? ⟨b, 13 + k * 6 + 3, none⟩ = some (.int .i64 (c.energy k)) ∧ w.cell? ⟨b, 13 + k * 6 + 4, none⟩ = some (.int .i64 (c.bonus k)) ∧ w.cell? ⟨b, 13 + k * 6 + 5, none⟩ = some (.bool (c.raised k)) := by
  match k, hk with
  | 0, _ => exact ⟨by rw [h.read]; rfl, by rw [h.read]; rfl, by rw [h.read]; rfl, by rw [h.read]; rfl, by rw [h.read]; rfl, by rw [h.read]; rfl⟩
  | 1, _ => exact ⟨by rw [h.read]; rfl, by rw [h.read]; rfl, by rw [h.read]; rfl, by rw [h.read]; rfl, by rw [h.read]; rfl, by rw [h.read]; rfl⟩
theorem st_head {w : World} {b : Nat} {T : TypeId} {c : Sc} {r : Nat → Value} (h : Whole w b T (stC c r).toArray) :
    w.cell? ⟨b, 0, none⟩ = some (.int .i64 c.round) ∧ w.cell? ⟨b, 25, none⟩ = some (.int .i64 c.stake) ∧ w.cell? ⟨b, 26, none⟩ = some (.int .i64 c.next) ∧ w.cell? ⟨b, 27, none⟩ = some (.int .i64 c.kind) ∧ w.cell? ⟨b, 28, none⟩ = some (.int .i64 c.winner) ∧ w.cell? ⟨b, 29, none⟩ = some (.int .i64 c.rstake) :=
  ⟨by rw [h.read]; rfl, by rw [h.read]; rfl, by rw [h.read]; rfl, by rw [h.read]; rfl, by rw [h.read]; rfl, by rw [h.read]; rfl⟩
theorem rSame_true (c : Sc) (r s : Nat → Value) (L : Nat → List Ins) (w : World) (hR : Rows12 w r L) (hS : Rows12 w s L) :
    Calls Try.prog 14 #[stV c r, stV c s] w fun e w' => e = .returned (.bool true) ∧ Below w.heap.size w w' := by
  have hv : stV c r = .agg (stC c r).toArray := rfl
  have hu : stV c s = .agg (stC c s).toArray := rfl
  have T0 : TwoS w c r s ((w.alloc (.cells (stC c r).toArray 33)).alloc (.cells (stC c s).toArray 33)) := by
    have h2 := Whole.made (w.alloc (.cells (stC c r).toArray 33)) 33 (stC c s).toArray
    rw [World.size_alloc] at h2
    exact ⟨(Whole.made w _ _).alloc _, h2, ((Below.refl _ _).alloc (Nat.le_refl _) _).alloc (by simp) _, by simp⟩
  rw [hv, hu]
  obtain ⟨p0, p1, p2, p3, p4, p5⟩ := st_head T0.one
  obtain ⟨q0, q1, q2, q3, q4, q5⟩ := st_head T0.two
  have HR := Lib.hid hR
  have HS := Lib.hid hS
  have T0 := Lib.hid T0
  have hres : ∀ w, (binOp .neq 31 (.agg #[.int .i64 c.kind, .int .i64 c.winner, .int .i64 c.rstake]) (.agg #[.int .i64 c.kind, .int .i64 c.winner, .int .i64 c.rstake])).run Try.prog w = .ok (.bool false) w := fun w => by
    rw [neq_res]
    simp [resB]
  clear hv hu hR hS
  generalize hA : (stC c r).toArray = arr at *
  generalize hB : (stC c s).toArray = brr at *
  go_enter Try.func14, Try.ntmps14
  go_wp2
  clear p0 p1 p2 p3 p4 p5 q0 q1 q2 q3 q4 q5 hres
  go_loopw [5] (fun v wr => ∃ i : Nat, v = .int .i64 i ∧ i ≤ 3 ∧ TwoS w c r s wr) (fun v _ => 3 - (intOf v).toNat)
  case atStart => exact ⟨0, rfl, by omega, T0.out⟩
  case round =>
    obtain ⟨i, rfl, hi, hT⟩ := hrel
    have HT := Lib.hid hT
    clear hT
    by_cases hi3 : i < 3
    · have li : (i : Int) < 3 := by omega
      obtain ⟨p0, p1, p2, p3⟩ := st_lane HT.out.one i hi3
      obtain ⟨q0, q1, q2, q3⟩ := st_lane HT.out.two i hi3
      obtain ⟨A0, a0, e0, _⟩ := HR.out (2 * i) (by omega)
      obtain ⟨A1, a1, e1, _⟩ := HR.out (2 * i + 1) (by omega)
      obtain ⟨C0, c0, f0, _⟩ := HS.out (2 * i) (by omega)
      obtain ⟨C1, c1, f1, _⟩ := HS.out (2 * i + 1) (by omega)
      have K0 : Hid (∀ x, Below w.heap.size w x → Calls Try.prog 17 #[.slice A0 (L (2 * i)).length a0, .slice C0 (L (2 * i)).length c0] x fun e w' => e = .returned (.bool true) ∧ Below x.heap.size x w') := Lib.hid fun x hx => by
        have h := rSameCards _ _ _ _ x ((HR.out (2 * i) (by omega)).below hx) ((HS.out (2 * i) (by omega)).below hx)
        rw [e0, f0, decide_eq_true rfl] at h
        exact h
      have K1 : Hid (∀ x, Below w.heap.size w x → Calls Try.prog 17 #[.slice A1 (L (2 * i + 1)).length a1, .slice C1 (L (2 * i + 1)).length c1] x fun e w' => e = .returned (.bool true) ∧ Below x.heap.size x w') := Lib.hid fun x hx => by
        have h := rSameCards _ _ _ _ x ((HR.out (2 * i + 1) (by omega)).below hx) ((HS.out (2 * i + 1) (by omega)).below hx)
        rw [e1, f1, decide_eq_true rfl] at h
        exact h
      rw [e0] at p2
      rw [e1] at p3
      rw [f0] at q2
      rw [f1] at q3
      clear e0 e1 f0 f1
      obtain ⟨n0, hn0⟩ : ∃ n, (L (2 * i)).length = n := ⟨_, rfl⟩
      obtain ⟨n1, hn1⟩ : ∃ n, (L (2 * i + 1)).length = n := ⟨_, rfl⟩
      rw [hn0] at K0 p2 q2
      rw [hn1] at K1 p3 q3
      clear hn0 hn1
      have hl1 : w.heap.size < wr.heap.size := by have := HT.out.size; omega
      have hl2 : w.heap.size + 1 < wr.heap.size := by have := HT.out.size; omega
      go_wp2_with fail
      go_region
      all_goals
        go_wp2_with (first
          | (go_at_call 17; (with_reducible refine (K0.out _ (HT.out.alloc2 _ _).below).mono ?_); rintro e w1 ⟨rfl, b1⟩; have T1 := Lib.hid ((HT.out.alloc2 _ _).next b1); obtain ⟨x3, y3⟩ := lanes2 _ _ _ _ _ _ b1 3; simp at x3 y3; clear b1)
          | (go_at_call 17; (with_reducible refine (K1.out _ T1.out.below).mono ?_); rintro e w2 ⟨rfl, b2⟩; have T2 := Lib.hid (T1.out.next b2); clear b2))
        go_roundw
        case rel => exact ⟨i + 1, by go_num, by omega, T2.out⟩
        case measure => simp [intOf]; omega
    · have li : ¬ (i : Int) < 3 := by omega
      go_wp2
      go_loopw [8] (fun v wr => ∃ k : Nat, v = .int .i64 k ∧ k ≤ 2 ∧ TwoS w c r s wr) (fun v _ => 2 - (intOf v).toNat)
      case atStart => exact ⟨0, rfl, by omega, HT.out⟩
      case round =>
        obtain ⟨k, rfl, hk, hT⟩ := hrel
        have HT := Lib.hid hT
        clear hT
        by_cases hk2 : k < 2
        · have lk : (k : Int) < 2 := by omega
          obtain ⟨p0, p1, p2, p3, p4, p5⟩ := st_player HT.out.one k hk2
          obtain ⟨q0, q1, q2, q3, q4, q5⟩ := st_player HT.out.two k hk2
          obtain ⟨A0, a0, e0, _⟩ := HR.out (6 + 3 * k) (by omega)
          obtain ⟨C0, c0, f0, _⟩ := HS.out (6 + 3 * k) (by omega)
          have K0 : Hid (∀ x, Below w.heap.size w x → Calls Try.prog 17 #[.slice A0 (L (6 + 3 * k)).length a0, .slice C0 (L (6 + 3 * k)).length c0] x fun e w' => e = .returned (.bool true) ∧ Below x.heap.size x w') := Lib.hid fun x hx => by
            have h := rSameCards _ _ _ _ x ((HR.out (6 + 3 * k) (by omega)).below hx) ((HS.out (6 + 3 * k) (by omega)).below hx)
            rw [e0, f0, decide_eq_true rfl] at h
            exact h
          rw [e0] at p0
          rw [f0] at q0
          clear e0 f0
          obtain ⟨n0, hn0⟩ : ∃ n, (L (6 + 3 * k)).length = n := ⟨_, rfl⟩
          rw [hn0] at K0 p0 q0
          clear hn0
          obtain ⟨A1, a1, e1, _⟩ := HR.out (6 + 3 * k + 1) (by omega)
          obtain ⟨C1, c1, f1, _⟩ := HS.out (6 + 3 * k + 1) (by omega)
          have K1 : Hid (∀ x, Below w.heap.size w x → Calls Try.prog 17 #[.slice A1 (L (6 + 3 * k + 1)).length a1, .slice C1 (L (6 + 3 * k + 1)).length c1] x fun e w' => e = .returned (.bool true) ∧ Below x.heap.size x w') := Lib.hid fun x hx => by
            have h := rSameCards _ _ _ _ x ((HR.out (6 + 3 * k + 1) (by omega)).below hx) ((HS.out (6 + 3 * k + 1) (by omega)).below hx)
            rw [e1, f1, decide_eq_true rfl] at h
            exact h
          rw [e1] at p1
          rw [f1] at q1
          clear e1 f1
          obtain ⟨n1, hn1⟩ : ∃ n, (L (6 + 3 * k + 1)).length = n := ⟨_, rfl⟩
          rw [hn1] at K1 p1 q1
          clear hn1
          obtain ⟨A2, a2, e2, _⟩ := HR.out (6 + 3 * k + 2) (by omega)
          obtain ⟨C2, c2, f2, _⟩ := HS.out (6 + 3 * k + 2) (by omega)
          have K2 : Hid (∀ x, Below w.heap.size w x → Calls Try.prog 17 #[.slice A2 (L (6 + 3 * k + 2)).length a2, .slice C2 (L (6 + 3 * k + 2)).length c2] x fun e w' => e = .returned (.bool true) ∧ Below x.heap.size x w') := Lib.hid fun x hx => by
            have h := rSameCards _ _ _ _ x ((HR.out (6 + 3 * k + 2) (by omega)).below hx) ((HS.out (6 + 3 * k + 2) (by omega)).below hx)
            rw [e2, f2, decide_eq_true rfl] at h
            exact h
          rw [e2] at p2
          rw [f2] at q2
          clear e2 f2
          obtain ⟨n2, hn2⟩ : ∃ n, (L (6 + 3 * k + 2)).length = n := ⟨_, rfl⟩
          rw [hn2] at K2 p2 q2
          clear hn2
          have hl1 : w.heap.size < wr.heap.size := by have := HT.out.size; omega
          have hl2 : w.heap.size + 1 < wr.heap.size := by have := HT.out.size; omega
          go_wp2_with fail
          go_region
          all_goals
            go_wp2_with (first
              | (go_at_call 17; (with_reducible refine (K0.out _ (HT.out.alloc2 _ _).below).mono ?_); rintro e w1 ⟨rfl, b1⟩; have T1 := Lib.hid ((HT.out.alloc2 _ _).next b1); obtain ⟨x1, y1⟩ := lanes2 _ _ _ _ _ _ b1 1; simp at x1 y1; obtain ⟨x2, y2⟩ := lanes2 _ _ _ _ _ _ b1 2; simp at x2 y2; have hl3 := b1.size; simp at hl3; have hl4 : wr.heap.size < w1.heap.size := (by omega); have hl5 : wr.heap.size + 1 < w1.heap.size := (by omega); clear b1 hl3)
              | (go_at_call 17; (with_reducible refine (K1.out _ T1.out.below).mono ?_); rintro e w2 ⟨rfl, b2⟩; have T2 := Lib.hid (T1.out.next b2); have x2 := (b2.cell (p := ⟨wr.heap.size, 2, none⟩) hl4).trans x2; have y2 := (b2.cell (p := ⟨wr.heap.size + 1, 2, none⟩) hl5).trans y2; clear b2)
              | (go_at_call 17; (with_reducible refine (K2.out _ T2.out.below).mono ?_); rintro e w3 ⟨rfl, b3⟩; have T3 := Lib.hid (T2.out.next b3); clear b3))
            go_roundw
            case rel => exact ⟨k + 1, by go_num, by omega, T3.out⟩
            case measure => simp [intOf]; omega
        · have lk : ¬ (k : Int) < 2 := by omega
          go_wp2
          go_ret
          exact ⟨rfl, HT.out.below⟩
end Go.Proofs.Ytkalpclckgbedaa
