/-
  The contracts of package tokens, on: what lies between tokens, going on. Conditions: strings are no longer than a string can be.
-/
import Derived.Test.YtnlnkjjegaihcaaTok3
namespace Go.Proofs.Ytnlnkjjegaihcaa
open Go.ChangeShapes Go.WideShapes Go.ChangeAt Go.RowKit
set_option linter.unusedVariables false
set_option linter.unusedSimpArgs false
theorem gap_skip (t : ByteArray) : ∀ (k pos : Nat), pos + k ≤ t.size → (∀ j, j < k → gB t (pos + j) ≠ 10) → gapM (restL t pos) true = k + gapM (restL t (pos + k)) true
  | 0, pos, _, _ => by simp
  | k + 1, pos, h, hb => by
    have h0 := hb 0 (by omega)
    rw [Nat.add_zero] at h0
    rw [restL_cons t (show pos < t.size by omega)]
    simp only [gapM]
    rw [(notC_iff 10 _).2 (by omega), gap_skip t k (pos + 1) (by omega) (fun j hj => by have := hb (j + 1) (by omega); rwa [show pos + 1 + j = pos + (j + 1) from by omega]), show pos + 1 + k = pos + (k + 1) from by omega]
    omega
theorem gap_in (t : ByteArray) (pos : Nat) (h : pos < t.size) : gapM (restL t pos) true = (Utf8.decode t pos).2 + gapM (restL t (pos + (Utf8.decode t pos).2)) (((Utf8.decode t pos).1 : Int) != 10) := by
  have hd := dec_bd t pos h
  by_cases h1 : (Utf8.decode t pos).2 = 1
  · have e : (((Utf8.decode t pos).1 : Int) != 10) = notC 10 (gB t pos : Int) := by
      unfold bne
      rw [eql_dec t pos 10 (by omega) (by omega)]
      unfold notC
      congr 1
    rw [e, h1, restL_cons t h]
    rfl
  · have hall : ∀ j, j < (Utf8.decode t pos).2 → gB t (pos + j) ≠ 10 := by
      intro j hj
      by_cases hj0 : j = 0
      · subst hj0
        rw [Nat.add_zero]
        intro hc
        rw [dec_of_ascii t pos (by omega)] at h1
        exact h1 rfl
      · have := dec_cont t pos j h (by omega) hj
        omega
    have e : (((Utf8.decode t pos).1 : Int) != 10) = true := by
      unfold bne
      rw [eql_dec t pos 10 (by omega) (by omega)]
      have := hall 0 (by omega)
      rw [Nat.add_zero] at this
      simp
      omega
    rw [e]
    exact gap_skip t _ pos hd.2.1 hall
theorem gap_hash (t : ByteArray) (pos : Nat) (h : pos < t.size) (h35 : gB t pos = 35) : gapM (restL t pos) false = (Utf8.decode t pos).2 + gapM (restL t (pos + (Utf8.decode t pos).2)) true := by
  rw [dec_of_ascii t pos (by omega), restL_cons t h, h35]
  simp only [gapM]
  rw [if_pos (show ((35 : Nat) : Int) = 35 from rfl)]
theorem gap_blank (t : ByteArray) (pos : Nat) (h : pos < t.size) (h35 : gB t pos ≠ 35) (hb : isBl (gB t pos : Int) = true) : gapM (restL t pos) false = (Utf8.decode t pos).2 + gapM (restL t (pos + (Utf8.decode t pos).2)) false := by
  have : gB t pos < 128 := by rw [isBl_iff] at hb; omega
  rw [dec_of_ascii t pos this, restL_cons t h]
  simp only [gapM]
  rw [if_neg (by omega), if_pos hb]
theorem gap_stop (t : ByteArray) (pos : Nat) (h : pos < t.size) (h35 : gB t pos ≠ 35) (hb : isBl (gB t pos : Int) = false) : gapM (restL t pos) false = 0 := by
  rw [restL_cons t h]
  simp only [gapM]
  rw [if_neg (by omega), if_neg (by rw [hb]; simp)]
theorem tkGap (t : ByteArray) (w : World) (hs : t.size ≤ 140737488355328) : Calls Try.prog 39 #[.string t] w fun e w' => e = .returned (.int .i64 (gapM (restL t 0) false : Nat)) ∧ Below w.heap.size w w' := by
  generalize hG : gapM (restL t 0) false = G
  have HG := Lib.hid hG
  clear hG
  go_enter Try.func39, Try.ntmps39
  go_wp2
  go_loopw [3] (fun c wr => ∃ (pos : Nat) (b : Bool), c = .bool b ∧ wr = w.iter t pos ∧ pos ≤ t.size ∧ pos + gapM (restL t pos) b = G) (fun _ wr => t.size - wr.iterPos w.heap.size)
  case atStart => exact ⟨0, false, rfl, rfl, by omega, by rw [Nat.zero_add]; exact HG.out⟩
  case round =>
    obtain ⟨pos, b, rfl, rfl, hps, he⟩ := hrel
    have HE := Lib.hid he
    clear he
    by_cases hp : pos < t.size
    · have hnx : ∀ ty, (Instr.next (.pointer (some ⟨w.heap.size, 0, none⟩)) true ty).run Try.prog (w.iter t pos) = _ := fun ty => run_next_any w t pos ty hp
      have hd := dec_bd t pos hp
      obtain ⟨d1, d2, d3, d4⟩ := hd
      have c1 := fun w => Blank_any ((Utf8.decode t pos).1 : Int) w
      rw [blank_dec] at c1
      have q35 := eql_dec t pos 35 (by omega) (by omega)
      cases b with
      | true =>
        have hg := gap_in t pos hp
        have HX := Lib.hid hg
        clear hg q35 c1
        go_wp2
        go_roundw
        case rel => exact ⟨pos + (Utf8.decode t pos).2, _, rfl, rfl, d2, by have := HX.out; have := HE.out; omega⟩
        case measure => simp; omega
      | false =>
        by_cases h35 : gB t pos = 35
        · have hq : (((Utf8.decode t pos).1 : Int) == 35) = true := by rw [q35]; simp [h35]
          have hg := gap_hash t pos hp h35
          have HX := Lib.hid hg
          clear hg q35 h35
          go_wp2_with (go_at_call 45; refine (c1 _).mono ?_; rintro e w1 ⟨rfl, rfl⟩)
          go_roundw
          case rel => exact ⟨pos + (Utf8.decode t pos).2, true, rfl, rfl, d2, by have := HX.out; have := HE.out; omega⟩
          case measure => simp; omega
        · have hq : (((Utf8.decode t pos).1 : Int) == 35) = false := by rw [q35]; simp; omega
          cases hbl : isBl (gB t pos : Int) with
          | true =>
            have hg := gap_blank t pos hp h35 hbl
            have HX := Lib.hid hg
            rw [hbl] at c1
            clear hg q35 h35 hbl
            go_wp2_with (go_at_call 45; refine (c1 _).mono ?_; rintro e w1 ⟨rfl, rfl⟩)
            go_roundw
            case rel => exact ⟨pos + (Utf8.decode t pos).2, false, rfl, rfl, d2, by have := HX.out; have := HE.out; omega⟩
            case measure => simp; omega
          | false =>
            have hg := gap_stop t pos hp h35 hbl
            have HX := Lib.hid hg
            rw [hbl] at c1
            clear hg q35 h35 hbl
            go_wp2_with (go_at_call 45; refine (c1 _).mono ?_; rintro e w1 ⟨rfl, rfl⟩)
            go_ret
            exact ⟨rI (by have := HX.out; have := HE.out; omega), (Below.refl _ _).alloc (Nat.le_refl _) _⟩
    · have hnx : ∀ ty, (Instr.next (.pointer (some ⟨w.heap.size, 0, none⟩)) true ty).run Try.prog (w.iter t pos) = _ := fun ty => run_next_end w t pos ty hp
      have hz : t.size = G := by
        have := HE.out
        rw [restL_nil t (by omega)] at this
        cases b <;> (simp only [gapM] at this; omega)
      have HZ := Lib.hid hz
      clear hz
      go_wp2
      go_ret
      exact ⟨rI (by have := HZ.out; omega), (Below.refl _ _).alloc (Nat.le_refl _) _⟩
/-- What 'pass' leaves: the text behind block X is further on. -/
def PassPost (X : Nat) (r : ByteArray) (p : Nat × Nat) (n : Nat) (w : World) (e : Ending) (w' : World) : Prop :=
  e = .returned (.tuple #[]) ∧ Whole w' X 71 #[.string (r.extract n r.size), .int .i64 ((adv p (placeOf (r.extract 0 n) n)).1 : Nat), .int .i64 ((adv p (placeOf (r.extract 0 n) n)).2 : Nat)] ∧ Keeps (fun b => b = X) w w'
theorem tkPass (X : Nat) (r : ByteArray) (p : Nat × Nat) (n : Nat) (w : World) (hr : r.size ≤ 140737488355328) (hn : n ≤ r.size) (p1 : p.1 ≤ 140737488355328) (p2 : p.2 ≤ 140737488355328)
    (hW : Whole w X 71 #[.string r, .int .i64 (p.1 : Nat), .int .i64 (p.2 : Nat)]) :
    Calls Try.prog 38 #[.pointer (some ⟨X, 0, none⟩), .int .i64 (n : Int)] w (PassPost X r p n w) := by
  have hz := size_extract r 0 n hn
  have hpb := placeOf_bd (r.extract 0 n) n
  have c1 := fun w => Place_any (r.extract 0 n) (n : Int) w (by omega)
  have hq3 : 1 ≤ ((placeOf (r.extract 0 n) (n : Int)).2 : Int) := by
    have e := (place_pos (r.extract 0 n) (Bd.end_ _)).2
    rw [hz, Nat.sub_zero] at e
    omega
  generalize hq : placeOf (r.extract 0 n) (n : Int) = q at *
  have HQ := Lib.hid hq
  rw [hz] at hpb
  obtain ⟨hq1, hq2⟩ := hpb
  have l1 : (n : Int) ≤ (r.size : Int) := by omega
  have k0 : w.cell? ⟨X, 0, none⟩ = some (.string r) := hW.read 0
  have HW := Lib.hid hW
  clear hq hz hW
  have hXi := HW.out.inside
  by_cases hl : 1 < (q.1 : Int)
  · have ha : adv p q = (p.1 + q.1 - 1, q.2) := by unfold adv; rw [if_pos (by omega)]
    have HA := Lib.hid ha
    clear ha
    go_enter Try.func38, Try.ntmps38
    go_wp2_with (go_at_call 44; refine (c1 _).mono ?_; rintro e w1 ⟨rfl, b1⟩; have W1 := Lib.hid (HW.out.below b1 hXi); have B1 := Lib.hid b1; have k0 := W1.out.read 0; have k1 := W1.out.read 1; have k2 := W1.out.read 2; have f0 := W1.out.thawed 0; have f1 := W1.out.thawed 1; have f2 := W1.out.thawed 2; clear b1)
    go_end0
    refine ⟨rfl, ?_, ?_⟩
    · rw [HQ.out, HA.out]
      dsimp only
      rw [show ((p.1 + q.1 - 1 : Nat) : Int) = (p.1 : Int) + ((q.1 : Int) - 1) from by omega]
      exact ((W1.out.write 1 _).write 2 _).write 0 _
    · refine Keeps.setCell (Keeps.setCell (Keeps.setCell (Keeps.of_below B1.out) ?_ _) ?_ _) ?_ _ <;> rfl
  · have ha : adv p q = (p.1, p.2 + q.2 - 1) := by unfold adv; rw [if_neg (by omega)]
    have HA := Lib.hid ha
    have hq2' : 1 ≤ (q.2 : Int) := hq3
    clear ha
    go_enter Try.func38, Try.ntmps38
    go_wp2_with (go_at_call 44; refine (c1 _).mono ?_; rintro e w1 ⟨rfl, b1⟩; have W1 := Lib.hid (HW.out.below b1 hXi); have B1 := Lib.hid b1; have k0 := W1.out.read 0; have k1 := W1.out.read 1; have k2 := W1.out.read 2; have f0 := W1.out.thawed 0; have f1 := W1.out.thawed 1; have f2 := W1.out.thawed 2; clear b1)
    go_end0
    refine ⟨rfl, ?_, ?_⟩
    · rw [HQ.out, HA.out]
      dsimp only
      rw [show ((p.2 + q.2 - 1 : Nat) : Int) = (p.2 : Int) + ((q.2 : Int) - 1) from by omega]
      exact (W1.out.write 2 _).write 0 _
    · refine Keeps.setCell (Keeps.setCell (Keeps.of_below B1.out) ?_ _) ?_ _ <;> rfl
end Go.Proofs.Ytnlnkjjegaihcaa
