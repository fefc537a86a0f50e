/-
  The law WireReads: it returns true for every input and writes nothing that was there. No conditions.
-/
import Derived.Test.YtnflahkpccfhaaaWireR3
import Derived.Test.YtnflahkpccfhaaaWireRef3
import Derived.Test.YtnflahkpccfhaaaWireActs
import Derived.BigQuiet
import Derived.Deep.RegionWith
namespace Go.Proofs.Ytnflahkpccfhaaa
open Go.ChangeShapes Go.WideShapes Go.ChangeAt Go.RowKit
set_option linter.unusedVariables false
set_option linter.unusedSimpArgs false
/-- What stands in a round of the loop: a reader of s at place a with error E. -/
structure RRound (w : World) (s : ByteArray) (y : Int × Int) (x : World) : Prop where
  at_ : RAt x w.heap.size s y.1 y.2
  ref : Whole x (w.heap.size + 1) 42 #[.string s, .int .i64 y.1, .int .i64 y.2]
  below : Below w.heap.size w x
/-- In the middle of a round: the reader is at x0, the document's at y0, the act lies in block ha. -/
structure RMid (w : World) (s : ByteArray) (x0 y0 : Int × Int) (ha : Nat) (cs : Array Value) (x : World) : Prop where
  at_ : RAt x w.heap.size s x0.1 x0.2
  ref : Whole x (w.heap.size + 1) 42 #[.string s, .int .i64 y0.1, .int .i64 y0.2]
  act : Whole x ha 28 cs
  below : Below w.heap.size w x
  past : w.heap.size + 2 ≤ ha
theorem RAt.below {w w' : World} {g : Nat} {S : ByteArray} {a E : Int} (h : RAt w g S a E) (hb : Below w.heap.size w w') : RAt w' g S a E := ⟨h.whole.below hb h.whole.inside, h.lo, h.hi⟩
theorem RRound.start (w : World) (s : ByteArray) : RRound w s (0, 0) ((w.alloc (.cells #[.bool true, .int .i64 0, .string s] 66)).alloc (.cells #[.string s, .int .i64 0, .int .i64 0] 42)) := by
  have t := Two.start w 66 #[.bool true, .int .i64 0, .string s] 42 #[.string s, .int .i64 0, .int .i64 0]
  refine ⟨⟨?_, by omega, by simp⟩, t.k1, t.below⟩
  have e : s.extract (0 : Int).toNat s.size = s := ByteArray.extract_zero_size
  rw [e]
  exact t.k0
theorem RMid.start {w x : World} {s : ByteArray} {y : Int × Int} (h : RRound w s y x) (cs : Array Value) : RMid w s y y x.heap.size cs (x.alloc (.cells cs 28)) := by
  have b := below_more (Below.refl _ x) (.cells cs 28)
  exact ⟨h.at_.below b, h.ref.below b h.ref.inside, Whole.made _ _ _, h.below.alloc h.below.size _, by have := h.ref.inside; omega⟩
theorem RMid.next {w x y : World} {s : ByteArray} {x0 y0 : Int × Int} {ha : Nat} {cs : Array Value} (h : RMid w s x0 y0 ha cs x) (hb : Below x.heap.size x y) : RMid w s x0 y0 ha cs y :=
  ⟨h.at_.below hb, h.ref.below hb h.ref.inside, h.act.below hb h.act.inside, h.below.trans (hb.mono h.below.size), h.past⟩
theorem RMid.read {w x y : World} {s : ByteArray} {x0 x1 y0 : Int × Int} {ha : Nat} {cs : Array Value} (h : RMid w s x0 y0 ha cs x) (hr : RAt y w.heap.size s x1.1 x1.2) (hk : Keeps (fun k => k = w.heap.size) x y) : RMid w s x1 y0 ha cs y :=
  ⟨hr, hk.whole h.ref (by omega), hk.whole h.act (by have := h.past; omega), h.below.trans (hk.below h.below.size (fun k hk => by omega)), h.past⟩
theorem RMid.put {w x : World} {s : ByteArray} {x0 y0 : Int × Int} {ha : Nat} {cs : Array Value} (h : RMid w s x0 y0 ha cs x) (y1 : Int × Int) :
    RMid w s x0 y1 ha cs (((x.setCell ⟨w.heap.size + 1, 0, none⟩ (.string s)).setCell ⟨w.heap.size + 1, 1, none⟩ (.int .i64 y1.1)).setCell ⟨w.heap.size + 1, 2, none⟩ (.int .i64 y1.2)) := by
  have k : Keeps (fun k => k = w.heap.size + 1) x (((x.setCell ⟨w.heap.size + 1, 0, none⟩ (.string s)).setCell ⟨w.heap.size + 1, 1, none⟩ (.int .i64 y1.1)).setCell ⟨w.heap.size + 1, 2, none⟩ (.int .i64 y1.2)) :=
    Keeps.setCell (S := fun k => k = w.heap.size + 1) (Keeps.setCell (S := fun k => k = w.heap.size + 1) (Keeps.setCell (S := fun k => k = w.heap.size + 1) (Keeps.refl _ _) rfl _) rfl _) rfl _
  exact ⟨h.at_.keeps k (by omega), ((h.ref.write 0 _).write 1 _).write 2 _, k.whole h.act (by have := h.past; omega), h.below.trans (k.below h.below.size (fun k hk => by omega)), h.past⟩
theorem RMid.done {w x : World} {s : ByteArray} {y : Int × Int} {ha : Nat} {cs : Array Value} (h : RMid w s y y ha cs x) : RRound w s y x := ⟨h.at_, h.ref, h.below⟩
theorem RMid.drewN {w x : World} {s : ByteArray} {x0 y0 : Int × Int} {ha : Nat} {cs : Array Value} (h : RMid w s x0 y0 ha cs x) (n : Nat) : RMid w s x0 y0 ha cs (x.drewN n) :=
  ⟨⟨h.at_.whole, h.at_.lo, h.at_.hi⟩, h.ref, h.act, ⟨h.below.os, h.below.tape, h.below.output, h.below.size, h.below.block⟩, h.past⟩
/-- At the end: the reader is at x0, the document's at y0. -/
structure RFin (w : World) (s : ByteArray) (x0 y0 : Int × Int) (x : World) : Prop where
  at_ : RAt x w.heap.size s x0.1 x0.2
  ref : Whole x (w.heap.size + 1) 42 #[.string s, .int .i64 y0.1, .int .i64 y0.2]
  below : Below w.heap.size w x
theorem RRound.fin {w x : World} {s : ByteArray} {y : Int × Int} (h : RRound w s y x) : RFin w s y y x := ⟨h.at_, h.ref, h.below⟩
theorem RFin.next {w x y : World} {s : ByteArray} {x0 y0 : Int × Int} (h : RFin w s x0 y0 x) (hb : Below x.heap.size x y) : RFin w s x0 y0 y :=
  ⟨h.at_.below hb, h.ref.below hb h.ref.inside, h.below.trans (hb.mono h.below.size)⟩
theorem RFin.read {w x y : World} {s : ByteArray} {x0 x1 y0 : Int × Int} (h : RFin w s x0 y0 x) (hr : RAt y w.heap.size s x1.1 x1.2) (hk : Keeps (fun k => k = w.heap.size) x y) : RFin w s x1 y0 y :=
  ⟨hr, hk.whole h.ref (by omega), h.below.trans (hk.below h.below.size (fun k hk => by omega))⟩
theorem RFin.drew {w x : World} {s : ByteArray} {x0 y0 : Int × Int} (h : RFin w s x0 y0 x) : RFin w s x0 y0 x.drew := ⟨⟨h.at_.whole, h.at_.lo, h.at_.hi⟩, h.ref, h.below.drew⟩
theorem RFin.put {w x : World} {s : ByteArray} {x0 y0 : Int × Int} (h : RFin w s x0 y0 x) (y1 : Int × Int) :
    RFin w s x0 y1 (((x.setCell ⟨w.heap.size + 1, 0, none⟩ (.string s)).setCell ⟨w.heap.size + 1, 1, none⟩ (.int .i64 y1.1)).setCell ⟨w.heap.size + 1, 2, none⟩ (.int .i64 y1.2)) := by
  have k : Keeps (fun k => k = w.heap.size + 1) x (((x.setCell ⟨w.heap.size + 1, 0, none⟩ (.string s)).setCell ⟨w.heap.size + 1, 1, none⟩ (.int .i64 y1.1)).setCell ⟨w.heap.size + 1, 2, none⟩ (.int .i64 y1.2)) :=
    Keeps.setCell (S := fun k => k = w.heap.size + 1) (Keeps.setCell (S := fun k => k = w.heap.size + 1) (Keeps.setCell (S := fun k => k = w.heap.size + 1) (Keeps.refl _ _) rfl _) rfl _) rfl _
  exact ⟨h.at_.keeps k (by omega), ((h.ref.write 0 _).write 1 _).write 2 _, h.below.trans (k.below h.below.size (fun k hk => by omega))⟩
set_option maxRecDepth 20000 in
set_option maxHeartbeats 6400000 in
theorem walk_WireReads {H : Type} {enc : TypeId × Value → H} {base : Nat} {d : DataW H} {p : List MemPlace} (s : ByteArray) (v : Value) (w : World) (ws0 : s.size ≤ maxLen) (ok : Value.okWide Try.prog w .any base 22 v)
    (h : DataW.Trod enc Try.prog w 0 (fun _ => true) true 22 v d p) :
    Calls Try.prog 4 #[.string s, v] w fun e w' => e = .returned (.bool true) ∧ Below w.heap.size w w' := by
  obtain ⟨A, len, cap, f, rfl, hacts⟩ := open_acts ok h
  clear ok h
  unfold maxLen at ws0
  have AC := Lib.hid hacts
  clear hacts
  by_cases h60 : 60 < len
  · go_enter Try.func4, Try.ntmps4
    go_wp2_with (first
      | (go_at_call 18; refine (Read_any _ _).mono ?_; rintro e w1 ⟨rfl, rfl⟩))
    go_ret
    exact ⟨rfl, below_more (Below.refl _ _) _⟩
  · by_cases h2000 : 2000 < s.size
    · go_enter Try.func4, Try.ntmps4
      go_wp2_with (first
        | (go_at_call 18; refine (Read_any _ _).mono ?_; rintro e w1 ⟨rfl, rfl⟩))
      go_ret
      exact ⟨rfl, below_more (Below.refl _ _) _⟩
    · have l60 : len ≤ 60 := by omega
      have l2000 : s.size ≤ 2000 := by omega
      have hS : s.size ≤ 140737488355328 := by omega
      have R0 := Lib.hid (RRound.start w s)
      go_enter Try.func4, Try.ntmps4
      go_wp2_with (first
        | (go_at_call 18; refine (Read_any _ _).mono ?_; rintro e w1 ⟨rfl, rfl⟩))
      go_loopw [7] (fun i wr => ∃ (k : Nat) (y : Int × Int), i = .int .i64 k ∧ k ≤ len ∧ RRound w s y wr) (fun i _ => len - (intOf i).toNat)
      case atStart => exact ⟨0, (0, 0), rfl, by omega, R0.out⟩
      case round =>
        obtain ⟨k, y, rfl, hk, hr⟩ := hrel
        have RR := Lib.hid hr
        have g0 := hr.at_.lo
        have g1 := hr.at_.hi
        obtain ⟨b0, b1, b2, v0, v1, v2⟩ := whole3 hr.ref
        clear hr
        obtain ⟨a, E⟩ := y
        simp only at g0 g1 b0 b1 b2
        by_cases hkl : k < len
        · obtain ⟨x, rfl, hx, x0, x1, x2, x3, x4, hwf⟩ := AC.out.get hkl RR.out.below
          obtain ⟨wk, wn, wa, wb, ws⟩ := hwf
          generalize f k = y at *
          obtain ⟨ak, an, aa, ab, st⟩ := y
          simp only at x0 x1 x2 x3 x4 wk wn wa wb ws
          have M0 := Lib.hid (RMid.start RR.out #[.int .i64 ak, .int .i64 an, .int .i64 aa, .int .i64 ab, .string st])
          have hl : decide ((k : Int) < len) = true := by simp [hkl]
          have hin := RR.out.ref.inside
          clear wk wn wa wb ws
          by_cases h0 : ak = 0
          · subst h0
            have cP := fun w => rNum5_any s a E aa hS (by omega) (by omega) w
            have cR := fun x h => rNum_any x w.heap.size s a E h hS aa
            generalize rnum s a E aa = X at *
            obtain ⟨⟨a', E'⟩, n⟩ := X
            unfold rdV at cP
            simp only at cP cR
            go_wp2_with (first
              | (go_at_call 19; refine (cP _).mono ?_; rintro e w1 ⟨rfl, b1'⟩
                 have m1 := M0.out.next b1'
                 have M1 := Lib.hid m1
                 obtain ⟨c0, c1, c2, z0, z1, z2⟩ := whole3 m1.ref
                 obtain ⟨e0, e1, e2, e3, e4⟩ := whole5 m1.act
                 have l0 := m1.ref.inside
                 have l1 := m1.act.inside
                 clear b1' m1)
              | (go_at_call 20; refine (cR _ ((M1.out.put (a', E')).next (below_more (Below.refl _ _) (.cells #[.string s, .int .i64 a', .int .i64 E'] 42))).at_).mono ?_; rintro e w2 ⟨rfl, h2, k2⟩
                 have m2 := ((M1.out.put (a', E')).next (below_more (Below.refl _ _) (.cells #[.string s, .int .i64 a', .int .i64 E'] 42))).read h2 k2
                 have M2 := Lib.hid m2
                 obtain ⟨d0, d1, d2, _, _, _⟩ := whole3 m2.ref
                 have g2 := h2.lo
                 have g3 := h2.hi
                 clear h2 k2 m2))
            try simp only at g2 g3
            go_quiet (first
              | (go_at_call 29; exact (rLeft_any _ _ _ _ _ (M2.out.drewN _).at_ hS).mono fun e w' h => ⟨h.1, _, h.2.symm⟩)
              | (go_at_call 30; exact (rErr_any _ _ _ _ _ (M2.out.drewN _).at_).mono fun e w' h => ⟨h.1, _, h.2.symm⟩))
            go_wp2
            go_roundw
            case rel => exact ⟨k + 1, (a', E'), by go_num, by omega, (M2.out.drewN _).done⟩
            case measure => simp [intOf]; omega
          · by_cases h1 : ak = 1
            · subst h1
              have cP := fun w => rSig5_any s a E aa ab hS (by omega) (by omega) w
              have cR := fun x h => rSig_any x w.heap.size s a E h hS aa ab
              generalize rsig s a E aa ab = X at *
              obtain ⟨⟨a', E'⟩, n⟩ := X
              unfold rdV at cP
              simp only at cP cR
              go_wp2_with (first
                | (go_at_call 21; refine (cP _).mono ?_; rintro e w1 ⟨rfl, b1'⟩
                   have m1 := M0.out.next b1'
                   have M1 := Lib.hid m1
                   obtain ⟨c0, c1, c2, z0, z1, z2⟩ := whole3 m1.ref
                   obtain ⟨e0, e1, e2, e3, e4⟩ := whole5 m1.act
                   have l0 := m1.ref.inside
                   have l1 := m1.act.inside
                   clear b1' m1)
                | (go_at_call 22; refine (cR _ ((M1.out.put (a', E')).next (below_more (Below.refl _ _) (.cells #[.string s, .int .i64 a', .int .i64 E'] 42))).at_).mono ?_; rintro e w2 ⟨rfl, h2, k2⟩
                   have m2 := ((M1.out.put (a', E')).next (below_more (Below.refl _ _) (.cells #[.string s, .int .i64 a', .int .i64 E'] 42))).read h2 k2
                   have M2 := Lib.hid m2
                   obtain ⟨d0, d1, d2, _, _, _⟩ := whole3 m2.ref
                   have g2 := h2.lo
                   have g3 := h2.hi
                   clear h2 k2 m2))
              try simp only at g2 g3
              go_quiet (first
                | (go_at_call 29; exact (rLeft_any _ _ _ _ _ (M2.out.drewN _).at_ hS).mono fun e w' h => ⟨h.1, _, h.2.symm⟩)
                | (go_at_call 30; exact (rErr_any _ _ _ _ _ (M2.out.drewN _).at_).mono fun e w' h => ⟨h.1, _, h.2.symm⟩))
              go_wp2
              go_roundw
              case rel => exact ⟨k + 1, (a', E'), by go_num, by omega, (M2.out.drewN _).done⟩
              case measure => simp [intOf]; omega
            · by_cases h2 : ak = 2
              · subst h2
                have cP := fun w => rBool5_any s a E hS g0 g1 w
                have cR := fun x h => rBool_any x w.heap.size s a E h hS
                generalize rbool s a E = X at *
                obtain ⟨⟨a', E'⟩, n⟩ := X
                unfold rdV at cP
                simp only at cP cR
                go_wp2_with (first
                  | (go_at_call 23; refine (cP _).mono ?_; rintro e w1 ⟨rfl, b1'⟩
                     have m1 := M0.out.next b1'
                     have M1 := Lib.hid m1
                     obtain ⟨c0, c1, c2, z0, z1, z2⟩ := whole3 m1.ref
                     obtain ⟨e0, e1, e2, e3, e4⟩ := whole5 m1.act
                     have l0 := m1.ref.inside
                     have l1 := m1.act.inside
                     clear b1' m1)
                  | (go_at_call 24; refine (cR _ ((M1.out.put (a', E')).next (below_more (Below.refl _ _) (.cells #[.string s, .int .i64 a', .int .i64 E'] 42))).at_).mono ?_; rintro e w2 ⟨rfl, h2, k2⟩
                     have m2 := ((M1.out.put (a', E')).next (below_more (Below.refl _ _) (.cells #[.string s, .int .i64 a', .int .i64 E'] 42))).read h2 k2
                     have M2 := Lib.hid m2
                     obtain ⟨d0, d1, d2, _, _, _⟩ := whole3 m2.ref
                     have g2 := h2.lo
                     have g3 := h2.hi
                     clear h2 k2 m2))
                try simp only at g2 g3
                go_quiet (first
                  | (go_at_call 29; exact (rLeft_any _ _ _ _ _ (M2.out.drewN _).at_ hS).mono fun e w' h => ⟨h.1, _, h.2.symm⟩)
                  | (go_at_call 30; exact (rErr_any _ _ _ _ _ (M2.out.drewN _).at_).mono fun e w' h => ⟨h.1, _, h.2.symm⟩))
                go_wp2
                go_roundw
                case rel => exact ⟨k + 1, (a', E'), by go_num, by omega, (M2.out.drewN _).done⟩
                case measure => simp [intOf]; omega
              · by_cases h3 : ak = 3
                · subst h3
                  have cP := fun w => rTake5_any s a E aa hS g0 g1 w
                  have cR := fun x h => rText_any x w.heap.size s a E h hS aa
                  generalize rtext s a E aa = X at *
                  obtain ⟨⟨a', E'⟩, n⟩ := X
                  unfold rdV at cP
                  simp only at cP cR
                  go_wp2_with (first
                    | (go_at_call 25; refine (cP _).mono ?_; rintro e w1 ⟨rfl, b1'⟩
                       have m1 := M0.out.next b1'
                       have M1 := Lib.hid m1
                       obtain ⟨c0, c1, c2, z0, z1, z2⟩ := whole3 m1.ref
                       obtain ⟨e0, e1, e2, e3, e4⟩ := whole5 m1.act
                       have l0 := m1.ref.inside
                       have l1 := m1.act.inside
                       clear b1' m1)
                    | (go_at_call 26; refine (cR _ ((M1.out.put (a', E')).next (below_more (Below.refl _ _) (.cells #[.string s, .int .i64 a', .int .i64 E'] 42))).at_).mono ?_; rintro e w2 ⟨rfl, h2, k2⟩
                       have m2 := ((M1.out.put (a', E')).next (below_more (Below.refl _ _) (.cells #[.string s, .int .i64 a', .int .i64 E'] 42))).read h2 k2
                       have M2 := Lib.hid m2
                       obtain ⟨d0, d1, d2, _, _, _⟩ := whole3 m2.ref
                       have g2 := h2.lo
                       have g3 := h2.hi
                       clear h2 k2 m2))
                  try simp only at g2 g3
                  go_quiet (first
                    | (go_at_call 29; exact (rLeft_any _ _ _ _ _ (M2.out.drewN _).at_ hS).mono fun e w' h => ⟨h.1, _, h.2.symm⟩)
                    | (go_at_call 30; exact (rErr_any _ _ _ _ _ (M2.out.drewN _).at_).mono fun e w' h => ⟨h.1, _, h.2.symm⟩))
                  go_wp2
                  go_roundw
                  case rel => exact ⟨k + 1, (a', E'), by go_num, by omega, (M2.out.drewN _).done⟩
                  case measure => simp [intOf]; omega
                · skip
                  have cP := fun w => rFail5_any s a E an w
                  have cR := fun x h => rFail_any x w.heap.size s a E h an
                  generalize rfail E an = E' at *
                  unfold rdV at cP
                  have K0 : (ak == 0) = false := by rw [beq_eq_false_iff_ne]; exact h0
                  have K1 : (ak == 1) = false := by rw [beq_eq_false_iff_ne]; exact h1
                  have K2 : (ak == 2) = false := by rw [beq_eq_false_iff_ne]; exact h2
                  have K3 : (ak == 3) = false := by rw [beq_eq_false_iff_ne]; exact h3
                  go_wp2_with (first
                    | (go_at_call 27; refine (cP _).mono ?_; rintro e w1 ⟨rfl, b1'⟩
                       have m1 := M0.out.next b1'
                       have M1 := Lib.hid m1
                       obtain ⟨c0, c1, c2, z0, z1, z2⟩ := whole3 m1.ref
                       obtain ⟨e0, e1, e2, e3, e4⟩ := whole5 m1.act
                       clear b1' m1)
                    | (go_at_call 28; refine (cR _ (M1.out.put (a, E')).at_).mono ?_; rintro e w2 ⟨rfl, h2, k2⟩
                       have m2 := (M1.out.put (a, E')).read h2 k2
                       have M2 := Lib.hid m2
                       obtain ⟨d0, d1, d2, _, _, _⟩ := whole3 m2.ref
                       clear h2 k2 m2))
                  go_quiet (first
                    | (go_at_call 29; exact (rLeft_any _ _ _ _ _ (M2.out.drewN _).at_ hS).mono fun e w' h => ⟨h.1, _, h.2.symm⟩)
                    | (go_at_call 30; exact (rErr_any _ _ _ _ _ (M2.out.drewN _).at_).mono fun e w' h => ⟨h.1, _, h.2.symm⟩))
                  go_wp2
                  go_roundw
                  case rel => exact ⟨k + 1, (a, E'), by go_num, by omega, (M2.out.drewN _).done⟩
                  case measure => simp [intOf]; omega
        · skip
          have hl2 : decide ((k : Int) < len) = false := by simp; omega
          have F0 := Lib.hid RR.out.fin
          have cP := fun w => rEnd5_any s a E hS w
          have cR := fun x h => rEnd_any x w.heap.size s a E h hS
          generalize rend s a E = E' at *
          unfold rdV at cP
          go_wp2_with (first
            | (go_at_call 31; refine (cP _).mono ?_; rintro e w1 ⟨rfl, b1'⟩
               have m1 := F0.out.next b1'
               have F1 := Lib.hid m1
               obtain ⟨c0, c1, c2, z0, z1, z2⟩ := whole3 m1.ref
               clear b1' m1))
          obtain ⟨wx, hwx⟩ : ∃ x, x = ((w1.setCell ⟨w.heap.size + 1, 0, none⟩ (.string s)).setCell ⟨w.heap.size + 1, 1, none⟩ (.int .i64 a)).setCell ⟨w.heap.size + 1, 2, none⟩ (.int .i64 E') := ⟨_, rfl⟩
          rw [← hwx]
          have F2 := Lib.hid (show RFin w s (a, E) (a, E') wx from hwx ▸ F1.out.put (a, E'))
          obtain ⟨_, _, y2, _, _, _⟩ := whole3 F2.out.ref
          clear hwx c0 c1 c2 z0 z1 z2
          go_region_with (first
            | (go_at_call 32; (with_reducible refine (cR _ F2.out.drew.at_).mono ?_); rintro e w2 ⟨rfl, h2, k2⟩
               have m2 := (RFin.drew F2.out).read (x1 := (a, E')) h2 k2
               have F3 := Lib.hid m2
               obtain ⟨_, _, d2, _, _, _⟩ := whole3 m2.ref
               clear h2 k2 m2)
            | (go_at_call 30; (with_reducible refine (rErr_any _ _ _ _ _ F3.out.at_).mono ?_); rintro e w3 ⟨rfl, rfl⟩)
            | (go_at_call 8; (with_reducible refine (lives_any _).mono ?_); rintro e w4 ⟨rfl, b4⟩))
          all_goals
            go_wp2
            go_ret
            exact ⟨rfl, F3.out.below.trans (b4.mono F3.out.below.size)⟩
end Go.Proofs.Ytnflahkpccfhaaa
