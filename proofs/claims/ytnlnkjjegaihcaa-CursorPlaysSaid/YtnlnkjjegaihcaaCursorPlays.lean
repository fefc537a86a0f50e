/-
  CursorPlays: true for every input, and it writes nothing that was there. No conditions.
-/
import Derived.Test.YtnlnkjjegaihcaaCurLaws
namespace Go.Proofs.Ytnlnkjjegaihcaa
open Go.ChangeShapes Go.WideShapes Go.ChangeAt Go.RowKit
set_option linter.unusedVariables false
set_option linter.unusedSimpArgs false
theorem okB : faultV okF = .agg #[.int .i64 0, .int .i64 0, .int .i64 0] := rfl
theorem does_r (w : World) (p r K s M : Nat) (L : List TokV) (n a d : Nat) (k : Int) (t : ByteArray) (h : CurAt w p r K L a d) (hq : RowAt w s M L) (hsp : s ≠ p) (hn : n = L.length) :
    Calls Try.prog 9 #[.pointer (some ⟨p, 0, none⟩), .agg #[.slice (some ⟨s, 0, none⟩) n M, .int .i64 (a : Int), .int .i64 (d : Int)], .agg #[.int .i64 k, .string t]] w
      fun e w' => ∃ b f : Nat, e = .returned (.tuple #[.agg #[.slice (some ⟨s, 0, none⟩) n M, .int .i64 (b : Int), .int .i64 (f : Int)], .bool true]) ∧ Moved w w' p r K L b f :=
  does_any w p r K s M L n a d k t h hq hsp hn
section
variable {w x : World} {p r K s M g n : Nat} {L : List TokV} {b f : Nat}
theorem PW.peek (h : PW w p r K s M g n L b f b f x) : Calls Try.prog 10 #[.pointer (some ⟨p, 0, none⟩)] x fun e w' => e = .returned (tokA (curT L b)) ∧ Below x.heap.size x w' := cPeek _ _ _ _ _ _ _ _ h.cur.look
theorem PW.depth (h : PW w p r K s M g n L b f b f x) : Calls Try.prog 12 #[.pointer (some ⟨p, 0, none⟩)] x fun e w' => e = .returned (.int .i64 (f : Int)) ∧ x = w' := cDepth _ _ _ _ _ _ _ _ h.cur.look
theorem PW.is (h : PW w p r K s M g n L b f b f x) (t : ByteArray) : Calls Try.prog 13 #[.pointer (some ⟨p, 0, none⟩), .string t] x fun e w' => e = .returned (.bool (isT (curT L b) t)) ∧ Below x.heap.size x w' := cIs _ _ _ _ _ _ _ _ t h.cur.look
theorem PW.wrong (h : PW w p r K s M g n L b f b f x) : Calls Try.prog 15 #[.pointer (some ⟨p, 0, none⟩)] x fun e w' => e = .returned (faultV (wrF (curT L b))) ∧ Below x.heap.size x w' := cWrong _ _ _ _ _ _ _ _ h.cur.look
theorem PW.qhere (h : PW w p r K s M g n L b f b f x) : Calls Try.prog 11 #[.agg #[.slice (some ⟨s, 0, none⟩) n M, .int .i64 (b : Int), .int .i64 (f : Int)], .int .i64 0] x fun e w' => e = .returned (tokA (curT L b)) ∧ Below x.heap.size x w' := qHere _ _ _ _ _ _ _ h.len h.row h.cur.inn
theorem PW.qis (h : PW w p r K s M g n L b f b f x) (t : ByteArray) : Calls Try.prog 14 #[.agg #[.slice (some ⟨s, 0, none⟩) n M, .int .i64 (b : Int), .int .i64 (f : Int)], .string t] x fun e w' => e = .returned (.bool (isT (curT L b) t)) ∧ Below x.heap.size x w' := qIs _ _ _ _ _ _ _ t h.len h.row h.cur.inn
theorem PW.qwrong (h : PW w p r K s M g n L b f b f x) : Calls Try.prog 16 #[.agg #[.slice (some ⟨s, 0, none⟩) n M, .int .i64 (b : Int), .int .i64 (f : Int)]] x fun e w' => e = .returned (faultV (wrF (curT L b))) ∧ Below x.heap.size x w' := qWrong _ _ _ _ _ _ _ h.len h.row h.cur.inn
theorem PW.flat (h : PW w p r K s M g n L b f b f x) {T : Addr} {t : ByteArray} (hT : T.block < w.heap.size) (ht : w.cell? T = some (.string t)) :
    PW w p r K s M g n L b f b f x ∧ x.cell? ⟨g, 0, none⟩ = some (.slice (some ⟨s, 0, none⟩) n M) ∧ x.cell? ⟨g, 1, none⟩ = some (.int .i64 (b : Int)) ∧ x.cell? ⟨g, 2, none⟩ = some (.int .i64 (f : Int)) ∧ x.cell? T = some (.string t) :=
  ⟨h, h.q.read 0, h.q.read 1, h.q.read 2, (h.below.cell (p := T) hT).trans ht⟩
end
theorem PW.aside {w x y : World} {p r K s M g n : Nat} {L : List TokV} {a d b e : Nat} (h : PW w p r K s M g n L a d b e x) {G : Nat} (hk : Keeps (fun k => k = G) x y) (h1 : p ≠ G) (h2 : r ≠ G) (h3 : s ≠ G) (h4 : g ≠ G) (hw : w.heap.size ≤ G) : PW w p r K s M g n L a d b e y :=
  ⟨h.cur.keeps hk h1 h2, h.row.keeps hk h3, hk.whole h.q h4, h.below.trans (hk.below h.below.size fun k hk => by rw [hk]; exact hw), h.pg, h.rg, h.sg, h.sp, h.wp, h.wg, h.len⟩
set_option maxHeartbeats 12800000 in
set_option maxRecDepth 100000 in
theorem walk_CursorPlays {H : Type} {enc : TypeId × Value → H} {base : Nat} {d : DataW H} {pl : List MemPlace} (s : ByteArray) (v : Value) (w : World) (ws0 : s.size ≤ maxLen) (ok : Value.okWide Try.prog w .any base 22 v)
    (h : DataW.Trod enc Try.prog w 0 (fun _ => true) true 22 v d pl) :
    Calls Try.prog 3 #[.string s, v] w fun e w' => e = .returned (.bool true) ∧ Below w.heap.size w w' := by
  obtain ⟨A, len, cap, f, rfl, hacts⟩ := open_cacts ok h
  clear ok h
  have AC := Lib.hid hacts
  clear hacts
  unfold maxLen at ws0
  by_cases hz : 2000 < s.size
  · have l0 : 2000 < (s.size : Int) := by omega
    go_enter Try.func3, Try.ntmps3
    go_wp2_with (go_at_call 6; refine (lives10 _).mono ?_; rintro e w1 ⟨rfl, hb1⟩)
    go_ret
    exact ⟨rfl, hb1⟩
  · have l0 : (s.size : Int) ≤ 2000 := by omega
    have l0d : decide (2000 < (s.size : Int)) = false := by simp; omega
    by_cases h60 : 60 < len
    · have l1 : 60 < (len : Int) := by omega
      go_enter Try.func3, Try.ntmps3
      go_wp2_with (go_at_call 6; refine (lives10 _).mono ?_; rintro e w1 ⟨rfl, hb1⟩)
      go_ret
      exact ⟨rfl, hb1⟩
    · have l1 : (len : Int) ≤ 60 := by omega
      have l1d : decide (60 < (len : Int)) = false := by simp; omega
      rcases scan_cases s (by omega) with ⟨E, l, c, hv, hE⟩ | ⟨L, hv, hL, hlen⟩
      · have hn := cNew_err s w (by omega) E l c hv hE
        have hq := fun w => qNew_err s w (by omega) E l c hv
        have q0 : (E != 0) = true := by rw [bne_iff_ne]; exact hE
        have HQ := Lib.hid hq
        clear hv hE hz hq h60
        go_enter Try.func3, Try.ntmps3
        go_wp2_with (first
          | (go_at_call 7; refine hn.mono ?_; rintro e w1 ⟨rfl, b1⟩; have B1 := Lib.hid (bthen b1 (new_block w1 (.cells #[.int .i64 E, .int .i64 (l : Int), .int .i64 (c : Int)] 27))); clear b1; simp only [faultV])
          | (go_at_call 8; refine (HQ.out _).mono ?_; rintro e w2 ⟨A2, k2, rfl, b2⟩; have F2 := (Whole.made w1 27 #[.int .i64 E, .int .i64 (l : Int), .int .i64 (c : Int)]).below b2 (Whole.made w1 27 #[.int .i64 E, .int .i64 (l : Int), .int .i64 (c : Int)]).inside; obtain ⟨k0, k1, k2', z0, z1, z2⟩ := whole3 F2; have hz2 := F2.inside; have B2 := Lib.hid (bthen B1.out b2); clear b2 F2; simp only [faultV])
          | (go_at_call 6; refine (lives10 _).mono ?_; rintro e w3 ⟨rfl, b3⟩))
        go_ret
        exact ⟨rfl, bthen (bthen (bthen B2.out (new_block _ _)) (new_block _ _)) b3⟩
      · have hn := cNew_ok s w (by omega) L hv hL
        have hq := fun w => qNew_ok s w (by omega) L hv hL
        have HQ := Lib.hid hq
        clear hv hz hL hlen hq h60
        go_enter Try.func3, Try.ntmps3
        go_wp2_with (first
          | (go_at_call 7; refine hn.mono ?_; rintro e w1 ⟨p, r, K, rfl, cu, hp, hr, b1⟩; have C1 := Lib.hid (cu.below (new_block w1 (.cells #[.int .i64 0, .int .i64 0, .int .i64 0] 27))); have B1 := Lib.hid (bthen b1 (new_block w1 (.cells #[.int .i64 0, .int .i64 0, .int .i64 0] 27))); have HP := Lib.hid (And.intro hp hr); clear cu b1 hp hr; simp only [okB])
          | (go_at_call 8; refine (HQ.out _).mono ?_; rintro e w2 ⟨s2, M, rfl, ro, hs2, b2⟩; have HS2 := Lib.hid hs2; clear hs2; have F2 := (Whole.made w1 27 #[.int .i64 0, .int .i64 0, .int .i64 0]).below b2 (Whole.made w1 27 #[.int .i64 0, .int .i64 0, .int .i64 0]).inside; obtain ⟨k0, k1, k2', z0, z1, z2⟩ := whole3 F2; have hz2 := F2.inside; have R2 := Lib.hid ro; have C2 := Lib.hid (C1.out.below b2); have B2 := Lib.hid (bthen B1.out b2); clear b2 F2 ro; simp only [okB, qA, Int.natCast_zero]))
        have P0 : Hid (PW w p r K s2 M w2.heap.size L.length L 0 0 0 0 ((w2.alloc (.cells #[.slice (some ⟨s2, 0, none⟩) L.length M, .int .i64 0, .int .i64 0] 32)).alloc (.cells #[.int .i64 0, .int .i64 0, .int .i64 0] 27))) := by
          have n1 := C2.out.whole.inside
          have n2 := C2.out.rin
          have n3 := R2.out.rin
          have n4 := C1.out.whole.inside
          have n5 := HS2.out
          have nb1 := new_block w2 (.cells #[.slice (some ⟨s2, 0, none⟩) L.length M, .int .i64 0, .int .i64 0] 32)
          have nb2 := new_block (w2.alloc (.cells #[.slice (some ⟨s2, 0, none⟩) L.length M, .int .i64 0, .int .i64 0] 32)) (.cells #[.int .i64 0, .int .i64 0, .int .i64 0] 27)
          exact Lib.hid ⟨(C2.out.below nb1).below nb2, (R2.out.below nb1).below nb2, (Whole.made w2 _ _).alloc _, bthen (bthen B2.out nb1) nb2, by omega, by omega, by omega, by omega, HP.out.1, B2.out.size, rfl⟩
        generalize hnl : L.length = n at *
        clear hnl
        go_loopw [9] (fun i wr => ∃ k a d : Nat, i = .int .i64 (k : Int) ∧ k ≤ len ∧ PW w p r K s2 M w2.heap.size n L a d a d wr) (fun i _ => len - (intOf i).toNat)
        case atStart => exact ⟨0, 0, 0, rfl, by omega, P0.out⟩
        case round =>
          obtain ⟨k, a, d, rfl, hk, hp⟩ := hrel
          have PP := Lib.hid hp
          clear hp
          by_cases hkl : k < len
          · obtain ⟨x, rfl, hx, x0, x1⟩ := AC.out.get hkl PP.out.below
            obtain ⟨x', hx', _, _, ht⟩ := AC.out.get hkl (Below.refl w.heap.size w)
            injection hx' with hx'
            subst hx'
            have hT : (⟨(x.add (k * 2)).block, (x.add (k * 2)).off + 1, none⟩ : Addr).block < w.heap.size := by
              show (x.add (k * 2)).block < _
              rw [add_block']; exact hx
            have HT := Lib.hid (And.intro hT ht)
            have hxw : (x.add (k * 2)).block < wr.heap.size := by rw [add_block']; exact Nat.lt_of_lt_of_le hx PP.out.below.size
            have hxv : x.block < wr.heap.size := Nat.lt_of_lt_of_le hx PP.out.below.size
            generalize f k = y at *
            obtain ⟨ak, tt⟩ := y
            simp only at x0 x1 ht
            obtain ⟨c0, c1, c2, y0, y1, y2⟩ := whole3 PP.out.q
            have PA := Lib.hid (PP.out.next (new_block wr (.cells #[.slice none 0 0, .int .i64 0, .int .i64 0] 32))).drew
            have PB := Lib.hid PP.out.drew
            have hnp : ¬ (wr.heap.size = p) := by have := PP.out.cur.whole.inside; omega
            have W10 := Lib.hid (Whole.made wr 32 #[.slice none 0 0, .int .i64 0, .int .i64 0]).drew
            have hgw := PP.out.q.inside
            have hnA : Hid (p ≠ wr.heap.size ∧ r ≠ wr.heap.size ∧ s2 ≠ wr.heap.size ∧ w2.heap.size ≠ wr.heap.size ∧ w.heap.size ≤ wr.heap.size) := by
              have n1 := PP.out.cur.whole.inside
              have n2 := PP.out.cur.rin
              have n3 := PP.out.row.rin
              have n4 := PP.out.below.size
              exact Lib.hid ⟨by omega, by omega, by omega, by omega, n4⟩
            have lk : (k : Int) < (len : Int) := by omega
            have lk0 : (0 : Int) ≤ (k : Int) := by omega
            have hkn : ((k : Int)).toNat = k := by omega
            have hk59 : (k : Int) ≤ 59 := by omega
            have HK := Lib.hid hkl
            clear hkl hk ht hT
            go_upto_region 12 with (fail)
            go_cut [10, 11] from 45 to 101 (fun u v wx => ∃ b f2 G : Nat, u = .pointer (some ⟨G, 0, none⟩) ∧ v = .bool true ∧ PW w p r K s2 M w2.heap.size n L b f2 a d wx ∧ Whole wx G 32 #[.slice (some ⟨s2, 0, none⟩) n M, .int .i64 (b : Int), .int .i64 (f2 : Int)])
            case first =>
              go_region_with (first
                | (go_at_call 9; (with_reducible refine (does_r _ p r K s2 M L n a d ak tt PA.out.cur PA.out.row PA.out.sp PA.out.len).mono ?_); rintro e y ⟨b, f2, rfl, m⟩; have P2 := Lib.hid (PA.out.step m); have V10 := Lib.hid (m.keeps.whole W10.out hnp); obtain ⟨e0, e1, e2, v0, v1, v2⟩ := whole3 V10.out; have hz10 := V10.out.inside; clear m)
                | (go_at_call 9; (with_reducible refine (does_r _ p r K s2 M L n a d ak tt PB.out.cur PB.out.row PB.out.sp PB.out.len).mono ?_); rintro e y ⟨b, f2, rfl, m⟩; have P2 := Lib.hid (PB.out.step m); clear m))
              all_goals
                go_wp2
                go_meet
                first
                  | exact ⟨b, f2, wr.heap.size, rfl, rfl, P2.out.aside (keeps3 _ _ _ _ _) hnA.out.1 hnA.out.2.1 hnA.out.2.2.1 hnA.out.2.2.2.1 hnA.out.2.2.2.2, V10.out.set3 _ _ _⟩
                  | exact ⟨b, f2, y.heap.size, rfl, rfl, P2.out.next (new_block _ _), Whole.made _ _ _⟩
            case rest =>
              obtain ⟨b, f2, G, rfl, rfl, hpw, hG⟩ := hcut
              have P3 := Lib.hid (hpw.set b f2)
              obtain ⟨c0, c1, c2, y0, y1, y2⟩ := whole3 hpw.q
              obtain ⟨e0, e1, e2, v0, v1, v2⟩ := whole3 hG
              clear hpw hG PA PB W10 hnA hnp
              go_wp2_with fail
              go_region_held3 (fun x1 => PW w p r K s2 M w2.heap.size n L b f2 b f2 x1 ∧ x1.cell? ⟨w2.heap.size, 0, none⟩ = some (.slice (some ⟨s2, 0, none⟩) n M) ∧ x1.cell? ⟨w2.heap.size, 1, none⟩ = some (.int .i64 (b : Int)) ∧ x1.cell? ⟨w2.heap.size, 2, none⟩ = some (.int .i64 (f2 : Int)) ∧ x1.cell? ⟨(x.add (k * 2)).block, (x.add (k * 2)).off + 1, none⟩ = some (.string tt)) (first
                | assumption
                | exact P3.out.drew.flat HT.out.1 HT.out.2
                | exact (PW.next (by first | assumption | exact And.left (by assumption)) b4).flat HT.out.1 HT.out.2) (first
                | (go_at_call 10; (with_reducible refine ((PW.peek (by first | assumption | exact And.left (by assumption))).mono ?_)); rintro e w4 ⟨rfl, b4⟩; simp only [tokA])
                | (go_at_call 11; (with_reducible refine ((PW.qhere (by first | assumption | exact And.left (by assumption))).mono ?_)); rintro e w4 ⟨rfl, b4⟩; simp only [tokA])
                | (go_at_call 12; (with_reducible refine ((PW.depth (by first | assumption | exact And.left (by assumption))).mono ?_)); rintro e w4 ⟨rfl, rfl⟩)
                | (go_at_call 13; (with_reducible refine ((PW.is (by first | assumption | exact And.left (by assumption)) _).mono ?_)); rintro e w4 ⟨rfl, b4⟩)
                | (go_at_call 14; (with_reducible refine ((PW.qis (by first | assumption | exact And.left (by assumption)) _).mono ?_)); rintro e w4 ⟨rfl, b4⟩)
                | (go_at_call 15; (with_reducible refine ((PW.wrong (by first | assumption | exact And.left (by assumption))).mono ?_)); rintro e w4 ⟨rfl, b4⟩; simp only [faultV])
                | (go_at_call 16; (with_reducible refine ((PW.qwrong (by first | assumption | exact And.left (by assumption))).mono ?_)); rintro e w4 ⟨rfl, b4⟩; simp only [faultV]))
              all_goals
                go_wp2
                go_roundw
                case rel => exact ⟨k + 1, b, f2, by go_num, by have := HK.out; omega, (by first | assumption | exact And.left (by assumption))⟩
                case measure => have := HK.out; simp [intOf]; omega
          · obtain rfl : k = len := by omega
            clear hkl hk
            go_wp2_with (go_at_call 6; refine (lives10 _).mono ?_; rintro e w3 ⟨rfl, b3⟩)
            go_ret
            exact ⟨rfl, bthen PP.out.below b3⟩
end Go.Proofs.Ytnlnkjjegaihcaa
