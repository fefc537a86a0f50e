/-
  Texts Text2. No conditions but those that each theorem names.
-/
import Derived.Test.YtjacgcjjdebbbaaGreatQD30
namespace Go.Proofs.YtjacgcjjdebbbaaGreat
open Go.ChangeShapes Go.WideShapes Go.ChangeAt Go.RowKit
set_option linter.unusedVariables false
set_option linter.unusedSimpArgs false
theorem pValid (w : World) (A B C : Option Addr) (n s m c d g : Nat) (f : Nat → IV) (hI : Vx w A n f) (hn : n ≤ 1000) (hs : (s : Int) ≤ 1000) (hm : (m : Int) ≤ 1000) (hc : Ws f n s m = (0, 0)) :
   Calls Tryz.prog 27 #[Vf A B C n s m c d g] w fun e w' => e = .returned (.bool true) ∧ Below w.heap.size w w' := by
 have T0 := Hh (OneB.start w 27 #[.slice A n c, .slice B s d, .slice C m g])
 have cC := pCheck _ A B C n s m c d g f (hI.below T0.out.below) hn hs hm
 rw [hc] at cC
 unfold Vf chkV at cC
 unfold Vf
 have CC := Hh cC
 clear cC hc hI
 go_enter Tryz.func27, Tryz.ntmps27
 go_wp2_with (go_at_call 7; refine CC.out.mono ?_; rintro e w5 ⟨rfl, b5⟩
              have B5 := Hh (Xq T0.out.below b5)
              clear b5)
 go_ret
 exact ⟨rfl, B5.out⟩
set_option maxRecDepth 20000 in
set_option maxHeartbeats 6400000 in
theorem pText (w : World) (cg sg cc sd : Nat) (sdd wh ln pk : Int) (fv : Value) (hfv : fv.oneCell' = true) (hI : Vx w (some ⟨cg, 0, none⟩) 4 exF) (hsg : sg < w.heap.size) (hr : w.rangeAt sg 0 [.int .i64 1, .int .i64 sdd, .int .i64 wh, .int .i64 ln, fv, .int .i64 pk]) :
   Calls Tryz.prog 14 #[Vf (some ⟨cg, 0, none⟩) (some ⟨sg, 0, none⟩) none 4 1 0 cc sd 0] w fun e w' => e = .returned (.string ⟨exU.toArray⟩) ∧ Below w.heap.size w w' := by
 have T0 := Hh (OneB.start w 27 #[.slice (some ⟨cg, 0, none⟩) 4 cc, .slice (some ⟨sg, 0, none⟩) 1 sd, .slice none 0 0])
 have cV := fun y (hy : Below w.heap.size w y) => pValid y (some ⟨cg, 0, none⟩) (some ⟨sg, 0, none⟩) none 4 1 0 cc sd 0 exF (hI.below hy) (by omega) (by omega) (by omega) ex_check
 have cL := fun k y (hk : k < 4) (hy : Below w.heap.size w y) => TxR.lineAt (cc := cc) (sd := sd) (v := .bool true) (a := .bool true) hfv hI hsg hr hk hy
 unfold Vf at cV cL ⊢
 have CV := Hh cV
 have CL := Hh cL
 clear cV cL hI hr
 go_enter Tryz.func14, Tryz.ntmps14
 go_wp2_with (go_at_call 27; refine (CV.out _ T0.out.below).mono ?_; rintro e w5 ⟨rfl, b5⟩
              have T5 := Hh (T0.out.next b5)
              have N5 := Zd w5 (.cells #[.pointer none, .slice none 0 0] 77)
              obtain ⟨p0, p1, p2, _, _, _⟩ := Zq (T5.out.next N5).k0
              have R5 : Hid (TxR w #[.slice (some ⟨cg, 0, none⟩) 4 cc, .slice (some ⟨sg, 0, none⟩) 1 sd, .slice none 0 0] w5.heap.size 0 (.pointer none) (.slice none 0 0) (w5.alloc (.cells #[.pointer none, .slice none 0 0] 77))) := Hh ⟨⟨Zb.made w5 77 _, World.ownsRow_nil _ _ _ _, T5.out.below.size, by simp [Value.ownBlock], .inl rfl⟩, T5.out.k0.inside, (T5.out.next N5).k0, (T5.out.next N5).below, by simp [Value.ownBlock]⟩
              clear b5 N5)
 generalize w5.heap.size = gb at *
 clear p0 p1 p2
 go_loopw [11] (fun i wr => ∃ (k : Nat) (a v : Value), i = .int .i64 (k : Int) ∧ k ≤ 4 ∧ TxR w #[.slice (some ⟨cg, 0, none⟩) 4 cc, .slice (some ⟨sg, 0, none⟩) 1 sd, .slice none 0 0] gb k a v wr) (fun i _ => 4 - (intOf i).toNat)
 case atStart => exact ⟨0, _, _, rfl, by omega, R5.out⟩
 case round =>
   obtain ⟨k, a, v, rfl, hk, hr⟩ := hrel
   have HR := Hh hr
   obtain ⟨p0, p1, p2, _, _, _⟩ := Zq hr.box
   clear hr
   by_cases hk4 : k < 4
   · have cl := CL.out k wr hk4 HR.out.below
     have hkc : k = 0 ∨ k = 1 ∨ k = 2 ∨ k = 3 := by omega
     rcases hkc with rfl | rfl | rfl | rfl
     · have C1 := Hh cl
       clear cl
       go_wp2_with (first
 | (go_at_call 29; refine C1.out.mono ?_; rintro e w6 ⟨rfl, b6⟩
    have R6 := Hh (HR.out.next b6)
    clear b6)
 | (go_at_call 28; refine (Wu [48, 32, 112, 117, 115, 104, 32, 49] (by decide) R6.out.bd bd_lies (by decide) R6.out.below.size).mono ?_; rintro e w7 ⟨rfl, v7, h7, s7⟩
    have H7 := Hh h7
    have S7 := Hh s7
    clear h7 s7)
 | (go_at_call 30; refine (bdByte_w 10 H7.out bd_lies (by decide) (Nat.le_trans R6.out.below.size S7.out.keeps.size)).mono ?_; rintro e w8 ⟨rfl, v8, h8, s8⟩
    have R8 : Hid (TxR w #[.slice (some ⟨cg, 0, none⟩) 4 cc, .slice (some ⟨sg, 0, none⟩) 1 sd, .slice none 0 0] gb 1 _ v8 w8) := Hh (R6.out.write h8 (S7.out.trans s8))
    clear h8 s8))
       go_roundw
       case rel => exact ⟨1, _, v8, rfl, by omega, R8.out⟩
       case measure => simp [intOf]
     · have C1 := Hh cl
       clear cl
       go_wp2_with (first
 | (go_at_call 29; refine C1.out.mono ?_; rintro e w6 ⟨rfl, b6⟩
    have R6 := Hh (HR.out.next b6)
    clear b6)
 | (go_at_call 28; refine (Wu [49, 32, 112, 117, 115, 104, 32, 50] (by decide) R6.out.bd bd_lies (by decide) R6.out.below.size).mono ?_; rintro e w7 ⟨rfl, v7, h7, s7⟩
    have H7 := Hh h7
    have S7 := Hh s7
    clear h7 s7)
 | (go_at_call 30; refine (bdByte_w 10 H7.out bd_lies (by decide) (Nat.le_trans R6.out.below.size S7.out.keeps.size)).mono ?_; rintro e w8 ⟨rfl, v8, h8, s8⟩
    have R8 : Hid (TxR w #[.slice (some ⟨cg, 0, none⟩) 4 cc, .slice (some ⟨sg, 0, none⟩) 1 sd, .slice none 0 0] gb 2 _ v8 w8) := Hh (R6.out.write h8 (S7.out.trans s8))
    clear h8 s8))
       go_roundw
       case rel => exact ⟨2, _, v8, rfl, by omega, R8.out⟩
       case measure => simp [intOf]
     · have C1 := Hh cl
       clear cl
       go_wp2_with (first
 | (go_at_call 29; refine C1.out.mono ?_; rintro e w6 ⟨rfl, b6⟩
    have R6 := Hh (HR.out.next b6)
    clear b6)
 | (go_at_call 28; refine (Wu [50, 32, 97, 100, 100] (by decide) R6.out.bd bd_lies (by decide) R6.out.below.size).mono ?_; rintro e w7 ⟨rfl, v7, h7, s7⟩
    have H7 := Hh h7
    have S7 := Hh s7
    clear h7 s7)
 | (go_at_call 30; refine (bdByte_w 10 H7.out bd_lies (by decide) (Nat.le_trans R6.out.below.size S7.out.keeps.size)).mono ?_; rintro e w8 ⟨rfl, v8, h8, s8⟩
    have R8 : Hid (TxR w #[.slice (some ⟨cg, 0, none⟩) 4 cc, .slice (some ⟨sg, 0, none⟩) 1 sd, .slice none 0 0] gb 3 _ v8 w8) := Hh (R6.out.write h8 (S7.out.trans s8))
    clear h8 s8))
       go_roundw
       case rel => exact ⟨3, _, v8, rfl, by omega, R8.out⟩
       case measure => simp [intOf]
     · have C1 := Hh cl
       clear cl
       go_wp2_with (first
 | (go_at_call 29; refine C1.out.mono ?_; rintro e w6 ⟨rfl, b6⟩
    have R6 := Hh (HR.out.next b6)
    clear b6)
 | (go_at_call 28; refine (Wu [51, 32, 112, 111, 119, 101, 114, 32, 109, 101] (by decide) R6.out.bd bd_lies (by decide) R6.out.below.size).mono ?_; rintro e w7 ⟨rfl, v7, h7, s7⟩
    have H7 := Hh h7
    have S7 := Hh s7
    clear h7 s7)
 | (go_at_call 30; refine (bdByte_w 10 H7.out bd_lies (by decide) (Nat.le_trans R6.out.below.size S7.out.keeps.size)).mono ?_; rintro e w8 ⟨rfl, v8, h8, s8⟩
    have R8 : Hid (TxR w #[.slice (some ⟨cg, 0, none⟩) 4 cc, .slice (some ⟨sg, 0, none⟩) 1 sd, .slice none 0 0] gb 4 _ v8 w8) := Hh (R6.out.write h8 (S7.out.trans s8))
    clear h8 s8))
       go_roundw
       case rel => exact ⟨4, _, v8, rfl, by omega, R8.out⟩
       case measure => simp [intOf]
   · obtain rfl : k = 4 := by omega
     have hb := HR.out.bd
     rw [exU_is] at hb
     have HB := Hh hb
     clear hb
     go_wp2_with (go_at_call 31; refine (bdText exU (by decide) HB.out).mono ?_; rintro e w9 ⟨rfl, b9⟩
                  have B9 := Hh (HR.out.below.trans b9)
                  clear b9)
     go_ret
     exact ⟨rfl, B9.out⟩
end Go.Proofs.YtjacgcjjdebbbaaGreat
