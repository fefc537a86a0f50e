/-
  Texts Opnd. No conditions but those that each theorem names.
-/
import Derived.Test.YtjacgcjjdebbbaaGreatQD28
namespace Go.Proofs.YtjacgcjjdebbbaaGreat
open Go.ChangeShapes Go.WideShapes Go.ChangeAt Go.RowKit
set_option linter.unusedVariables false
set_option linter.unusedSimpArgs false
theorem lWord (B : Nat) (w : World) (p : Nat) (v : Value) (bo : Bool) (ws : List ByteArray) (t : ByteArray) (h : LsAt B w p v bo ws) (hl : ws.length ≤ 1000000) (hB : B ≤ w.heap.size) :
   Calls Tryz.prog 50 #[.pointer (some ⟨p, 0, none⟩), .slice (some ⟨w.heap.size, 0, none⟩) 1 1] (w.alloc (.cells #[.string t] 9)) fun e w' => e = .returned (.tuple #[]) ∧ ∃ v', LsAt B w' p v' bo (ws ++ [t]) ∧ Yv p v w v' w' := by
 refine (lPut B _ p v bo ws [t] w.heap.size 1 (h.below (Zd w _)) (by simp) (by simp) hl (Nat.le_trans hB (Zd w (.cells #[.string t] 9)).size) (fun j u hj => ?_)).mono ?_
 · rw [(Zb.made w 9 #[.string t]).read]; simpa [strV] using hj
 · rintro e w' ⟨rfl, v', h1, s1⟩
   exact ⟨rfl, v', h1, (Yv.of_below (Zd w _)).trans s1⟩
set_option maxRecDepth 20000 in
set_option maxHeartbeats 3200000 in
theorem lNumber (B : Nat) (w : World) (p : Nat) (v : Value) (bo : Bool) (ws : List ByteArray) (a : Int) (h : LsAt B w p v bo ws) (hl : ws.length ≤ 1000000) (hB : B ≤ w.heap.size) (a1 : -9223372036854775808 ≤ a) (a2 : a ≤ 9223372036854775807) :
   Calls Tryz.prog 81 #[.pointer (some ⟨p, 0, none⟩), .int .i64 a] w fun e w' => e = .returned (.tuple #[]) ∧ ∃ v', LsAt B w' p v' bo (ws ++ [Vq a]) ∧ Yv p v w v' w' := by
 have H0 := Hh h
 clear h
 go_enter Tryz.func81, Tryz.ntmps81
 go_wp2_with (first
 | (go_at_call 51; refine (dPut_any a a1 a2 _).mono ?_; rintro e w5 ⟨rfl, b5⟩
    have H5 := Hh (H0.out.below b5)
    have B5 := Hh b5
    clear b5)
 | (go_at_call 50; refine (lWord B w5 p v bo ws (Vq a) H5.out hl (Nat.le_trans hB B5.out.size)).mono ?_; rintro e w7 ⟨rfl, v7, l7, s7⟩
    have L7 := Hh l7
    have S7 := Hh ((Yv.of_below (b := p) (v := v) B5.out).trans s7)
    clear l7 s7))
 go_end0
 exact ⟨rfl, v7, L7.out, S7.out⟩
def OpsOK (B : Nat) (A B' C : Option Addr) (n s m c d g : Nat) (x : IV) (y : World) (p : Nat) (v : Value) (ws ex : List ByteArray) : Prop :=
 Calls Tryz.prog 53 #[.pointer (some ⟨p, 0, none⟩), Vf A B' C n s m c d g, .agg #[.int .i64 x.op, .int .i64 x.a, .int .i64 x.b, .int .i64 x.c]] y fun e y' => e = .returned (.tuple #[]) ∧ ∃ v', LsAt B y' p v' false (ws ++ ex) ∧ Yv p v y v' y'
set_option maxRecDepth 20000 in
set_option maxHeartbeats 3200000 in
theorem oPush (B : Nat) (A B' C : Option Addr) (n s m c d g : Nat) (a b cc : Int) (y : World) (p : Nat) (v : Value) (ws : List ByteArray) (h : LsAt B y p v false ws) (hl : ws.length ≤ 1000000) (hB : B ≤ y.heap.size) (a1 : -9223372036854775808 ≤ a) (a2 : a ≤ 9223372036854775807) : OpsOK B A B' C n s m c d g ⟨1, a, b, cc⟩ y p v ws [Vq a] := by
 unfold OpsOK Vf
 have b2 := Yk (Yk (Below.refl _ y) (.cells #[.slice A n c, .slice B' s d, .slice C m g] 27)) (.cells #[.int .i64 1, .int .i64 a, .int .i64 b, .int .i64 cc] 93)
 have H2 := Hh (h.below b2)
 have B2 := Hh b2
 clear h b2
 simp only
 go_enter Tryz.func53, Tryz.ntmps53
 go_wp2_with (first
 | (go_at_call 81; refine (lNumber B _ p v false ws a H2.out hl (Nat.le_trans hB B2.out.size) a1 a2).mono ?_; rintro e w7 ⟨rfl, v7, l7, s7⟩
    have L7 := Hh l7
    have S7 := Hh ((Yv.of_below (b := p) (v := v) B2.out).trans s7)
    clear l7 s7))
 go_end0
 exact ⟨rfl, v7, L7.out, S7.out⟩
set_option maxRecDepth 20000 in
set_option maxHeartbeats 3200000 in
theorem oAdd (B : Nat) (A B' C : Option Addr) (n s m c d g : Nat) (a b cc : Int) (y : World) (p : Nat) (v : Value) (ws : List ByteArray) (h : LsAt B y p v false ws) : OpsOK B A B' C n s m c d g ⟨7, a, b, cc⟩ y p v ws [] := by
 unfold OpsOK Vf
 have b2 := Yk (Yk (Below.refl _ y) (.cells #[.slice A n c, .slice B' s d, .slice C m g] 27)) (.cells #[.int .i64 7, .int .i64 a, .int .i64 b, .int .i64 cc] 93)
 have H2 := Hh (h.below b2)
 have B2 := Hh b2
 clear h b2
 simp only
 go_enter Tryz.func53, Tryz.ntmps53
 go_wp2
 go_end0
 exact ⟨rfl, v, by rw [List.append_nil]; exact H2.out, Yv.of_below B2.out⟩
set_option maxRecDepth 20000 in
set_option maxHeartbeats 3200000 in
theorem oPower (B : Nat) (A C : Option Addr) (n m c d g sg : Nat) (b cc sd wh ln pk : Int) (fv : Value) (hfv : fv.oneCell' = true) (y : World) (p : Nat) (v : Value) (ws : List ByteArray) (h : LsAt B y p v false ws) (hl : ws.length ≤ 1000000) (hB : B ≤ y.heap.size)
   (hsg : sg < y.heap.size) (hr : y.rangeAt sg 0 [.int .i64 1, .int .i64 sd, .int .i64 wh, .int .i64 ln, fv, .int .i64 pk]) : OpsOK B A (some ⟨sg, 0, none⟩) C n 1 m c d g ⟨10, 0, b, cc⟩ y p v ws [strOfNums [109, 101]] := by
 unfold OpsOK Vf
 have b2 := Yk (Yk (Below.refl _ y) (.cells #[.slice A n c, .slice (some ⟨sg, 0, none⟩) 1 d, .slice C m g] 27)) (.cells #[.int .i64 10, .int .i64 0, .int .i64 b, .int .i64 cc] 93)
 have H2 := Hh (h.below b2)
 have B2 := Hh b2
 have R2 := Hh (Vn (Zg.of_below (S := fun _ => False) b2) hsg (fun h => h) hr)
 clear h b2 hr
 simp only
 go_enter Tryz.func53, Tryz.ntmps53
 go_wp2_with (first
 | ((with_reducible refine Yf 31 ?_); refine wpList_loadR 60 _ sg 0 [.int .i64 1, .int .i64 sd, .int .i64 wh, .int .i64 ln, fv, .int .i64 pk] R2.out row_sel Xa rfl rfl rfl ?_)
 | (go_at_call 82; refine (uSelText _ sd wh ln pk fv hfv).mono ?_; rintro e w5 ⟨rfl, b5⟩
    have H5 := Hh (H2.out.below b5)
    have B5 := Hh (Xq B2.out b5)
    clear b5)
 | (go_at_call 50; refine (lWord B w5 p v false ws (strOfNums [109, 101]) H5.out hl (Nat.le_trans hB B5.out.size)).mono ?_; rintro e w7 ⟨rfl, v7, l7, s7⟩
    have L7 := Hh l7
    have S7 := Hh ((Yv.of_below (b := p) (v := v) B5.out).trans s7)
    clear l7 s7))
 go_end0
 exact ⟨rfl, v7, L7.out, S7.out⟩
end Go.Proofs.YtjacgcjjdebbbaaGreat
