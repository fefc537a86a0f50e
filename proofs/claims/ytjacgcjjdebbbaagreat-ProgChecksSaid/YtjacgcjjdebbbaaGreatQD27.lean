/-
  Texts USel. No conditions but those that each theorem names.
-/
import Derived.Test.YtjacgcjjdebbbaaGreatQD26
namespace Go.Proofs.YtjacgcjjdebbbaaGreat
open Go.ChangeShapes Go.WideShapes Go.ChangeAt Go.RowKit
set_option linter.unusedVariables false
set_option linter.unusedSimpArgs false
theorem uWord (w : World) (k : Nat) (q n c : Nat) (t : ByteArray) (hk : k < n) (hn : n ≤ 1000) (hq : w.cell? ⟨q, k, none⟩ = some (.string t)) :
   Calls Tryz.prog 136 #[.int .i64 ((k : Int) + 1), .slice (some ⟨q, 0, none⟩) n c] w fun e w' => e = .returned (.string t) ∧ w = w' := by
 have l1 : (1 : Int) ≤ (k : Int) + 1 := by omega
 have l2 : (k : Int) + 1 ≤ (n : Int) := by omega
 have l3 : ((k : Int) + 1 - 1).toNat = k := by omega
 have l4 : (k : Int) < (n : Int) := by omega
 go_enter Tryz.func136, Tryz.ntmps136
 go_wp2
 go_ret
 exact ⟨rfl, rfl⟩
set_option maxRecDepth 20000 in
set_option maxHeartbeats 3200000 in
theorem uSelMe (B : Nat) (w : World) (b : Nat) (sd wh ln pk : Int) (fv : Value) (hfv : fv.oneCell' = true) (h : Bldr 203 [.bool false] B w b (.pointer none) (.slice none 0 0) []) (hB : B ≤ w.heap.size) :
   Calls Tryz.prog 111 #[.pointer (some ⟨b, 0, none⟩), .agg #[.int .i64 1, .int .i64 sd, .int .i64 wh, .int .i64 ln, fv, .int .i64 pk]] w fun e w' => e = .returned (.tuple #[]) ∧ ∃ a' v', Bldr 203 [.bool true] B w' b a' v' [109, 101] ∧ Yv b (.slice none 0 0) w v' w' := by
 have T0 := Hh (OneB.start w 60 #[.int .i64 1, .int .i64 sd, .int .i64 wh, .int .i64 ln, fv, .int .i64 pk])
 have H1 := Hh (h.below T0.out.below)
 have em : strOfNums [109, 101] = ⟨#[109, 101]⟩ := by decide +kernel
 have EM := Hh em
 have hb := h.whole.inside
 have B2 := Hh (Yk (Yk (Below.refl (w.alloc (.cells #[.int .i64 1, .int .i64 sd, .int .i64 wh, .int .i64 ln, fv, .int .i64 pk] 60 )).heap.size (w.alloc (.cells #[.int .i64 1, .int .i64 sd, .int .i64 wh, .int .i64 ln, fv, .int .i64 pk] 60 ))) (.cells #[.string ⟨#[109, 101]⟩, .string ⟨#[105, 116]⟩, .string ⟨#[40]⟩] 9)) (.cells #[.string ⟨#[109, 101]⟩] 9))
 have hc := (Zb.made ((w.alloc (.cells #[.int .i64 1, .int .i64 sd, .int .i64 wh, .int .i64 ln, fv, .int .i64 pk] 60 )).alloc (.cells #[.string ⟨#[109, 101]⟩, .string ⟨#[105, 116]⟩, .string ⟨#[40]⟩] 9)) 9 #[.string (strOfNums [109, 101])]).read 0
 have es : ((w.alloc (.cells #[.int .i64 1, .int .i64 sd, .int .i64 wh, .int .i64 ln, fv, .int .i64 pk] 60 )).alloc (.cells #[.string ⟨#[109, 101]⟩, .string ⟨#[105, 116]⟩, .string ⟨#[40]⟩] 9)).heap.size = w.heap.size + 1 + 1 := by simp
 rw [es] at hc
 have HC := Hh hc
 rw [em] at HC
 clear hc es em
 clear h
 go_enter Tryz.func111, Tryz.ntmps111
 go_wp2_with (first
 | (go_at_call 136; refine (uWord _ 0 _ 3 3 ⟨#[109, 101]⟩ (by omega) (by omega) (by simp)).mono ?_; rintro e w1 ⟨rfl, rfl⟩)
 | (go_at_call 135; refine (prPut B _ b (.pointer none) (.slice none 0 0) ([], false) [[109, 101]] (w.heap.size + 1 + 1) 1 (H1.out.below B2.out) (Nat.le_trans hB (Nat.le_trans T0.out.below.size B2.out.size)) (by simp) (by simp) (by simp) (fun j t hj => by cases j with | zero => (cases hj; rw [EM.out]; exact HC.out) | succ j => simp at hj) (by simp) (by omega) (by simp [Value.ownBlock])).mono ?_
    rintro e w2 ⟨rfl, a2, v2, h2, s2⟩
    have H2 := Hh h2
    have S2 := Hh (((Yv.of_below (b := b) (v := .slice none 0 0) T0.out.below).trans (Yv.of_below B2.out)).trans s2)
    have q0 : w2.cell? ⟨w.heap.size, 0, none⟩ = some (.int .i64 1) := by
      rw [(s2.keeps.whole (T0.out.k0.below B2.out T0.out.k0.inside) (fun c => c.elim (by omega) (by simp [Value.ownBlock]))).read]; rfl
    clear h2 s2))
 refine bodyPost_ret (v := .tuple #[]) (by simp [results, Tryz.results111, go_sem]) rfl ?_
 exact ⟨rfl, a2, v2, H2.out, S2.out⟩
set_option maxRecDepth 20000 in
set_option maxHeartbeats 3200000 in
theorem uSelText (w : World) (sd wh ln pk : Int) (fv : Value) (hfv : fv.oneCell' = true) :
   Calls Tryz.prog 82 #[.agg #[.int .i64 1, .int .i64 sd, .int .i64 wh, .int .i64 ln, fv, .int .i64 pk]] w fun e w' => e = .returned (.string (strOfNums [109, 101])) ∧ Below w.heap.size w w' := by
 have b1 := Yk (Below.refl w.heap.size w) (.cells #[.int .i64 1, .int .i64 sd, .int .i64 wh, .int .i64 ln, fv, .int .i64 pk] 60 )
 have b2 := Yk b1 (.cells #[.int .i64 1, .int .i64 sd, .int .i64 wh, .int .i64 ln, fv, .int .i64 pk] 60 )
 have BB := Hh (Yk b2 (.cells #[.pointer none, .slice none 0 0, .bool false] 203 ))
 have hB : Bldr 203 [.bool false] w.heap.size (((w.alloc (.cells #[.int .i64 1, .int .i64 sd, .int .i64 wh, .int .i64 ln, fv, .int .i64 pk] 60 )).alloc (.cells #[.int .i64 1, .int .i64 sd, .int .i64 wh, .int .i64 ln, fv, .int .i64 pk] 60 )).alloc (.cells #[.pointer none, .slice none 0 0, .bool false] 203 )) (w.heap.size + 1 + 1) (.pointer none) (.slice none 0 0) [] := by
   have hw := Zb.made ((w.alloc (.cells #[.int .i64 1, .int .i64 sd, .int .i64 wh, .int .i64 ln, fv, .int .i64 pk] 60 )).alloc (.cells #[.int .i64 1, .int .i64 sd, .int .i64 wh, .int .i64 ln, fv, .int .i64 pk] 60 )) 203 #[.pointer none, .slice none 0 0, .bool false]
   have es : ((w.alloc (.cells #[.int .i64 1, .int .i64 sd, .int .i64 wh, .int .i64 ln, fv, .int .i64 pk] 60 )).alloc (.cells #[.int .i64 1, .int .i64 sd, .int .i64 wh, .int .i64 ln, fv, .int .i64 pk] 60 )).heap.size = w.heap.size + 1 + 1 := by simp
   rw [es] at hw
   exact ⟨hw, World.ownsRow_nil _ _ _ _, by omega, by simp [Value.ownBlock], .inl rfl⟩
 have HB := Hh hB
 have em : (⟨([109, 101] : List UInt8).toArray⟩ : ByteArray) = strOfNums [109, 101] := by decide +kernel
 have EM := Hh em
 clear b1 b2 hB em
 go_enter Tryz.func82, Tryz.ntmps82
 go_wp2_with fail
 go_in
 go_wp2_with (first
 | (go_at_call 111; refine (uSelMe w.heap.size _ (w.heap.size + 1 + 1) sd wh ln pk fv hfv HB.out BB.out.size).mono ?_; rintro e w2 ⟨rfl, a2, v2, h2, s2⟩
    have H2 := Hh h2
    have B2 := Hh (BB.out.trans (s2.keeps.below (B := w.heap.size) BB.out.size (by rintro k (rfl | c) <;> first | omega | (simp [Value.ownBlock] at c))))
    clear h2 s2)
 | (go_at_call 31; refine (bdText (B := w.heap.size) ([109, 101] : List UInt8) (by simp) H2.out).mono ?_; rintro e w3 ⟨rfl, b3⟩
    have B3 := Hh (B2.out.trans b3)
    clear b3))
 go_ret
 exact ⟨rS EM.out, B3.out⟩
end Go.Proofs.YtjacgcjjdebbbaaGreat
