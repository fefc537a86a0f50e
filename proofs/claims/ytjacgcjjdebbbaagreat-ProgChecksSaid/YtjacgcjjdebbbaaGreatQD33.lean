/-
  Texts ProgChecks. No conditions but those that each theorem names.
-/
import Derived.Test.YtjacgcjjdebbbaaGreatQD32
namespace Go.Proofs.YtjacgcjjdebbbaaGreat
open Go.ChangeShapes Go.WideShapes Go.ChangeAt Go.RowKit
set_option linter.unusedVariables false
set_option linter.unusedSimpArgs false
set_option maxRecDepth 20000 in
set_option maxHeartbeats 6400000 in
theorem walk_ProgChecks {H : Type} {enc : TypeId × Value → H} {base : Nat} {d : DataW H} {pl : List MemPlace} (v : Value) (s m : Int) (w : World) (ok : Value.okWide Tryz.prog w .any base 22 v)
   (h : DataW.Trod enc Tryz.prog w 0 (fun _ => true) true 22 v d pl) (ws : (Lit.int .i64 s).wf = true) (wm : (Lit.int .i64 m).wf = true) :
   Calls Tryz.prog 3 #[v, .int .i64 s, .int .i64 m] w fun e w' => e = .returned (.bool true) ∧ Below w.heap.size w w' := by
 obtain ⟨A, n, cap, f, rfl, hin⟩ := open_inss ok h
 clear ok h
 have HI := Hh hin
 clear hin
 replace ws := wf_bd ws
 replace wm := wf_bd wm
 by_cases hb : 120 < n ∨ s < 0 ∨ 5 < s ∨ m < 0 ∨ 5 < m
 · have hcs : (120 < (n : Int)) ∨ ((n : Int) ≤ 120 ∧ s < 0) ∨ ((n : Int) ≤ 120 ∧ 0 ≤ s ∧ 5 < s) ∨ ((n : Int) ≤ 120 ∧ 0 ≤ s ∧ s ≤ 5 ∧ m < 0) ∨ ((n : Int) ≤ 120 ∧ 0 ≤ s ∧ s ≤ 5 ∧ 0 ≤ m ∧ 5 < m) := by omega
   clear hb
   rcases hcs with h1 | ⟨h1, h2⟩ | ⟨h1, h2, h3⟩ | ⟨h1, h2, h3, h4⟩ | ⟨h1, h2, h3, h4, h5⟩
   all_goals
     go_enter Tryz.func3, Tryz.ntmps3
     go_wp2_with (go_at_call 5; refine (lives_any _).mono ?_; rintro e w1 ⟨rfl, b1⟩)
     go_ret
     exact ⟨rfl, b1⟩
 · obtain ⟨s, rfl⟩ := Int.eq_ofNat_of_zero_le (show 0 ≤ s by omega)
   obtain ⟨m, rfl⟩ := Int.eq_ofNat_of_zero_le (show 0 ≤ m by omega)
   have hn : n ≤ 120 := by omega
   have hs : s ≤ 5 := by omega
   have hm : m ≤ 5 := by omega
   have l1 : ¬ (120 < (n : Int)) := by omega
   have l2 : ¬ ((s : Int) < 0) := by omega
   have l3 : ¬ (5 < (s : Int)) := by omega
   have l4 : ¬ ((m : Int) < 0) := by omega
   have l5 : ¬ (5 < (m : Int)) := by omega
   clear hb ws wm
   have C0 := Hh (fun y B C c d g (hy : Below w.heap.size w y) => pCheck y A B C n s m c d g f (HI.out.below hy) (by omega) (by omega) (by omega))
   have C1 := Hh (fun y B C c d g (hy : Below w.heap.size w y) => rCheck y A B C n s m c d g f (HI.out.below hy) (by omega) (by omega) (by omega))
   have C2 := Hh (fun y B C c d g (hy : Below w.heap.size w y) => pDeep y A B C n s m c d g f (HI.out.below hy) (by omega) (by omega) (by omega))
   have C3 := Hh (fun y B C c d g (hy : Below w.heap.size w y) => rMost y A B C n s m c d g f (HI.out.below hy) (by omega) (by omega) (by omega))
   clear HI
   unfold Vf chkV at C0 C1
   unfold Vf at C2 C3
   generalize Ws f n s m = G at *
   generalize mostF f n s m = M at *
   obtain ⟨G1, G2⟩ := G
   simp only at C0 C1
   go_enter Tryz.func3, Tryz.ntmps3
   go_wp2_with (first
 | (go_at_call 6; refine (rProgram w A n cap s m hs hm).mono ?_; rintro e w1 ⟨B, C, d1, g1, rfl, b1⟩
    unfold Vf
    have T1 := Hh (OneB.start w1 27 #[.slice A n cap, .slice B s d1, .slice C m g1])
    have B1 := Hh b1
    clear b1)
 | (go_at_call 7; refine (C0.out _ B C cap d1 g1 (Xq B1.out T1.out.below)).mono ?_; rintro e w2 ⟨rfl, b2⟩
    have T2 := Hh (T1.out.next b2)
    obtain ⟨p0, p1, p2, _, _, _⟩ := Zq T2.out.k0
    clear b2)
 | (go_at_call 8; refine (C1.out _ B C cap d1 g1 (Xq B1.out T2.out.below)).mono ?_; rintro e w3 ⟨rfl, b3⟩
    have T3 := Hh (T2.out.next b3)
    obtain ⟨p0, p1, p2, _, _, _⟩ := Zq T3.out.k0
    clear b3))
   have T4 := Hh (T3.out.next (y := w3.drew) ⟨rfl, rfl, rfl, Nat.le_refl _, fun _ _ => rfl⟩)
   go_region_with (first
 | (go_at_call 9; refine (C2.out _ B C cap d1 g1 (Xq B1.out T4.out.below)).mono ?_; rintro e w5 ⟨rfl, b5⟩
    have T5 := Hh (T4.out.next b5)
    obtain ⟨p0, p1, p2, _, _, _⟩ := Zq T5.out.k0
    clear b5)
 | (go_at_call 10; refine (C3.out _ B C cap d1 g1 (Xq B1.out T5.out.below)).mono ?_; rintro e w6 ⟨rfl, b6⟩
    have T6 := Hh (T5.out.next b6)
    clear b6)
 | (go_at_call 5; refine (lives_any _).mono ?_; rintro e w7 ⟨rfl, b7⟩
    have T7 := Hh (T6.out.next b7)
    clear b7))
   all_goals
     go_wp2
     go_ret
     exact ⟨rfl, Xq B1.out T7.out.below⟩
end Go.Proofs.YtjacgcjjdebbbaaGreat
