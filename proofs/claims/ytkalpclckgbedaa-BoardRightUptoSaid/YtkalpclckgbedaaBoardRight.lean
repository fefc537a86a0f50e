/-
  For every input the law BoardRight returns true. Conditions: what comes in is of bulk at most 1048576.
-/
import Derived.Test.YtkalpclckgbedaaStW
import Derived.Test.YtkalpclckgbedaaBrdL
import Derived.Test.YtkalpclckgbedaaRgtF
import Derived.Test.YtkalpclckgbedaaRgtG
import Derived.Test.YtkalpclckgbedaaAbG
namespace Go.Proofs.Ytkalpclckgbedaa
open Go.ChangeShapes Go.WideShapes Go.ChangeAt Go.RowKit
set_option linter.unusedVariables false
set_option linter.unusedSimpArgs false
set_option maxRecDepth 20000
set_option maxHeartbeats 12800000
theorem rRight (c : Sc) (r : Nat → Value) (L : Nat → List Ins) (w : World) (hR : Rows12 w r L) (hN : (pilesL L 2).length ≤ 1000000) :
    Calls Try.prog 31 #[stV c r] w (Ans (RightOK c L) w) := by
  cases hh : headB c
  · refine (rRight_head c r w hh).mono ?_
    rintro e w' ⟨rfl, hb⟩
    exact Ans.no (fun h => by have := h.1; rw [hh] at this; cases this) hb
  · exact rRight_yes c r L w hR hN hh
theorem empty_right : RightOK (emptyC 0 3) fun _ => [] := by
  unfold RightOK
  refine ⟨by decide, fun i hi => ?_, fun k hk => ?_, fun q hq x hx => ?_, ?_⟩
  · refine ⟨?_, ?_, Nat.zero_le _, Nat.zero_le _⟩
    · show (-1 : Int) ≤ if i < 3 then -1 else 0
      split <;> omega
    · rintro ⟨h, _⟩
      have h2 : false = true := h
      cases h2
  · exact ⟨(by decide : betB 0 0 9 = true), (by decide : betB 0 (-9) 9 = true), Nat.zero_le _⟩
  · simp at hx
  · simp [catL]
theorem walk_BoardRight {H : Type} {enc : TypeId × Value → H} {b0 base : Nat} {spare : Nat → Bool} {held : Bool} {d0 : DataW H} {p0 : List MemPlace} (v0 : Value) (w : World) (ok0 : Value.okWide Try.prog w .any b0 33 v0) (h0 : DataW.Trod enc Try.prog w base spare held 33 v0 d0 p0) (hk : Rows.uptoBulk d0 ≤ 1048576) :
    Calls Try.prog 6 #[v0] w fun e w' => e = .returned (.bool true) ∧ Below w.heap.size w w' := by
  obtain ⟨c, r, L, rfl, hcw, hR, hLw, hbk⟩ := open_stateB ok0 h0
  have hlen : ∀ q, q < 12 → (L q).length ≤ 1048576 := fun q hq => Nat.le_trans (hbk q hq) hk
  have hT : (pilesL L 2).length ≤ 2199023255488 := Nat.le_trans (pil_le hlen) (by decide)
  have T : Hid (Whole (w.alloc (.cells (stC c r).toArray 33)) w.heap.size 33 (stC c r).toArray) := Lib.hid (Whole.made w 33 (stC c r).toArray)
  have BB : Hid (Below w.heap.size w (w.alloc (.cells (stC c r).toArray 33))) := Lib.hid ((Below.refl _ _).alloc (Nat.le_refl _) _)
  have RB : Hid (∀ y, Below w.heap.size w y → Rows12 y r L) := Lib.hid fun y hy q hq => (hR q hq).below hy
  have HSI : Hid ((Try.prog.info? 33).map (·.size) = some (stC c r).length) := Lib.hid (by rw [show (stC c r).length = 30 from rfl]; kernel_rfl)
  have KCo : Hid (∀ y, Below w.heap.size w y → Calls Try.prog 8 #[.agg (stC c r).toArray] y fun e w' => e = .returned (.int .i64 ((pilesL L 2).length : Nat)) ∧ Below y.heap.size y w') := Lib.hid fun y hy => rCount c r L y (RB.out y hy) hT
  rw [show stV c r = .agg (stC c r).toArray from rfl]
  by_cases hN : 100 < (pilesL L 2).length
  · have hN1 : (100 : Int) < (((pilesL L 2).length : Nat) : Int) := by omega
    generalize (pilesL L 2).length = N at *
    clear hlen hT ok0 h0 hR hLw hbk hcw hk
    generalize stC c r = S at *
    go_enter Try.func6, Try.ntmps6
    go_wp2_with (first
      | ((with_reducible refine at_ld 3 ?_); refine wpList_loadW 33 (.tmp 1) 33 w.heap.size S T.out (by kernel_rfl) HSI.out rfl rfl rfl ?_)
      | (go_at_call 8; (with_reducible refine (KCo.out _ BB.out).mono ?_); rintro e wx1 ⟨rfl, bx⟩; have T := Lib.hid (T.out.below bx T.out.inside); have BB := Lib.hid (bthen BB.out bx))
      | (go_at_call 9; (with_reducible refine (lives22 _).mono ?_); rintro e wx2 ⟨rfl, bx⟩; have BB := Lib.hid (bthen BB.out bx)))
    go_ret
    exact ⟨rfl, BB.out⟩
  · have hN1 : ¬ (100 : Int) < (((pilesL L 2).length : Nat) : Int) := by omega
    have hsz : ∀ q, q < 12 → (L q).length ≤ 1000 := fun q hq => by have := pil_ge (L := L) hq; omega
    have hpn : (pilesL L 2).length ≤ 1000000 := by omega
    obtain ⟨b, hb⟩ : ∃ b : Bool, b = true ↔ RightOK c L := by
      by_cases h : RightOK c L
      · exact ⟨true, by simp [h]⟩
      · exact ⟨false, by simp [h]⟩
    have KA : Hid (∀ y, Below w.heap.size w y → Calls Try.prog 30 #[.agg (stC c r).toArray] y fun e w' => e = .returned (.bool b) ∧ Below y.heap.size y w') := Lib.hid fun y hy => Ans.of (pRight c r L y (RB.out y hy) hsz) b hb
    have KB : Hid (∀ y, Below w.heap.size w y → Calls Try.prog 31 #[.agg (stC c r).toArray] y fun e w' => e = .returned (.bool b) ∧ Below y.heap.size y w') := Lib.hid fun y hy => Ans.of (rRight c r L y (RB.out y hy) hpn) b hb
    obtain ⟨E, hE⟩ : ∃ E, stV (emptyC 0 3) nilR = E := ⟨_, rfl⟩
    have KE : Hid (∀ y, Calls Try.prog 21 #[] y fun e w' => e = .returned E ∧ Below y.heap.size y w') := Lib.hid fun y => by rw [← hE]; exact pEmpty y
    have KER : Hid (∀ y, Calls Try.prog 30 #[E] y fun e w' => e = .returned (.bool true) ∧ Below y.heap.size y w') := Lib.hid fun y => by
      rw [← hE]
      exact Ans.of (pRight (emptyC 0 3) nilR (fun _ => []) y (nilR_rows y) (fun _ _ => by simp)) true (by simp [empty_right])
    generalize (pilesL L 2).length = N at *
    clear hlen hT ok0 h0 hR hLw hbk hcw hk hsz hpn hb hE
    generalize stC c r = S at *
    go_enter Try.func6, Try.ntmps6
    go_upto_region 3 with (first
      | ((with_reducible refine at_ld 3 ?_); refine wpList_loadW 33 (.tmp 1) 33 w.heap.size S T.out (by kernel_rfl) HSI.out rfl rfl rfl ?_)
      | (go_at_call 8; (with_reducible refine (KCo.out _ BB.out).mono ?_); rintro e wx1 ⟨rfl, bx⟩; have T := Lib.hid (T.out.below bx T.out.inside); have BB := Lib.hid (bthen BB.out bx); clear bx))
    have hst : Stab (fun y => Whole y w.heap.size 33 S.toArray ∧ Below w.heap.size w y) := fun y z h e => ⟨h.1.below e h.1.inside, bthen h.2 e⟩
    refine wp_region_ab (fun y => Whole y w.heap.size 33 S.toArray ∧ Below w.heap.size w y) (by kernel_rfl) (hst _ _ ⟨T.out, BB.out⟩ (below_drew1 (Below.refl _ _))) ?_
    refine AB.take (i := 0) (v := .agg S.toArray) rfl rfl (by kernel_rfl) (by kernel_rfl) (by kernel_rfl) (fun _ _ _ h => h) hst (gives_loadG (ys := S) (b := w.heap.size) (k := 0) (by kernel_rfl) rfl rfl (fun y hy => whole_range0 hy.1) (by kernel_rfl) HSI.out) ?_
    simp only [List.set_cons_zero, List.set_cons_succ]
    refine AB.take (i := 1) (v := .bool b) rfl rfl (by kernel_rfl) (by kernel_rfl) (by kernel_rfl) (fun _ _ _ h => h) hst (Gives.call rfl (fun w => by kernel_rfl) (fun y hy => KA.out y hy.2)) ?_
    simp only [List.set_cons_zero, List.set_cons_succ]
    refine AB.take (i := 2) (v := .agg S.toArray) rfl rfl (by kernel_rfl) (by kernel_rfl) (by kernel_rfl) (fun _ _ _ h => h) hst (gives_loadG (ys := S) (b := w.heap.size) (k := 0) (by kernel_rfl) rfl rfl (fun y hy => whole_range0 hy.1) (by kernel_rfl) HSI.out) ?_
    simp only [List.set_cons_zero, List.set_cons_succ]
    refine AB.take (i := 3) (v := .bool b) rfl rfl (by kernel_rfl) (by kernel_rfl) (by kernel_rfl) (fun _ _ _ h => h) hst (Gives.call rfl (fun w => by kernel_rfl) (fun y hy => KB.out y hy.2)) ?_
    simp only [List.set_cons_zero, List.set_cons_succ]
    refine AB.take (i := 4) (v := .bool true) rfl rfl (by kernel_rfl) (by kernel_rfl) (by kernel_rfl) (fun _ _ _ h => h) hst (gives_ok rfl (fun y hy => by clear hy; cases b <;> go_simp)) ?_
    simp only [List.set_cons_zero, List.set_cons_succ]
    refine AB.take (i := 5) (v := .bool true) rfl rfl (by kernel_rfl) (by kernel_rfl) (by kernel_rfl) (fun _ _ _ h => h) hst (gives_move rfl rfl rfl) ?_
    simp only [List.set_cons_zero, List.set_cons_succ]
    refine AB.take (i := 6) (v := E) rfl rfl (by kernel_rfl) (by kernel_rfl) (by kernel_rfl) (fun _ _ _ h => h) hst (Gives.callG (by rfl) (fun w => by kernel_rfl) (fun y hy => KE.out y)) ?_
    simp only [List.set_cons_zero, List.set_cons_succ]
    refine AB.take (i := 7) (v := .bool true) rfl rfl (by kernel_rfl) (by kernel_rfl) (by kernel_rfl) (fun _ _ _ h => h) hst (Gives.callG (by rfl) (fun w => by kernel_rfl) (fun y hy => KER.out y)) ?_
    simp only [List.set_cons_zero, List.set_cons_succ]
    refine AB.take (i := 8) (v := .bool true) rfl rfl (by kernel_rfl) (by kernel_rfl) (by kernel_rfl) (fun _ _ _ h => h) hst (gives_ok rfl (fun y hy => by clear hy; go_simp)) ?_
    simp only [List.set_cons_zero, List.set_cons_succ]
    refine AB.take (i := 9) (v := .bool true) rfl rfl (by kernel_rfl) (by kernel_rfl) (by kernel_rfl) (fun _ _ _ h => h) hst (gives_move rfl rfl rfl) ?_
    simp only [List.set_cons_zero, List.set_cons_succ]
    refine AB.take (i := 10) (v := .bool true) rfl rfl (by kernel_rfl) (by kernel_rfl) (by kernel_rfl) (fun _ _ _ h => h) hst (Gives.callG (by rfl) (fun w => by kernel_rfl) (fun y hy => lives22 y)) ?_
    simp only [List.set_cons_zero, List.set_cons_succ]
    refine AB.take (i := 11) (v := .bool true) rfl rfl (by kernel_rfl) (by kernel_rfl) (by kernel_rfl) (fun _ _ _ h => h) hst (gives_ok rfl (fun y hy => by clear hy; go_simp)) ?_
    simp only [List.set_cons_zero, List.set_cons_succ]
    refine AB.take (i := 12) (v := .bool true) rfl rfl (by kernel_rfl) (by kernel_rfl) (by kernel_rfl) (fun _ _ _ h => h) hst (gives_ok rfl (fun y hy => by clear hy; go_simp)) ?_
    simp only [List.set_cons_zero, List.set_cons_succ]
    refine AB.done (by kernel_rfl) (fun wn hS => ?_)
    go_wp2
    go_ret
    exact ⟨rfl, hS.2⟩
end Go.Proofs.Ytkalpclckgbedaa
