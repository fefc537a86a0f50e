/-
  The document's answer: how many cards there are. Conditions: no more than memory holds.
-/
import Derived.Test.YtkalpclckgbedaaStPiles
namespace Go.Proofs.Ytkalpclckgbedaa
open Go.ChangeShapes Go.WideShapes Go.ChangeAt Go.RowKit
set_option linter.unusedVariables false
set_option linter.unusedSimpArgs false
set_option maxRecDepth 20000
theorem rCount (c : Sc) (r : Nat → Value) (L : Nat → List Ins) (w : World) (hR : Rows12 w r L) (hT : (pilesL L 2).length ≤ 2199023255488) :
    Calls Try.prog 8 #[stV c r] w fun e w' => e = .returned (.int .i64 ((pilesL L 2).length : Nat)) ∧ Below w.heap.size w w' := by
  have B0 : Below w.heap.size w (w.alloc (.cells (stC c r).toArray 33)) := (Below.refl _ _).alloc (Nat.le_refl _) _
  have K := Lib.hid (rPiles c r L (w.alloc (.cells (stC c r).toArray 33)) (fun q hq => (hR q hq).below B0) hT)
  have X1 : Hid (Whole (w.alloc (.cells (stC c r).toArray 33)) w.heap.size 33 (stC c r).toArray) := Lib.hid (Whole.made w _ _)
  have hlen : (stC c r).length = 30 := rfl
  have HSI : Hid ((Try.prog.info? 33).map (·.size) = some (stC c r).length) := Lib.hid (by rw [hlen]; kernel_rfl)
  have hv : stV c r = .agg (stC c r).toArray := rfl
  rw [hv] at K ⊢
  have XB := Lib.hid B0
  obtain ⟨n, hn⟩ : ∃ n, (pilesL L 2).length = n := ⟨_, rfl⟩
  rw [hn]
  have HN := Lib.hid hn
  clear hR hT B0 hlen hv hn
  go_enter Try.func8, Try.ntmps8
  go_wp2_with (first
    | ((with_reducible refine at_ld 6 ?_); refine wpList_loadW 33 (.tmp 1) 33 w.heap.size (stC c r) X1.out (by kernel_rfl) HSI.out rfl rfl rfl ?_)
    | (go_at_call 32; refine K.out.mono ?_; rintro e w1 ⟨V, U, rfl, hp⟩; obtain ⟨A, cp, e9⟩ := own_len hp.own; rw [HN.out] at e9; subst e9; have B := Lib.hid (bthen XB.out hp.below); clear hp))
  go_ret
  exact ⟨rfl, B.out⟩
end Go.Proofs.Ytkalpclckgbedaa
