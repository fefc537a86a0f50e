/-
  The document's answer: all cards in the lanes. Conditions: at most 1000 cards a row.
-/
import Derived.Test.YtkalpclckgbedaaStFresh
namespace Go.Proofs.Ytkalpclckgbedaa
open Go.ChangeShapes Go.WideShapes Go.ChangeAt Go.RowKit
set_option linter.unusedVariables false
set_option linter.unusedSimpArgs false
set_option maxRecDepth 20000
set_option maxHeartbeats 3200000
/-- The rows before m, one behind another. -/
def catL (L : Nat → List Ins) : Nat → List Ins
  | 0 => []
  | m + 1 => catL L m ++ L m
theorem catL_len {L : Nat → List Ins} (h : ∀ q, q < 12 → (L q).length ≤ 1000) : ∀ m, m ≤ 12 → (catL L m).length ≤ 1000 * m
  | 0, _ => by simp [catL]
  | m + 1, hm => by
    have h1 := catL_len h m (by omega)
    have h2 := h m (by omega)
    unfold catL
    rw [List.length_append]
    omega
structure AllAt (w : World) (c : Sc) (r : Nat → Value) (l : List Ins) (x : World) (v : Value) : Prop where
  whole : Whole x w.heap.size 33 (stC c r).toArray
  own : OwnI x (w.heap.size + 1) v l
  below : Below w.heap.size w x
  size : w.heap.size + 1 ≤ x.heap.size
theorem AllAt.cat {w : World} {c : Sc} {r : Nat → Value} {l m : List Ins} {x y : World} {v v' : Value} (h : AllAt w c r l x v) (ho : y.ownsRow (w.heap.size + 1) 50 7 v' (l.length + m.length) (insC l ++ insC m)) (hg : x.grownBy y v.ownBlock) : AllAt w c r (l ++ m) y v' := by
  have k : Keeps (fun k => w.heap.size + 1 ≤ k) x y := (Keeps.refl _ x).grown hg (fun k hk => (World.ownsRow.lt h.own k hk).1)
  refine ⟨k.whole h.whole (fun e => by have e2 : w.heap.size + 1 ≤ w.heap.size := e; omega), ?_, h.below.trans (k.below h.below.size (fun k h => by have h2 : w.heap.size + 1 ≤ k := h; omega)), Nat.le_trans h.size hg.size⟩
  unfold OwnI
  rw [insC_app, List.length_append]
  exact ho
theorem rAll (c : Sc) (r : Nat → Value) (L : Nat → List Ins) (w : World) (hR : Rows12 w r L) (hsz : ∀ q, q < 12 → (L q).length ≤ 1000) :
    Calls Try.prog 18 #[stV c r] w fun e w' => ∃ v, e = .returned v ∧ OwnI w' w.heap.size v (catL L 6) ∧ Below w.heap.size w w' := by
  have hv : stV c r = .agg (stC c r).toArray := rfl
  have A0 : Hid (AllAt w c r [] (w.alloc (.cells (stC c r).toArray 33)) (.slice none 0 0)) := Lib.hid ⟨Whole.made w _ _, World.ownsRow_nil _ _ _ _, (Below.refl _ _).alloc (Nat.le_refl _) _, by simp⟩
  rw [hv]
  have HSZ := Lib.hid hsz
  have HC := Lib.hid (catL_len hsz)
  have HR := Lib.hid hR
  clear hR hv hsz
  generalize hA : (stC c r).toArray = arr at *
  go_enter Try.func18, Try.ntmps18
  go_wp2
  go_loopw [3, 4] (fun v j wr => ∃ i : Nat, j = .int .i64 i ∧ i ≤ 3 ∧ AllAt w c r (catL L (2 * i)) wr v) (fun _ j _ => 3 - (intOf j).toNat)
  case atStart => exact ⟨0, rfl, by omega, A0.out⟩
  case round =>
    obtain ⟨i, rfl, hi, hF⟩ := hrel
    have HF := Lib.hid hF
    clear hF
    by_cases hi3 : i < 3
    · have li : (i : Int) < 3 := by omega
      go_wp2
      go_loopw [3, 5] (fun v j wr => ∃ k : Nat, j = .int .i64 k ∧ k ≤ 2 ∧ AllAt w c r (catL L (2 * i + k)) wr v) (fun _ j _ => 2 - (intOf j).toNat)
      case atStart => exact ⟨0, rfl, by omega, HF.out⟩
      case round =>
        obtain ⟨k, rfl, hk, hF⟩ := hrel
        have HF := Lib.hid hF
        clear hF
        by_cases hk2 : k < 2
        · have lk : (k : Int) < 2 := by omega
          have hrow := (HR.out (2 * i + k) (by omega)).below HF.out.below
          have hc := st_side HF.out.whole i k hi3 hk2
          obtain ⟨A, cp, e, _⟩ := id hrow
          rw [e] at hc hrow
          have RW := Lib.hid hrow
          have HZ : Hid ((catL L (2 * i + k)).length + (L (2 * i + k)).length ≤ 2199023255552) := Lib.hid (by have := HC.out (2 * i + k) (by omega); have := HSZ.out (2 * i + k) (by omega); omega)
          clear e hrow
          go_wp2_with (at_builtin; refine wpList_cat _ (.tmp 14) (.tmp 21) (w.heap.size + 1) _ _ _ _ (L (2 * i + k)) HF.out.own RW.out HZ.out HF.out.size rfl rfl rfl rfl ?_; intro v3 w3 o3 g3 _; have N3 := Lib.hid (HF.out.cat o3 g3); clear o3 g3)
          go_roundw
          case rel => exact ⟨k + 1, by go_num, by omega, N3.out⟩
          case measure => simp [intOf]; omega
        · have e6 : 2 * i + k = 2 * (i + 1) := by omega
          have lk : ¬ (k : Int) < 2 := by omega
          rw [e6] at HF
          clear e6
          go_wp2
          go_roundw
          case rel => exact ⟨i + 1, by go_num, by omega, HF.out⟩
          case measure => simp [intOf]; omega
    · have e6 : 2 * i = 6 := by omega
      have li : ¬ (i : Int) < 3 := by omega
      rw [e6] at HF
      clear e6
      go_wp2
      go_ret
      exact ⟨_, rfl, own_mono HF.out.own (Nat.le_succ _), HF.out.below⟩
end Go.Proofs.Ytkalpclckgbedaa
