/-
  The document's answer: a card by its Id. No conditions.
-/
import Derived.Test.YtkalpclckgbedaaStFresh
import Derived.Laws.ResultCell
namespace Go.Proofs.Ytkalpclckgbedaa
open Go.ChangeShapes Go.WideShapes Go.ChangeAt Go.RowKit
set_option linter.unusedVariables false
set_option linter.unusedSimpArgs false
set_option maxRecDepth 20000
set_option maxHeartbeats 3200000
theorem results_ct {P : Program} {fn : Func} {p u : Tmp} {ty : TypeId} (h : fn.results = #[.cell p ty, .tmp u]) (tmps : Array Value) (w : World) (g : Nat) (t : TypeId) (cs : Array Value) (d : TypeDesc) (vb : Value)
    (hp : tmps.getD p undef = .pointer (some ⟨g, 0, none⟩)) (hb : tmps.getD u undef = vb) (hg : Whole w g t cs)
    (hu : P.underlying ty = some d) (hd : (match d with | .struct _ | .array _ _ => true | _ => false) = true) (hi : (P.info? ty).map (·.size) = some cs.size) :
    (results fn tmps).run P w = .ok (.tuple #[.agg cs, vb]) w := by
  rw [results_cell_tmp h, hp, hb]
  simp [asAddr, run_loadVar_row w g t ty cs (0, 0) d hg hu hd hi, Result.andThen]
def zeroIns : Ins := ⟨0, 0, ByteArray.empty, 0, 0, 0, 0⟩
def getI (L : Nat → List Ins) (id : Int) : Ins := match placeO L id with
  | some (q, n) => (L q).getD n zeroIns
  | none => zeroIns
def Ins.vals (x : Ins) : Value := .agg x.cells.toArray
theorem rGet (c : Sc) (r : Nat → Value) (L : Nat → List Ins) (id : Int) (w : World) (hR : Rows12 w r L) :
    Calls Try.prog 29 #[stV c r, .int .i64 id] w fun e w' => e = .returned (.tuple #[(getI L id).vals, .bool (placeO L id).isSome]) ∧ Below w.heap.size w w' := by
  have hv : stV c r = .agg (stC c r).toArray := rfl
  obtain ⟨W2, hW2⟩ : ∃ W2, (w.alloc (.cells (stC c r).toArray 33)).alloc (.cells zeroIns.cells.toArray 50) = W2 := ⟨_, rfl⟩
  have w1 : Whole W2 w.heap.size 33 (stC c r).toArray := by rw [← hW2]; exact (Whole.made w _ _).alloc _
  have w2 : Whole W2 (w.heap.size + 1) 50 zeroIns.cells.toArray := by
    have h2 := Whole.made (w.alloc (.cells (stC c r).toArray 33)) 50 zeroIns.cells.toArray
    rw [World.size_alloc, hW2] at h2
    exact h2
  have b2 : Below w.heap.size w W2 := by rw [← hW2]; exact ((Below.refl _ _).alloc (Nat.le_refl _) _).alloc (by simp) _
  have z2 : w.heap.size + 2 = W2.heap.size := by rw [← hW2]; simp
  have KP := Lib.hid (rPlace c r L id W2 (fun q hq => (hR q hq).below b2))
  rw [hv] at KP ⊢
  have X1 := Lib.hid w1
  have X2 := Lib.hid w2
  have XB := Lib.hid b2
  have XZ := Lib.hid z2
  have HR := Lib.hid hR
  have hlen : (stC c r).length = 30 := rfl
  have HSI : Hid ((Try.prog.info? 33).map (·.size) = some (stC c r).length) := Lib.hid (by rw [hlen]; kernel_rfl)
  have z9 : Whole ((w.alloc (.cells (stC c r).toArray 33)).alloc (.cells zeroIns.cells.toArray 50)) (w.heap.size + 1) 50 zeroIns.cells.toArray := by rw [hW2]; exact w2
  subst hW2
  unfold getI
  cases hp : placeO L id with
  | none =>
    rw [hp] at KP
    have KP := Lib.hid KP.out
    clear hR hv w1 w2 b2 z2 hp hlen z9
    generalize stC c r = S at *
    go_enter Try.func29, Try.ntmps29
    go_wp2_with (first
      | ((with_reducible refine at_ld 10 ?_); refine wpList_loadW 33 (.tmp 2) 33 w.heap.size S X1.out (by kernel_rfl) HSI.out rfl rfl rfl ?_)
      | (go_at_call 11; refine KP.out.mono ?_; rintro e w3 ⟨rfl, b3⟩; have Y2 := Lib.hid (X2.out.below b3 X2.out.inside); have B3 := Lib.hid (bthen XB.out b3); unfold placeV; clear b3)
      | ((with_reducible refine at_st 4 18 ?_); refine wpList_storeW 50 (.tmp 4) (.tmp 18) 50 (w.heap.size + 1) zeroIns.cells zeroIns.cells Y2.out rfl (by kernel_rfl) (by intro v hv; simp only [zeroIns, Ins.cells, List.mem_cons, List.not_mem_nil, or_false] at hv; rcases hv with rfl | rfl | rfl | rfl | rfl | rfl | rfl <;> rfl) rfl rfl rfl rfl rfl ?_; intro w9 p9; have P9 := Lib.hid p9; clear p9))
    refine bodyPost_ret (results_ct Try.results29 _ _ (w.heap.size + 1) 50 zeroIns.cells.toArray _ (.bool false) rfl rfl P9.out.whole Try.underlying50 rfl (by kernel_rfl)) rfl ⟨rfl, ?_⟩
    exact B3.out.trans (P9.out.keeps.below B3.out.size (fun k h => by have h3 : k = w.heap.size + 1 := h; omega))
  | some p =>
    obtain ⟨q, n⟩ := p
    rw [hp] at KP
    obtain ⟨hq6, hnl, hid⟩ := placeO_some hp
    rw [placeV_at n (k := q % 2) (i := q / 2) rfl rfl] at KP
    obtain ⟨k, hk⟩ : ∃ k, q % 2 = k := ⟨_, rfl⟩
    obtain ⟨i, hi⟩ : ∃ i, q / 2 = i := ⟨_, rfl⟩
    rw [hk, hi] at KP
    have hqe : q = 2 * i + k := by omega
    have hi3 : i < 3 := by omega
    have hk2 : k < 2 := by omega
    obtain ⟨y, hy⟩ : ∃ y, (L q)[n]'hnl = y := ⟨_, rfl⟩
    have hyd : (L q).getD n zeroIns = y := by rw [List.getD_eq_getElem?_getD, List.getElem?_eq_getElem hnl, hy]; rfl
    simp only
    rw [hyd]
    obtain ⟨A, cp, e, hrd, _, _, hml⟩ := hR q (by omega)
    obtain ⟨g, off, rfl, hg, hcs⟩ := row_lit hrd (by omega)
    obtain ⟨c0, c1, c2, c3, c4, c5, c6⟩ := hcs n hnl
    rw [hy] at c0 c1 c2 c3 c4 c5 c6
    unfold maxLen at hml
    have hgW : ∀ x, Below w.heap.size w x → ∀ j, x.cell? ⟨g, j, none⟩ = w.cell? ⟨g, j, none⟩ := fun x hx j => hx.cell hg
    have hside : ∀ x, Whole x w.heap.size 33 (stC c r).toArray → x.cell? ⟨w.heap.size, 1 + i * 4 + 2 + k, none⟩ = some (.slice (some ⟨g, off, none⟩) (L q).length cp) := fun x hx => by
      rw [st_side hx i k hi3 hk2, ← hqe, e]
    have ln : (n : Int) < ((L q).length : Int) := by omega
    have lk : (k : Int) < 2 := by omega
    have li : (i : Int) < 3 := by omega
    have lk0 : ¬ (k : Int) < 0 := by omega
    have HG := Lib.hid hgW
    have HSD := Lib.hid hside
    have KP := Lib.hid KP.out
    clear hR hv w1 w2 b2 z2 hp hlen z9 e hrd hcs hyd hgW hside hid hk hi hqe hy hnl
    generalize (L q).length = nq at *
    generalize stC c r = S at *
    obtain ⟨y0, y1, y2, y3, y4, y5, y6⟩ := y
    simp only at c0 c1 c2 c3 c4 c5 c6
    go_enter Try.func29, Try.ntmps29
    go_wp2_with (first
      | ((with_reducible refine at_ld 10 ?_); refine wpList_loadW 33 (.tmp 2) 33 w.heap.size S X1.out (by kernel_rfl) HSI.out rfl rfl rfl ?_)
      | (go_at_call 11; refine KP.out.mono ?_; rintro e w3 ⟨rfl, b3⟩; have Y2 := Lib.hid (X2.out.below b3 X2.out.inside); have sd := HSD.out w3 (X1.out.below b3 X1.out.inside); have b4 := bthen XB.out b3; rw [← HG.out _ b4] at c0 c1 c2 c3 c4 c5 c6; have B3 := Lib.hid b4; clear b3 b4)
      | ((with_reducible refine at_st 4 28 ?_); refine wpList_storeW 50 (.tmp 4) (.tmp 28) 50 (w.heap.size + 1) zeroIns.cells (Ins.cells ⟨y0, y1, y2, y3, y4, y5, y6⟩) Y2.out rfl (by kernel_rfl) (by intro v hv; simp only [Ins.cells, List.mem_cons, List.not_mem_nil, or_false] at hv; rcases hv with rfl | rfl | rfl | rfl | rfl | rfl | rfl <;> rfl) rfl rfl rfl rfl rfl ?_; intro w9 p9; have P9 := Lib.hid p9; clear p9))
    refine bodyPost_ret (results_ct Try.results29 _ _ (w.heap.size + 1) 50 (Ins.cells ⟨y0, y1, y2, y3, y4, y5, y6⟩).toArray _ (.bool true) rfl rfl P9.out.whole Try.underlying50 rfl (by kernel_rfl)) rfl ⟨rfl, ?_⟩
    exact B3.out.trans (P9.out.keeps.below B3.out.size (fun k h => by have h3 : k = w.heap.size + 1 := h; omega))
end Go.Proofs.Ytkalpclckgbedaa
