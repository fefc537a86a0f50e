/-
  The library's slices.Delete on a row of cards of the call's own, one card. Conditions: at most 1000 cards.
-/
import Derived.Test.YtkalpclckgbedaaBrdM
import Derived.Test.YtkalpclckgbedaaStTake
import Derived.ArgAppend
namespace Go.Proofs.Ytkalpclckgbedaa
open Go.ChangeShapes Go.WideShapes Go.ChangeAt Go.RowKit
set_option linter.unusedVariables false
set_option linter.unusedSimpArgs false
set_option maxRecDepth 20000
set_option maxHeartbeats 6400000
theorem cutI_3 (g len cp n : Nat) (hn : n + 1 ≤ len) (hc : len ≤ cp) : ∃ v, ∀ w, (Instr.slice 22 (.slice (some ⟨g, 0, none⟩) len cp) (some (.int .i64 (n : Int))) (some (.int .i64 ((n : Int) + 1))) (some (.int .i64 (len : Int)))).run Try.prog w = .ok v w := by
  have hs : ∀ w, (Go.sizeOf (Try.prog.elem 22)).run Try.prog w = .ok 7 w := fun w => by kernel_rfl
  refine ⟨sliced (some ⟨g, 0, none⟩) n (n + 1) len 7, fun w => ?_⟩
  rw [run_slice_any w 22 (some ⟨g, 0, none⟩) len cp (by kernel_rfl)]
  have h1 : (n : Int) + 1 ≤ (len : Int) := by omega
  have h2 : (len : Int) ≤ (cp : Int) := by omega
  have h3 : ((n : Int) + 1).toNat = n + 1 := by omega
  have h4 : (0 : Int) ≤ (n : Int) + 1 := by omega
  have h5 : (n : Int) ≤ ((n + 1 : Nat) : Int) := by omega
  have h6 : (n : Int) ≤ (n : Int) + 1 := by omega
  simp only [Instr.sliceBounds, Sem.run_bind, Result.andThen]
  simp [run_sliceBound, hs, Result.andThen, h1, h2, h3, h4, h5, h6]
theorem cutI_lh (g len cp a b : Nat) (ha : a < b) (hb : b ≤ cp) (w : World) : (Instr.slice 22 (.slice (some ⟨g, 0, none⟩) len cp) (some (.int .i64 (a : Int))) (some (.int .i64 (b : Int))) none).run Try.prog w = .ok (.slice (some ⟨g, a * 7, none⟩) (b - a) (cp - a)) w := by
  have hs : ∀ w, (Go.sizeOf (Try.prog.elem 22)).run Try.prog w = .ok 7 w := fun w => by kernel_rfl
  rw [run_slice_lh w 22 (some ⟨g, 0, none⟩) len cp (by kernel_rfl) .i64 .i64 (a : Int) (b : Int) (by omega) (by omega) (by omega), hs]
  simp only [Result.andThen, sliced, Int.toNat_natCast]
  have h : ¬ cp = a := by omega
  by_cases h0 : a = 0
  · subst h0
    have h2 : ¬ cp = 0 := by omega
    simp [h2, Addr.add]
  · have h7 : ¬ a * 7 = 0 := by omega
    simp [h, Addr.add, h7]
theorem zeroI_run (w : World) : (zeroValue 50).run Try.prog w = .ok zeroI w := by kernel_rfl
theorem clearI (w : World) (g o c : Nat) (ty : TypeId) (hc : ∀ j, j < 7 → (w.cell? ⟨g, o + j, none⟩).isSome = true) (hf : ∀ j, j < 7 → w.frozen? ⟨g, o + j, none⟩ = false) :
    (Builtin.clear_ #[22] ty #[.slice (some ⟨g, o, none⟩) 1 c]).run Try.prog w = .ok (.tuple #[]) (w.setCells g o zeroIns.cells) := by
  have hzc : (Builtin.zeroCells zeroI.cells 1).toList = zeroIns.cells := by kernel_rfl
  have hst := run_storeCells_cells (P := Try.prog) g o zeroIns.cells 0 w (by simpa [zeroIns, Ins.cells] using hc) (by simpa [zeroIns, Ins.cells] using hf) (ins_one _)
  simp only [Nat.add_zero] at hst
  have hzv := zeroI_run
  obtain ⟨zi, hzi⟩ : ∃ z, zeroI = z := ⟨_, rfl⟩
  rw [hzi] at hzc hzv
  simp [Builtin.clear_, run_underlying und_rowI, hzv, hzc, hst]
/-- The blocks of a row while one card is taken out. -/
theorem del_parts {w : World} {B g cp n : Nat} {l : List Ins} (h : OwnI w B (.slice (some ⟨g, 0, none⟩) l.length cp) l) (hn : n < l.length) :
    ∃ a b z r : List Value, Whole w g 50 (a ++ b ++ (z ++ r)).toArray ∧ a = insC (l.take n) ∧ b.length = (l.length - (n + 1)) * 7 ∧ z.length = 7 ∧ B ≤ g ∧ l.length ≤ cp ∧ cp ≤ maxLen ∧ a.length = n * 7 ∧ a ++ b ++ z = insC l ∧
      ∀ (y : List Value) (w' : World), y.length = 7 → Whole w' g 50 (a ++ insC (l.drop (n + 1)) ++ y ++ r).toArray → OwnI w' B (.slice (some ⟨g, 0, none⟩) (l.take n ++ l.drop (n + 1)).length cp) (l.take n ++ l.drop (n + 1)) := by
  obtain ⟨hl, h⟩ := h
  rcases h with ⟨h, _⟩ | ⟨g', cap, cur, h, hb, hw, h1, h2, h3, h4⟩
  · cases h
  · injection h with h5 h6 h7
    injection h5 with h5
    injection h5 with h5
    subst h5 h7
    have hal : (insC (l.take n)).length = n * 7 := by rw [insC_len, List.length_take]; omega
    have hcut : insC l = insC (l.take n) ++ insC (l.drop n) := by rw [← insC_app, List.take_append_drop]
    have hdl : (insC (l.drop n)).length = (l.length - n) * 7 := by rw [insC_len, List.length_drop]
    have hel : (insC (l.drop (n + 1))).length = (l.length - (n + 1)) * 7 := by rw [insC_len, List.length_drop]
    refine ⟨insC (l.take n), (insC (l.drop n)).take ((l.length - (n + 1)) * 7), (insC (l.drop n)).drop ((l.length - (n + 1)) * 7), cur.toList.drop (l.length * 7), ?_, rfl, ?_, ?_, hb, h1, h2, hal, by rw [List.append_assoc, List.take_append_drop, ← hcut], fun y w' hy hW => ?_⟩
    · have e : cur = (insC (l.take n) ++ (insC (l.drop n)).take ((l.length - (n + 1)) * 7) ++ ((insC (l.drop n)).drop ((l.length - (n + 1)) * 7) ++ cur.toList.drop (l.length * 7))).toArray := by
        rw [List.append_assoc, ← List.append_assoc ((insC (l.drop n)).take _), List.take_append_drop, ← List.append_assoc, ← hcut, ← h4, List.take_append_drop]
      rw [← e]
      exact hw
    · rw [List.length_take]; omega
    · rw [List.length_drop]; omega
    · have hlen : (l.take n ++ l.drop (n + 1)).length = l.length - 1 := by rw [List.length_append, List.length_take, List.length_drop]; omega
      refine ⟨by rw [insC_len], .inr ⟨g, cp, _, rfl, hb, hW, by omega, h2, ?_, ?_⟩⟩
      · have hcl : cur.toList.length = cp * 7 := by rw [← h3]; exact Array.length_toList
        rw [List.size_toArray, List.length_append, List.length_append, List.length_append, hal, hel, hy, List.length_drop, hcl]
        have : l.length * 7 ≤ cp * 7 := Nat.mul_le_mul_right 7 h1
        omega
      · rw [insC_app, List.append_assoc, List.take_append_of_le_length (by rw [hlen, List.length_append, hal, hel]; omega)]
        rw [List.take_of_length_le (by rw [hlen, List.length_append, hal, hel]; omega)]
theorem app_run {P : Program} {oi : Oper} {a : Act} (s t : Operand) (ty : TypeId) (v u r : Value) (w w' : World) (ho : oi.op = .call { callee := .builtin .append, args := #[s, t], argTypes := #[ty, ty] }) (hs : a.eval s = v) (ht : a.eval t = u)
    (hr : (Builtin.append_ #[ty, ty] oi.type #[v, u]).run P w = .ok r w') : (execOp a.eval oi).run P w = .ok (.value r) w' := by
  unfold execOp
  simp only [ho, resolve, invoke, builtin, Sem.run_bind, Sem.run_pure, Result.andThen_ok, List.map_toArray, List.map_cons, List.map_nil, hs, ht, hr]
theorem Whole.some {w : World} {g : Nat} {t : TypeId} {cs : List Value} (h : Whole w g t cs.toArray) {i : Nat} (hi : i < cs.length) : (w.cell? ⟨g, i, none⟩).isSome = true := by
  rw [h.read]
  simp [hi]
theorem pDelete (B g cp n m : Nat) (l : List Ins) (w : World) (h : OwnI w B (.slice (some ⟨g, 0, none⟩) l.length cp) l) (hn : n < l.length) (hm : l.length = m) (hl : m ≤ 1000) :
    Calls Try.prog 40 #[.slice (some ⟨g, 0, none⟩) m cp, .int .i64 n, .int .i64 ((n : Int) + 1)] w fun e w' => e = .returned (.slice (some ⟨g, 0, none⟩) (l.take n ++ l.drop (n + 1)).length cp) ∧ OwnI w' B (.slice (some ⟨g, 0, none⟩) (l.take n ++ l.drop (n + 1)).length cp) (l.take n ++ l.drop (n + 1)) ∧ Keeps (fun k => k = g) w w' := by
  obtain ⟨a, b, z, r, hW, ha, hb, hz, hB, hlc, hcm, hal, habz, hend⟩ := del_parts h hn
  have hrow := h.row
  have hlen : (l.take n ++ l.drop (n + 1)).length = m - 1 := by rw [List.length_append, List.length_take, List.length_drop]; omega
  obtain ⟨m1, hm1⟩ : ∃ m1, m = m1 + 1 := ⟨m - 1, by omega⟩
  have hlen : (l.take n ++ l.drop (n + 1)).length = m1 := by rw [hlen]; omega
  rw [hlen] at hend ⊢
  rw [hm] at hlc hb hrow hn
  obtain ⟨v3, hv3⟩ := cutI_3 g m cp n (by omega) hlc
  have hhi := fun w => cutI_hi g 0 m cp n (by omega) (by omega) w
  have hlo := fun w => cutI_lo g 0 m cp n (by omega) w
  have hlh := fun w => cutI_lh g m1 cp m1 m (by omega) (by omega) w
  rw [show m - m1 = 1 by omega] at hlh
  rw [Nat.zero_add] at hlo
  obtain ⟨src, hsrc⟩ : ∃ src : Addr, (if cp = n + 1 then (⟨g, 0, none⟩ : Addr) else ⟨g, (n + 1) * 7, none⟩) = src := ⟨_, rfl⟩
  rw [hsrc] at hlo
  have hdl : (insC (l.drop (n + 1))).length = (m - (n + 1)) * 7 := by rw [insC_len, List.length_drop, hm]
  have hnews : ∀ y, Whole y g 50 (a ++ b ++ (z ++ r)).toArray → ∀ j u, (insC (l.drop (n + 1)))[j]? = some u → y.cell? (src.add j) = some u := fun y hy j u hu => by
    have hj := (List.getElem?_eq_some_iff.1 hu).1
    rw [hdl] at hj
    have hne : ¬ cp = n + 1 := fun e => by omega
    rw [← hsrc, if_neg hne, Addr.add_lit, hy.read, ← hu]
    have e : a ++ b ++ (z ++ r) = insC (l.take (n + 1)) ++ insC (l.drop (n + 1)) ++ r := by rw [← insC_app, List.take_append_drop, ← habz]; simp only [List.append_assoc]
    have h1 : (insC (l.take (n + 1))).length = (n + 1) * 7 := by rw [insC_len, List.length_take]; omega
    rw [e, List.getElem?_toArray, List.append_assoc, List.getElem?_append_right (by omega), h1, List.getElem?_append_left (by omega)]
    congr 1
    omega
  have nn : ((n : Int) == (n : Int) + 1) = false := by simp; omega
  have ne : ¬ (n : Int) = (n : Int) + 1 := by omega
  have HB7 := Lib.hid hb
  have HZ7 := Lib.hid hz
  have HW := Lib.hid hW
  have HEND := Lib.hid hend
  have HAL := Lib.hid hal
  have HDL := Lib.hid hdl
  have HNEWS := Lib.hid hnews
  have HONE := Lib.hid (insC_one (l.drop (n + 1)))
  have HM1 := Lib.hid hm1
  have ln : n + 1 ≤ m := by omega
  have HLC := Lib.hid hlc
  have hlc1 : n ≤ cp := by omega
  have hal3 : (a ++ insC (l.drop (n + 1))).length = m1 * 7 := by rw [List.length_append, hal, hdl]; omega
  have HAL3 := Lib.hid hal3
  obtain ⟨ii, hii, hi2, hi3, hi4⟩ := info_parts info_ins
  have HII := Lib.hid hii
  have HI3 := Lib.hid hi3
  clear hrow h hW hend hb hal ha hB hcm habz hz hn hm hlen hdl hnews hsrc hm1 hlc hal3 hii hi2 hi3 hi4
  go_enter Try.func40, Try.ntmps40
  go_upto_region 5 with (fail)
  have hst : Stab (fun y => Whole y g 50 (a ++ b ++ (z ++ r)).toArray ∧ Keeps (fun k => k = g) w y) := fun x y h e => ⟨h.1.below e h.1.inside, h.2.trans (Keeps.of_below e)⟩
  refine wp_region_bw (fun i => i == 6) (fun y => Whole y g 50 (a ++ b ++ (z ++ r)).toArray ∧ Keeps (fun k => k = g) w y) (by kernel_rfl) (hst _ _ ⟨HW.out, Keeps.refl _ _⟩ (below_drew1 (Below.refl _ _))) ?_
  refine BW.take (i := 0) (v := .slice (some ⟨g, 0, none⟩) m cp) rfl rfl (by kernel_rfl) (by kernel_rfl) (by kernel_rfl) (by kernel_rfl) (fun _ _ _ h => h) hst (gives_move rfl rfl rfl) ?_
  simp only [List.set_cons_zero, List.set_cons_succ]
  refine BW.take (i := 1) (v := .int .i64 (n : Int)) rfl rfl (by kernel_rfl) (by kernel_rfl) (by kernel_rfl) (by kernel_rfl) (fun _ _ _ h => h) hst (gives_move rfl rfl rfl) ?_
  simp only [List.set_cons_zero, List.set_cons_succ]
  refine BW.take (i := 2) (v := .slice (some ⟨g, 0, none⟩) n cp) rfl rfl (by kernel_rfl) (by kernel_rfl) (by kernel_rfl) (by kernel_rfl) (fun _ _ _ h => h) hst (gives_ok rfl (fun y hy => by clear hy; go_simp)) ?_
  simp only [List.set_cons_zero, List.set_cons_succ]
  refine BW.take (i := 3) (v := .slice (some ⟨g, 0, none⟩) m cp) rfl rfl (by kernel_rfl) (by kernel_rfl) (by kernel_rfl) (by kernel_rfl) (fun _ _ _ h => h) hst (gives_move rfl rfl rfl) ?_
  simp only [List.set_cons_zero, List.set_cons_succ]
  refine BW.take (i := 4) (v := .int .i64 ((n : Int) + 1)) rfl rfl (by kernel_rfl) (by kernel_rfl) (by kernel_rfl) (by kernel_rfl) (fun _ _ _ h => h) hst (gives_move rfl rfl rfl) ?_
  simp only [List.set_cons_zero, List.set_cons_succ]
  refine BW.take (i := 5) (v := .slice (some src) (m - (n + 1)) (cp - (n + 1))) rfl rfl (by kernel_rfl) (by kernel_rfl) (by kernel_rfl) (by kernel_rfl) (fun _ _ _ h => h) hst (gives_ok rfl (fun y hy => by clear hy; go_simp)) ?_
  simp only [List.set_cons_zero, List.set_cons_succ]
  refine BW.one (i := 6) (by kernel_rfl) (fun y hy => okOp rfl rfl rfl ⟨.slice (some ⟨g, 0, none⟩) m1 cp, y.setCells g (n * 7) (insC (l.drop (n + 1))), ?_, ?_⟩)
  · have hrm := run_append_room_cells (P := Try.prog) y 22 22 50 ii und_rowI HII.out g 0 n cp src (m - (n + 1)) (cp - (n + 1)) (insC (l.drop (n + 1))) (by rw [HI3.out]; exact HDL.out) (HNEWS.out y hy.1) HONE.out (by have := HLC.out; omega)
      (fun j hj => by
        rw [HI3.out]
        refine hy.1.some ?_
        rw [HDL.out] at hj
        simp only [List.length_append, HAL.out, HB7.out, HZ7.out]
        omega) (fun j hj => by rw [HI3.out]; exact hy.1.thawed _)
    rw [HI3.out, Nat.zero_add, show n + (m - (n + 1)) = m1 by have := HM1.out; omega] at hrm
    exact app_run (.tmp 22) (.tmp 25) 22 _ _ _ _ _ rfl rfl rfl hrm
  · refine ⟨fun y => Whole y g 50 (a ++ insC (l.drop (n + 1)) ++ (z ++ r)).toArray ∧ Keeps (fun k => k = g) w y, ⟨?_, ?_⟩, fun x y h e => ⟨h.1.below e h.1.inside, h.2.trans (Keeps.of_below e)⟩, (fun h => by cases h), ?_⟩
    · have h2 := Whole.setCells (z ++ r) (insC (l.drop (n + 1))) b a y (by rw [HDL.out, HB7.out]) hy.1
      rw [HAL.out] at h2
      exact h2
    · exact hy.2.trans (Keeps.setCells (S := fun k => k = g) rfl _ _ (Keeps.refl _ _))
    simp only [List.set_cons_zero, List.set_cons_succ]
    have hst1 : Stab (fun y => Whole y g 50 (a ++ insC (l.drop (n + 1)) ++ (z ++ r)).toArray ∧ Keeps (fun k => k = g) w y) := fun x y h e => ⟨h.1.below e h.1.inside, h.2.trans (Keeps.of_below e)⟩
    refine BW.take (i := 7) (v := .slice (some ⟨g, 0, none⟩) m1 cp) rfl rfl (by kernel_rfl) (by kernel_rfl) (by kernel_rfl) (by kernel_rfl) (fun _ _ _ h => h) hst1 (gives_ok rfl (fun y hy => by clear hy; go_simp)) ?_
    simp only [List.set_cons_zero, List.set_cons_succ]
    refine BW.done (by kernel_rfl) (fun wn hS => ?_)
    have W1 : Whole wn g 50 (a ++ insC (l.drop (n + 1)) ++ z ++ r).toArray := by
      have h := hS.1
      rw [← List.append_assoc] at h
      exact h
    have W2 := Whole.setCells r zeroIns.cells z (a ++ insC (l.drop (n + 1))) wn (by rw [HZ7.out]; rfl) W1
    rw [HAL3.out] at W2
    have hcl := fun ty => clearI wn g (m1 * 7) (cp - m1) ty (fun j hj => W1.some (by simp only [List.length_append] at HAL3 ⊢; have := HAL3.out; have := HZ7.out; omega)) (fun j hj => W1.thawed _)
    have S2 := Lib.hid (HEND.out zeroIns.cells _ rfl W2)
    have K2 := Lib.hid (hS.2.trans (Keeps.setCells (S := fun k => k = g) (g := g) rfl zeroIns.cells (m1 * 7) (Keeps.refl _ _)))
    clear hS W1 W2 hst hst1 hy
    generalize zeroIns.cells = zc at *
    go_wp2
    go_ret
    exact ⟨rfl, S2.out, K2.out⟩
end Go.Proofs.Ytkalpclckgbedaa
