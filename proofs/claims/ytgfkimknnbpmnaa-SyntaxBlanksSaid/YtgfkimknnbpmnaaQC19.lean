/-
  Texts SynP3. No conditions but those that each theorem names.
-/
import Derived.Test.YtgfkimknnbpmnaaQC18
namespace Go.Proofs.Ytgfkimknnbpmnaa
open Go.ChangeShapes Go.WideShapes Go.ChangeAt Go.RowKit
set_option linter.unusedVariables false
set_option linter.unusedSimpArgs false
theorem row_to : (Try.prog.underlying 46).map TypeDesc.isRow = some true := by kernel_rfl
theorem Ur : (Try.prog.info? 46).map (·.size) = some 2 := by kernel_rfl
theorem Yl : (Try.prog.info? 3).map (·.size) = some 1 := by kernel_rfl
theorem Ya.put {w x y : World} {q c r K : Nat} {L : List TokV} {st : St} (m : Ya w x q c r K L st) {G : Nat} {t : TypeId} {vs : List Value} (p : Put x y G t vs) (hG : w.heap.size ≤ G) (hq : q < w.heap.size) (hc : c < w.heap.size) (hr : r < w.heap.size) : Ya w y q c r K L st := m.on p.keeps hG hq hc hr
set_option maxRecDepth 20000 in
theorem xto (w : World) (q c r K : Nat) (L : List TokV) (st : St) (h : PAt w q c r K L st) :
   Calls Try.prog 72 #[.pointer (some ⟨q, 0, none⟩)] w (Zw w q c r K L (toS L st) (.agg #[.int .i64 (toK L st), .int .i64 (toL L st)])) := by
 have qin := h.whole.inside
 have cin := h.cin
 have rin := h.rin
 have nb := Zc w (.cells #[.int .i64 0, .int .i64 0] 46)
 have M0 := Hh ((Ya.start h).next nb)
 have R0 := Hh (Zb.made w 46 #[.int .i64 0, .int .i64 0])
 have hf := xoneB _ q c r K (w.heap.size + 1) L st wTo 4 4 _ rfl (by simp) M0.out.at_ rfl (by decide)
 clear h
 unfold toS toK toL
 generalize hk : Zl L wTo st = k at *
 generalize Yi L wTo st = s1 at *
 clear hk
 by_cases h4 : k = 4
 · subst h4
   rw [if_pos rfl, if_pos rfl]
   rw [show ((4 : Nat) : Int) = 4 from rfl] at hf ⊢
   go_enter Try.func72, Try.ntmps72
   go_wp2_with (first
 | (go_at_call 69; refine hf.mono ?_; rintro e w1 ⟨rfl, m1⟩
    have nb := Zc w1 (.cells #[.int .i64 4, .int .i64 0] 46)
    have hcell := (m1.at_.below nb).cell
    have hz1 : w.heap.size + 1 ≤ w1.heap.size := by have := m1.keeps.size; simp at this; omega
    have T1 := Hh (Zb.made w1 46 #[.int .i64 4, .int .i64 0])
    have R1 := Hh ((m1.keeps.whole R0.out (by omega)).below nb (by omega))
    have M1 := Hh ((M0.out.then m1).next nb); clear m1 nb)
 | (go_at_call 49; refine (xreadInt _ q c r K L _ M1.out.at_).mono ?_; rintro e w2 ⟨rfl, m2⟩
    have hz2 : w1.heap.size + 1 ≤ w2.heap.size := by have := m2.keeps.size; simp at this; omega
    have T2 := Hh (m2.keeps.whole T1.out (by omega))
    have R2 := Hh (m2.keeps.whole R1.out (by omega))
    have M2 := Hh (M1.out.then m2); clear m2)
 | ((with_reducible refine Zq 18 17 ?_); refine Zn 3 _ _ 46 w1.heap.size 1 [.int .i64 4] (.int .i64 0) (.int .i64 (intN L s1)) [] T2.out rfl Yl rfl rfl rfl rfl rfl rfl ?_
    intro w3 p3
    have T3 := Hh (show Zb w3 w1.heap.size 46 [.int .i64 4, .int .i64 (intN L s1)].toArray from p3.whole)
    have R3 := Hh (p3.keeps.whole R2.out (by omega))
    have M3 := Hh (M2.out.put p3 (by omega) qin cin rin)
    clear p3)
 | ((with_reducible refine Ye 19 ?_); refine Zi 46 _ 46 w1.heap.size _ T3.out row_to Ur rfl rfl rfl ?_)
 | ((with_reducible refine Zq 2 19 ?_); refine Zf 46 _ _ 46 w.heap.size _ [.int .i64 4, .int .i64 (intN L s1)] R3.out rfl Ur (by simp [Value.oneCell']) rfl rfl rfl rfl rfl ?_
    intro w4 p4
    have R4 := Hh p4.whole
    have M4 := Hh (M3.out.put p4 (Nat.le_refl _) qin cin rin)
    clear p4))
   exact Yg 2 46 46 w.heap.size _ rfl R4.out row_to Ur rfl rfl ⟨rfl, M4.out⟩
 · rw [if_neg h4, if_neg h4]
   have q4 : ((k : Int) == 4) = false := by rw [beq_eq_false_iff_ne]; omega
   clear h4
   go_enter Try.func72, Try.ntmps72
   go_wp2_with (first
 | (go_at_call 69; refine hf.mono ?_; rintro e w1 ⟨rfl, m1⟩
    have nb := Zc w1 (.cells #[.int .i64 (k : Int), .int .i64 0] 46)
    have hz1 : w.heap.size + 1 ≤ w1.heap.size := by have := m1.keeps.size; simp at this; omega
    have T1 := Hh (Zb.made w1 46 #[.int .i64 (k : Int), .int .i64 0])
    have R1 := Hh ((m1.keeps.whole R0.out (by omega)).below nb (by omega))
    have M1 := Hh ((M0.out.then m1).next nb); clear m1 nb)
 | ((with_reducible refine Ye 19 ?_); refine Zi 46 _ 46 w1.heap.size _ T1.out row_to Ur rfl rfl rfl ?_)
 | ((with_reducible refine Zq 2 19 ?_); refine Zf 46 _ _ 46 w.heap.size _ [.int .i64 (k : Int), .int .i64 0] R1.out rfl Ur (by simp [Value.oneCell']) rfl rfl rfl rfl rfl ?_
    intro w4 p4
    have R4 := Hh p4.whole
    have M4 := Hh (M1.out.put p4 (Nat.le_refl _) qin cin rin)
    clear p4))
   exact Yg 2 46 46 w.heap.size _ rfl R4.out row_to Ur rfl rfl ⟨rfl, M4.out⟩
end Go.Proofs.Ytgfkimknnbpmnaa
