/-
  Texts Pr3. No conditions but those that each theorem names.
-/
import Derived.Test.YtljdgdphldckhaaGreatQA14
set_option maxRecDepth 20000
set_option maxHeartbeats 12800000
namespace Go.Proofs.YtljdgdphldckhaaGreat
open Go.ChangeShapes Go.WideShapes Go.ChangeAt Go.RowKit
set_option linter.unusedVariables false
set_option linter.unusedSimpArgs false
structure PrR (B : Nat) (w : World) (b : Nat) (v : Value) (st : List Int × Bool) (g1 : Nat) (t1 : TypeId) (xv : List Value) (a' v' : Value) (x : World) : Prop where
 bd : Uk 162 [.bool st.2] B x b a' v' st.1
 step : Wq b v w v' x
 box : Zb x g1 t1 xv.toArray
 ne : g1 ≠ b
 far : v'.ownBlock ≠ some g1
theorem PrR.next {B : Nat} {w x y : World} {b : Nat} {v : Value} {st : List Int × Bool} {g1 : Nat} {t1 : TypeId} {xv : List Value} {a' v' : Value} (h : PrR B w b v st g1 t1 xv a' v' x) (hb : Below x.heap.size x y) : PrR B w b v st g1 t1 xv a' v' y :=
 ⟨h.bd.below hb, h.step.trans (Wq.of_below hb), h.box.below hb h.box.inside, h.ne, h.far⟩
theorem PrR.write {B : Nat} {w x y : World} {b : Nat} {v : Value} {st st2 : List Int × Bool} {g1 : Nat} {t1 : TypeId} {xv : List Value} {a' v' a2 v2 : Value} (h : PrR B w b v st g1 t1 xv a' v' x) (hb : Uk 162 [.bool st2.2] B y b a2 v2 st2.1) (hs : Wq b v' x v2 y) : PrR B w b v st2 g1 t1 xv a2 v2 y :=
 ⟨hb, h.step.trans hs, hs.keeps.whole h.box (fun c => c.elim h.ne h.far), h.ne, fun c => by
   rcases hs.fresh _ c with e | e
   · exact h.far e
   · have := h.box.inside; omega⟩
theorem PrR.start {B : Nat} {w : World} {b : Nat} {a v : Value} {st : List Int × Bool} (h : Uk 162 [.bool st.2] B w b a v st.1) (t1 : TypeId) (xv : List Value) : PrR B w b v st w.heap.size t1 xv a v (w.alloc (.cells xv.toArray t1)) :=
 ⟨h.below (Za w _), Wq.of_below (Za w _), Zb.made _ _ _, by have := h.whole.inside; omega, fun c => by have := (h.row.lt _ c).2; omega⟩
def kFl (f : Fl) : List ByteArray :=
 if f.kind = 1 ∨ f.kind = 2 then [wd Yn f.kind, wd wOp f.op, putS f.n] else if f.kind = 3 then [wd Yn 3, qN f.name] else [wd Yn 4, wd Us (f.kind - 3)]
def FlPost (B : Nat) (w : World) (b : Nat) (v : Value) (st : List Int × Bool) (e : Ending) (w' : World) : Prop :=
 e = .returned (.tuple #[]) ∧ ∃ a' v', Uk 162 [.bool st.2] B w' b a' v' st.1 ∧ Wq b v w v' w'
theorem fl_num1 (B : Nat) (w : World) (b : Nat) (a v : Value) (st : List Int × Bool) (o n : Int) (nm : ByteArray) (h : Uk 162 [.bool st.2] B w b a v st.1) (hB : B ≤ w.heap.size) (hl : st.1.length + lenB [wd Yn 1, wd wOp o, putS n] ≤ 10000000000) (ho1 : 1 ≤ o) (ho2 : o ≤ 6) (hn1 : -99 ≤ n) (hn2 : n ≤ 99) :
   Calls Tryz.prog 119 #[.pointer (some ⟨b, 0, none⟩), .agg #[.int .i64 1, .int .i64 o, .int .i64 n, .string nm]] w (FlPost B w b v (Zp st [wd Yn 1, wd wOp o, putS n])) := by
 have R0 := Hh (PrR.start h 115 [.int .i64 1, .int .i64 o, .int .i64 n, .string nm])
 have HL := Hh hl
 have hw : wd Yn 1 = ⟨#[99, 111, 115, 116]⟩ := by decide +kernel
 have HW := Hh hw
 clear h hl hw
 go_enter Tryz.func119, Tryz.ntmps119
 go_wp2_with fail
 have R1 := Hh (R0.out.next (y := (w.alloc (.cells #[.int .i64 1, .int .i64 o, .int .i64 n, .string nm] 115)).drew) ⟨rfl, rfl, rfl, Nat.le_refl _, fun _ _ => rfl⟩)
 go_region_with (first
 | (go_at_call 161; refine (uOp o _ ho1 ho2).mono ?_; rintro e w5 ⟨rfl, b5⟩
    have R5 := Hh (R1.out.next b5)
    have i2 : w5.cell? ⟨w.heap.size, 2, none⟩ = some (.int .i64 n) := by rw [R5.out.box.read]; rfl
    clear b5)
 | (go_at_call 109; refine (dPut_any n (by omega) (by omega) _).mono ?_; rintro e w6 ⟨rfl, b6⟩
    have R6 := Hh (R5.out.next b6)
    clear b6)
 | (go_at_call 107; refine (prPutB B w6 b a v st [⟨#[99, 111, 115, 116]⟩, wd wOp o, putS n] w6.heap.size 3 3 R6.out.bd (Nat.le_trans hB R6.out.step.keeps.size) (by have := HL.out; rw [HW.out] at this; exact this) (by simp) rfl rfl).mono ?_; rintro e w7 ⟨rfl, a7, v7, h7, s7⟩
    have H7 := Hh h7
    have S7 := Hh (R6.out.step.trans s7)
    clear h7 s7))
 all_goals
   go_wp2
   go_end0
   rw [HW.out]
   exact ⟨rfl, a7, v7, H7.out, S7.out⟩
theorem fl_num2 (B : Nat) (w : World) (b : Nat) (a v : Value) (st : List Int × Bool) (o n : Int) (nm : ByteArray) (h : Uk 162 [.bool st.2] B w b a v st.1) (hB : B ≤ w.heap.size) (hl : st.1.length + lenB [wd Yn 2, wd wOp o, putS n] ≤ 10000000000) (ho1 : 1 ≤ o) (ho2 : o ≤ 6) (hn1 : -99 ≤ n) (hn2 : n ≤ 99) :
   Calls Tryz.prog 119 #[.pointer (some ⟨b, 0, none⟩), .agg #[.int .i64 2, .int .i64 o, .int .i64 n, .string nm]] w (FlPost B w b v (Zp st [wd Yn 2, wd wOp o, putS n])) := by
 have R0 := Hh (PrR.start h 115 [.int .i64 2, .int .i64 o, .int .i64 n, .string nm])
 have HL := Hh hl
 have hw : wd Yn 2 = ⟨#[112, 111, 119, 101, 114]⟩ := by decide +kernel
 have HW := Hh hw
 clear h hl hw
 go_enter Tryz.func119, Tryz.ntmps119
 go_wp2_with fail
 have R1 := Hh (R0.out.next (y := (w.alloc (.cells #[.int .i64 2, .int .i64 o, .int .i64 n, .string nm] 115)).drew) ⟨rfl, rfl, rfl, Nat.le_refl _, fun _ _ => rfl⟩)
 go_region_with (first
 | (go_at_call 161; refine (uOp o _ ho1 ho2).mono ?_; rintro e w5 ⟨rfl, b5⟩
    have R5 := Hh (R1.out.next b5)
    have i2 : w5.cell? ⟨w.heap.size, 2, none⟩ = some (.int .i64 n) := by rw [R5.out.box.read]; rfl
    clear b5)
 | (go_at_call 109; refine (dPut_any n (by omega) (by omega) _).mono ?_; rintro e w6 ⟨rfl, b6⟩
    have R6 := Hh (R5.out.next b6)
    clear b6)
 | (go_at_call 107; refine (prPutB B w6 b a v st [⟨#[112, 111, 119, 101, 114]⟩, wd wOp o, putS n] w6.heap.size 3 3 R6.out.bd (Nat.le_trans hB R6.out.step.keeps.size) (by have := HL.out; rw [HW.out] at this; exact this) (by simp) rfl rfl).mono ?_; rintro e w7 ⟨rfl, a7, v7, h7, s7⟩
    have H7 := Hh h7
    have S7 := Hh (R6.out.step.trans s7)
    clear h7 s7))
 all_goals
   go_wp2
   go_end0
   rw [HW.out]
   exact ⟨rfl, a7, v7, H7.out, S7.out⟩
theorem fl_named (B : Nat) (w : World) (b : Nat) (a v : Value) (st : List Int × Bool) (o n : Int) (nm : ByteArray) (h : Uk 162 [.bool st.2] B w b a v st.1) (hB : B ≤ w.heap.size) (hl : st.1.length + lenB [wd Yn 3, qN nm] ≤ 10000000000) :
   Calls Tryz.prog 119 #[.pointer (some ⟨b, 0, none⟩), .agg #[.int .i64 3, .int .i64 o, .int .i64 n, .string nm]] w (FlPost B w b v (Zp st [wd Yn 3, qN nm])) := by
 have R0 := Hh (PrR.start h 115 [.int .i64 3, .int .i64 o, .int .i64 n, .string nm])
 have HL := Hh hl
 have hw : [wd Yn 3, qN nm] = [⟨#[110, 97, 109, 101, 100]⟩, qN nm] := by rw [show wd Yn 3 = ⟨#[110, 97, 109, 101, 100]⟩ by decide +kernel]
 have HW := Hh hw
 have HNM : Hid (nm.size ≤ 10000000000) := Hh (by have h2 := hl; simp [lenB, qN_size] at h2; omega)
 clear h hl hw
 go_enter Tryz.func119, Tryz.ntmps119
 go_wp2_with (first
 | (go_at_call 108; refine (uName nm _ HNM.out).mono ?_; rintro e w5 ⟨rfl, rfl⟩)
 | (go_at_call 107; refine (prPutB B (w.alloc (.cells #[.int .i64 3, .int .i64 o, .int .i64 n, .string nm] 115)) b a v st [⟨#[110, 97, 109, 101, 100]⟩, qN nm] (w.heap.size + 1) 2 2 R0.out.bd (Nat.le_trans hB R0.out.step.keeps.size) (by have := HL.out; rw [HW.out] at this; exact this) (by simp) (by simp) rfl).mono ?_; rintro e w7 ⟨rfl, a7, v7, h7, s7⟩
    have H7 := Hh h7
    have S7 := Hh (R0.out.step.trans s7)
    clear h7 s7))
 go_end0
 rw [HW.out]
 exact ⟨rfl, a7, v7, H7.out, S7.out⟩
theorem fl_me (B : Nat) (w : World) (b : Nat) (a v : Value) (st : List Int × Bool) (o n : Int) (nm : ByteArray) (h : Uk 162 [.bool st.2] B w b a v st.1) (hB : B ≤ w.heap.size) (hl : st.1.length + lenB [wd Yn 4, wd Us 1] ≤ 10000000000) :
   Calls Tryz.prog 119 #[.pointer (some ⟨b, 0, none⟩), .agg #[.int .i64 4, .int .i64 o, .int .i64 n, .string nm]] w (FlPost B w b v (Zp st [wd Yn 4, wd Us 1])) := by
 have R0 := Hh (PrR.start h 115 [.int .i64 4, .int .i64 o, .int .i64 n, .string nm])
 have HL := Hh hl
 have hw : [wd Yn 4, wd Us 1] = [⟨#[110, 111, 116]⟩, ⟨#[109, 101]⟩] := by rw [show wd Yn 4 = ⟨#[110, 111, 116]⟩ by decide +kernel, show wd Us 1 = ⟨#[109, 101]⟩ by decide +kernel]
 have HW := Hh hw
 clear h hl hw
 go_enter Tryz.func119, Tryz.ntmps119
 go_wp2_with (first
 | (go_at_call 108; refine (uName nm _ HNM.out).mono ?_; rintro e w5 ⟨rfl, rfl⟩)
 | (go_at_call 107; refine (prPutB B (w.alloc (.cells #[.int .i64 4, .int .i64 o, .int .i64 n, .string nm] 115)) b a v st [⟨#[110, 111, 116]⟩, ⟨#[109, 101]⟩] (w.heap.size + 1) 2 2 R0.out.bd (Nat.le_trans hB R0.out.step.keeps.size) (by have := HL.out; rw [HW.out] at this; exact this) (by simp) (by simp) rfl).mono ?_; rintro e w7 ⟨rfl, a7, v7, h7, s7⟩
    have H7 := Hh h7
    have S7 := Hh (R0.out.step.trans s7)
    clear h7 s7))
 go_end0
 rw [HW.out]
 exact ⟨rfl, a7, v7, H7.out, S7.out⟩
theorem fl_it (B : Nat) (w : World) (b : Nat) (a v : Value) (st : List Int × Bool) (o n : Int) (nm : ByteArray) (h : Uk 162 [.bool st.2] B w b a v st.1) (hB : B ≤ w.heap.size) (hl : st.1.length + lenB [wd Yn 4, wd Us 2] ≤ 10000000000) :
   Calls Tryz.prog 119 #[.pointer (some ⟨b, 0, none⟩), .agg #[.int .i64 5, .int .i64 o, .int .i64 n, .string nm]] w (FlPost B w b v (Zp st [wd Yn 4, wd Us 2])) := by
 have R0 := Hh (PrR.start h 115 [.int .i64 5, .int .i64 o, .int .i64 n, .string nm])
 have HL := Hh hl
 have hw : [wd Yn 4, wd Us 2] = [⟨#[110, 111, 116]⟩, ⟨#[105, 116]⟩] := by rw [show wd Yn 4 = ⟨#[110, 111, 116]⟩ by decide +kernel, show wd Us 2 = ⟨#[105, 116]⟩ by decide +kernel]
 have HW := Hh hw
 clear h hl hw
 go_enter Tryz.func119, Tryz.ntmps119
 go_wp2_with (first
 | (go_at_call 108; refine (uName nm _ HNM.out).mono ?_; rintro e w5 ⟨rfl, rfl⟩)
 | (go_at_call 107; refine (prPutB B (w.alloc (.cells #[.int .i64 5, .int .i64 o, .int .i64 n, .string nm] 115)) b a v st [⟨#[110, 111, 116]⟩, ⟨#[105, 116]⟩] (w.heap.size + 1) 2 2 R0.out.bd (Nat.le_trans hB R0.out.step.keeps.size) (by have := HL.out; rw [HW.out] at this; exact this) (by simp) (by simp) rfl).mono ?_; rintro e w7 ⟨rfl, a7, v7, h7, s7⟩
    have H7 := Hh h7
    have S7 := Hh (R0.out.step.trans s7)
    clear h7 s7))
 go_end0
 rw [HW.out]
 exact ⟨rfl, a7, v7, H7.out, S7.out⟩
theorem prFilter (B : Nat) (w : World) (b : Nat) (a v : Value) (st : List Int × Bool) (f : Fl) (hv : VFl f) (h : Uk 162 [.bool st.2] B w b a v st.1) (hB : B ≤ w.heap.size) (hl : st.1.length + lenB (kFl f) ≤ 10000000000) :
   Calls Tryz.prog 119 #[.pointer (some ⟨b, 0, none⟩), .agg #[.int .i64 f.kind, .int .i64 f.op, .int .i64 f.n, .string f.name]] w (FlPost B w b v (Zp st (kFl f))) := by
 obtain ⟨kd, o, n, nm⟩ := f
 unfold kFl at hl ⊢
 simp only at hl ⊢
 rcases hv with ⟨hk, ho, hn, _⟩ | ⟨hk, _, _, hm⟩ | ⟨hk, _⟩
 · simp only at hk ho hn
   rw [if_pos hk] at hl ⊢
   rcases hk with rfl | rfl
   · exact fl_num1 B w b a v st o n nm h hB hl ho.1 ho.2 hn.1 hn.2
   · exact fl_num2 B w b a v st o n nm h hB hl ho.1 ho.2 hn.1 hn.2
 · simp only at hk hm
   subst hk
   exact fl_named B w b a v st o n nm h hB hl
 · simp only at hk
   rcases hk with rfl | rfl
   · exact fl_me B w b a v st o n nm h hB hl
   · exact fl_it B w b a v st o n nm h hB hl
end Go.Proofs.YtljdgdphldckhaaGreat
