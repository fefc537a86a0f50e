/-
  The contracts of package wire's reader. Conditions: the bytes fit in memory.
-/
import Derived.Test.YtnflahkpccfhaaaWire
namespace Go.Proofs.Ytnflahkpccfhaaa
open Go.ChangeShapes Go.WideShapes Go.ChangeAt Go.RowKit
set_option linter.unusedVariables false
set_option linter.unusedSimpArgs false
/-- Block g holds a reader of S at place a with error E. -/
structure RAt (w : World) (g : Nat) (S : ByteArray) (a E : Int) : Prop where
  whole : Whole w g 66 #[.bool true, .int .i64 E, .string (S.extract a.toNat S.size)]
  lo : 0 ≤ a
  hi : a ≤ S.size
/-- What a call on a reader leaves. -/
def RPost (w : World) (g : Nat) (S : ByteArray) (x : Int × Int) (val : Value) (e : Ending) (w' : World) : Prop := e = .returned val ∧ RAt w' g S x.1 x.2 ∧ Keeps (fun k => k = g) w w'
theorem RAt.keeps {w w' : World} {g : Nat} {S : ByteArray} {a E : Int} (h : RAt w g S a E) {T : Nat → Prop} (hk : Keeps T w w') (hg : ¬ T g) : RAt w' g S a E := ⟨hk.whole h.whole hg, h.lo, h.hi⟩
theorem RAt.failed {w : World} {g : Nat} {S : ByteArray} {a E : Int} (h : RAt w g S a E) (x : Int) : RAt (w.setCell ⟨g, 1, none⟩ (.int .i64 x)) g S a x ∧ Keeps (fun k => k = g) w (w.setCell ⟨g, 1, none⟩ (.int .i64 x)) :=
  ⟨⟨h.whole.write 1 (.int .i64 x), h.lo, h.hi⟩, Keeps.setCell (S := fun k => k = g) (Keeps.refl _ _) rfl _⟩
theorem RAt.moved {w : World} {g : Nat} {S : ByteArray} {a E : Int} (h : RAt w g S a E) (a' : Int) (s : ByteArray) (hs : s = S.extract a'.toNat S.size) (h0 : 0 ≤ a') (h1 : a' ≤ S.size) : RAt (w.setCell ⟨g, 2, none⟩ (.string s)) g S a' E ∧ Keeps (fun k => k = g) w (w.setCell ⟨g, 2, none⟩ (.string s)) :=
  ⟨⟨hs ▸ h.whole.write 2 (.string s), h0, h1⟩, Keeps.setCell (S := fun k => k = g) (Keeps.refl _ _) rfl _⟩
theorem RAt.made (w : World) (S : ByteArray) : RAt (w.alloc (.cells #[.bool true, .int .i64 0, .string S] 66)) w.heap.size S 0 0 := by
  refine ⟨?_, by omega, by omega⟩
  have e : S.extract (0 : Int).toNat S.size = S := ByteArray.extract_zero_size
  rw [e]
  exact Whole.made _ _ _
theorem Read_any (s : ByteArray) (w : World) : Calls Try.prog 18 #[.string s] w fun e w' => e = .returned (.pointer (some ⟨w.heap.size, 0, none⟩)) ∧ w' = w.alloc (.cells #[.bool true, .int .i64 0, .string s] 66) := by
  go_enter Try.func18, Try.ntmps18
  go_wp2
  go_ret
  exact ⟨rfl, rfl⟩
theorem rnumber_nil (F : Value) (lo most : Int) (w : World) : Calls Try.prog 40 #[.pointer none, F, .int .i64 lo, .int .i64 most] w fun e w' => e = .returned (.int .i64 0) ∧ w = w' := by
  go_enter Try.func40, Try.ntmps40
  go_wp2
  go_ret
  exact ⟨rfl, rfl⟩
theorem rnumberT_any (w : World) (g : Nat) (S : ByteArray) (a E : Int) (h : RAt w g S a E) (hS : S.size ≤ 140737488355328) (t : Int × Int × Int)
    (hF : ∀ w, Calls Try.prog 41 #[.string (S.extract a.toNat S.size), .int .i64 0] w fun e w' => e = .returned (takeV3 t) ∧ w = w') (ht : t.2.2 = 0 → 0 ≤ t.2.1 ∧ a + t.2.1 ≤ S.size) (lo most : Int) :
    Calls Try.prog 40 #[.pointer (some ⟨g, 0, none⟩), .func (.func 41) #[] #[], .int .i64 lo, .int .i64 most] w (RPost w g S (rnumber a E lo most t).1 (.int .i64 (rnumber a E lo most t).2)) := by
  have c0 : w.cell? ⟨g, 0, none⟩ = some (.bool true) := by rw [h.whole.read]; rfl
  have c1 : w.cell? ⟨g, 1, none⟩ = some (.int .i64 E) := by rw [h.whole.read]; rfl
  have c2 : w.cell? ⟨g, 2, none⟩ = some (.string (S.extract a.toNat S.size)) := by rw [h.whole.read]; rfl
  have z1 := h.whole.thawed 1
  have z2 := h.whole.thawed 2
  have H := Lib.hid h
  by_cases hE : E = 0
  · subst hE
    obtain ⟨n, en, c⟩ := t
    simp only at ht
    by_cases hc : c = 0
    · subst hc
      by_cases hfar : n < lo ∨ n > most
      · have R := Lib.hid (rnumber_far (a := a) (t := (n, en, 0)) rfl hfar)
        have F := Lib.hid (h.failed 12)
        clear h
        by_cases hlo : n < lo
        · have hlo2 : decide (n < lo) = true := by simp [hlo]
          clear hfar
          go_enter Try.func40, Try.ntmps40
          go_wp2_with (first
            | (go_at_call 44; refine (goesOn_any _ _ _ c0 c1).mono ?_; rintro e w1 ⟨rfl, rfl⟩)
            | (go_at_call 45; refine (fail_do _ _ _ c0 c1 z1).mono ?_; rintro e w1 ⟨rfl, rfl⟩)
            | (go_at_call 41; refine (hF _).mono ?_; rintro e w1 ⟨rfl, rfl⟩; unfold takeV3))
          go_ret
          refine ⟨?_, ?_⟩
          · rw [R.out]; rfl
          · rw [R.out]; exact F.out
        · have hgt : most < n := by omega
          have hlo2 : decide (n < lo) = false := by simp [hlo]
          clear hfar
          go_enter Try.func40, Try.ntmps40
          go_wp2_with (first
            | (go_at_call 44; refine (goesOn_any _ _ _ c0 c1).mono ?_; rintro e w1 ⟨rfl, rfl⟩)
            | (go_at_call 45; refine (fail_do _ _ _ c0 c1 z1).mono ?_; rintro e w1 ⟨rfl, rfl⟩)
            | (go_at_call 41; refine (hF _).mono ?_; rintro e w1 ⟨rfl, rfl⟩; unfold takeV3))
          go_ret
          refine ⟨?_, ?_⟩
          · rw [R.out]; rfl
          · rw [R.out]; exact F.out
      · have R := Lib.hid (rnumber_ok (a := a) (t := (n, en, 0)) rfl hfar)
        obtain ⟨t0, t1⟩ := ht rfl
        have M := Lib.hid (h.moved (a + en) _ (extract_from S a en h.lo h.hi t0 t1) (by have := h.lo; omega) t1)
        have hz := tail_size S a h.lo h.hi
        have hz2 : en ≤ ((S.extract a.toNat S.size).size : Int) := by omega
        have hlo2 : decide (n < lo) = false := by simp; omega
        have hgt2 : decide (most < n) = false := by simp; omega
        have hs : (S.extract a.toNat S.size).size ≤ 140737488355328 := by have := h.lo; omega
        clear h hfar hz ht
        generalize S.extract a.toNat S.size = r at *
        go_enter Try.func40, Try.ntmps40
        go_wp2_with (first
          | (go_at_call 44; refine (goesOn_any _ _ _ c0 c1).mono ?_; rintro e w1 ⟨rfl, rfl⟩)
          | (go_at_call 41; refine (hF _).mono ?_; rintro e w1 ⟨rfl, rfl⟩; unfold takeV3))
        go_ret
        refine ⟨?_, ?_⟩
        · rw [R.out]; rfl
        · rw [R.out]; exact M.out
    · have R := Lib.hid (rnumber_no (a := a) (lo := lo) (most := most) (t := (n, en, c)) hc)
      have F := Lib.hid (h.failed c)
      have hc2 : (c != 0) = true := by rw [bne_iff_ne]; exact hc
      clear h
      go_enter Try.func40, Try.ntmps40
      go_wp2_with (first
        | (go_at_call 44; refine (goesOn_any _ _ _ c0 c1).mono ?_; rintro e w1 ⟨rfl, rfl⟩)
        | (go_at_call 45; refine (fail_do _ _ _ c0 c1 z1).mono ?_; rintro e w1 ⟨rfl, rfl⟩)
        | (go_at_call 41; refine (hF _).mono ?_; rintro e w1 ⟨rfl, rfl⟩; unfold takeV3))
      go_ret
      refine ⟨?_, ?_⟩
      · rw [R.out]; rfl
      · rw [R.out]; exact F.out
  · have hE2 : (E == 0) = false := by rw [beq_eq_false_iff_ne]; exact hE
    have R := Lib.hid (rnumber_bad (a := a) (lo := lo) (most := most) (t := t) hE)
    clear h
    go_enter Try.func40, Try.ntmps40
    go_wp2_with (go_at_call 44; refine (goesOn_any _ _ _ c0 c1).mono ?_; rintro e w1 ⟨rfl, rfl⟩)
    go_ret
    refine ⟨?_, ?_⟩
    · rw [R.out]; rfl
    · rw [R.out]; exact ⟨H.out, Keeps.refl _ _⟩
theorem rnumberS_any (w : World) (g : Nat) (S : ByteArray) (a E : Int) (h : RAt w g S a E) (hS : S.size ≤ 140737488355328) (t : Int × Int × Int)
    (hF : ∀ w, Calls Try.prog 43 #[.string (S.extract a.toNat S.size), .int .i64 0] w fun e w' => e = .returned (takeV3 t) ∧ w = w') (ht : t.2.2 = 0 → 0 ≤ t.2.1 ∧ a + t.2.1 ≤ S.size) (lo most : Int) :
    Calls Try.prog 40 #[.pointer (some ⟨g, 0, none⟩), .func (.func 43) #[] #[], .int .i64 lo, .int .i64 most] w (RPost w g S (rnumber a E lo most t).1 (.int .i64 (rnumber a E lo most t).2)) := by
  have c0 : w.cell? ⟨g, 0, none⟩ = some (.bool true) := by rw [h.whole.read]; rfl
  have c1 : w.cell? ⟨g, 1, none⟩ = some (.int .i64 E) := by rw [h.whole.read]; rfl
  have c2 : w.cell? ⟨g, 2, none⟩ = some (.string (S.extract a.toNat S.size)) := by rw [h.whole.read]; rfl
  have z1 := h.whole.thawed 1
  have z2 := h.whole.thawed 2
  have H := Lib.hid h
  by_cases hE : E = 0
  · subst hE
    obtain ⟨n, en, c⟩ := t
    simp only at ht
    by_cases hc : c = 0
    · subst hc
      by_cases hfar : n < lo ∨ n > most
      · have R := Lib.hid (rnumber_far (a := a) (t := (n, en, 0)) rfl hfar)
        have F := Lib.hid (h.failed 12)
        clear h
        by_cases hlo : n < lo
        · have hlo2 : decide (n < lo) = true := by simp [hlo]
          clear hfar
          go_enter Try.func40, Try.ntmps40
          go_wp2_with (first
            | (go_at_call 44; refine (goesOn_any _ _ _ c0 c1).mono ?_; rintro e w1 ⟨rfl, rfl⟩)
            | (go_at_call 45; refine (fail_do _ _ _ c0 c1 z1).mono ?_; rintro e w1 ⟨rfl, rfl⟩)
            | (go_at_call 43; refine (hF _).mono ?_; rintro e w1 ⟨rfl, rfl⟩; unfold takeV3))
          go_ret
          refine ⟨?_, ?_⟩
          · rw [R.out]; rfl
          · rw [R.out]; exact F.out
        · have hgt : most < n := by omega
          have hlo2 : decide (n < lo) = false := by simp [hlo]
          clear hfar
          go_enter Try.func40, Try.ntmps40
          go_wp2_with (first
            | (go_at_call 44; refine (goesOn_any _ _ _ c0 c1).mono ?_; rintro e w1 ⟨rfl, rfl⟩)
            | (go_at_call 45; refine (fail_do _ _ _ c0 c1 z1).mono ?_; rintro e w1 ⟨rfl, rfl⟩)
            | (go_at_call 43; refine (hF _).mono ?_; rintro e w1 ⟨rfl, rfl⟩; unfold takeV3))
          go_ret
          refine ⟨?_, ?_⟩
          · rw [R.out]; rfl
          · rw [R.out]; exact F.out
      · have R := Lib.hid (rnumber_ok (a := a) (t := (n, en, 0)) rfl hfar)
        obtain ⟨t0, t1⟩ := ht rfl
        have M := Lib.hid (h.moved (a + en) _ (extract_from S a en h.lo h.hi t0 t1) (by have := h.lo; omega) t1)
        have hz := tail_size S a h.lo h.hi
        have hz2 : en ≤ ((S.extract a.toNat S.size).size : Int) := by omega
        have hlo2 : decide (n < lo) = false := by simp; omega
        have hgt2 : decide (most < n) = false := by simp; omega
        have hs : (S.extract a.toNat S.size).size ≤ 140737488355328 := by have := h.lo; omega
        clear h hfar hz ht
        generalize S.extract a.toNat S.size = r at *
        go_enter Try.func40, Try.ntmps40
        go_wp2_with (first
          | (go_at_call 44; refine (goesOn_any _ _ _ c0 c1).mono ?_; rintro e w1 ⟨rfl, rfl⟩)
          | (go_at_call 43; refine (hF _).mono ?_; rintro e w1 ⟨rfl, rfl⟩; unfold takeV3))
        go_ret
        refine ⟨?_, ?_⟩
        · rw [R.out]; rfl
        · rw [R.out]; exact M.out
    · have R := Lib.hid (rnumber_no (a := a) (lo := lo) (most := most) (t := (n, en, c)) hc)
      have F := Lib.hid (h.failed c)
      have hc2 : (c != 0) = true := by rw [bne_iff_ne]; exact hc
      clear h
      go_enter Try.func40, Try.ntmps40
      go_wp2_with (first
        | (go_at_call 44; refine (goesOn_any _ _ _ c0 c1).mono ?_; rintro e w1 ⟨rfl, rfl⟩)
        | (go_at_call 45; refine (fail_do _ _ _ c0 c1 z1).mono ?_; rintro e w1 ⟨rfl, rfl⟩)
        | (go_at_call 43; refine (hF _).mono ?_; rintro e w1 ⟨rfl, rfl⟩; unfold takeV3))
      go_ret
      refine ⟨?_, ?_⟩
      · rw [R.out]; rfl
      · rw [R.out]; exact F.out
  · have hE2 : (E == 0) = false := by rw [beq_eq_false_iff_ne]; exact hE
    have R := Lib.hid (rnumber_bad (a := a) (lo := lo) (most := most) (t := t) hE)
    clear h
    go_enter Try.func40, Try.ntmps40
    go_wp2_with (go_at_call 44; refine (goesOn_any _ _ _ c0 c1).mono ?_; rintro e w1 ⟨rfl, rfl⟩)
    go_ret
    refine ⟨?_, ?_⟩
    · rw [R.out]; rfl
    · rw [R.out]; exact ⟨H.out, Keeps.refl _ _⟩
end Go.Proofs.Ytnflahkpccfhaaa
