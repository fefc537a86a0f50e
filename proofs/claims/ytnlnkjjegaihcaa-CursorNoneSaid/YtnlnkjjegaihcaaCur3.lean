/-
  The contracts of package cursor's methods that take: Take, Want, takeKind, Int, Name. Condition: the cursor stands at a token of a text, whose tokens have one end, the last.
-/
import Derived.Test.YtnlnkjjegaihcaaCur2
import Derived.RegionTactic
namespace Go.Proofs.Ytnlnkjjegaihcaa
open Go.ChangeShapes Go.WideShapes Go.ChangeAt Go.RowKit
set_option linter.unusedVariables false
set_option linter.unusedSimpArgs false
theorem cTake (w : World) (p r K : Nat) (L : List TokV) (a d : Nat) (t : ByteArray) (h : CurAt w p r K L a d) :
    Calls Try.prog 22 #[.pointer (some ⟨p, 0, none⟩), .string t] w (CPost w p r K L (wantA L a t) d (.bool (isT (curT L a) t))) := by
  have hi := cIs w p _ _ _ _ _ _ t h.look
  have HC := Lib.hid h
  clear h
  unfold wantA
  cases hb : isT (curT L a) t
  · rw [hb] at hi
    rw [if_neg (by decide)]
    clear hb
    go_enter Try.func22, Try.ntmps22
    go_wp2_with (go_at_call 13; refine hi.mono ?_; rintro e w2 ⟨rfl, b2⟩; have B2 := Lib.hid b2; clear b2)
    go_ret
    exact ⟨rfl, (Moved.start HC.out).next B2.out⟩
  · rw [hb] at hi
    rw [if_pos rfl]
    clear hb
    go_enter Try.func22, Try.ntmps22
    go_wp2_with (first
      | (go_at_call 13; refine hi.mono ?_; rintro e w2 ⟨rfl, b2⟩; have B2 := Lib.hid b2; have C2 := Lib.hid (HC.out.below b2); clear b2)
      | (go_at_call 21; refine (cNext _ _ _ _ _ _ _ C2.out).mono ?_; rintro e w3 ⟨rfl, m3⟩; have M3 := Lib.hid m3; clear m3))
    go_ret
    exact ⟨rfl, ((Moved.start HC.out).next B2.out).then M3.out⟩
theorem cWant (w : World) (p r K : Nat) (L : List TokV) (a d : Nat) (t : ByteArray) (h : CurAt w p r K L a d) :
    Calls Try.prog 23 #[.pointer (some ⟨p, 0, none⟩), .string t] w (CPost w p r K L (wantA L a t) d (faultV (wantF L a t))) := by
  have h1 := h.below (new_block w (.cells #[.int .i64 0, .int .i64 0, .int .i64 0] 27))
  have F0 := Lib.hid (Whole.made w 27 #[.int .i64 0, .int .i64 0, .int .i64 0])
  have hi := cTake _ p r K L a d t h1
  have HC := Lib.hid h
  have pin := h.whole.inside
  have rin := h.rin
  have hpw : ¬ (w.heap.size = p) := by omega
  clear h h1
  unfold wantA at hi
  unfold wantA wantF
  cases hb : isT (curT L a) t
  · rw [hb] at hi
    rw [if_neg (by decide)] at hi ⊢
    rw [if_neg (by decide)]
    clear hb
    go_enter Try.func23, Try.ntmps23
    go_wp2_with (first
      | (go_at_call 22; refine hi.mono ?_; rintro e w2 ⟨rfl, m2⟩; have M2 := Lib.hid m2; clear m2)
      | (go_at_call 15; refine (cWrong _ _ _ _ _ _ _ _ M2.out.at_.look).mono ?_; rintro e w3 ⟨rfl, b3⟩; have W3 := Lib.hid ((M2.out.keeps.whole F0.out hpw).below b3 (M2.out.keeps.whole F0.out hpw).inside); obtain ⟨k0, k1, k2, f0, f1, f2⟩ := whole3 W3.out; have hz := W3.out.inside; have B3 := Lib.hid b3; clear b3; simp only [faultV]))
    have hF := whole3 (Whole.set3 W3.out (.int .i64 (wrF (curT L a)).1) (.int .i64 ((wrF (curT L a)).2.1 : Int)) (.int .i64 ((wrF (curT L a)).2.2 : Int)))
    refine bodyPost_ret (v := faultV (wrF (curT L a))) (by simp [results, Try.results23, go_sem, hF, faultV]) rfl ⟨rfl, ?_⟩
    exact (((Moved.start HC.out).next (new_block _ _)).then (M2.out.next B3.out)).on (keeps3 _ _ _ _ _) (Nat.le_refl _) pin rin
  · rw [hb] at hi
    rw [if_pos rfl] at hi ⊢
    rw [if_pos rfl]
    clear hb
    go_enter Try.func23, Try.ntmps23
    go_wp2_with (go_at_call 22; refine hi.mono ?_; rintro e w2 ⟨rfl, m2⟩; have M2 := Lib.hid m2; have W3 := Lib.hid (M2.out.keeps.whole F0.out hpw); obtain ⟨k0, k1, k2, f0, f1, f2⟩ := whole3 W3.out; have hz := W3.out.inside; clear m2)
    have hF := whole3 (Whole.set3 W3.out (.int .i64 0) (.int .i64 0) (.int .i64 0))
    refine bodyPost_ret (v := faultV okF) (by simp [results, Try.results23, go_sem, hF, faultV, okF]) rfl ⟨rfl, ?_⟩
    exact (((Moved.start HC.out).next (new_block _ _)).then M2.out).on (keeps3 _ _ _ _ _) (Nat.le_refl _) pin rin
/-- A token and a fault, stored one behind the other in blocks side by side. -/
theorem two_set {y : World} {g : Nat} {t u : TypeId} {a b c d e f h i : Value} (w0 : Whole y g t #[a, b, c, d, e]) (w1 : Whole y (g + 1) u #[f, h, i]) (x0 x1 x2 x3 x4 y0 y1 y2 : Value) :
    Whole ((((((((y.setCell ⟨g, 0, none⟩ x0).setCell ⟨g, 1, none⟩ x1).setCell ⟨g, 2, none⟩ x2).setCell ⟨g, 3, none⟩ x3).setCell ⟨g, 4, none⟩ x4).setCell ⟨g + 1, 0, none⟩ y0).setCell ⟨g + 1, 1, none⟩ y1).setCell ⟨g + 1, 2, none⟩ y2) g t #[x0, x1, x2, x3, x4] ∧
    Whole ((((((((y.setCell ⟨g, 0, none⟩ x0).setCell ⟨g, 1, none⟩ x1).setCell ⟨g, 2, none⟩ x2).setCell ⟨g, 3, none⟩ x3).setCell ⟨g, 4, none⟩ x4).setCell ⟨g + 1, 0, none⟩ y0).setCell ⟨g + 1, 1, none⟩ y1).setCell ⟨g + 1, 2, none⟩ y2) (g + 1) u #[y0, y1, y2] := by
  have n1 : g ≠ g + 1 := by omega
  have n2 : g + 1 ≠ g := by omega
  exact ⟨(((w0.set5 x0 x1 x2 x3 x4).aside n1 y0).aside n1 y1).aside n1 y2, Whole.set3 (((((w1.aside n2 x0).aside n2 x1).aside n2 x2).aside n2 x3).aside n2 x4) y0 y1 y2⟩
def kindT (L : List TokV) (a : Nat) (k : Int) : TokV := if (curT L a).k = k then curT L a else zTok
theorem cKind (w : World) (p r K : Nat) (L : List TokV) (a d : Nat) (k : Int) (h : CurAt w p r K L a d) :
    Calls Try.prog 37 #[.pointer (some ⟨p, 0, none⟩), .int .i64 k] w (CPost w p r K L (kindA L a k) d (.tuple #[tokA (kindT L a k), faultV (kindF L a k)])) := by
  have nb1 := new_block w (.cells #[.int .i64 0, .string ⟨#[]⟩, .int .i64 0, .int .i64 0, .int .i64 0] 40)
  have nb2 := new_block (w.alloc (.cells #[.int .i64 0, .string ⟨#[]⟩, .int .i64 0, .int .i64 0, .int .i64 0] 40)) (.cells #[.int .i64 0, .int .i64 0, .int .i64 0] 27)
  have T0 := Two.start w 40 #[.int .i64 0, .string ⟨#[]⟩, .int .i64 0, .int .i64 0, .int .i64 0] 27 #[.int .i64 0, .int .i64 0, .int .i64 0]
  have H2 := Lib.hid ((h.below nb1).below nb2)
  have HM := Lib.hid (((Moved.start h).next nb1).next nb2)
  have T := Lib.hid T0
  have hfd := fun w => tok_field (curT L a).k (curT L a).n ((curT L a).line : Int) ((curT L a).col : Int) (curT L a).t w
  have pin := h.whole.inside
  have rin := h.rin
  have hpw : ¬ (w.heap.size = p) := by omega
  have hpv : ¬ (w.heap.size + 1 = p) := by omega
  clear h nb1 nb2 T0
  unfold kindA kindF kindT
  by_cases hk : (curT L a).k = k
  · have q0 : ((curT L a).k != k) = false := by rw [bne_eq_false_iff_eq]; exact hk
    rw [if_pos hk, if_pos hk, if_pos hk]
    clear hk
    go_enter Try.func37, Try.ntmps37
    go_wp2_with (first
      | (go_at_call 10; refine (cPeek _ _ _ _ _ _ _ _ H2.out.look).mono ?_; rintro e w3 ⟨rfl, b3⟩; have T3 := Lib.hid (T.out.next b3); have M3 := Lib.hid (HM.out.next b3); clear b3; simp only [tokA])
      | (go_at_call 21; refine (cNext _ _ _ _ _ _ _ M3.out.at_).mono ?_; rintro e w4 ⟨rfl, m4⟩; have W0 := Lib.hid (m4.keeps.whole T3.out.k0 hpw); have W1 := Lib.hid (m4.keeps.whole T3.out.k1 hpv); obtain ⟨k0, k1, k2, k3, k4, f0, f1, f2, f3, f4⟩ := whole5f W0.out; obtain ⟨g0, g1, g2, z0, z1, z2⟩ := whole3 W1.out; have hz := W1.out.inside; have M4 := Lib.hid (M3.out.then m4); clear m4; simp only [tokA]))
    have hFG := two_set W0.out W1.out (.int .i64 (curT L a).k) (.string (curT L a).t) (.int .i64 (curT L a).n) (.int .i64 ((curT L a).line : Int)) (.int .i64 ((curT L a).col : Int)) (.int .i64 0) (.int .i64 0) (.int .i64 0)
    have hF := whole5 hFG.1
    have hG := whole3 hFG.2
    refine bodyPost_ret (v := .tuple #[tokA (curT L a), faultV okF]) (by simp [results, Try.results37, go_sem, hF, hG, faultV, okF, tokA]) rfl ⟨rfl, ?_⟩
    exact (M4.out.on (keeps5 _ _ _ _ _ _ _) (Nat.le_refl _) pin rin).on (keeps3 _ _ _ _ _) (by omega) pin rin
  · have q0 : ((curT L a).k != k) = true := by rw [bne_iff_ne]; exact hk
    rw [if_neg hk, if_neg hk, if_neg hk]
    clear hk
    go_enter Try.func37, Try.ntmps37
    go_wp2_with (first
      | (go_at_call 10; refine (cPeek _ _ _ _ _ _ _ _ H2.out.look).mono ?_; rintro e w3 ⟨rfl, b3⟩; have T3 := Lib.hid (T.out.next b3); have M3 := Lib.hid (HM.out.next b3); clear b3; simp only [tokA])
      | (go_at_call 15; refine (cWrong _ _ _ _ _ _ _ _ M3.out.at_.look).mono ?_; rintro e w4 ⟨rfl, b4⟩; have W0 := Lib.hid (T3.out.next b4).k0; have W1 := Lib.hid (T3.out.next b4).k1; obtain ⟨k0, k1, k2, k3, k4, f0, f1, f2, f3, f4⟩ := whole5f W0.out; obtain ⟨g0, g1, g2, z0, z1, z2⟩ := whole3 W1.out; have hz := W1.out.inside; have M4 := Lib.hid (M3.out.next b4); clear b4; simp only [faultV]))
    have hFG := two_set W0.out W1.out (.int .i64 0) (.string ⟨#[]⟩) (.int .i64 0) (.int .i64 0) (.int .i64 0) (.int .i64 (wrF (curT L a)).1) (.int .i64 ((wrF (curT L a)).2.1 : Int)) (.int .i64 ((wrF (curT L a)).2.2 : Int))
    have hF := whole5 hFG.1
    have hG := whole3 hFG.2
    refine bodyPost_ret (v := .tuple #[tokA zTok, faultV (wrF (curT L a))]) (by simp [results, Try.results37, go_sem, hF, hG, faultV, zTok, tokA]) rfl ⟨rfl, ?_⟩
    exact (M4.out.on (keeps5 _ _ _ _ _ _ _) (Nat.le_refl _) pin rin).on (keeps3 _ _ _ _ _) (by omega) pin rin
/-- The number, the name: of what 'takeKind' took. -/
theorem kindT_n (L : List TokV) (a : Nat) : (kindT L a 2).n = intV L a := by unfold kindT intV; split <;> rfl
theorem kindT_t (L : List TokV) (a : Nat) : (kindT L a 3).t = nameV L a := by unfold kindT nameV; split <;> rfl
theorem cInt (w : World) (p r K : Nat) (L : List TokV) (a d : Nat) (h : CurAt w p r K L a d) :
    Calls Try.prog 17 #[.pointer (some ⟨p, 0, none⟩)] w (CPost w p r K L (kindA L a 2) d (.tuple #[.int .i64 (intV L a), faultV (kindF L a 2)])) := by
  have nb1 := new_block w (.cells #[.int .i64 0, .int .i64 0, .int .i64 0] 27)
  have H1 := Lib.hid (h.below nb1)
  have F0 := Lib.hid (Whole.made w 27 #[.int .i64 0, .int .i64 0, .int .i64 0])
  have HM := Lib.hid ((Moved.start h).next nb1)
  have pin := h.whole.inside
  have rin := h.rin
  have hpw : ¬ (w.heap.size = p) := by omega
  clear h nb1
  rw [← kindT_n]
  generalize hv : kindT L a 2 = v at *
  generalize hf : kindF L a 2 = f at *
  have HV := Lib.hid (And.intro hv hf)
  have hi : Calls Try.prog 37 #[.pointer (some ⟨p, 0, none⟩), .int .i64 2] (w.alloc (.cells #[.int .i64 0, .int .i64 0, .int .i64 0] 27)) (CPost (w.alloc (.cells #[.int .i64 0, .int .i64 0, .int .i64 0] 27)) p r K L (kindA L a 2) d (.tuple #[tokA v, faultV f])) := by
    have := cKind _ p r K L a d 2 H1.out
    rw [hv, hf] at this
    exact this
  clear hv hf
  obtain ⟨f1, f2, f3⟩ := f
  go_enter Try.func17, Try.ntmps17
  go_wp2_with (go_at_call 37; refine hi.mono ?_; rintro e w3 ⟨rfl, m3⟩; have W0 := Lib.hid (m3.keeps.whole F0.out hpw); obtain ⟨g0, g1, g2, z0, z1, z2⟩ := whole3 W0.out; have hz := W0.out.inside; have M3 := Lib.hid (HM.out.then m3); clear m3; simp only [tokA, faultV])
  go_region
  all_goals
    go_wp2
    have hF := whole3 ((((Whole.set3 W0.out (.int .i64 f1) (.int .i64 (f2 : Int)) (.int .i64 (f3 : Int))).alloc (.cells #[.int .i64 v.k, .string v.t, .int .i64 v.n, .int .i64 (v.line : Int), .int .i64 (v.col : Int)] 40)).alloc (.cells #[.int .i64 f1, .int .i64 (f2 : Int), .int .i64 (f3 : Int)] 27)).drew)
    refine bodyPost_ret (v := .tuple #[.int .i64 v.n, faultV (f1, f2, f3)]) (by simp [results, Try.results17, go_sem, hF, faultV]) rfl ⟨rfl, ?_⟩
    exact M3.out.on ((((keeps3 _ _ _ _ _).alloc _).alloc _).drew) (Nat.le_refl _) pin rin
theorem cName (w : World) (p r K : Nat) (L : List TokV) (a d : Nat) (h : CurAt w p r K L a d) :
    Calls Try.prog 19 #[.pointer (some ⟨p, 0, none⟩)] w (CPost w p r K L (kindA L a 3) d (.tuple #[.string (nameV L a), faultV (kindF L a 3)])) := by
  have nb1 := new_block w (.cells #[.int .i64 0, .int .i64 0, .int .i64 0] 27)
  have H1 := Lib.hid (h.below nb1)
  have F0 := Lib.hid (Whole.made w 27 #[.int .i64 0, .int .i64 0, .int .i64 0])
  have HM := Lib.hid ((Moved.start h).next nb1)
  have pin := h.whole.inside
  have rin := h.rin
  have hpw : ¬ (w.heap.size = p) := by omega
  clear h nb1
  rw [← kindT_t]
  generalize hv : kindT L a 3 = v at *
  generalize hf : kindF L a 3 = f at *
  have HV := Lib.hid (And.intro hv hf)
  have hi : Calls Try.prog 37 #[.pointer (some ⟨p, 0, none⟩), .int .i64 3] (w.alloc (.cells #[.int .i64 0, .int .i64 0, .int .i64 0] 27)) (CPost (w.alloc (.cells #[.int .i64 0, .int .i64 0, .int .i64 0] 27)) p r K L (kindA L a 3) d (.tuple #[tokA v, faultV f])) := by
    have := cKind _ p r K L a d 3 H1.out
    rw [hv, hf] at this
    exact this
  clear hv hf
  obtain ⟨f1, f2, f3⟩ := f
  go_enter Try.func19, Try.ntmps19
  go_wp2_with (go_at_call 37; refine hi.mono ?_; rintro e w3 ⟨rfl, m3⟩; have W0 := Lib.hid (m3.keeps.whole F0.out hpw); obtain ⟨g0, g1, g2, z0, z1, z2⟩ := whole3 W0.out; have hz := W0.out.inside; have M3 := Lib.hid (HM.out.then m3); clear m3; simp only [tokA, faultV])
  go_region
  all_goals
    go_wp2
    have hF := whole3 ((((Whole.set3 W0.out (.int .i64 f1) (.int .i64 (f2 : Int)) (.int .i64 (f3 : Int))).alloc (.cells #[.int .i64 v.k, .string v.t, .int .i64 v.n, .int .i64 (v.line : Int), .int .i64 (v.col : Int)] 40)).alloc (.cells #[.int .i64 f1, .int .i64 (f2 : Int), .int .i64 (f3 : Int)] 27)).drew)
    refine bodyPost_ret (v := .tuple #[.string v.t, faultV (f1, f2, f3)]) (by simp [results, Try.results19, go_sem, hF, faultV]) rfl ⟨rfl, ?_⟩
    exact M3.out.on ((((keeps3 _ _ _ _ _).alloc _).alloc _).drew) (Nat.le_refl _) pin rin
end Go.Proofs.Ytnlnkjjegaihcaa
