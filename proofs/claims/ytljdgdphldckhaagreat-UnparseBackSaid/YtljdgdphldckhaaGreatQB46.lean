/-
  Texts Q10. No conditions but those that each theorem names.
-/
import Derived.Test.YtljdgdphldckhaaGreatQB45
namespace Go.Proofs.YtljdgdphldckhaaGreat
open Go.Great Go.ChangeShapes Go.WideShapes Go.ChangeAt Go.RowKit
set_option linter.unusedVariables false
set_option linter.unusedSimpArgs false
set_option maxRecDepth 20000
set_option maxHeartbeats 3200000
theorem bdText0 {T : TypeId} {rest : List Value} {B : Nat} {w : World} {b : Nat} {a v : Value} (h : Uz T rest B w b a v []) :
   Calls Tryz.prog 106 #[.pointer (some ⟨b, 0, none⟩)] w fun e w' => e = .returned (.string .empty) ∧ Below B w w' := by
 have hown := h.row
 have hbi : b < w.heap.size := h.whole.inside
 have hB : B ≤ w.heap.size := by have := h.lo; omega
 have c1 : w.cell? ⟨b, 1, none⟩ = some v := by rw [h.whole.read]; rfl
 have hUS : ∀ p, (Builtin.unsafeString_ #[206, 3] 9 #[.pointer p, .int .i64 0]).run Tryz.prog w.drew = .ok (.string .empty) w.drew := fun p => Lib.run_unsafeString_none _ _ _ _ p
 rcases hown.2 with ⟨rfl, hz⟩ | ⟨g, cap, cur, rfl, hbg, hg, hnc, hcm, hcs, htake⟩
 · have hSD : (Builtin.unsafeSliceData_ #[158] 206 #[.slice none 0 0]).run Tryz.prog w.drew = .ok (.pointer none) w.drew := rfl
   clear hown h
   go_enter Tryz.func106, Tryz.ntmps106
   go_wp2
   go_region
   all_goals (go_wp2; go_ret; exact ⟨rfl, Below.drew (Below.refl B w)⟩)
 · by_cases hc : cap = 0
   · subst hc
     have hsh : w.drew.shape? g = some (5, cur.size) := by
       have hg' : w.drew.heap[g]? = some (.cells cur 5 (0, 0)) := hg
       simp [World.shape?, hg']
     have hSD := Lib.run_unsafeSliceData_zero (P := Tryz.prog) w.drew #[158] 206 5 Tryz.underlying206 ⟨g, 0, none⟩ 0 _ hsh
     have hUS2 := Lib.run_unsafeString_none (P := Tryz.prog) (w.alloc (.view ⟨g, 0, none⟩ 5)).drew 206 3 9 (some ⟨w.heap.size, 0, none⟩)
     clear hown h htake hcs hg hsh
     go_enter Tryz.func106, Tryz.ntmps106
     go_wp2
     go_region
     all_goals (go_wp2; go_ret; exact ⟨rfl, Below.drew ((Below.refl B w).alloc hB _)⟩)
   · have hSD : (Builtin.unsafeSliceData_ #[158] 206 #[.slice (some ⟨g, 0, none⟩) 0 cap]).run Tryz.prog w.drew = .ok (.pointer (some ⟨g, 0, none⟩)) w.drew :=
       Lib.run_unsafeSliceData_row _ _ _ _ _ _ hc
     clear hown h htake hcs hg
     go_enter Tryz.func106, Tryz.ntmps106
     go_wp2
     go_region
     all_goals (go_wp2; go_ret; exact ⟨rfl, Below.drew (Below.refl B w)⟩)
theorem qTextE {w0 x : World} {b : Nat} {st : List Int × Bool} {own : List Bk} (h : PE w0 b st own x) (hb : ∀ x ∈ st.1, 0 ≤ x ∧ x < 256) :
   Calls Tryz.prog 106 #[.pointer (some ⟨b, 0, none⟩)] x fun e y => e = .returned (.string (strOfNums st.1)) ∧ Below w0.heap.size x y := by
 by_cases hne : st.1 = []
 · obtain ⟨a, v, h, u⟩ := h
   have h0 : (b, 162, [a, v, .bool st.2]) ∈ (b, 162, [a, v, Value.bool st.2]) :: own := by simp
   have hr := h.row _ (List.mem_singleton.2 rfl)
   have ha := h.apart _ (List.mem_singleton.2 rfl)
   have hbd : Uz 162 [.bool st.2] w0.heap.size x b a v st.1 := ⟨h.at_ _ h0, hr, h.lo _ h0, ha _ h0, u⟩
   rw [hne] at hbd ⊢
   exact bdText0 hbd
 · exact qText h hb hne
theorem formFileT (w : World) (vs : List Value) (hvl : vs.length = 2) (s1 : List Int × Bool) (hp : ∀ b own x, PE w b ([], false) own x → Calls Tryz.prog 61 #[.pointer (some ⟨b, 0, none⟩), .agg vs.toArray] x (QPost w b s1 own)) (hby : ∀ x ∈ s1.1, 0 ≤ x ∧ x < 256) :
   Calls Tryz.prog 60 #[.func (.func 61) #[] #[], .agg vs.toArray] w fun e y => e = .returned (.string (strOfNums s1.1)) ∧ Below w.heap.size w y := by
 have P1 := Hh hp
 have HVL := Hh hvl
 have HB := Hh hby
 clear hby hp hvl
 have T := Hh (Env.start w)
 go_enter Tryz.func60, Tryz.ntmps60
 go_wp2_with (first
 | ((with_reducible refine Zi 3 ?_); refine Wn T.out 26 _ vs rfl rfl rfl ?_; intro wn g0 tn; have T := Hh tn; clear tn)
 | ((with_reducible refine Zi 5 ?_); refine Wu T.out 162 ([.pointer none, .slice none 0 0, .bool false]) rfl rfl qz_pr ?_; intro wn b tn; have T := Hh (PE.start (own := [(g0, 26, vs)]) tn); clear tn)
 | ((with_reducible refine Zi 7 ?_); refine Zf 26 _ 26 g0 vs (T.out.get 0 rfl) qrow_fi (by rw [HVL.out]; exact qsize_fi) rfl rfl rfl ?_)
 | (go_at_call 61; refine (P1.out _ _ _ T.out).mono ?_; rintro e wn ⟨rfl, tn⟩; have T := Hh tn; clear tn)
 | (go_at_call 106; refine (qTextE T.out HB.out).mono ?_; rintro e wn ⟨rfl, bn⟩; have B := Hh (T.out.below.trans bn); clear bn))
 go_ret
 exact ⟨rfl, B.out⟩
theorem tFile (w : World) (N : Nat → Prop) (f : Fi) (hv : VFi f) (vs : List Value) (hd : Zg N w f.ds vs) (hr : lenFi f ≤ 10000000000) :
   Calls Tryz.prog 17 #[.agg vs.toArray] w fun e y => e = .returned (.string (strOfNums (lFi f))) ∧ Below w.heap.size w y := by
 have hby : ∀ x ∈ (fileT ([], false) f).1, 0 ≤ x ∧ x < 256 := by
   have fold : ∀ {α : Type} (k : α → List ByteArray) (l : List α) (s : List Int × Bool), (∀ x ∈ s.1, 0 ≤ x ∧ x < 256) → ∀ x ∈ (l.foldl (lineS k) s).1, 0 ≤ x ∧ x < 256 := fun k l => by
     induction l with
     | nil => intro s h; exact h
     | cons y l ih =>
       intro s h
       refine ih _ fun x hx => ?_
       rcases List.mem_append.1 hx with hx | hx
       · exact putsB_bytes (k y) s h x hx
       · cases List.mem_singleton.1 hx; decide
   exact fold kPl _ _ (fold kCa _ _ (by simp))
 have e := fileT_is hv
 have F1 := Hh (fun x (hb : Below w.heap.size w x) => formFileT x vs hd.len _ (fun b own y hy => pFile x N f hv vs (hd.below hb) b ([], false) own y hy (by show 0 + _ ≤ _; omega)) hby)
 rw [e] at F1
 have HVL := Hh hd.len
 clear hr hby e
 have T := Hh (Env.start w)
 go_enter Tryz.func17, Tryz.ntmps17
 go_wp2_with (first
 | ((with_reducible refine Zi 1 ?_); refine Wn T.out 26 _ vs rfl rfl rfl ?_; intro wn g0 tn; have T := Hh tn; clear tn)
 | ((with_reducible refine Zi 3 ?_); refine Zf 26 _ 26 g0 vs (T.out.get 0 rfl) qrow_fi (by rw [HVL.out]; exact qsize_fi) rfl rfl rfl ?_)
 | (go_at_call 60; refine (F1.out _ T.out.below).mono ?_; rintro e wn ⟨rfl, bn⟩; have T := Hh (T.out.call bn); clear bn))
 go_ret
 exact ⟨rfl, T.out.below⟩
end Go.Proofs.YtljdgdphldckhaaGreat
