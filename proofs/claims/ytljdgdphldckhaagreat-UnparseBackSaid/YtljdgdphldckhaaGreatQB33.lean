/-
  Texts Q8. No conditions but those that each theorem names.
-/
import Derived.Test.YtljdgdphldckhaaGreatQB32
namespace Go.Proofs.YtljdgdphldckhaaGreat
open Go.Great Go.ChangeShapes Go.WideShapes Go.ChangeAt Go.RowKit
set_option linter.unusedVariables false
set_option linter.unusedSimpArgs false
set_option maxRecDepth 20000
set_option maxHeartbeats 3200000
theorem qz_pr : (Tryz.prog.info? 162).map (fun i => i.zero.map Value.cells) = some (some ([.pointer none, .slice none 0 0, .bool false] : List Value).toArray) := by kernel_rfl
theorem put1_bytes {s : List Int × Bool} {t : List Int} (hs : ∀ x ∈ s.1, 0 ≤ x ∧ x < 256) (ht : ∀ x ∈ t, 0 ≤ x ∧ x < 256) : ∀ x ∈ (put1 s t).1, 0 ≤ x ∧ x < 256 := by
 intro x hx
 unfold put1 at hx
 simp only at hx
 rcases List.mem_append.1 hx with hx | hx
 · rcases List.mem_append.1 hx with hx | hx
   · exact hs x hx
   · split at hx
     · cases List.mem_singleton.1 hx; exact ⟨by decide, by decide⟩
     · cases hx
 · exact ht x hx
theorem putsB_bytes : ∀ (K : List ByteArray) (s : List Int × Bool), (∀ x ∈ s.1, 0 ≤ x ∧ x < 256) → ∀ x ∈ (Zl s K).1, 0 ≤ x ∧ x < 256
 | [], s, h => h
 | t :: K, s, h => putsB_bytes K (put1 s (bL t)) (put1_bytes h (bL_bd t))
theorem PE.start {w x : World} {own : List Bk} {g : Nat} (h : Env w (own ++ [(g, 162, [.pointer none, .slice none 0 0, .bool false])]) [] [] x) : PE w g ([], false) own x :=
 ⟨.pointer none, .slice none 0 0, (h.perm (List.perm_append_singleton _ own)).row1 5 1, .inl rfl⟩
theorem qText {w0 x : World} {b : Nat} {st : List Int × Bool} {own : List Bk} (h : PE w0 b st own x) (hb : ∀ x ∈ st.1, 0 ≤ x ∧ x < 256) (hne : st.1 ≠ []) :
   Calls Tryz.prog 106 #[.pointer (some ⟨b, 0, none⟩)] x fun e y => e = .returned (.string (strOfNums st.1)) ∧ Below w0.heap.size x y := by
 obtain ⟨a, v, h, u⟩ := h
 have h0 : (b, 162, [a, v, .bool st.2]) ∈ (b, 162, [a, v, Value.bool st.2]) :: own := by simp
 have hr := h.row _ (List.mem_singleton.2 rfl)
 have ha := h.apart _ (List.mem_singleton.2 rfl)
 have hbd : Uz 162 [.bool st.2] w0.heap.size x b a v st.1 := ⟨h.at_ _ h0, hr, h.lo _ h0, ha _ h0, u⟩
 have hm : (st.1.map fun n => UInt8.ofNat n.toNat).map (fun x => (x.toNat : Int)) = st.1 := by
   rw [List.map_map]
   refine (List.map_congr_left fun n hn => ?_).trans (List.map_id _)
   have := hb n hn
   simp only [Function.comp, UInt8.toNat_ofNat', id]
   omega
 have e := bdText (st.1.map fun n => UInt8.ofNat n.toNat) (by simpa using hne) (by rw [hm]; exact hbd)
 exact e
theorem formExpr (w : World) (vs : List Value) (hvl : vs.length = 12) (K : List ByteArray) (hp : Xh w 74 (.agg vs.toArray) K) (hr : Ye ([], false) K) (hne : (Zl ([], false) K).1 ≠ []) :
   Calls Tryz.prog 73 #[.func (.func 74) #[] #[], .agg vs.toArray] w fun e y => e = .returned (.string (strOfNums (Zl ([], false) K).1)) ∧ Below w.heap.size w y := by
 have hby := putsB_bytes K ([], false) (by simp)
 obtain ⟨s1, E1⟩ : ∃ s, s = Zl ([], false) K := ⟨_, rfl⟩
 rw [← E1] at hby hne ⊢
 have P1 := Hh (fun b own x => hp.at_ (b := b) E1 hr own x)
 have HVL := Hh hvl
 have HB := Hh (And.intro hby hne)
 clear hby hne hp hr E1 hvl
 have T := Hh (Env.start w)
 go_enter Tryz.func73, Tryz.ntmps73
 go_wp2_with (first
 | ((with_reducible refine Zi 3 ?_); refine Wn T.out 51 _ vs rfl rfl rfl ?_; intro wn g0 tn; have T := Hh tn; clear tn)
 | ((with_reducible refine Zi 5 ?_); refine Wu T.out 162 ([.pointer none, .slice none 0 0, .bool false]) rfl rfl qz_pr ?_; intro wn b tn; have T := Hh (PE.start (own := [(g0, 51, vs)]) tn); clear tn)
 | ((with_reducible refine Zi 7 ?_); refine Zf 51 _ 51 g0 vs (T.out.get 0 rfl) Wb (by rw [HVL.out]; exact Xb) rfl rfl rfl ?_)
 | (go_at_call 74; refine (P1.out _ _ _ T.out).mono ?_; rintro e wn ⟨rfl, tn⟩; have T := Hh tn; clear tn)
 | (go_at_call 106; refine (qText T.out HB.out.1 HB.out.2).mono ?_; rintro e wn ⟨rfl, bn⟩; have B := Hh (T.out.below.trans bn); clear bn))
 go_ret
 exact ⟨rfl, B.out⟩
theorem topExpr (w : World) (vs : List Value) (hvl : vs.length = 12) (K : List ByteArray) (hp : ∀ x, Below w.heap.size w x → Xh x 74 (.agg vs.toArray) K) (hr : Ye ([], false) K) (hne : (Zl ([], false) K).1 ≠ []) :
   Calls Tryz.prog 25 #[.agg vs.toArray] w fun e y => e = .returned (.string (strOfNums (Zl ([], false) K).1)) ∧ Below w.heap.size w y := by
 have F1 := Hh (fun x (hb : Below w.heap.size w x) => formExpr x vs hvl K (hp x hb) hr hne)
 have HVL := Hh hvl
 clear hp hr hne hvl
 have T := Hh (Env.start w)
 go_enter Tryz.func25, Tryz.ntmps25
 go_wp2_with (first
 | ((with_reducible refine Zi 1 ?_); refine Wn T.out 51 _ vs rfl rfl rfl ?_; intro wn g0 tn; have T := Hh tn; clear tn)
 | ((with_reducible refine Zi 3 ?_); refine Zf 51 _ 51 g0 vs (T.out.get 0 rfl) Wb (by rw [HVL.out]; exact Xb) rfl rfl rfl ?_)
 | (go_at_call 73; refine (F1.out _ T.out.below).mono ?_; rintro e wn ⟨rfl, bn⟩; have T := Hh (T.out.call bn); clear bn))
 go_ret
 exact ⟨rfl, T.out.below⟩
end Go.Proofs.YtljdgdphldckhaaGreat
