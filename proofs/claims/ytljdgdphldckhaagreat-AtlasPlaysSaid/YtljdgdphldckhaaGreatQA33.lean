/-
  Texts Q8. No conditions but those that each theorem names.
-/
import Derived.Test.YtljdgdphldckhaaGreatQA32
set_option maxRecDepth 20000
set_option maxHeartbeats 12800000
namespace Go.Proofs.YtljdgdphldckhaaGreat
open Go.Great Go.ChangeShapes Go.WideShapes Go.ChangeAt Go.RowKit
set_option linter.unusedVariables false
set_option linter.unusedSimpArgs false
theorem qz_pr : (Tryz.prog.info? 162).map (fun i => i.zero.map Value.cells) = some (some ([.pointer none, .slice none 0 0, .bool false] : List Value).toArray) := by kernel_rfl
theorem put1_bytes {s : List Int × Bool} {t : List Int} (hs : ∀ x ∈ s.1, 0 ≤ x ∧ x < 256) (ht : ∀ x ∈ t, 0 ≤ x ∧ x < 256) : ∀ x ∈ (put1 s t).1, 0 ≤ x ∧ x < 256 := by
 intro x hx
 unfold put1 at hx
 simp only at hx
 rcases List.mem_append.1 hx with hx | hx
 · rcases List.mem_append.1 hx with hx | hx
   · exact hs x hx
   · split at hx
     · cases List.mem_singleton.1 hx; exact ⟨by decide, by decide⟩
     · cases hx
 · exact ht x hx
theorem putsB_bytes : ∀ (K : List ByteArray) (s : List Int × Bool), (∀ x ∈ s.1, 0 ≤ x ∧ x < 256) → ∀ x ∈ (Zp s K).1, 0 ≤ x ∧ x < 256
 | [], s, h => h
 | t :: K, s, h => putsB_bytes K (put1 s (bL t)) (put1_bytes h (bL_bd t))
theorem puts_grow : ∀ (K : List ByteArray) (s : List Int × Bool), s.1.length ≤ (Zp s K).1.length
 | [], s => Nat.le_refl _
 | t :: K, s => by
   refine Nat.le_trans ?_ (puts_grow K (put1 s (bL t)))
   unfold put1
   simp only [List.length_append]
   omega
theorem puts_ne {t : ByteArray} {K : List ByteArray} {s : List Int × Bool} (h : 0 < t.size) : (Zp s (t :: K)).1 ≠ [] := by
 intro q
 have h1 := puts_grow K (put1 s (bL t))
 have h2 : 0 < (put1 s (bL t)).1.length := by
   unfold put1
   simp only [List.length_append, Wy]
   omega
 have h3 : (Zp s (t :: K)).1.length = (Zp (put1 s (bL t)) K).1.length := rfl
 rw [q] at h3
 simp only [List.length_nil] at h3
 omega
theorem PE.start {w x : World} {own : List Bk} {g : Nat} (h : Env w (own ++ [(g, 162, [.pointer none, .slice none 0 0, .bool false])]) [] [] x) : PE w g ([], false) own x :=
 ⟨.pointer none, .slice none 0 0, (h.perm (List.perm_append_singleton _ own)).row1 5 1, .inl rfl⟩
theorem qText {w0 x : World} {b : Nat} {st : List Int × Bool} {own : List Bk} (h : PE w0 b st own x) (hb : ∀ x ∈ st.1, 0 ≤ x ∧ x < 256) (hne : st.1 ≠ []) :
   Calls Tryz.prog 106 #[.pointer (some ⟨b, 0, none⟩)] x fun e y => e = .returned (.string (strOfNums st.1)) ∧ Below w0.heap.size x y := by
 obtain ⟨a, v, h, u⟩ := h
 have h0 : (b, 162, [a, v, .bool st.2]) ∈ (b, 162, [a, v, Value.bool st.2]) :: own := by simp
 have hr := h.row _ (List.mem_singleton.2 rfl)
 have ha := h.apart _ (List.mem_singleton.2 rfl)
 have hbd : Uk 162 [.bool st.2] w0.heap.size x b a v st.1 := ⟨h.at_ _ h0, hr, h.lo _ h0, ha _ h0, u⟩
 have hm : (st.1.map fun n => UInt8.ofNat n.toNat).map (fun x => (x.toNat : Int)) = st.1 := by
   rw [List.map_map]
   refine (List.map_congr_left fun n hn => ?_).trans (List.map_id _)
   have := hb n hn
   simp only [Function.comp, UInt8.toNat_ofNat', id]
   omega
 have e := bdText (st.1.map fun n => UInt8.ofNat n.toNat) (by simpa using hne) (by rw [hm]; exact hbd)
 exact e
theorem formPlace (w : World) (vs : List Value) (hvl : vs.length = 4) (K : List ByteArray) (hp : Xa w 59 (.agg vs.toArray) K) (hr : Yk ([], false) K) (hne : (Zp ([], false) K).1 ≠ []) :
   Calls Tryz.prog 58 #[.func (.func 59) #[] #[], .agg vs.toArray] w fun e y => e = .returned (.string (strOfNums (Zp ([], false) K).1)) ∧ Below w.heap.size w y := by
 have hby := putsB_bytes K ([], false) (by simp)
 obtain ⟨s1, E1⟩ : ∃ s, s = Zp ([], false) K := ⟨_, rfl⟩
 rw [← E1] at hby hne ⊢
 have P1 := Hh (fun b own x => hp.at_ (b := b) E1 hr own x)
 have HVL := Hh hvl
 have HB := Hh (And.intro hby hne)
 clear hby hne hp hr E1 hvl
 have T := Hh (Env.start w)
 go_enter Tryz.func58, Tryz.ntmps58
 go_wp2_with (first
 | ((with_reducible refine Ze 3 ?_); refine Zg T.out 38 _ vs rfl rfl rfl ?_; intro wn g0 tn; have T := Hh tn; clear tn)
 | ((with_reducible refine Ze 5 ?_); refine Zi T.out 162 ([.pointer none, .slice none 0 0, .bool false]) rfl rfl qz_pr ?_; intro wn b tn; have T := Hh (PE.start (own := [(g0, 38, vs)]) tn); clear tn)
 | ((with_reducible refine Ze 7 ?_); refine Zd 38 _ 38 g0 vs (T.out.get 0 rfl) qrow_pl (by rw [HVL.out]; exact qsize_pl) rfl rfl rfl ?_)
 | (go_at_call 59; refine (P1.out _ _ _ T.out).mono ?_; rintro e wn ⟨rfl, tn⟩; have T := Hh tn; clear tn)
 | (go_at_call 106; refine (qText T.out HB.out.1 HB.out.2).mono ?_; rintro e wn ⟨rfl, bn⟩; have B := Hh (T.out.below.trans bn); clear bn))
 go_ret
 exact ⟨rfl, B.out⟩
theorem topPlace (w : World) (vs : List Value) (hvl : vs.length = 4) (K : List ByteArray) (hp : ∀ x, Below w.heap.size w x → Xa x 59 (.agg vs.toArray) K) (hr : Yk ([], false) K) (hne : (Zp ([], false) K).1 ≠ []) :
   Calls Tryz.prog 15 #[.agg vs.toArray] w fun e y => e = .returned (.string (strOfNums (Zp ([], false) K).1)) ∧ Below w.heap.size w y := by
 have F1 := Hh (fun x (hb : Below w.heap.size w x) => formPlace x vs hvl K (hp x hb) hr hne)
 have HVL := Hh hvl
 clear hp hr hne hvl
 have T := Hh (Env.start w)
 go_enter Tryz.func15, Tryz.ntmps15
 go_wp2_with (first
 | ((with_reducible refine Ze 1 ?_); refine Zg T.out 38 _ vs rfl rfl rfl ?_; intro wn g0 tn; have T := Hh tn; clear tn)
 | ((with_reducible refine Ze 3 ?_); refine Zd 38 _ 38 g0 vs (T.out.get 0 rfl) qrow_pl (by rw [HVL.out]; exact qsize_pl) rfl rfl rfl ?_)
 | (go_at_call 58; refine (F1.out _ T.out.below).mono ?_; rintro e wn ⟨rfl, bn⟩; have T := Hh (T.out.call bn); clear bn))
 go_ret
 exact ⟨rfl, T.out.below⟩
end Go.Proofs.YtljdgdphldckhaaGreat
