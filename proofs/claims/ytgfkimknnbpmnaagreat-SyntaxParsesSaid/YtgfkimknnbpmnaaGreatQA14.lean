/-
  Texts CurRef. No conditions but those that each theorem names.
-/
import Derived.Test.YtgfkimknnbpmnaaGreatQA13
namespace Go.Proofs.YtgfkimknnbpmnaaGreat
open Go.ChangeShapes Go.WideShapes Go.ChangeAt Go.RowKit
set_option linter.unusedVariables false
set_option linter.unusedSimpArgs false
structure Ug (w : World) (r K : Nat) (L : List TokV) : Prop where
 row : ∀ j, j < (Un L).length → w.cell? ⟨r, j, none⟩ = (Un L)[j]?
 rin : r < w.heap.size
 ends : Ends L
 capL : L.length ≤ K
 capM : K ≤ 9223372036854775807
theorem Ug.keeps {w w' : World} {r K : Nat} {L : List TokV} (h : Ug w r K L) {S : Nat → Prop} (hk : Zz S w w') (hr : ¬ S r) : Ug w' r K L :=
 ⟨fun j hj => (World.cell?_of_block (a := ⟨r, j, none⟩) (hk.block r h.rin hr)).trans (h.row j hj), Nat.lt_of_lt_of_le h.rin hk.size, h.ends, h.capL, h.capM⟩
theorem Ug.below {w w' : World} {r K : Nat} {L : List TokV} (h : Ug w r K L) (hb : Below w.heap.size w w') : Ug w' r K L :=
 h.keeps (S := fun _ => False) (Zz.of_below hb) id
theorem Ug.at_ {w : World} {r K : Nat} {L : List TokV} (h : Ug w r K L) {a : Nat} (ha : a < L.length) :
   w.cell? ⟨r, a * 5, none⟩ = some (.int .i64 (Yg L a).k) ∧ w.cell? ⟨r, a * 5 + 1, none⟩ = some (.string (Yg L a).t) ∧ w.cell? ⟨r, a * 5 + 2, none⟩ = some (.int .i64 (Yg L a).n) ∧
   w.cell? ⟨r, a * 5 + 3, none⟩ = some (.int .i64 ((Yg L a).line : Int)) ∧ w.cell? ⟨r, a * 5 + 4, none⟩ = some (.int .i64 ((Yg L a).col : Int)) := by
 have hl := tokCs_len L
 have key : ∀ j, j < 5 → w.cell? ⟨r, a * 5 + j, none⟩ = (Yg L a).cells[j]? := fun j hj => by
   rw [h.row _ (by omega), tokCs_at L a j ha hj, curT_get L a ha]
 exact ⟨key 0 (by omega), key 1 (by omega), key 2 (by omega), key 3 (by omega), key 4 (by omega)⟩
def qA (r K n a d : Nat) : Value := .agg #[.slice (some ⟨r, 0, none⟩) n K, .int .i64 (a : Int), .int .i64 (d : Int)]
theorem qHere (w : World) (r K : Nat) (L : List TokV) (n a d : Nat) (hn : n = L.length) (h : Ug w r K L) (ha : a < L.length) :
   Calls Tryz.prog 19 #[qA r K n a d, .int .i64 0] w fun e w' => e = .returned (Wt (Yg L a)) ∧ Below w.heap.size w w' := by
 have h1 := h.below (Zh w (.cells #[.slice (some ⟨r, 0, none⟩) n K, .int .i64 (a : Int), .int .i64 (d : Int)] 60))
 have h2 := h1.below (Zh _ (.cells #[.int .i64 0, .string ⟨#[]⟩, .int .i64 0, .int .i64 0, .int .i64 0] 65))
 obtain ⟨t0, t1, t2, t3, t4⟩ := h2.at_ ha
 have rin := h.rin
 have l0 : a < n := by omega
 have l1 : (n : Int) ≤ 9223372036854775807 := by have := h.capL; have := h.capM; omega
 have l2 : (a : Int) ≤ 9223372036854775806 := by omega
 have HN := Hh hn
 clear hn h h1 h2 ha
 unfold qA Wt
 generalize Yg L a = v at *
 go_enter Tryz.func19, Tryz.ntmps19
 go_wp2
 refine bodyPost_ret (v := Wt v) (by simp [results, Tryz.results19, go_sem, Wt]) rfl ⟨rfl, ?_⟩
 exact ((Below.refl _ _).alloc (Nat.le_refl _) _).alloc (by simp) _
theorem qOn (w : World) (r K : Nat) (L : List TokV) (n a d : Nat) (hn : n = L.length) (h : Ug w r K L) (ha : a < L.length) :
   Calls Tryz.prog 44 #[qA r K n a d] w fun e w' => e = .returned (qA r K n (onA L a) d) ∧ Below w.heap.size w w' := by
 have hon := h.ends.on' ha
 have l0 : (a : Int) < (n : Int) := by omega
 have l1 : (n : Int) ≤ 9223372036854775807 := by have := h.capL; have := h.capM; omega
 rw [hon, ← hn]
 clear hon hn h ha
 unfold qA
 by_cases hl : (a : Int) < (n : Int) - 1
 · rw [if_pos hl]
   go_enter Tryz.func44, Tryz.ntmps44
   go_wp2
   refine bodyPost_ret (v := qA r K n (a + 1) d) (by simp [results, Tryz.results44, go_sem, qA]) rfl ⟨by simp [qA], ?_⟩
   exact ((Below.refl _ _).alloc (Nat.le_refl _) _).alloc (by simp) _
 · rw [if_neg hl]
   go_enter Tryz.func44, Tryz.ntmps44
   go_wp2
   refine bodyPost_ret (v := qA r K n a d) (by simp [results, Tryz.results44, go_sem, qA]) rfl ⟨rfl, ?_⟩
   exact ((Below.refl _ _).alloc (Nat.le_refl _) _).alloc (by simp) _
theorem qIs (w : World) (r K : Nat) (L : List TokV) (n a d : Nat) (t : ByteArray) (hn : n = L.length) (h : Ug w r K L) (ha : a < L.length) :
   Calls Tryz.prog 43 #[qA r K n a d, .string t] w fun e w' => e = .returned (.bool (isT (Yg L a) t)) ∧ Below w.heap.size w w' := by
 have h1 := h.below (Zh w (.cells #[.slice (some ⟨r, 0, none⟩) n K, .int .i64 (a : Int), .int .i64 (d : Int)] 60))
 have hi := qHere _ r K L n a d hn h1 ha
 clear hn h h1 ha
 unfold qA at hi ⊢
 generalize Yg L a = v at *
 have HT : Hid (isT v t = ((v.k == 1 || v.k == 4) && (v.t.toList == t.toList))) := Hh rfl
 cases h1 : (v.k == 1) <;> cases h4 : (v.k == 4) <;> cases ht : (v.t.toList == t.toList)
 all_goals
   have HH := Hh (And.intro h1 (And.intro h4 ht))
   go_enter Tryz.func43, Tryz.ntmps43
   go_wp2_with (go_at_call 19; refine hi.mono ?_; rintro e w2 ⟨rfl, b2⟩; have B2 := Hh b2; clear b2; simp only [Wt])
   go_ret
   have hb := Vr (Zh _ _) B2.out
   exact ⟨by rw [HT.out, HH.out.1, HH.out.2.1, HH.out.2.2]; rfl, hb.alloc hb.size _⟩
theorem qwrong (w : World) (v : TokV) :
   Calls Tryz.prog 89 #[Wt v] w fun e w' => e = .returned (Zt (wrF v)) ∧ Below w.heap.size w w' := by
 unfold Wt wrF
 by_cases hk : v.k = 0
 · have q0 : (v.k == 0) = true := by rw [hk]; rfl
   rw [if_pos hk]
   clear hk
   go_enter Tryz.func89, Tryz.ntmps89
   go_wp2
   refine bodyPost_ret (v := Zt (2, v.line, v.col)) (by simp [results, Tryz.results89, go_sem, Zt]) rfl ⟨rfl, ?_⟩
   exact ((Below.refl _ _).alloc (Nat.le_refl _) _).alloc (by simp) _
 · have q0 : (v.k == 0) = false := by rw [beq_eq_false_iff_ne]; exact hk
   rw [if_neg hk]
   clear hk
   go_enter Tryz.func89, Tryz.ntmps89
   go_wp2
   refine bodyPost_ret (v := Zt (7, v.line, v.col)) (by simp [results, Tryz.results89, go_sem, Zt]) rfl ⟨rfl, ?_⟩
   exact ((Below.refl _ _).alloc (Nat.le_refl _) _).alloc (by simp) _
theorem qWrong (w : World) (r K : Nat) (L : List TokV) (n a d : Nat) (hn : n = L.length) (h : Ug w r K L) (ha : a < L.length) :
   Calls Tryz.prog 69 #[qA r K n a d] w fun e w' => e = .returned (Zt (wrF (Yg L a))) ∧ Below w.heap.size w w' := by
 have h1 := h.below (Zh w (.cells #[.slice (some ⟨r, 0, none⟩) n K, .int .i64 (a : Int), .int .i64 (d : Int)] 60))
 have h2 := h1.below (Zh _ (.cells #[.int .i64 0, .int .i64 0, .int .i64 0] 29))
 have T0 := Hh (Two.start w 60 #[.slice (some ⟨r, 0, none⟩) n K, .int .i64 (a : Int), .int .i64 (d : Int)] 29 #[.int .i64 0, .int .i64 0, .int .i64 0])
 have hi := qHere _ r K L n a d hn h2 ha
 clear hn h h1 h2 ha
 unfold qA at hi ⊢
 generalize Yg L a = v at *
 generalize hf : wrF v = f at *
 have hj : ∀ w, Calls Tryz.prog 89 #[Wt v] w fun e w' => e = .returned (Zt f) ∧ Below w.heap.size w w' := fun w => by rw [← hf]; exact qwrong w v
 clear hf
 obtain ⟨f1, f2, f3⟩ := f
 go_enter Tryz.func69, Tryz.ntmps69
 go_wp2_with (first
 | (go_at_call 19; refine hi.mono ?_; rintro e w2 ⟨rfl, b2⟩; have T2 := Hh (T0.out.next b2); clear b2)
 | (go_at_call 89; refine (hj _).mono ?_; rintro e w3 ⟨rfl, b3⟩; have T3 := Hh (T2.out.next b3); obtain ⟨g0, g1, g2, z0, z1, z2⟩ := Yc T3.out.k1; have hz := T3.out.k1.inside; clear b3; simp only [Zt]))
 have hF := Yc (Zg.set3 T3.out.k1 (.int .i64 f1) (.int .i64 (f2 : Int)) (.int .i64 (f3 : Int)))
 refine bodyPost_ret (v := Zt (f1, f2, f3)) (by simp [results, Tryz.results69, go_sem, hF, Zt]) rfl ⟨rfl, ?_⟩
 exact Below.set3 T3.out.below (Nat.le_succ _) _ _ _
end Go.Proofs.YtgfkimknnbpmnaaGreat
