/-
  The document's answer for cursors: Here, On, Is, Wrong. Condition: the place is one of the tokens', which have one end, the last.
-/
import Derived.Test.YtnlnkjjegaihcaaCurMath
import Derived.Test.YtnlnkjjegaihcaaCur4
namespace Go.Proofs.Ytnlnkjjegaihcaa
open Go.ChangeShapes Go.WideShapes Go.ChangeAt Go.RowKit
set_option linter.unusedVariables false
set_option linter.unusedSimpArgs false
/-- Block r holds the tokens L. -/
structure RowAt (w : World) (r K : Nat) (L : List TokV) : Prop where
  row : ∀ j, j < (tokCs L).length → w.cell? ⟨r, j, none⟩ = (tokCs L)[j]?
  rin : r < w.heap.size
  ends : Ends L
  capL : L.length ≤ K
  capM : K ≤ 9223372036854775807
theorem RowAt.keeps {w w' : World} {r K : Nat} {L : List TokV} (h : RowAt w r K L) {S : Nat → Prop} (hk : Keeps S w w') (hr : ¬ S r) : RowAt w' r K L :=
  ⟨fun j hj => (World.cell?_of_block (a := ⟨r, j, none⟩) (hk.block r h.rin hr)).trans (h.row j hj), Nat.lt_of_lt_of_le h.rin hk.size, h.ends, h.capL, h.capM⟩
theorem RowAt.below {w w' : World} {r K : Nat} {L : List TokV} (h : RowAt w r K L) (hb : Below w.heap.size w w') : RowAt w' r K L :=
  h.keeps (S := fun _ => False) (Keeps.of_below hb) id
theorem RowAt.at_ {w : World} {r K : Nat} {L : List TokV} (h : RowAt w r K L) {a : Nat} (ha : a < L.length) :
    w.cell? ⟨r, a * 5, none⟩ = some (.int .i64 (curT L a).k) ∧ w.cell? ⟨r, a * 5 + 1, none⟩ = some (.string (curT L a).t) ∧ w.cell? ⟨r, a * 5 + 2, none⟩ = some (.int .i64 (curT L a).n) ∧
    w.cell? ⟨r, a * 5 + 3, none⟩ = some (.int .i64 ((curT L a).line : Int)) ∧ w.cell? ⟨r, a * 5 + 4, none⟩ = some (.int .i64 ((curT L a).col : Int)) := by
  have hl := tokCs_len L
  have key : ∀ j, j < 5 → w.cell? ⟨r, a * 5 + j, none⟩ = (curT L a).cells[j]? := fun j hj => by
    rw [h.row _ (by omega), tokCs_at L a j ha hj, curT_get L a ha]
  exact ⟨key 0 (by omega), key 1 (by omega), key 2 (by omega), key 3 (by omega), key 4 (by omega)⟩
/-- Tokens, a place, a depth: as a value. -/
def qA (r K n a d : Nat) : Value := .agg #[.slice (some ⟨r, 0, none⟩) n K, .int .i64 (a : Int), .int .i64 (d : Int)]
theorem qHere (w : World) (r K : Nat) (L : List TokV) (n a d : Nat) (hn : n = L.length) (h : RowAt w r K L) (ha : a < L.length) :
    Calls Try.prog 11 #[qA r K n a d, .int .i64 0] w fun e w' => e = .returned (tokA (curT L a)) ∧ Below w.heap.size w w' := by
  have h1 := h.below (new_block w (.cells #[.slice (some ⟨r, 0, none⟩) n K, .int .i64 (a : Int), .int .i64 (d : Int)] 32))
  have h2 := h1.below (new_block _ (.cells #[.int .i64 0, .string ⟨#[]⟩, .int .i64 0, .int .i64 0, .int .i64 0] 40))
  obtain ⟨t0, t1, t2, t3, t4⟩ := h2.at_ ha
  have rin := h.rin
  have l0 : a < n := by omega
  have l1 : (n : Int) ≤ 9223372036854775807 := by have := h.capL; have := h.capM; omega
  have l2 : (a : Int) ≤ 9223372036854775806 := by omega
  have HN := Lib.hid hn
  clear hn h h1 h2 ha
  unfold qA tokA
  generalize curT L a = v at *
  go_enter Try.func11, Try.ntmps11
  go_wp2
  refine bodyPost_ret (v := tokA v) (by simp [results, Try.results11, go_sem, tokA]) rfl ⟨rfl, ?_⟩
  exact ((Below.refl _ _).alloc (Nat.le_refl _) _).alloc (by simp) _
theorem qOn (w : World) (r K : Nat) (L : List TokV) (n a d : Nat) (hn : n = L.length) (h : RowAt w r K L) (ha : a < L.length) :
    Calls Try.prog 27 #[qA r K n a d] w fun e w' => e = .returned (qA r K n (onA L a) d) ∧ Below w.heap.size w w' := by
  have hon := h.ends.on' ha
  have l0 : (a : Int) < (n : Int) := by omega
  have l1 : (n : Int) ≤ 9223372036854775807 := by have := h.capL; have := h.capM; omega
  rw [hon, ← hn]
  clear hon hn h ha
  unfold qA
  by_cases hl : (a : Int) < (n : Int) - 1
  · rw [if_pos hl]
    go_enter Try.func27, Try.ntmps27
    go_wp2
    refine bodyPost_ret (v := qA r K n (a + 1) d) (by simp [results, Try.results27, go_sem, qA]) rfl ⟨by simp [qA], ?_⟩
    exact ((Below.refl _ _).alloc (Nat.le_refl _) _).alloc (by simp) _
  · rw [if_neg hl]
    go_enter Try.func27, Try.ntmps27
    go_wp2
    refine bodyPost_ret (v := qA r K n a d) (by simp [results, Try.results27, go_sem, qA]) rfl ⟨rfl, ?_⟩
    exact ((Below.refl _ _).alloc (Nat.le_refl _) _).alloc (by simp) _
theorem qIs (w : World) (r K : Nat) (L : List TokV) (n a d : Nat) (t : ByteArray) (hn : n = L.length) (h : RowAt w r K L) (ha : a < L.length) :
    Calls Try.prog 14 #[qA r K n a d, .string t] w fun e w' => e = .returned (.bool (isT (curT L a) t)) ∧ Below w.heap.size w w' := by
  have h1 := h.below (new_block w (.cells #[.slice (some ⟨r, 0, none⟩) n K, .int .i64 (a : Int), .int .i64 (d : Int)] 32))
  have hi := qHere _ r K L n a d hn h1 ha
  clear hn h h1 ha
  unfold qA at hi ⊢
  generalize curT L a = v at *
  have HT : Hid (isT v t = ((v.k == 1 || v.k == 4) && (v.t.toList == t.toList))) := Lib.hid rfl
  cases h1 : (v.k == 1) <;> cases h4 : (v.k == 4) <;> cases ht : (v.t.toList == t.toList)
  all_goals
    have HH := Lib.hid (And.intro h1 (And.intro h4 ht))
    go_enter Try.func14, Try.ntmps14
    go_wp2_with (go_at_call 11; refine hi.mono ?_; rintro e w2 ⟨rfl, b2⟩; have B2 := Lib.hid b2; clear b2; simp only [tokA])
    go_ret
    have hb := bthen (new_block _ _) B2.out
    exact ⟨by rw [HT.out, HH.out.1, HH.out.2.1, HH.out.2.2]; rfl, hb.alloc hb.size _⟩
theorem qwrong (w : World) (v : TokV) :
    Calls Try.prog 36 #[tokA v] w fun e w' => e = .returned (faultV (wrF v)) ∧ Below w.heap.size w w' := by
  unfold tokA wrF
  by_cases hk : v.k = 0
  · have q0 : (v.k == 0) = true := by rw [hk]; rfl
    rw [if_pos hk]
    clear hk
    go_enter Try.func36, Try.ntmps36
    go_wp2
    refine bodyPost_ret (v := faultV (2, v.line, v.col)) (by simp [results, Try.results36, go_sem, faultV]) rfl ⟨rfl, ?_⟩
    exact ((Below.refl _ _).alloc (Nat.le_refl _) _).alloc (by simp) _
  · have q0 : (v.k == 0) = false := by rw [beq_eq_false_iff_ne]; exact hk
    rw [if_neg hk]
    clear hk
    go_enter Try.func36, Try.ntmps36
    go_wp2
    refine bodyPost_ret (v := faultV (7, v.line, v.col)) (by simp [results, Try.results36, go_sem, faultV]) rfl ⟨rfl, ?_⟩
    exact ((Below.refl _ _).alloc (Nat.le_refl _) _).alloc (by simp) _
theorem qWrong (w : World) (r K : Nat) (L : List TokV) (n a d : Nat) (hn : n = L.length) (h : RowAt w r K L) (ha : a < L.length) :
    Calls Try.prog 16 #[qA r K n a d] w fun e w' => e = .returned (faultV (wrF (curT L a))) ∧ Below w.heap.size w w' := by
  have h1 := h.below (new_block w (.cells #[.slice (some ⟨r, 0, none⟩) n K, .int .i64 (a : Int), .int .i64 (d : Int)] 32))
  have h2 := h1.below (new_block _ (.cells #[.int .i64 0, .int .i64 0, .int .i64 0] 27))
  have T0 := Lib.hid (Two.start w 32 #[.slice (some ⟨r, 0, none⟩) n K, .int .i64 (a : Int), .int .i64 (d : Int)] 27 #[.int .i64 0, .int .i64 0, .int .i64 0])
  have hi := qHere _ r K L n a d hn h2 ha
  clear hn h h1 h2 ha
  unfold qA at hi ⊢
  generalize curT L a = v at *
  generalize hf : wrF v = f at *
  have hj : ∀ w, Calls Try.prog 36 #[tokA v] w fun e w' => e = .returned (faultV f) ∧ Below w.heap.size w w' := fun w => by rw [← hf]; exact qwrong w v
  clear hf
  obtain ⟨f1, f2, f3⟩ := f
  go_enter Try.func16, Try.ntmps16
  go_wp2_with (first
    | (go_at_call 11; refine hi.mono ?_; rintro e w2 ⟨rfl, b2⟩; have T2 := Lib.hid (T0.out.next b2); clear b2)
    | (go_at_call 36; refine (hj _).mono ?_; rintro e w3 ⟨rfl, b3⟩; have T3 := Lib.hid (T2.out.next b3); obtain ⟨g0, g1, g2, z0, z1, z2⟩ := whole3 T3.out.k1; have hz := T3.out.k1.inside; clear b3; simp only [faultV]))
  have hF := whole3 (Whole.set3 T3.out.k1 (.int .i64 f1) (.int .i64 (f2 : Int)) (.int .i64 (f3 : Int)))
  refine bodyPost_ret (v := faultV (f1, f2, f3)) (by simp [results, Try.results16, go_sem, hF, faultV]) rfl ⟨rfl, ?_⟩
  exact Below.set3 T3.out.below (Nat.le_succ _) _ _ _
theorem qUp (w : World) (r K n a d : Nat) (hd : d ≤ 8) :
    Calls Try.prog 33 #[qA r K n a d] w fun e w' => e = .returned (qA r K n a (d - 1)) ∧ Below w.heap.size w w' := by
  unfold qA
  by_cases h0 : 0 < d
  · have l0 : (0 : Int) < (d : Int) := by omega
    have l1 : (d : Int) ≤ 8 := by omega
    have e1 : ((d - 1 : Nat) : Int) = (d : Int) - 1 := by omega
    have E := Lib.hid e1
    have H0 := Lib.hid h0
    clear hd e1
    go_enter Try.func33, Try.ntmps33
    go_wp2
    refine bodyPost_ret (v := qA r K n a (d - 1)) (by simp [results, Try.results33, go_sem, qA, E.out]) rfl ⟨rfl, ?_⟩
    exact ((Below.refl _ _).alloc (Nat.le_refl _) _).alloc (by simp) _
  · obtain rfl : d = 0 := by omega
    go_enter Try.func33, Try.ntmps33
    go_wp2
    refine bodyPost_ret (v := qA r K n a 0) (by simp [results, Try.results33, go_sem, qA]) rfl ⟨rfl, ?_⟩
    exact ((Below.refl _ _).alloc (Nat.le_refl _) _).alloc (by simp) _
end Go.Proofs.Ytnlnkjjegaihcaa
