/-
  Texts UnpScan. No conditions but those that each theorem names.
-/
import Derived.Test.YtljdgdphldckhaaGreatQB12
import Derived.Test.YtljdgdphldckhaaGreatQB20
namespace Go.Proofs.YtljdgdphldckhaaGreat
open Go
set_option linter.unusedSimpArgs false
set_option linter.unusedVariables false
def Like : List TokV → List PT → Prop
 | [], [] => True
 | v :: l, p :: m => Fit v p ∧ Like l m
 | _, _ => False
theorem Like.app : ∀ {A : List TokV} {S : List PT} {B : List TokV} {T : List PT}, Like A S → Like B T → Like (A ++ B) (S ++ T)
 | [], [], _, _, _, h => h
 | v :: l, p :: m, _, _, h, h' => ⟨h.1, Like.app h.2 h'⟩
theorem Like.len : ∀ {A : List TokV} {S : List PT}, Like A S → A.length = S.length
 | [], [], _ => rfl
 | v :: l, p :: m, h => by simp only [List.length_cons, Like.len h.2]
def SafeB (c : Int) : Prop := c = 32 ∨ c = 10 ∨ c = 41 ∨ c = 59
def Safe : List Int → Prop
 | [] => True
 | c :: _ => SafeB c
def Byt (X : List Int) : Prop := ∀ x ∈ X, 0 ≤ x ∧ x < 256
def Scn (cl : Bool) (X : List Int) (T : List PT) : Prop :=
 Byt X ∧ ∀ (t : ByteArray) (q : Nat) (R : List Int) (acc : List TokV), Zj t q = X ++ R → (cl = true ∨ Safe R) → ∃ M, Ug t q acc = Ug t (q + X.length) (acc ++ M) ∧ Like M T
theorem rest_app {t : ByteArray} {q : Nat} {X R : List Int} (h : Zj t q = X ++ R) : Zj t (q + X.length) = R := by
 rw [← restL_drop, h, List.drop_append_of_le_length (Nat.le_refl _), List.drop_of_length_le (Nat.le_refl _), List.nil_append]
theorem Scn.weak {X : List Int} {T : List PT} {c : Bool} (h : Scn true X T) : Scn c X T := ⟨h.1, fun t q R acc hr _ => h.2 t q R acc hr (.inl rfl)⟩
theorem Scn.nil : Scn true [] [] := ⟨(fun x hx => by cases hx), fun t q R acc hr _ => ⟨[], by simp, trivial⟩⟩
theorem Scn.app {b c : Bool} {X Y : List Int} {S T : List PT} (h1 : Scn b X S) (h2 : Scn c Y T) (hs : b = true ∨ (∃ x r, Y = x :: r ∧ SafeB x)) : Scn c (X ++ Y) (S ++ T) := by
 refine ⟨fun x hx => (List.mem_append.1 hx).elim (h1.1 x) (h2.1 x), ?_⟩
 intro t q R acc hr hc
 rw [List.append_assoc] at hr
 obtain ⟨M, e1, l1⟩ := h1.2 t q (Y ++ R) acc hr (by
   rcases hs with h | ⟨x, r, hx, h⟩
   · exact .inl h
   · right; rw [hx]; exact h)
 obtain ⟨M', e2, l2⟩ := h2.2 t (q + X.length) R (acc ++ M) (rest_app hr) hc
 refine ⟨M ++ M', ?_, l1.app l2⟩
 rw [e1, e2, List.length_append, Nat.add_assoc, List.append_assoc]
theorem Scn.then {c : Bool} {X Y : List Int} {S T : List PT} (h1 : Scn true X S) (h2 : Scn c Y T) : Scn c (X ++ Y) (S ++ T) := h1.app h2 (.inl rfl)
theorem Scn.blank {x : Int} (h : x = 32 ∨ x = 10) : Scn true [x] [] := by
 refine ⟨fun y hy => by rw [List.mem_singleton] at hy; omega, ?_⟩
 intro t q R acc hr _
 obtain ⟨h1, h2, _⟩ := rest_next t (show Zj t q = x :: R from hr)
 refine ⟨[], ?_, trivial⟩
 rw [scanA_blank t acc h1 (by rw [isBl_iff]; omega)]; simp
theorem Scn.sp {b c : Bool} {X Y : List Int} {S T : List PT} (h1 : Scn b X S) (h2 : Scn c Y T) : Scn c (X ++ 32 :: Y) (S ++ T) := by
 have h3 : Scn c ([32] ++ Y) ([] ++ T) := (Scn.blank (.inl rfl)).then h2
 exact h1.app h3 (.inr ⟨32, Y, rfl, .inl rfl⟩)
theorem sc_one {cl : Bool} {X : List Int} {p : PT} (hB : Byt X) (hX : X ≠ []) (hk : 0 < p.k)
   (h : ∀ R, (cl = true ∨ Safe R) → ∃ f e, Zz (X ++ R) = (p.k, f, e, X.length) ∧ f ≤ e ∧ e ≤ X.length ∧ p.t = strOfNums ((X.take e).drop f) ∧ numOf p.k (X ++ R) = p.n) : Scn cl X [p] := by
 refine ⟨hB, ?_⟩
 intro t q R acc hr hc
 obtain ⟨f, e, ht, h1, h2, h3, h4⟩ := h R hc
 have hq : q < t.size := by
   have hlen := congrArg List.length hr
   rw [Xn, List.length_append] at hlen
   have : 0 < X.length := List.length_pos_iff.2 hX
   omega
 obtain ⟨c, r, hcr, hcb⟩ := tok_head (Zj t q) (by rw [hr, ht]; exact hk)
 have hcc := Wy t hq
 rw [hcr] at hcc
 have hgc : (gB t q : Int) = c := (List.cons.inj hcc).1.symm
 have hkk : 0 < (Zz (Zj t q)).1 := by rw [hr, ht]; exact hk
 refine ⟨[tokV t q], ?_, ⟨?_, ?_, ?_⟩, trivial⟩
 · rw [scanA_tok t acc hq (by rw [hgc]; exact hcb) hkk, hr, ht]
 · show (Zz (Zj t q)).1 = _
   rw [hr, ht]
 · show t.extract (q + (Zz (Zj t q)).2.1) (q + (Zz (Zj t q)).2.2.1) = _
   rw [hr, ht]
   dsimp only
   have hlen := congrArg List.length hr
   rw [Xn, List.length_append] at hlen
   have ee := extract_str t (q + f) (e - f) (by omega)
   rw [show q + f + (e - f) = q + e from by omega] at ee
   rw [ee, h3]
   have hd : (bL t).drop (q + f) = (Zj t q).drop f := by unfold Zj; rw [List.drop_drop]
   rw [hd, ← List.drop_take, hr, List.take_append_of_le_length h2]
 · show numOf (Zz (Zj t q)).1 (Zj t q) = _
   rw [hr, ht]; exact h4
theorem safe_head {R : List Int} (h : Safe R) : ∀ x r, R = x :: r → Jp x = false ∧ isD x = false ∧ x ≠ 61 := by
 intro x r hr
 subst hr
 have h' : SafeB x := h
 unfold SafeB at h'
 refine ⟨?_, ?_, ?_⟩
 · rw [← Bool.not_eq_true, Jo]; omega
 · rw [← Bool.not_eq_true, Jk]; omega
 · omega
theorem tw_all (p : Int → Bool) : ∀ (X R : List Int), (∀ x ∈ X, p x = true) → (∀ x r, R = x :: r → p x = false) → tw p (X ++ R) = X.length
 | [], [], _, _ => rfl
 | [], x :: r, _, h => by rw [List.nil_append, tw_stop r (h x r rfl)]; rfl
 | y :: X, R, h, h' => by
   rw [List.cons_append, Jg _ (h y (by simp)), tw_all p X R (fun z hz => h z (by simp [hz])) h', List.length_cons]
theorem sc_word {t : ByteArray} (h0 : bL t ≠ []) (h : ∀ x ∈ bL t, Jp x = true) : Scn false (bL t) [pW t] := by
 refine sc_one (fun x hx => by have := (Jo x).1 (h x hx); omega) h0 (by show (0 : Int) < 1; decide) fun R hR => ?_
 have hR : Safe R := hR.resolve_left (by decide)
 have htw := tw_all Jp (bL t) R h (fun x r e => (safe_head hR x r e).1)
 refine ⟨0, (bL t).length, ?_, Nat.zero_le _, Nat.le_refl _, ?_, rfl⟩
 · cases hx : bL t with
   | nil => exact absurd hx h0
   | cons c r =>
     rw [hx] at htw h
     rw [List.cons_append] at htw ⊢
     rw [Vm, if_pos (h c (by simp)), htw]; rfl
 · rw [List.take_length, List.drop_zero]; exact (str_bL t).symm
theorem Jm {ws : List ByteArray} {m : Nat} (h : ∀ i : Fin m, bL (wd ws ((i.val : Int) + 1)) ≠ [] ∧ ((bL (wd ws ((i.val : Int) + 1))).all Jp) = true) {k : Int} (h1 : 1 ≤ k) (h2 : k ≤ m) : Scn false (bL (wd ws k)) [pw ws k] := by
 obtain ⟨e1, e2⟩ := Zaw (m := m) (P := fun k => bL (wd ws k) ≠ [] ∧ ((bL (wd ws k)).all Jp) = true) h h1 h2
 exact sc_word e1 (by rw [List.all_eq_true] at e2; exact e2)
theorem sc_sel {k : Int} (h1 : 1 ≤ k) (h2 : k ≤ 2) : Scn false (bL (wd Vj k)) [pw Vj k] := Jm (m := 2) (by decide +kernel) h1 h2
theorem sc_side {k : Int} (h1 : 1 ≤ k) (h2 : k ≤ 3) : Scn false (bL (wd Zk k)) [pw Zk k] := Jm (m := 3) (by decide +kernel) h1 h2
theorem sc_where {k : Int} (h1 : 1 ≤ k) (h2 : k ≤ 4) : Scn false (bL (wd Yy k)) [pw Yy k] := Jm (m := 4) (by decide +kernel) h1 h2
theorem sc_filter {k : Int} (h1 : 1 ≤ k) (h2 : k ≤ 4) : Scn false (bL (wd Zq k)) [pw Zq k] := Jm (m := 4) (by decide +kernel) h1 h2
theorem sc_meit {k : Int} (h1 : 1 ≤ k) (h2 : k ≤ 2) : Scn false (bL (wd Ww k)) [pw Ww k] := Jm (m := 2) (by decide +kernel) h1 h2
theorem sc_pick {k : Int} (h1 : 1 ≤ k) (h2 : k ≤ 5) : Scn false (bL (wd Wq k)) [pw Wq k] := Jm (m := 5) (by decide +kernel) h1 h2
theorem sc_to {k : Int} (h1 : 1 ≤ k) (h2 : k ≤ 4) : Scn false (bL (wd wTo k)) [pw wTo k] := Jm (m := 4) (by decide +kernel) h1 h2
theorem sc_how {k : Int} (h1 : 1 ≤ k) (h2 : k ≤ 4) : Scn false (bL (wd Zav k)) [pw Zav k] := Jm (m := 4) (by decide +kernel) h1 h2
theorem sc_fact {k : Int} (h1 : 1 ≤ k) (h2 : k ≤ 5) : Scn false (bL (wd Yj k)) [pw Yj k] := Jm (m := 5) (by decide +kernel) h1 h2
theorem sc_act {k : Int} (h1 : 1 ≤ k) (h2 : k ≤ 15) : Scn false (bL (wd Yr k)) [pw Yr k] := Jm (m := 15) (by decide +kernel) h1 h2
theorem sc_when {k : Int} (h1 : 1 ≤ k) (h2 : k ≤ 6) : Scn false (bL (wd Yd k)) [pw Yd k] := Jm (m := 6) (by decide +kernel) h1 h2
theorem sc_file {k : Int} (h1 : 1 ≤ k) (h2 : k ≤ 2) : Scn false (bL (wd Ys k)) [pw Ys k] := Jm (m := 2) (by decide +kernel) h1 h2
theorem sc_cost : Scn false (bL Jn) [pW Jn] := sc_word (by decide +kernel) (List.all_eq_true.1 (by decide +kernel : (bL Jn).all Jp = true))
theorem sc_power : Scn false (bL Ut) [pW Ut] := sc_word (by decide +kernel) (List.all_eq_true.1 (by decide +kernel : (bL Ut).all Jp = true))
theorem sc_else : Scn false (bL Wx) [pW Wx] := sc_word (by decide +kernel) (List.all_eq_true.1 (by decide +kernel : (bL Wx).all Jp = true))
theorem byt1 {c : Int} (h : 0 ≤ c ∧ c < 256) : Byt [c] := by
 intro y hy
 rw [List.mem_singleton] at hy
 subst hy
 exact h
theorem sc_mark1 {c : Int} (hc : c = 123 ∨ c = 125 ∨ c = 40 ∨ c = 41 ∨ c = 59 ∨ c = 43 ∨ c = 45 ∨ c = 42 ∨ c = 61) : Scn true [c] [pM (strOfNums [c])] := by
 refine sc_one (byt1 (by omega)) (by simp) (by show (0 : Int) < 4; decide) fun R _ => ⟨0, 1, ?_, Nat.zero_le _, Nat.le_refl _, rfl, rfl⟩
 have h1 : ¬ Jp c = true := by rw [Jo]; omega
 have h2 : ¬ isD c = true := by rw [Jk]; omega
 have hm : Jw (c :: R) = 1 := by rw [Jj, if_neg (by omega), if_pos (by omega)]
 show Zz (c :: R) = _
 rw [Vm, if_neg h1, if_neg h2, if_neg (by omega), if_neg (by omega), hm]; rfl
theorem sc_mark1' {c : Int} (hc : c = 60 ∨ c = 62) : Scn false [c] [pM (strOfNums [c])] := by
 refine sc_one (byt1 (by omega)) (by simp) (by show (0 : Int) < 4; decide) fun R hR => ⟨0, 1, ?_, Nat.zero_le _, Nat.le_refl _, rfl, rfl⟩
 have hR : Safe R := hR.resolve_left (by decide)
 have h1 : ¬ Jp c = true := by rw [Jo]; omega
 have h2 : ¬ isD c = true := by rw [Jk]; omega
 have hh : ¬ R.head? = some 61 := by
   cases R with
   | nil => simp
   | cons x r => have := (safe_head hR x r rfl).2.2; simpa using this
 have hm : Jw (c :: R) = 1 := by rw [Jj, if_neg (fun h => hh h.2), if_pos (by omega)]
 show Zz (c :: R) = _
 rw [Vm, if_neg h1, if_neg h2, if_neg (by omega), if_neg (by omega), hm]; rfl
theorem sc_mark2 {c : Int} (hc : c = 60 ∨ c = 62 ∨ c = 33) : Scn true [c, 61] [pM (strOfNums [c, 61])] := by
 refine sc_one (fun y hy => by rcases List.mem_cons.1 hy with rfl | hy
                               · omega
                               · exact byt1 (by decide) y hy) (by simp) (by show (0 : Int) < 4; decide) fun R _ => ⟨0, 2, ?_, Nat.zero_le _, Nat.le_refl _, rfl, rfl⟩
 have h1 : ¬ Jp c = true := by rw [Jo]; omega
 have h2 : ¬ isD c = true := by rw [Jk]; omega
 have hm : Jw (c :: 61 :: R) = 2 := by rw [Jj, if_pos ⟨by omega, rfl⟩]
 show Zz (c :: 61 :: R) = _
 rw [Vm, if_neg h1, if_neg h2, if_neg (by omega), if_neg (by omega), hm]; rfl
theorem sc_op {k : Int} (h1 : 1 ≤ k) (h2 : k ≤ 6) : Scn false (bL (wd wOp k)) [pm wOp k] := by
 have hk : k = 1 ∨ k = 2 ∨ k = 3 ∨ k = 4 ∨ k = 5 ∨ k = 6 := by omega
 rcases hk with rfl | rfl | rfl | rfl | rfl | rfl
 · exact sc_mark1' (c := 60) (.inl rfl)
 · exact (sc_mark2 (c := 60) (.inl rfl)).weak
 · exact (sc_mark1 (c := 61) (by decide)).weak
 · exact (sc_mark2 (c := 33) (by decide)).weak
 · exact (sc_mark2 (c := 62) (by decide)).weak
 · exact sc_mark1' (c := 62) (.inr rfl)
theorem num_all : ∀ i : Fin 100, Zai (i.val : Int) ≠ [] ∧ (Zai (i.val : Int)).all isD = true ∧ (Zai (i.val : Int)).length ≤ 2 ∧ ((Zai (i.val : Int)).length = 2 → (Zai (i.val : Int)).head? ≠ some 48) ∧ valL (Zai (i.val : Int)) = (i.val : Int) := by decide +kernel
theorem sc_int {n : Int} (h1 : 0 ≤ n) (h2 : n ≤ 99) : Scn false (Zai n) [pI n] := by
 have hh := num_all ⟨n.toNat, by omega⟩
 have e : (((⟨n.toNat, by omega⟩ : Fin 100).val : Int)) = n := by show ((n.toNat : Nat) : Int) = n; omega
 rw [e] at hh
 obtain ⟨g1, g2, g3, g4, g5⟩ := hh
 rw [List.all_eq_true] at g2
 refine sc_one (fun x hx => by have := (Jk x).1 (g2 x hx); omega) g1 (by show (0 : Int) < 2; decide) fun R hR => ?_
 have hR : Safe R := hR.resolve_left (by decide)
 have htw := tw_all isD (Zai n) R g2 (fun x r e => (safe_head hR x r e).2.1)
 refine ⟨0, (Zai n).length, ?_, Nat.zero_le _, Nat.le_refl _, ?_, ?_⟩
 · cases hx : Zai n with
   | nil => exact absurd hx g1
   | cons c r =>
     rw [hx] at htw g2 g3 g4
     rw [List.cons_append] at htw ⊢
     have hc := g2 c (by simp)
     have hc' : ¬ Jp c = true := by rw [Jk] at hc; rw [Jo]; omega
     rw [Vm, if_neg hc', if_pos hc, htw, if_neg]
     · rfl
     · rintro (h | ⟨h, h'⟩)
       · omega
       · exact g4 h (by simp [h'])
 · rw [List.take_length, List.drop_zero]; rfl
 · show (if (2 : Int) = 2 then valL (Xx (Zai n ++ R)) else 0) = n
   rw [if_pos rfl, firstD_tw, htw, List.take_append_of_le_length (Nat.le_refl _), List.take_length, g5]
theorem putL_minus {n : Int} (h : n < 0) : Zai n = 45 :: Zai (-n) := by unfold Zai; rw [if_pos h, if_neg (by omega)]
theorem sc_sign {n : Int} (h1 : -99 ≤ n) (h2 : n ≤ 99) : Scn false (Zai n) (tS n) := by
 unfold tS
 split
 · rename_i hn
   rw [putL_minus hn]
   exact (sc_mark1 (c := 45) (by decide)).then (sc_int (by omega) (by omega))
 · exact sc_int (by omega) h2
def lName (t : ByteArray) : List Int := 34 :: (bL t ++ [34])
theorem sc_name {t : ByteArray} (h : NameOK t) : Scn true (lName t) [pN t] := by
 have hB : Byt (lName t) := by
   intro x hx
   unfold lName at hx
   rcases List.mem_cons.1 hx with rfl | hx
   · decide
   · rcases List.mem_append.1 hx with hx | hx
     · exact ⟨(h.2 x hx).1, (h.2 x hx).2.1⟩
     · exact byt1 (by decide) x hx
 refine sc_one hB (by unfold lName; simp) (by show (0 : Int) < 3; decide) fun R _ => ?_
 have htw : tw (Xj 34) (bL t ++ 34 :: R) = (bL t).length := tw_piece (Xj 34) (bL t) 34 R (fun x hx => by rw [Zap]; exact (h.2 x hx).2.2) (by decide)
 have hlen : (lName t).length = (bL t).length + 2 := by unfold lName; simp
 refine ⟨1, (bL t).length + 1, ?_, by omega, by omega, ?_, rfl⟩
 · rw [hlen]
   show Zz (34 :: ((bL t ++ [34]) ++ R)) = _
   rw [List.append_assoc]
   show Zz (34 :: (bL t ++ 34 :: R)) = _
   rw [Vm, if_neg (by decide), if_neg (by decide), if_neg (by decide), if_pos rfl, htw, if_neg]
   · rfl
   · rintro (h' | h')
     · simp at h'
     · rw [List.take_append_of_le_length (Nat.le_refl _), List.take_length, str_bL, h.1] at h'; cases h'
 · unfold lName
   show t = _
   rw [List.take_succ_cons, List.drop_succ_cons, List.drop_zero, List.take_append_of_le_length (Nat.le_refl _), List.take_length, str_bL]
end Go.Proofs.YtljdgdphldckhaaGreat
