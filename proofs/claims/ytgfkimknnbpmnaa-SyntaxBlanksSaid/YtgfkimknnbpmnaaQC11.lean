/-
  Texts TokAgain, CurMath, SynMath, SynRem, TokRef3. No conditions but those that each theorem names.
-/
import Derived.Test.YtgfkimknnbpmnaaQC6
import Derived.Test.YtgfkimknnbpmnaaQC10
namespace Go.Proofs.Ytgfkimknnbpmnaa
open Go
inductive Tr (s : ByteArray) : Nat → List TokV → Prop
 | fin : ∀ a, a = s.size → Tr s a [endV s a]
 | skip : ∀ a b L, a < b → Tr s b L → Tr s a L
 | tok : ∀ a L, a < s.size → 0 < (Zr (Zg s a)).1 → Bd s a → Tr s (a + (Zr (Zg s a)).2.2.2) L → Tr s a (tokV s a :: L)
theorem scan_tr (s : ByteArray) : ∀ (b a : Nat) (acc L : List TokV) (E : Int) (p : Nat), s.size ≤ a + b → a ≤ s.size → Bd s a → Wl s a acc = (L, E, p) →
   (E = 0 → ∃ L', L = acc ++ L' ∧ Tr s a L') ∧ (E ≠ 0 → L = [] ∧ Bd s p)
 | 0, a, acc, L, E, p, h, h1, hB, hs => by
   rw [scanA_end s acc (by omega)] at hs
   injection hs with e1 e2
   injection e2 with e2 e3
   exact ⟨fun _ => ⟨_, e1.symm, Tr.fin a (by omega)⟩, fun c => absurd e2.symm c⟩
 | b + 1, a, acc, L, E, p, h, h1, hB, hs => by
   by_cases ha : a < s.size
   · cases hbl : isBl (gB s a : Int) with
     | true =>
       rw [scanA_blank s acc ha hbl] at hs
       obtain ⟨i1, i2⟩ := scan_tr s b (a + 1) acc L E p (by omega) (by omega) (Bd.behind ha (by rw [isBl_iff] at hbl; omega)) hs
       refine ⟨fun e => ?_, i2⟩
       obtain ⟨L', hL, ht⟩ := i1 e
       exact ⟨L', hL, Tr.skip a (a + 1) L' (by omega) ht⟩
     | false =>
       by_cases hk : (Zr (Zg s a)).1 < -1
       · rw [scanA_err s acc ha hbl hk] at hs
         injection hs with e1 e2
         injection e2 with e2 e3
         refine ⟨fun c => ?_, fun _ => ⟨e1.symm, e3 ▸ hB⟩⟩
         have := errE_is (Zr (Zg s a)).1
         omega
       · have hadv := Uq s ha (by omega)
         by_cases hr : (Zr (Zg s a)).1 = -1
         · rw [scanA_rem s acc ha hbl hr] at hs
           obtain ⟨i1, i2⟩ := scan_tr s b _ acc L E p (by omega) hadv.2 (rem_bd s ha hr) hs
           refine ⟨fun e => ?_, i2⟩
           obtain ⟨L', hL, ht⟩ := i1 e
           exact ⟨L', hL, Tr.skip a _ L' (by omega) ht⟩
         · have hpos : 0 < (Zr (Zg s a)).1 := by
             have := (tokL_bd (Zg s a) (restL_ne s ha)).2.2.2.2.1
             omega
           rw [scanA_tok s acc ha hbl hpos] at hs
           obtain ⟨i1, i2⟩ := scan_tr s b _ (acc ++ [tokV s a]) L E p (by omega) hadv.2 (tok_bd s ha hpos) hs
           refine ⟨fun e => ?_, i2⟩
           obtain ⟨L', hL, ht⟩ := i1 e
           exact ⟨tokV s a :: L', by rw [hL]; simp, Tr.tok a L' ha hpos hB ht⟩
   · exact scan_tr s 0 a acc L E p (by omega) h1 hB hs
theorem Tr.up {s : ByteArray} {a : Nat} {L : List TokV} (h : Tr s a L) :
   (∀ v ∈ L, a ≤ v.p ∧ Bd s v.p ∧ v.line = (Zs s (v.p : Int)).1 ∧ v.col = (Zs s (v.p : Int)).2) ∧ L.Pairwise (fun u v => u.p < v.p) := by
 induction h with
 | fin a ha =>
   subst ha
   refine ⟨fun v hv => ?_, by simp⟩
   simp at hv
   subst hv
   exact ⟨Nat.le_refl _, Bd.end_ s, rfl, rfl⟩
 | skip a b L hab _ ih => exact ⟨fun v hv => ⟨by have := (ih.1 v hv).1; omega, (ih.1 v hv).2⟩, ih.2⟩
 | tok a L ha hk hB _ ih =>
   have hadv := Uq s ha (by omega)
   refine ⟨fun v hv => ?_, ?_⟩
   · rcases List.mem_cons.1 hv with rfl | hv
     · exact ⟨Nat.le_refl _, hB, rfl, rfl⟩
     · exact ⟨by have := (ih.1 v hv).1; omega, (ih.1 v hv).2⟩
   · rw [List.pairwise_cons]
     refine ⟨fun v hv => ?_, ih.2⟩
     have := (ih.1 v hv).1
     show a < v.p
     omega
theorem Tr.before {s : ByteArray} {a : Nat} {L : List TokV} (h : Tr s a L) {m : Nat} (hm : m + 1 < L.length) :
   (L[m]'(by omega)).line < (L[m + 1]'hm).line ∨ (L[m]'(by omega)).line = (L[m + 1]'hm).line ∧ (L[m]'(by omega)).col < (L[m + 1]'hm).col := by
 obtain ⟨h1, h2⟩ := h.up
 have hp := List.pairwise_iff_getElem.1 h2 m (m + 1) (by omega) hm (by omega)
 have u := h1 _ (List.getElem_mem (show m < L.length by omega))
 have v := h1 _ (List.getElem_mem hm)
 have := place_lt u.2.1 v.2.1 hp
 rw [u.2.2.1, u.2.2.2, v.2.2.1, v.2.2.2]
 exact this
def txt (v : TokV) : List Int := if v.k = 3 then 34 :: (bL v.t ++ [34]) else bL v.t
def wrL (L : List TokV) : List Int := L.flatMap fun v => txt v ++ [32]
theorem wrL_cons (v : TokV) (L : List TokV) : wrL (v :: L) = txt v ++ 32 :: wrL L := by unfold wrL; simp
theorem tok_same (l r : List Int) (h : 0 < (Zr l).1) : Zr (l.take (Zr l).2.2.2 ++ 32 :: r) = Zr l := by
 cases l with
 | nil => simp [Zr] at h
 | cons c m =>
   revert h
   refine Vp c m (fun x => 0 < x.1 → Zr ((c :: m).take x.2.2.2 ++ 32 :: r) = x) ?_ ?_ ?_ ?_ ?_ ?_ ?_ ?_
   · intro hs _
     have hp := tw_piece Ub ((c :: m).take (tw Ub (c :: m))) 32 r (tw_take Ub (c :: m)) (by decide)
     have hle := tw_le Ub (c :: m)
     rw [List.length_take, Nat.min_eq_left hle] at hp
     have he : (c :: m).take (tw Ub (c :: m)) = c :: m.take (tw Ub m) := by rw [Xy m hs]; rfl
     dsimp only
     rw [he] at hp ⊢
     rw [List.cons_append] at hp ⊢
     rw [Wf, if_pos hs, hp]
   · intro hs h2 h3 _
     have hsm : Ub c = false := by rw [isD_iff] at hs; rw [← Bool.not_eq_true, isSm_iff]; omega
     have hp := tw_piece isD ((c :: m).take (tw isD (c :: m))) 32 r (tw_take isD (c :: m)) (by decide)
     have hle := tw_le isD (c :: m)
     rw [List.length_take, Nat.min_eq_left hle] at hp
     have he : (c :: m).take (tw isD (c :: m)) = c :: m.take (tw isD m) := by rw [Xy m hs]; rfl
     dsimp only
     rw [he] at hp ⊢
     rw [List.cons_append] at hp ⊢
     rw [Wf, if_neg (by rw [hsm]; simp), if_pos hs, hp, if_neg (by omega)]
   · intro _ _ h; simp at h
   · intro _ h; simp at h
   · intro hc hlt hnm _
     subst hc
     dsimp only
     rcases tw_end (Yw 34) m with he | ⟨x, hx, hxp⟩
     · omega
     · have hx34 : x = 34 := by
         rcases Decidable.em (x = 34) with e | e
         · exact e
         · rw [(Uv 34 x).2 e] at hxp; cases hxp
       subst hx34
       obtain ⟨n, hn⟩ : ∃ n, tw (Yw 34) m = n := ⟨_, rfl⟩
       have hall := tw_take (Yw 34) m
       rw [hn] at hlt hnm hx hall ⊢
       have hm1 : m.take (n + 1) = m.take n ++ [34] := by rw [List.take_add_one, hx]; rfl
       have ht : (34 :: m).take (n + 2) ++ 32 :: r = 34 :: (m.take n ++ 34 :: (32 :: r)) := by
         rw [List.take_succ_cons, hm1]; simp
       have hp := tw_piece (Yw 34) (m.take n) 34 (32 :: r) hall (by decide)
       rw [List.length_take, Nat.min_eq_left (by omega)] at hp
       have htk : (m.take n ++ 34 :: (32 :: r)).take n = m.take n := by
         rw [List.take_append_of_le_length (by rw [List.length_take]; omega), List.take_take, Nat.min_self]
       rw [ht, Wf, if_neg (by decide), if_neg (by decide), if_neg (by decide), if_pos rfl, hp, htk, if_neg]
       rw [hnm]
       simp
       omega
   · intro _ _ h; simp at h
   · intro h1 h2 h3 h4 h5 _
     dsimp only
     have hmk : Vh (c :: m) = 1 ∧ Vh (c :: 32 :: r) = 1 ∨ Vh (c :: m) = 2 ∧ ∃ d m', m = d :: m' ∧ Vh (c :: d :: 32 :: r) = 2 := by
       rw [Vf] at h5 ⊢
       by_cases e1 : (c = 60 ∨ c = 62 ∨ c = 33) ∧ m.head? = some 61
       · rw [if_pos e1]
         cases m with
         | nil => simp at e1
         | cons d m' =>
           refine .inr ⟨rfl, d, m', rfl, ?_⟩
           rw [Vf, if_pos ⟨e1.1, by simpa using e1.2⟩]
       · rw [if_neg e1] at h5 ⊢
         by_cases e2 : c = 123 ∨ c = 125 ∨ c = 40 ∨ c = 41 ∨ c = 59 ∨ c = 43 ∨ c = 45 ∨ c = 42 ∨ c = 61 ∨ c = 60 ∨ c = 62
         · rw [if_pos e2]
           refine .inl ⟨rfl, ?_⟩
           rw [Vf, if_neg (by simp), if_pos e2]
         · rw [if_neg e2] at h5
           exact absurd rfl h5
     rcases hmk with ⟨q1, q2⟩ | ⟨q1, d, m', rfl, q2⟩
     · rw [q1]
       show Zr (c :: 32 :: r) = _
       rw [Wf, if_neg (by rw [h1]; simp), if_neg (by rw [h2]; simp), if_neg h3, if_neg h4, q2]; rfl
     · rw [q1]
       show Zr (c :: d :: 32 :: r) = _
       rw [Wf, if_neg (by rw [h1]; simp), if_neg (by rw [h2]; simp), if_neg h3, if_neg h4, q2]; rfl
   · intro _ _ _ _ _ h; simp at h
theorem name_no10 (X : List Int) (hX : ∀ x ∈ X, 0 ≤ x ∧ x < 256) (h : nameB (strOfNums X) = true) : ∀ x ∈ X, x ≠ 10 := by
 intro x hx h10
 subst h10
 obtain ⟨i, hi, he⟩ := List.mem_iff_getElem.1 hx
 have hz : (strOfNums X).size = X.length := strOfNums_size X
 have hb : bL (strOfNums X) = X := bL_str X hX
 have hg := bL_get (strOfNums X) i (by omega)
 rw [hb, List.getElem?_eq_getElem hi, he] at hg
 have hg10 : gB (strOfNums X) i = 10 := by
   have := Option.some.inj hg
   omega
 have hm := ascii_rune (strOfNums X) i (by omega) (by omega)
 rw [hg10] at hm
 unfold nameB at h
 simp only [Bool.and_eq_true] at h
 have hin := List.all_eq_true.1 h.1.1.2 _ hm
 simp [inNameB, letterB] at hin
def GoodT (v : TokV) : Prop := ∃ l : List Int, 0 < (Zr l).1 ∧ v.k = (Zr l).1 ∧ txt v = l.take (Zr l).2.2.2 ∧ v.t = strOfNums ((l.take (Zr l).2.2.1).drop (Zr l).2.1) ∧ v.n = Um (Zr l).1 l ∧ (∀ x ∈ txt v, 0 ≤ x ∧ x < 256 ∧ x ≠ 10) ∧ (txt v).length = (Zr l).2.2.2
theorem tok_parts (l : List Int) (h : 0 < (Zr l).1) (hl : ∀ x ∈ l, 0 ≤ x ∧ x < 256) : (if (Zr l).1 = 3 then 34 :: ((l.take (Zr l).2.2.1).drop (Zr l).2.1 ++ [34]) else (l.take (Zr l).2.2.1).drop (Zr l).2.1) = l.take (Zr l).2.2.2 ∧ ∀ x ∈ l.take (Zr l).2.2.2, x ≠ 10 := by
 cases l with
 | nil => simp [Zr] at h
 | cons c m =>
   revert h
   refine Vp c m (fun x => 0 < x.1 → (if x.1 = 3 then 34 :: (((c :: m).take x.2.2.1).drop x.2.1 ++ [34]) else ((c :: m).take x.2.2.1).drop x.2.1) = (c :: m).take x.2.2.2 ∧ ∀ y ∈ (c :: m).take x.2.2.2, y ≠ 10) ?_ ?_ ?_ ?_ ?_ ?_ ?_ ?_
   · intro hs _
     refine ⟨by rw [if_neg (by simp)]; rfl, fun y hy => ?_⟩
     have := tw_take Ub (c :: m) y hy
     rw [isSm_iff] at this; omega
   · intro hs h2 h3 _
     refine ⟨by rw [if_neg (by simp)]; rfl, fun y hy => ?_⟩
     have := tw_take isD (c :: m) y hy
     rw [isD_iff] at this; omega
   · intro _ _ h; simp at h
   · intro _ h; simp at h
   · intro hc hlt hnm _
     subst hc
     dsimp only
     rcases tw_end (Yw 34) m with he | ⟨x, hx, hxp⟩
     · omega
     · have hx34 : x = 34 := by
         rcases Decidable.em (x = 34) with e | e
         · exact e
         · rw [(Uv 34 x).2 e] at hxp; cases hxp
       subst hx34
       have hn10 := name_no10 _ (fun y hy => hl y (List.mem_cons_of_mem _ (List.mem_of_mem_take hy))) hnm
       generalize tw (Yw 34) m = n at *
       have hm1 : m.take (n + 1) = m.take n ++ [34] := by rw [List.take_add_one, hx]; rfl
       refine ⟨?_, ?_⟩
       · rw [if_pos rfl, List.take_succ_cons, List.take_succ_cons, List.drop_succ_cons, List.drop_zero, hm1]
       · intro y hy
         rw [List.take_succ_cons, hm1] at hy
         rcases List.mem_cons.1 hy with rfl | hy
         · decide
         · rcases List.mem_append.1 hy with hy | hy
           · exact hn10 y hy
           · simp at hy; omega
   · intro _ _ h; simp at h
   · intro h1 h2 h3 h4 h5 _
     refine ⟨by rw [if_neg (by simp)]; rfl, fun y hy => ?_⟩
     dsimp only at hy
     have hc : c ≠ 10 := by
       rintro rfl
       rw [Vf, if_neg (by simp), if_neg (by decide)] at h5
       exact h5 rfl
     rw [Vf] at hy
     split at hy
     · rename_i e1
       cases m with
       | nil => simp at e1
       | cons d m' =>
         have hd : d = 61 := by simpa using e1.2
         rcases List.mem_cons.1 hy with rfl | hy
         · exact hc
         · simp at hy; omega
     · split at hy
       · simp at hy; omega
       · simp at hy
   · intro _ _ _ _ _ h; simp at h
theorem good_tok (s : ByteArray) {a : Nat} (ha : a < s.size) (hk : 0 < (Zr (Zg s a)).1) : GoodT (tokV s a) := by
 have hb := tokL_bd (Zg s a) (restL_ne s ha)
 rw [Yq] at hb
 have hrange : ∀ x ∈ Zg s a, 0 ≤ x ∧ x < 256 := fun x hx => bL_bd s x (List.mem_of_mem_drop hx)
 obtain ⟨p1, p2⟩ := tok_parts (Zg s a) hk hrange
 have ht : (tokV s a).t = strOfNums (((Zg s a).take (Zr (Zg s a)).2.2.1).drop (Zr (Zg s a)).2.1) := by
   have e := extract_str s (a + (Zr (Zg s a)).2.1) ((Zr (Zg s a)).2.2.1 - (Zr (Zg s a)).2.1) (by omega)
   rw [show a + (Zr (Zg s a)).2.1 + ((Zr (Zg s a)).2.2.1 - (Zr (Zg s a)).2.1) = a + (Zr (Zg s a)).2.2.1 from by omega] at e
   show s.extract _ _ = _
   rw [e, List.drop_take]
   unfold Zg
   rw [List.drop_drop]
 have hx : txt (tokV s a) = (Zg s a).take (Zr (Zg s a)).2.2.2 := by
   have hbl : bL (tokV s a).t = ((Zg s a).take (Zr (Zg s a)).2.2.1).drop (Zr (Zg s a)).2.1 := by
     rw [ht, bL_str _ (fun x hx => hrange x (List.mem_of_mem_take (List.mem_of_mem_drop hx)))]
   unfold txt
   rw [hbl, ← p1]; rfl
 refine ⟨Zg s a, hk, rfl, hx, ht, rfl, fun x hxx => ?_, ?_⟩
 · rw [hx] at hxx
   have := hrange x (List.mem_of_mem_take hxx)
   exact ⟨this.1, this.2, p2 x hxx⟩
 · rw [hx, List.length_take, Yq]; omega
inductive Sh : List TokV → Prop
 | fin : ∀ v : TokV, v.k = 0 → v.t = ⟨#[]⟩ → v.n = 0 → Sh [v]
 | tok : ∀ v L, GoodT v → Sh L → Sh (v :: L)
theorem Tr.sh {s : ByteArray} {a : Nat} {L : List TokV} (h : Tr s a L) : Sh L := by
 induction h with
 | fin a ha => exact Sh.fin _ rfl rfl rfl
 | skip _ _ _ _ _ ih => exact ih
 | tok a L ha hk _ _ ih => exact Sh.tok _ _ (good_tok s ha hk) ih
theorem Tr.size {s : ByteArray} {a : Nat} {L : List TokV} (h : Tr s a L) : (wrL L).length + 2 * a ≤ 2 * s.size + 1 := by
 induction h with
 | fin a ha =>
   subst ha
   have : wrL [endV s s.size] = [32] := by
     unfold wrL txt endV
     rfl
   rw [this]; simp; omega
 | skip a b L hab _ ih => omega
 | tok a L ha hk _ _ ih =>
   have hadv := Uq s ha (by omega)
   have hlen : (txt (tokV s a)).length = (Zr (Zg s a)).2.2.2 := by
     obtain ⟨l, g1, g2, g3, g4, g5, g6, g7⟩ := good_tok s ha hk
     have hrange : ∀ x ∈ Zg s a, 0 ≤ x ∧ x < 256 := fun x hx => bL_bd s x (List.mem_of_mem_drop hx)
     obtain ⟨p1, _⟩ := tok_parts (Zg s a) hk hrange
     have hb := tokL_bd (Zg s a) (restL_ne s ha)
     rw [Yq] at hb
     have e := congrArg List.length p1
     rw [List.length_take, Yq, Nat.min_eq_left (by omega)] at e
     have hbl : (bL (tokV s a).t).length = (Zr (Zg s a)).2.2.1 - (Zr (Zg s a)).2.1 := by
       rw [Wy]
       show (s.extract _ _).size = _
       rw [size_extract _ _ _ (by omega)]; omega
     rw [← e]
     unfold txt
     show (if (Zr (Zg s a)).1 = 3 then _ else _ : List Int).length = _
     split
     · simp [hbl, Yq]; omega
     · simp [hbl, Yq]; omega
   rw [wrL_cons, List.length_append, List.length_cons, hlen]
   omega
theorem Sh.no10 {L : List TokV} (h : Sh L) : ∀ x ∈ wrL L, 0 ≤ x ∧ x < 256 ∧ x ≠ 10 := by
 induction h with
 | fin v h1 h2 h3 =>
   have : wrL [v] = [32] := by
     unfold wrL txt
     simp [h1, h2]; rfl
   rw [this]
   intro x hx
   simp at hx
   omega
 | tok v L hg _ ih =>
   obtain ⟨l, g1, g2, g3, g4, g5, g6, g7⟩ := hg
   intro x hx
   rw [wrL_cons] at hx
   rcases List.mem_append.1 hx with hx | hx
   · exact g6 x hx
   · rcases List.mem_cons.1 hx with rfl | hx
     · omega
     · exact ih x hx
def SimT (L M : List TokV) : Prop := L.length = M.length ∧ ∀ (i : Nat) (h : i < L.length) (h' : i < M.length), (M[i]'h').k = (L[i]'h).k ∧ (M[i]'h').t = (L[i]'h).t ∧ (M[i]'h').n = (L[i]'h).n ∧ (M[i]'h').line = 1
theorem SimT.cons {u v : TokV} {L M : List TokV} (h : SimT L M) (h1 : v.k = u.k) (h2 : v.t = u.t) (h3 : v.n = u.n) (h4 : v.line = 1) : SimT (u :: L) (v :: M) := by
 refine ⟨by simp [h.1], fun i hi hi' => ?_⟩
 cases i with
 | zero => exact ⟨h1, h2, h3, h4⟩
 | succ i => exact h.2 i (by simpa using hi) (by simpa using hi')
theorem tok_head (l : List Int) (h : 0 < (Zr l).1) : ∃ c r, l = c :: r ∧ isBl c = false := by
 cases l with
 | nil => simp [Zr] at h
 | cons c r =>
   refine ⟨c, r, rfl, ?_⟩
   rw [← Bool.not_eq_true]
   intro hb
   rw [isBl_iff] at hb
   have e : Zr (c :: r) = (-4, 0, 0, 0) := by
     rw [Wf, if_neg (by rw [isSm_iff]; omega), if_neg (by rw [isD_iff]; omega), if_neg (by omega), if_neg (by omega), if_pos]
     rw [Vf, if_neg (by omega), if_neg (by omega)]
   rw [e] at h
   simp at h
theorem num_same (l r : List Int) (h : 0 < (Zr l).1) : Um (Zr l).1 (l.take (Zr l).2.2.2 ++ 32 :: r) = Um (Zr l).1 l := by
 unfold Um
 by_cases h2 : (Zr l).1 = 2
 · rw [if_pos h2, if_pos h2]
   congr 1
   have hz : (Zr l).2.2.2 = tw isD l := by
     cases l with
     | nil => simp [Zr] at h
     | cons c m =>
       revert h2
       refine Vp c m (fun x => x.1 = 2 → x.2.2.2 = tw isD (c :: m)) ?_ ?_ ?_ ?_ ?_ ?_ ?_ ?_
       · intro _ hh; simp at hh
       · intro _ _ _ _; rfl
       · intro _ _ hh; simp at hh
       · intro _ hh; simp at hh
       · intro _ _ _ hh; simp at hh
       · intro _ _ hh; simp at hh
       · intro _ _ _ _ _ hh; simp at hh
       · intro _ _ _ _ _ hh; simp at hh
   rw [hz]
   have hp := tw_piece isD (l.take (tw isD l)) 32 r (tw_take isD l) (by decide)
   have hle := tw_le isD l
   rw [List.length_take, Nat.min_eq_left hle] at hp
   rw [firstD_tw, firstD_tw, hp, List.take_append_of_le_length (by rw [List.length_take]; omega), List.take_take, Nat.min_self]
 · rw [if_neg h2, if_neg h2]
def zTok : TokV := ⟨0, ⟨#[]⟩, 0, 0, 0, 0⟩
def Zz (L : List TokV) (a : Nat) : TokV := L[a]?.getD zTok
theorem curT_get (L : List TokV) (a : Nat) (h : a < L.length) : Zz L a = L[a]'h := by unfold Zz; rw [List.getElem?_eq_getElem h]; rfl
structure Ends (L : List TokV) : Prop where
 pos : 0 < L.length
 last : ∀ i, i < L.length → ((Zz L i).k = 0 ↔ i + 1 = L.length)
 num : ∀ i, 0 ≤ (Zz L i).n ∧ (Zz L i).n ≤ 99
theorem numOf_bd (l : List Int) : 0 ≤ Um (Zr l).1 l ∧ Um (Zr l).1 l ≤ 99 := by
 cases l with
 | nil => simp [Zr, Um]
 | cons c r =>
   refine Vp c r (fun x => 0 ≤ Um x.1 (c :: r) ∧ Um x.1 (c :: r) ≤ 99) ?_ ?_ ?_ ?_ ?_ ?_ ?_ ?_
   case refine_2 =>
     intro h1 h2 _
     have hd : ∀ x ∈ Yz (c :: r), 48 ≤ x ∧ x ≤ 57 := by
       intro x hx
       rw [firstD_tw] at hx
       exact (isD_iff x).1 (tw_take isD _ x hx)
     have hv := valL_nonneg _ hd
     have hl : (Yz (c :: r)).length ≤ 2 := by rw [tw_firstD]; exact h2
     have hp : (10 : Int) ^ (Yz (c :: r)).length ≤ 100 := by
       generalize (Yz (c :: r)).length = n at hl
       match n, hl with
       | 0, _ => decide
       | 1, _ => decide
       | 2, _ => decide
     show 0 ≤ Um 2 (c :: r) ∧ Um 2 (c :: r) ≤ 99
     unfold Um
     rw [if_pos rfl]
     omega
   all_goals (intros; simp [Um])
theorem curT_succ (v : TokV) (L : List TokV) (i : Nat) : Zz (v :: L) (i + 1) = Zz L i := by unfold Zz; simp
theorem curT_zero (v : TokV) (L : List TokV) : Zz (v :: L) 0 = v := by unfold Zz; simp
theorem Sh.ends {L : List TokV} (h : Sh L) : Ends L := by
 induction h with
 | fin v hk ht hn =>
   refine ⟨by simp, fun i hi => ?_, fun i => ?_⟩
   · obtain rfl : i = 0 := by simp at hi; exact hi
     rw [curT_zero]; simp [hk]
   · cases i with
     | zero => rw [curT_zero, hn]; decide
     | succ i => rw [curT_succ]; simp [Zz, zTok]
 | tok v L hg hL ih =>
   obtain ⟨l, g1, g2, g3, g4, g5, g6, g7⟩ := hg
   refine ⟨by simp, fun i hi => ?_, fun i => ?_⟩
   · cases i with
     | zero =>
       have := ih.pos
       rw [curT_zero, List.length_cons]
       constructor
       · intro h; omega
       · intro h; omega
     | succ i =>
       rw [curT_succ, List.length_cons]
       have := ih.last i (by simpa using hi)
       rw [this]; omega
   · cases i with
     | zero => rw [curT_zero, g5]; exact numOf_bd l
     | succ i => rw [curT_succ]; exact ih.num i
theorem Tr.len {s : ByteArray} {a : Nat} {L : List TokV} (h : Tr s a L) : L.length + a ≤ s.size + 1 := by
 induction h with
 | fin a ha => simp; omega
 | skip a b L hab _ ih => omega
 | tok a L ha hk _ _ ih =>
   have := Uq s ha (by omega)
   rw [List.length_cons]; omega
def onA (L : List TokV) (a : Nat) : Nat := if (Zz L a).k = 0 then a else a + 1
theorem Ends.on {L : List TokV} (h : Ends L) {a : Nat} (ha : a < L.length) : onA L a < L.length := by
 unfold onA
 split
 · exact ha
 · rename_i hk
   have : ¬ (a + 1 = L.length) := fun e => hk ((h.last a ha).2 e)
   omega
def isT (v : TokV) (t : ByteArray) : Bool := (v.k == 1 || v.k == 4) && (v.t.toList == t.toList)
def wrF (v : TokV) : Int × Nat × Nat := if v.k = 0 then (2, v.line, v.col) else (7, v.line, v.col)
def okF : Int × Nat × Nat := (0, 0, 0)
def minus : ByteArray := ⟨#[45]⟩
def Uk (L : List TokV) (a : Nat) (t : ByteArray) : Nat := if isT (Zz L a) t = true then onA L a else a
def wantF (L : List TokV) (a : Nat) (t : ByteArray) : Int × Nat × Nat := if isT (Zz L a) t = true then okF else wrF (Zz L a)
def Un (L : List TokV) (a : Nat) (k : Int) : Nat := if (Zz L a).k = k then onA L a else a
def Ux (L : List TokV) (a : Nat) (k : Int) : Int × Nat × Nat := if (Zz L a).k = k then okF else wrF (Zz L a)
def intV (L : List TokV) (a : Nat) : Int := if (Zz L a).k = 2 then (Zz L a).n else 0
def nameV (L : List TokV) (a : Nat) : ByteArray := if (Zz L a).k = 3 then (Zz L a).t else ⟨#[]⟩
def signA (L : List TokV) (a : Nat) : Nat := if isT (Zz L a) minus = true then (if (Zz L (onA L a)).k = 2 then onA L (onA L a) else a) else Un L a 2
def signV (L : List TokV) (a : Nat) : Int := if isT (Zz L a) minus = true then (if (Zz L (onA L a)).k = 2 then - (Zz L (onA L a)).n else 0) else intV L a
def signF (L : List TokV) (a : Nat) : Int × Nat × Nat := if isT (Zz L a) minus = true then Ux L (onA L a) 2 else Ux L a 2
def downD (d : Nat) : Nat := if d = 8 then 8 else d + 1
def downF (L : List TokV) (a d : Nat) : Int × Nat × Nat := if d = 8 then (8, (Zz L a).line, (Zz L a).col) else okF
theorem wrF_ne (v : TokV) : (wrF v).1 ≠ 0 := by unfold wrF; split <;> simp
end Go.Proofs.Ytgfkimknnbpmnaa
namespace Go.Proofs.Ytgfkimknnbpmnaa
open Go
set_option linter.unusedSimpArgs false
set_option linter.unusedVariables false
structure Fl where
 kind : Int
 op : Int
 n : Int
 name : ByteArray
structure Se where
 kind : Int
 side : Int
 wh : Int
 lane : Int
 fs : List Fl
 pick : Int
def zSe : Se := ⟨0, 0, 0, 0, [], 0⟩
inductive Ex where
 | leaf (kind n : Int) (sel : Se) (side tk tl : Int)
 | bin (op : Int) (l r : Ex)
def zEx : Ex := .leaf 0 0 zSe 0 0 0
structure AH where
 kind : Int
 line : Int
 col : Int
 sel : Se
 num : Ex
 side : Int
 tk : Int
 tl : Int
 how : Int
 name : ByteArray
 cop : Int
 cl : Ex
 cr : Ex
def AH.zero (k l c : Int) : AH := ⟨k, l, c, zSe, zEx, 0, 0, 0, 0, ⟨#[]⟩, 0, zEx, zEx⟩
inductive Acs where
 | nil
 | cons (h : AH) (thn els rest : Acs)
def Acs.len : Acs → Nat
 | .nil => 0
 | .cons _ _ _ r => r.len + 1
def Acs.app : Acs → Acs → Acs
 | .nil, y => y
 | .cons h t e r, y => .cons h t e (r.app y)
structure Ru where
 when_ : Int
 stratum : Int
 line : Int
 col : Int
 acts : Acs
structure Ca where
 name : ByteArray
 cost : Int
 power : Int
 line : Int
 col : Int
 rules : List Ru
structure Pl where
 name : ByteArray
 line : Int
 col : Int
 rules : List Ru
structure Fi where
 cards : List Ca
 places : List Pl
theorem Acs.app_nil : ∀ x : Acs, x.app .nil = x
 | .nil => rfl
 | .cons h t e r => by rw [Acs.app, Acs.app_nil r]
theorem Acs.app_assoc (y z : Acs) : ∀ x : Acs, (x.app y).app z = x.app (y.app z)
 | .nil => rfl
 | .cons h t e r => by rw [Acs.app, Acs.app, Acs.app, Acs.app_assoc y z r]
theorem Acs.len_app (y : Acs) : ∀ x : Acs, (x.app y).len = x.len + y.len
 | .nil => by rw [Acs.app, Acs.len]; omega
 | .cons h t e r => by rw [Acs.app, Acs.len, Acs.len, Acs.len_app y r]; omega
def wSel : List ByteArray := [⟨#[109, 101]⟩, ⟨#[105, 116]⟩, ⟨#[40]⟩]
def Zv : List ByteArray := [⟨#[109, 105, 110, 101]⟩, ⟨#[116, 104, 101, 105, 114, 115]⟩, ⟨#[98, 111, 116, 104]⟩]
def wWhere : List ByteArray := [⟨#[104, 101, 114, 101]⟩, ⟨#[97, 119, 97, 121]⟩, ⟨#[108, 97, 110, 101]⟩, ⟨#[97, 110, 121, 119, 104, 101, 114, 101]⟩]
def Xe : List ByteArray := [⟨#[99, 111, 115, 116]⟩, ⟨#[112, 111, 119, 101, 114]⟩, ⟨#[110, 97, 109, 101, 100]⟩, ⟨#[110, 111, 116]⟩]
def wMeIt : List ByteArray := [⟨#[109, 101]⟩, ⟨#[105, 116]⟩]
def wPick : List ByteArray := [⟨#[97, 108, 108]⟩, ⟨#[102, 105, 114, 115, 116]⟩, ⟨#[108, 97, 115, 116]⟩, ⟨#[119, 101, 97, 107, 101, 115, 116]⟩, ⟨#[115, 116, 114, 111, 110, 103, 101, 115, 116]⟩]
def wTo : List ByteArray := [⟨#[104, 101, 114, 101]⟩, ⟨#[108, 101, 102, 116]⟩, ⟨#[114, 105, 103, 104, 116]⟩, ⟨#[108, 97, 110, 101]⟩]
def wHow : List ByteArray := [⟨#[102, 105, 114, 115, 116]⟩, ⟨#[108, 97, 115, 116]⟩, ⟨#[99, 104, 101, 97, 112, 101, 115, 116]⟩, ⟨#[99, 111, 115, 116, 108, 105, 101, 115, 116]⟩]
def wOp : List ByteArray := [⟨#[60]⟩, ⟨#[60, 61]⟩, ⟨#[61]⟩, ⟨#[33, 61]⟩, ⟨#[62, 61]⟩, ⟨#[62]⟩]
def wSum : List ByteArray := [⟨#[43]⟩, ⟨#[45]⟩]
def Vn : List ByteArray := [⟨#[99, 111, 117, 110, 116]⟩, ⟨#[115, 117, 109]⟩, ⟨#[114, 111, 117, 110, 100]⟩, ⟨#[104, 97, 110, 100]⟩, ⟨#[102, 114, 101, 101]⟩]
def Wk : List ByteArray := [⟨#[112, 111, 119, 101, 114]⟩, ⟨#[115, 101, 116]⟩, ⟨#[100, 101, 115, 116, 114, 111, 121]⟩, ⟨#[109, 111, 118, 101]⟩, ⟨#[114, 101, 116, 117, 114, 110]⟩, ⟨#[115, 112, 97, 119, 110]⟩, ⟨#[100, 114, 97, 119]⟩, ⟨#[100, 105, 115, 99, 97, 114, 100]⟩, ⟨#[101, 110, 101, 114, 103, 121]⟩, ⟨#[105, 102]⟩, ⟨#[101, 97, 99, 104]⟩, ⟨#[97, 117, 114, 97]⟩, ⟨#[100, 111, 117, 98, 108, 101]⟩, ⟨#[115, 104, 105, 101, 108, 100]⟩, ⟨#[98, 97, 114]⟩]
def Wd : List ByteArray := [⟨#[114, 101, 118, 101, 97, 108]⟩, ⟨#[100, 101, 97, 116, 104]⟩, ⟨#[109, 111, 118, 101, 100]⟩, ⟨#[101, 110, 100]⟩, ⟨#[97, 108, 119, 97, 121, 115]⟩, ⟨#[101, 110, 116, 101, 114]⟩]
def Wh : List ByteArray := [⟨#[99, 97, 114, 100]⟩, ⟨#[112, 108, 97, 99, 101]⟩]
def Vr : ByteArray := ⟨#[42]⟩
def Ue : ByteArray := ⟨#[40]⟩
def sClose : ByteArray := ⟨#[41]⟩
def Xv : ByteArray := ⟨#[123]⟩
def Xw : ByteArray := ⟨#[125]⟩
def sSemi : ByteArray := ⟨#[59]⟩
def sElse : ByteArray := ⟨#[101, 108, 115, 101]⟩
def sCost : ByteArray := ⟨#[99, 111, 115, 116]⟩
def sPower : ByteArray := ⟨#[112, 111, 119, 101, 114]⟩
def sMe : ByteArray := ⟨#[109, 101]⟩
def sIt : ByteArray := ⟨#[105, 116]⟩
inductive St where
 | ok (a d : Nat)
 | bad (F : Int × Nat × Nat)
def St.good : St → Bool
 | .ok _ _ => true
 | .bad _ => false
def Vc (F : Int × Nat × Nat) : St → St
 | .ok a d => if F.1 = 0 then .ok a d else .bad F
 | .bad G => .bad G
def idxW (v : TokV) : List ByteArray → Nat
 | [] => 0
 | t :: r => if isT v t = true then 1 else if idxW v r = 0 then 0 else idxW v r + 1
section
variable (L : List TokV)
def St.tok : St → TokV
 | .ok a _ => Zz L a
 | .bad _ => zTok
def wrongS : St → St
 | .ok a d => .bad (wrF (Zz L a))
 | .bad F => .bad F
def isS (t : ByteArray) : St → Bool
 | .ok a _ => isT (Zz L a) t
 | .bad _ => false
def Xg (t : ByteArray) : St → St
 | .ok a d => .ok (Uk L a t) d
 | .bad F => .bad F
def Yu (t : ByteArray) (st : St) : St := if isS L t st = true then Xg L t st else wrongS L st
def intN : St → Int
 | .ok a _ => intV L a
 | .bad _ => 0
def intS : St → St
 | .ok a d => Vc (Ux L a 2) (.ok (Un L a 2) d)
 | .bad F => .bad F
def nameN : St → ByteArray
 | .ok a _ => nameV L a
 | .bad _ => ⟨#[]⟩
def Wi : St → St
 | .ok a d => Vc (Ux L a 3) (.ok (Un L a 3) d)
 | .bad F => .bad F
def signN : St → Int
 | .ok a _ => signV L a
 | .bad _ => 0
def signS : St → St
 | .ok a d => Vc (signF L a) (.ok (signA L a) d)
 | .bad F => .bad F
def Zl (ws : List ByteArray) : St → Nat
 | .ok a _ => idxW (Zz L a) ws
 | .bad _ => 0
def Yc (ws : List ByteArray) : St → St
 | .ok a d => if idxW (Zz L a) ws = 0 then .ok a d else .ok (onA L a) d
 | .bad F => .bad F
def Yi (ws : List ByteArray) (st : St) : St := if Zl L ws st = 0 then wrongS L st else Yc L ws st
def deepS (t : ByteArray) : St → St
 | .ok a d => if isT (Zz L a) t = true then Vc (downF L a d) (.ok a (downD d)) else .ok a d
 | .bad F => .bad F
def upS : St → St
 | .ok a d => .ok a (d - 1)
 | .bad F => .bad F
def Vx (t : ByteArray) (st : St) : St := Yu L t (deepS L t st)
def riseS (t : ByteArray) (st : St) : St := upS (Yu L t st)
def Wm : St → St
 | .ok a d => if (Zz L a).k = 0 then .ok a d else .bad (wrF (Zz L a))
 | .bad F => .bad F
def Zt : St → Nat
 | .ok a _ => L.length - a
 | .bad _ => 0
end
section
variable (nk : Int) (L : List TokV)
def Wj (k : Nat) (s : St) : Fl × St :=
 if k = 1 ∨ k = 2 then (⟨k, Zl L wOp s, signN L (Yi L wOp s), ⟨#[]⟩⟩, signS L (Yi L wOp s))
 else if k = 3 then (⟨3, 0, 0, nameN L s⟩, Wi L s)
 else (⟨if Zl L wMeIt s = 0 then nk else 3 + (Zl L wMeIt s : Int), 0, 0, ⟨#[]⟩⟩, Yi L wMeIt s)
def Yr : Nat → St → List Fl × St
 | 0, st => ([], st)
 | n + 1, st =>
   if Zl L Xe st = 0 then ([], st)
   else
     ((Wj nk L (Zl L Xe st) (Yc L Xe st)).1 :: (Yr n (Wj nk L (Zl L Xe st) (Yc L Xe st)).2).1,
       (Yr n (Wj nk L (Zl L Xe st) (Yc L Xe st)).2).2)
def whereN (st : St) : Int × Int × Int := (Zl L Zv st, Zl L wWhere (Yi L Zv st), if Zl L wWhere (Yi L Zv st) = 3 then intN L (Yi L wWhere (Yi L Zv st)) else 0)
def whereS (st : St) : St := if Zl L wWhere (Yi L Zv st) = 3 then intS L (Yi L wWhere (Yi L Zv st)) else Yi L wWhere (Yi L Zv st)
def Yx (n : Nat) (st : St) : Se × St :=
 if Zl L wSel st = 3 then
   (⟨3, (whereN L (Yi L wSel st)).1, (whereN L (Yi L wSel st)).2.1, (whereN L (Yi L wSel st)).2.2, (Yr nk L n (whereS L (Yi L wSel st))).1,
       Zl L wPick (Yr nk L n (whereS L (Yi L wSel st))).2⟩,
     Yu L sClose (Yi L wPick (Yr nk L n (whereS L (Yi L wSel st))).2))
 else (⟨Zl L wSel st, 0, 0, 0, [], 0⟩, Yi L wSel st)
def toK (st : St) : Int := Zl L wTo st
def toL (st : St) : Int := if Zl L wTo st = 4 then intN L (Yi L wTo st) else 0
def toS (st : St) : St := if Zl L wTo st = 4 then intS L (Yi L wTo st) else Yi L wTo st
mutual
def Zy : Nat → St → Ex × St
 | 0, st => (zEx, st)
 | n + 1, st => Uy n (Ww n st)
def Uy : Nat → Ex × St → Ex × St
 | 0, x => x
 | n + 1, x =>
   if Zl L wSum x.2 = 0 then x
   else Uy n (.bin (Zl L wSum x.2) x.1 (Ww n (Yc L wSum x.2)).1, (Ww n (Yc L wSum x.2)).2)
def Ww : Nat → St → Ex × St
 | 0, st => (zEx, st)
 | n + 1, st => Uu n (Wt n st)
def Uu : Nat → Ex × St → Ex × St
 | 0, x => x
 | n + 1, x =>
   if isS L Vr x.2 = true then Uu n (.bin 3 x.1 (Wt n (Xg L Vr x.2)).1, (Wt n (Xg L Vr x.2)).2)
   else x
def Wt : Nat → St → Ex × St
 | 0, st => (zEx, st)
 | n + 1, st =>
   if isS L Ue st = true then ((Zy n (Vx L Ue st)).1, riseS L sClose (Zy n (Vx L Ue st)).2)
   else if Zl L Vn st = 0 then (.leaf 1 (signN L st) zSe 0 0 0, signS L st)
   else if Zl L Vn st = 1 ∨ Zl L Vn st = 2 then (.leaf (Zl L Vn st + 1) 0 (Yx nk L n (Yc L Vn st)).1 0 0 0, (Yx nk L n (Yc L Vn st)).2)
   else if Zl L Vn st = 3 then (.leaf 4 0 zSe 0 0 0, Yc L Vn st)
   else if Zl L Vn st = 4 then (.leaf 5 0 zSe (Zl L Zv (Yc L Vn st)) 0 0, Yi L Zv (Yc L Vn st))
   else (.leaf 6 0 zSe (Zl L Zv (Yc L Vn st)) (toK L (Yi L Zv (Yc L Vn st))) (toL L (Yi L Zv (Yc L Vn st))), toS L (Yi L Zv (Yc L Vn st)))
end
def Yd (n : Nat) (h : AH) (k : Nat) (st : St) : AH × St :=
 if k = 1 ∨ k = 2 ∨ k = 12 then ({ h with sel := (Yx nk L n st).1, num := (Zy nk L n (Yx nk L n st).2).1 }, (Zy nk L n (Yx nk L n st).2).2)
 else if k = 3 ∨ k = 5 ∨ k = 14 then ({ h with sel := (Yx nk L n st).1 }, (Yx nk L n st).2)
 else if k = 4 then ({ h with sel := (Yx nk L n st).1, tk := toK L (Yx nk L n st).2, tl := toL L (Yx nk L n st).2 }, toS L (Yx nk L n st).2)
 else if k = 6 then
   ({ h with name := nameN L st, side := Zl L Zv (Wi L st), tk := toK L (Yi L Zv (Wi L st)), tl := toL L (Yi L Zv (Wi L st)), num := (Zy nk L n (toS L (Yi L Zv (Wi L st)))).1 },
     (Zy nk L n (toS L (Yi L Zv (Wi L st)))).2)
 else if k = 7 ∨ k = 9 then ({ h with side := Zl L Zv st, num := (Zy nk L n (Yi L Zv st)).1 }, (Zy nk L n (Yi L Zv st)).2)
 else if k = 8 then ({ h with side := Zl L Zv st, how := Zl L wHow (Yi L Zv st) }, Yi L wHow (Yi L Zv st))
 else if k = 13 ∨ k = 15 then ({ h with side := Zl L Zv st, tk := toK L (Yi L Zv st), tl := toL L (Yi L Zv st) }, toS L (Yi L Zv st))
 else (h, st)
def Xh (n : Nat) (h : AH) (st : St) : AH × St :=
 ({ h with cl := (Zy nk L n st).1, cop := Zl L wOp (Zy nk L n st).2, cr := (Zy nk L n (Yi L wOp (Zy nk L n st).2)).1 }, (Zy nk L n (Yi L wOp (Zy nk L n st).2)).2)
structure AO where
 h : AH
 thn : Acs
 els : Acs
 st : St
mutual
def Xa : Nat → St → Acs × St
 | 0, st => (.nil, st)
 | n + 1, st =>
   if Zl L Wk st = 0 then (.nil, st)
   else
     (.cons (Wg n (AH.zero (Zl L Wk st) (st.tok L).line (st.tok L).col) (Zl L Wk st) (Yc L Wk st)).h
         (Wg n (AH.zero (Zl L Wk st) (st.tok L).line (st.tok L).col) (Zl L Wk st) (Yc L Wk st)).thn
         (Wg n (AH.zero (Zl L Wk st) (st.tok L).line (st.tok L).col) (Zl L Wk st) (Yc L Wk st)).els
         (Xa n (Wg n (AH.zero (Zl L Wk st) (st.tok L).line (st.tok L).col) (Zl L Wk st) (Yc L Wk st)).st).1,
       (Xa n (Wg n (AH.zero (Zl L Wk st) (st.tok L).line (st.tok L).col) (Zl L Wk st) (Yc L Wk st)).st).2)
def Wg : Nat → AH → Nat → St → AO
 | 0, h, _, st => ⟨h, .nil, .nil, st⟩
 | n + 1, h, k, st =>
   if k = 10 then
     if isS L sElse (Ym n (Xh nk L n h st).2).2 = true then
       ⟨(Xh nk L n h st).1, (Ym n (Xh nk L n h st).2).1, (Ym n (Xg L sElse (Ym n (Xh nk L n h st).2).2)).1, (Ym n (Xg L sElse (Ym n (Xh nk L n h st).2).2)).2⟩
     else ⟨(Xh nk L n h st).1, (Ym n (Xh nk L n h st).2).1, .nil, (Ym n (Xh nk L n h st).2).2⟩
   else if k = 11 then ⟨{ h with sel := (Yx nk L n st).1 }, (Ym n (Yx nk L n st).2).1, .nil, (Ym n (Yx nk L n st).2).2⟩
   else ⟨(Yd nk L n h k st).1, .nil, .nil, Yu L sSemi (Yd nk L n h k st).2⟩
def Ym : Nat → St → Acs × St
 | 0, st => (.nil, st)
 | n + 1, st => ((Xa n (Vx L Xv st)).1, riseS L Xw (Xa n (Vx L Xv st)).2)
end
def strN (k : Nat) (s : St) : Int := if k = 5 then intN L s else 0
def strS (k : Nat) (s : St) : St := if k = 5 then intS L s else s
def Wa : Nat → St → List Ru × St
 | 0, st => ([], st)
 | n + 1, st =>
   if Zl L Wd st = 0 then ([], st)
   else
     (⟨Zl L Wd st, strN L (Zl L Wd st) (Yc L Wd st), (st.tok L).line, (st.tok L).col, (Xa nk L n (Yu L Xv (strS L (Zl L Wd st) (Yc L Wd st)))).1⟩ ::
         (Wa n (Yu L Xw (Xa nk L n (Yu L Xv (strS L (Zl L Wd st) (Yc L Wd st)))).2)).1,
       (Wa n (Yu L Xw (Xa nk L n (Yu L Xv (strS L (Zl L Wd st) (Yc L Wd st)))).2)).2)
def Vy (n : Nat) (st : St) : List Ru × St := ((Wa nk L n (Yu L Xv st)).1, Yu L Xw (Wa nk L n (Yu L Xv st)).2)
def Vd (n : Nat) (line col : Int) (st : St) : Ca × St :=
 (⟨nameN L st, intN L (Yu L sCost (Wi L st)), signN L (Yu L sPower (intS L (Yu L sCost (Wi L st)))), line, col,
     (Vy nk L n (signS L (Yu L sPower (intS L (Yu L sCost (Wi L st)))))).1⟩,
   (Vy nk L n (signS L (Yu L sPower (intS L (Yu L sCost (Wi L st)))))).2)
def Wb (n : Nat) (line col : Int) (st : St) : Pl × St := (⟨nameN L st, line, col, (Vy nk L n (Wi L st)).1⟩, (Vy nk L n (Wi L st)).2)
def Xt : Nat → St → Fi × St
 | 0, st => (⟨[], []⟩, st)
 | n + 1, st =>
   if Zl L Wh st = 0 then (⟨[], []⟩, st)
   else if Zl L Wh st = 1 then
     (⟨(Vd nk L n (st.tok L).line (st.tok L).col (Yc L Wh st)).1 :: (Xt n (Vd nk L n (st.tok L).line (st.tok L).col (Yc L Wh st)).2).1.cards,
         (Xt n (Vd nk L n (st.tok L).line (st.tok L).col (Yc L Wh st)).2).1.places⟩,
       (Xt n (Vd nk L n (st.tok L).line (st.tok L).col (Yc L Wh st)).2).2)
   else
     (⟨(Xt n (Wb nk L n (st.tok L).line (st.tok L).col (Yc L Wh st)).2).1.cards,
         (Wb nk L n (st.tok L).line (st.tok L).col (Yc L Wh st)).1 :: (Xt n (Wb nk L n (st.tok L).line (st.tok L).col (Yc L Wh st)).2).1.places⟩,
       (Xt n (Wb nk L n (st.tok L).line (st.tok L).col (Yc L Wh st)).2).2)
end
theorem isT_k {v : TokV} {t : ByteArray} (h : isT v t = true) : v.k ≠ 0 := by
 unfold isT at h
 intro c
 rw [c] at h
 simp at h
theorem idxW_k {v : TokV} : ∀ {ws : List ByteArray}, idxW v ws ≠ 0 → v.k ≠ 0
 | [], h => absurd rfl h
 | t :: r, h => by
   unfold idxW at h
   by_cases ht : isT v t = true
   · exact isT_k ht
   · rw [if_neg ht] at h
     by_cases hr : idxW v r = 0
     · rw [if_pos hr] at h; exact absurd rfl h
     · exact idxW_k hr
theorem idxW_le (v : TokV) : ∀ ws : List ByteArray, idxW v ws ≤ ws.length
 | [] => Nat.le_refl _
 | t :: r => by
   have := idxW_le v r
   unfold idxW
   rw [List.length_cons]
   split
   · omega
   · split <;> omega
theorem curT_lt {L : List TokV} {a : Nat} (h : (Zz L a).k ≠ 0) : a < L.length := by
 apply Nat.lt_of_not_le
 intro c
 unfold Zz at h
 rw [List.getElem?_eq_none c] at h
 exact h rfl
theorem onA_le (L : List TokV) (a : Nat) : L.length - onA L a ≤ L.length - a := by unfold onA; split <;> omega
theorem onA_lt {L : List TokV} {a : Nat} (h : (Zz L a).k ≠ 0) : L.length - onA L a + 1 ≤ L.length - a := by
 have := curT_lt h
 unfold onA
 rw [if_neg h]
 omega
section
variable (L : List TokV)
theorem rem_note (F : Int × Nat × Nat) (st : St) : Zt L (Vc F st) ≤ Zt L st := by
 cases st with
 | ok a d =>
   by_cases h : F.1 = 0
   · rw [show Vc F (.ok a d) = .ok a d from if_pos h]; exact Nat.le_refl _
   · rw [show Vc F (.ok a d) = .bad F from if_neg h]; exact Nat.zero_le _
 | bad G => exact Nat.le_refl _
theorem rem_wrong (st : St) : Zt L (wrongS L st) ≤ Zt L st := by cases st <;> exact Nat.zero_le _
theorem wantA_le (a : Nat) (t : ByteArray) : L.length - Uk L a t ≤ L.length - a := by
 unfold Uk
 split
 · exact onA_le L a
 · exact Nat.le_refl _
theorem kindA_le (a : Nat) (k : Int) : L.length - Un L a k ≤ L.length - a := by
 unfold Un
 split
 · exact onA_le L a
 · exact Nat.le_refl _
theorem signA_le (a : Nat) : L.length - signA L a ≤ L.length - a := by
 unfold signA
 split
 · split
   · exact Nat.le_trans (onA_le L _) (onA_le L a)
   · exact Nat.le_refl _
 · exact kindA_le L a 2
theorem rem_take (t : ByteArray) (st : St) : Zt L (Xg L t st) ≤ Zt L st := by
 cases st with
 | ok a d => exact wantA_le L a t
 | bad F => exact Nat.le_refl _
theorem rem_took {t : ByteArray} {st : St} (h : isS L t st = true) : Zt L (Xg L t st) + 1 ≤ Zt L st := by
 cases st with
 | ok a d =>
   have h' : isT (Zz L a) t = true := h
   show L.length - Uk L a t + 1 ≤ L.length - a
   unfold Uk
   rw [if_pos h']
   exact onA_lt (isT_k h')
 | bad F => cases h
theorem Xx (t : ByteArray) (st : St) : Zt L (Yu L t st) ≤ Zt L st := by
 unfold Yu
 split
 · exact rem_take L t st
 · exact rem_wrong L st
theorem rem_wanted {t : ByteArray} {st : St} (h : isS L t st = true) : Zt L (Yu L t st) + 1 ≤ Zt L st := by
 unfold Yu
 rw [if_pos h]
 exact rem_took L h
theorem rem_int (st : St) : Zt L (intS L st) ≤ Zt L st := by
 cases st with
 | ok a d => have h := rem_note L (Ux L a 2) (.ok (Un L a 2) d); exact Nat.le_trans h (kindA_le L a 2)
 | bad F => exact Nat.le_refl _
theorem rem_name (st : St) : Zt L (Wi L st) ≤ Zt L st := by
 cases st with
 | ok a d => have h := rem_note L (Ux L a 3) (.ok (Un L a 3) d); exact Nat.le_trans h (kindA_le L a 3)
 | bad F => exact Nat.le_refl _
theorem rem_sign (st : St) : Zt L (signS L st) ≤ Zt L st := by
 cases st with
 | ok a d => have h := rem_note L (signF L a) (.ok (signA L a) d); exact Nat.le_trans h (signA_le L a)
 | bad F => exact Nat.le_refl _
theorem Ut (ws : List ByteArray) (st : St) : Zt L (Yc L ws st) ≤ Zt L st := by
 cases st with
 | ok a d =>
   by_cases h : idxW (Zz L a) ws = 0
   · rw [show Yc L ws (.ok a d) = .ok a d from if_pos h]; exact Nat.le_refl _
   · rw [show Yc L ws (.ok a d) = .ok (onA L a) d from if_neg h]; exact onA_le L a
 | bad F => exact Nat.le_refl _
theorem rem_found {ws : List ByteArray} {st : St} (h : ¬ Zl L ws st = 0) : Zt L (Yc L ws st) + 1 ≤ Zt L st := by
 cases st with
 | ok a d =>
   have h' : ¬ idxW (Zz L a) ws = 0 := h
   rw [show Yc L ws (.ok a d) = .ok (onA L a) d from if_neg h']
   exact onA_lt (idxW_k h')
 | bad F => exact absurd rfl h
theorem Uo {ws : List ByteArray} {st : St} (h : Zl L ws st = 0) : Yc L ws st = st := by
 cases st with
 | ok a d =>
   have h' : idxW (Zz L a) ws = 0 := h
   exact if_pos h'
 | bad F => rfl
theorem Yy (ws : List ByteArray) (st : St) : Zt L (Yi L ws st) ≤ Zt L st := by
 unfold Yi
 split
 · exact rem_wrong L st
 · exact Ut L ws st
theorem rem_deep (t : ByteArray) (st : St) : Zt L (deepS L t st) ≤ Zt L st := by
 cases st with
 | ok a d =>
   by_cases h : isT (Zz L a) t = true
   · rw [show deepS L t (.ok a d) = Vc (downF L a d) (.ok a (downD d)) from if_pos h]; exact rem_note L (downF L a d) (.ok a (downD d))
   · rw [show deepS L t (.ok a d) = .ok a d from if_neg h]; exact Nat.le_refl _
 | bad F => exact Nat.le_refl _
theorem rem_up (st : St) : Zt L (upS st) = Zt L st := by cases st <;> rfl
theorem rem_down (t : ByteArray) (st : St) : Zt L (Vx L t st) ≤ Zt L st := Nat.le_trans (Xx L t _) (rem_deep L t st)
theorem rem_rise (t : ByteArray) (st : St) : Zt L (riseS L t st) ≤ Zt L st := by unfold riseS; rw [rem_up]; exact Xx L t st
theorem is_deep {t : ByteArray} {st : St} (h : isS L t st = true) : (deepS L t st).good = true → isS L t (deepS L t st) = true := by
 cases st with
 | ok a d =>
   have h' : isT (Zz L a) t = true := h
   rw [show deepS L t (.ok a d) = Vc (downF L a d) (.ok a (downD d)) from if_pos h']
   by_cases hf : (downF L a d).1 = 0
   · rw [show Vc (downF L a d) (.ok a (downD d)) = .ok a (downD d) from if_pos hf]; intro _; exact h'
   · rw [show Vc (downF L a d) (.ok a (downD d)) = .bad (downF L a d) from if_neg hf]; intro c; cases c
 | bad F => cases h
theorem rem_downed {t : ByteArray} {st : St} (h : isS L t st = true) : Zt L (Vx L t st) + 1 ≤ Zt L st := by
 have h1 := is_deep L h
 have h2 := rem_deep L t st
 unfold Vx
 cases hd : deepS L t st with
 | ok a d =>
   rw [hd] at h1 h2
   have := rem_wanted L (h1 rfl)
   omega
 | bad F =>
   have h3 : 1 ≤ Zt L st := by have := rem_took L h; omega
   have : Zt L (Yu L t (.bad F)) ≤ 0 := Xx L t (.bad F)
   omega
variable (nk : Int)
theorem rem_filter (k : Nat) (s : St) : Zt L (Wj nk L k s).2 ≤ Zt L s := by
 unfold Wj
 split
 · exact Nat.le_trans (rem_sign L _) (Yy L _ _)
 · split
   · exact rem_name L s
   · exact Yy L _ _
theorem rem_filters : ∀ (n : Nat) (st : St), Zt L (Yr nk L n st).2 ≤ Zt L st
 | 0, st => Nat.le_refl _
 | n + 1, st => by
   unfold Yr
   split
   · exact Nat.le_refl _
   · exact Nat.le_trans (rem_filters n _) (Nat.le_trans (rem_filter L nk _ _) (Ut L _ _))
theorem rem_where (st : St) : Zt L (whereS L st) ≤ Zt L st := by
 unfold whereS
 split
 · exact Nat.le_trans (rem_int L _) (Nat.le_trans (Yy L _ _) (Yy L _ _))
 · exact Nat.le_trans (Yy L _ _) (Yy L _ _)
theorem Vw (n : Nat) (st : St) : Zt L (Yx nk L n st).2 ≤ Zt L st := by
 unfold Yx
 split
 · exact Nat.le_trans (Xx L _ _) (Nat.le_trans (Yy L _ _) (Nat.le_trans (rem_filters L nk n _) (Nat.le_trans (rem_where L _) (Yy L _ _))))
 · exact Yy L _ _
theorem rem_to (st : St) : Zt L (toS L st) ≤ Zt L st := by
 unfold toS
 split
 · exact Nat.le_trans (rem_int L _) (Yy L _ _)
 · exact Yy L _ _
theorem rem_exprs : ∀ n : Nat, (∀ st, Zt L (Zy nk L n st).2 ≤ Zt L st) ∧ (∀ x, Zt L (Uy nk L n x).2 ≤ Zt L x.2) ∧ (∀ st, Zt L (Ww nk L n st).2 ≤ Zt L st) ∧
   (∀ x, Zt L (Uu nk L n x).2 ≤ Zt L x.2) ∧ (∀ st, Zt L (Wt nk L n st).2 ≤ Zt L st) := by
 intro n
 induction n with
 | zero => exact ⟨fun _ => by simp [Zy], fun _ => by simp [Uy], fun _ => by simp [Ww], fun _ => by simp [Uu], fun _ => by simp [Wt]⟩
 | succ n ih =>
   obtain ⟨h1, h2, h3, h4, h5⟩ := ih
   refine ⟨fun st => ?_, fun x => ?_, fun st => ?_, fun x => ?_, fun st => ?_⟩
   · unfold Zy; exact Nat.le_trans (h2 _) (h3 _)
   · unfold Uy
     split
     · exact Nat.le_refl _
     · exact Nat.le_trans (h2 _) (Nat.le_trans (h3 _) (Ut L _ _))
   · unfold Ww; exact Nat.le_trans (h4 _) (h5 _)
   · unfold Uu
     split
     · exact Nat.le_trans (h4 _) (Nat.le_trans (h5 _) (rem_take L _ _))
     · exact Nat.le_refl _
   · unfold Wt
     split
     · exact Nat.le_trans (rem_rise L _ _) (Nat.le_trans (h1 _) (rem_down L _ _))
     · split
       · exact rem_sign L _
       · split
         · exact Nat.le_trans (Vw L nk n _) (Ut L _ _)
         · split
           · exact Ut L _ _
           · split
             · exact Nat.le_trans (Yy L _ _) (Ut L _ _)
             · exact Nat.le_trans (rem_to L _) (Nat.le_trans (Yy L _ _) (Ut L _ _))
theorem rem_expr (n : Nat) (st : St) : Zt L (Zy nk L n st).2 ≤ Zt L st := (rem_exprs L nk n).1 st
theorem rem_prod (n : Nat) (st : St) : Zt L (Ww nk L n st).2 ≤ Zt L st := (rem_exprs L nk n).2.2.1 st
theorem rem_fact (n : Nat) (st : St) : Zt L (Wt nk L n st).2 ≤ Zt L st := (rem_exprs L nk n).2.2.2.2 st
theorem rem_plain (n : Nat) (h : AH) (k : Nat) (st : St) : Zt L (Yd nk L n h k st).2 ≤ Zt L st := by
 unfold Yd
 split
 · exact Nat.le_trans (rem_expr L nk n _) (Vw L nk n _)
 · split
   · exact Vw L nk n _
   · split
     · exact Nat.le_trans (rem_to L _) (Vw L nk n _)
     · split
       · exact Nat.le_trans (rem_expr L nk n _) (Nat.le_trans (rem_to L _) (Nat.le_trans (Yy L _ _) (rem_name L _)))
       · split
         · exact Nat.le_trans (rem_expr L nk n _) (Yy L _ _)
         · split
           · exact Nat.le_trans (Yy L _ _) (Yy L _ _)
           · split
             · exact Nat.le_trans (rem_to L _) (Yy L _ _)
             · exact Nat.le_refl _
theorem rem_cond (n : Nat) (h : AH) (st : St) : Zt L (Xh nk L n h st).2 ≤ Zt L st :=
 Nat.le_trans (rem_expr L nk n _) (Nat.le_trans (Yy L _ _) (rem_expr L nk n _))
theorem rem_actss : ∀ n : Nat, (∀ st, Zt L (Xa nk L n st).2 ≤ Zt L st) ∧ (∀ h k st, Zt L (Wg nk L n h k st).st ≤ Zt L st) ∧ (∀ st, Zt L (Ym nk L n st).2 ≤ Zt L st) := by
 intro n
 induction n with
 | zero => exact ⟨fun _ => by simp [Xa], fun _ _ _ => by simp [Wg], fun _ => by simp [Ym]⟩
 | succ n ih =>
   obtain ⟨h1, h2, h3⟩ := ih
   refine ⟨fun st => ?_, fun h k st => ?_, fun st => ?_⟩
   · unfold Xa
     split
     · exact Nat.le_refl _
     · exact Nat.le_trans (h1 _) (Nat.le_trans (h2 _ _ _) (Ut L _ _))
   · unfold Wg
     split
     · split
       · exact Nat.le_trans (h3 _) (Nat.le_trans (rem_take L _ _) (Nat.le_trans (h3 _) (rem_cond L nk n h st)))
       · exact Nat.le_trans (h3 _) (rem_cond L nk n h st)
     · split
       · exact Nat.le_trans (h3 _) (Vw L nk n _)
       · exact Nat.le_trans (Xx L _ _) (rem_plain L nk n h k st)
   · unfold Ym
     exact Nat.le_trans (rem_rise L _ _) (Nat.le_trans (h1 _) (rem_down L _ _))
theorem rem_acts (n : Nat) (st : St) : Zt L (Xa nk L n st).2 ≤ Zt L st := (rem_actss L nk n).1 st
theorem rem_act (n : Nat) (h : AH) (k : Nat) (st : St) : Zt L (Wg nk L n h k st).st ≤ Zt L st := (rem_actss L nk n).2.1 h k st
theorem rem_block (n : Nat) (st : St) : Zt L (Ym nk L n st).2 ≤ Zt L st := (rem_actss L nk n).2.2 st
theorem rem_str (k : Nat) (s : St) : Zt L (strS L k s) ≤ Zt L s := by
 unfold strS
 split
 · exact rem_int L s
 · exact Nat.le_refl _
theorem rem_rules : ∀ (n : Nat) (st : St), Zt L (Wa nk L n st).2 ≤ Zt L st
 | 0, st => Nat.le_refl _
 | n + 1, st => by
   unfold Wa
   split
   · exact Nat.le_refl _
   · exact Nat.le_trans (rem_rules n _) (Nat.le_trans (Xx L _ _) (Nat.le_trans (rem_acts L nk n _) (Nat.le_trans (Xx L _ _) (Nat.le_trans (rem_str L _ _) (Ut L _ _)))))
theorem rem_body (n : Nat) (st : St) : Zt L (Vy nk L n st).2 ≤ Zt L st := Nat.le_trans (Xx L _ _) (Nat.le_trans (rem_rules L nk n _) (Xx L _ _))
theorem rem_card (n : Nat) (l c : Int) (st : St) : Zt L (Vd nk L n l c st).2 ≤ Zt L st :=
 Nat.le_trans (rem_body L nk n _) (Nat.le_trans (rem_sign L _) (Nat.le_trans (Xx L _ _) (Nat.le_trans (rem_int L _) (Nat.le_trans (Xx L _ _) (rem_name L _)))))
theorem rem_place (n : Nat) (l c : Int) (st : St) : Zt L (Wb nk L n l c st).2 ≤ Zt L st := Nat.le_trans (rem_body L nk n _) (rem_name L _)
end
end Go.Proofs.Ytgfkimknnbpmnaa
namespace Go.Proofs.Ytgfkimknnbpmnaa
open Go.ChangeShapes Go.WideShapes Go.ChangeAt Go.RowKit
set_option linter.unusedVariables false
set_option linter.unusedSimpArgs false
end Go.Proofs.Ytgfkimknnbpmnaa
