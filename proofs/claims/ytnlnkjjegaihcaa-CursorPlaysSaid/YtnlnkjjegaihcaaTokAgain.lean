/-
  Plain facts for the law 'again': what a scan's tokens are, in which order they stand; written with a blank behind each they are scanned as the same ones. No program, no conditions.
-/
import Derived.Test.YtnlnkjjegaihcaaTokScan
namespace Go.Proofs.Ytnlnkjjegaihcaa
open Go
/-- How a scan went on from a place: the tokens from there on. -/
inductive Tr (s : ByteArray) : Nat → List TokV → Prop
  | fin : ∀ a, a = s.size → Tr s a [endV s a]
  | skip : ∀ a b L, a < b → Tr s b L → Tr s a L
  | tok : ∀ a L, a < s.size → 0 < (tokL (restL s a)).1 → Bd s a → Tr s (a + (tokL (restL s a)).2.2.2) L → Tr s a (tokV s a :: L)
theorem scan_tr (s : ByteArray) : ∀ (b a : Nat) (acc L : List TokV) (E : Int) (p : Nat), s.size ≤ a + b → a ≤ s.size → Bd s a → scanA s a acc = (L, E, p) →
    (E = 0 → ∃ L', L = acc ++ L' ∧ Tr s a L') ∧ (E ≠ 0 → L = [] ∧ Bd s p)
  | 0, a, acc, L, E, p, h, h1, hB, hs => by
    rw [scanA_end s acc (by omega)] at hs
    injection hs with e1 e2
    injection e2 with e2 e3
    exact ⟨fun _ => ⟨_, e1.symm, Tr.fin a (by omega)⟩, fun c => absurd e2.symm c⟩
  | b + 1, a, acc, L, E, p, h, h1, hB, hs => by
    by_cases ha : a < s.size
    · cases hbl : isBl (gB s a : Int) with
      | true =>
        rw [scanA_blank s acc ha hbl] at hs
        obtain ⟨i1, i2⟩ := scan_tr s b (a + 1) acc L E p (by omega) (by omega) (Bd.behind ha (by rw [isBl_iff] at hbl; omega)) hs
        refine ⟨fun e => ?_, i2⟩
        obtain ⟨L', hL, ht⟩ := i1 e
        exact ⟨L', hL, Tr.skip a (a + 1) L' (by omega) ht⟩
      | false =>
        by_cases hk : (tokL (restL s a)).1 < -1
        · rw [scanA_err s acc ha hbl hk] at hs
          injection hs with e1 e2
          injection e2 with e2 e3
          refine ⟨fun c => ?_, fun _ => ⟨e1.symm, e3 ▸ hB⟩⟩
          have := errE_is (tokL (restL s a)).1
          omega
        · have hadv := tokL_adv s ha (by omega)
          by_cases hr : (tokL (restL s a)).1 = -1
          · rw [scanA_rem s acc ha hbl hr] at hs
            obtain ⟨i1, i2⟩ := scan_tr s b _ acc L E p (by omega) hadv.2 (rem_bd s ha hr) hs
            refine ⟨fun e => ?_, i2⟩
            obtain ⟨L', hL, ht⟩ := i1 e
            exact ⟨L', hL, Tr.skip a _ L' (by omega) ht⟩
          · have hpos : 0 < (tokL (restL s a)).1 := by
              have := (tokL_bd (restL s a) (restL_ne s ha)).2.2.2.2.1
              omega
            rw [scanA_tok s acc ha hbl hpos] at hs
            obtain ⟨i1, i2⟩ := scan_tr s b _ (acc ++ [tokV s a]) L E p (by omega) hadv.2 (tok_bd s ha hpos) hs
            refine ⟨fun e => ?_, i2⟩
            obtain ⟨L', hL, ht⟩ := i1 e
            exact ⟨tokV s a :: L', by rw [hL]; simp, Tr.tok a L' ha hpos hB ht⟩
    · exact scan_tr s 0 a acc L E p (by omega) h1 hB hs
/-- The tokens stand at rising places, each with its line and column. -/
theorem Tr.up {s : ByteArray} {a : Nat} {L : List TokV} (h : Tr s a L) :
    (∀ v ∈ L, a ≤ v.p ∧ Bd s v.p ∧ v.line = (placeOf s (v.p : Int)).1 ∧ v.col = (placeOf s (v.p : Int)).2) ∧ L.Pairwise (fun u v => u.p < v.p) := by
  induction h with
  | fin a ha =>
    subst ha
    refine ⟨fun v hv => ?_, by simp⟩
    simp at hv
    subst hv
    exact ⟨Nat.le_refl _, Bd.end_ s, rfl, rfl⟩
  | skip a b L hab _ ih => exact ⟨fun v hv => ⟨by have := (ih.1 v hv).1; omega, (ih.1 v hv).2⟩, ih.2⟩
  | tok a L ha hk hB _ ih =>
    have hadv := tokL_adv s ha (by omega)
    refine ⟨fun v hv => ?_, ?_⟩
    · rcases List.mem_cons.1 hv with rfl | hv
      · exact ⟨Nat.le_refl _, hB, rfl, rfl⟩
      · exact ⟨by have := (ih.1 v hv).1; omega, (ih.1 v hv).2⟩
    · rw [List.pairwise_cons]
      refine ⟨fun v hv => ?_, ih.2⟩
      have := (ih.1 v hv).1
      show a < v.p
      omega
theorem Tr.before {s : ByteArray} {a : Nat} {L : List TokV} (h : Tr s a L) {m : Nat} (hm : m + 1 < L.length) :
    (L[m]'(by omega)).line < (L[m + 1]'hm).line ∨ (L[m]'(by omega)).line = (L[m + 1]'hm).line ∧ (L[m]'(by omega)).col < (L[m + 1]'hm).col := by
  obtain ⟨h1, h2⟩ := h.up
  have hp := List.pairwise_iff_getElem.1 h2 m (m + 1) (by omega) hm (by omega)
  have u := h1 _ (List.getElem_mem (show m < L.length by omega))
  have v := h1 _ (List.getElem_mem hm)
  have := place_lt u.2.1 v.2.1 hp
  rw [u.2.2.1, u.2.2.2, v.2.2.1, v.2.2.2]
  exact this
/-- A token as it is written. -/
def txt (v : TokV) : List Int := if v.k = 3 then 34 :: (bL v.t ++ [34]) else bL v.t
def wrL (L : List TokV) : List Int := L.flatMap fun v => txt v ++ [32]
theorem wrL_cons (v : TokV) (L : List TokV) : wrL (v :: L) = txt v ++ 32 :: wrL L := by unfold wrL; simp
theorem wrL_snoc (v : TokV) (L : List TokV) : wrL (L ++ [v]) = wrL L ++ (txt v ++ [32]) := by unfold wrL; simp
/-- What 'first' tells of a list that begins with a whole token and a blank: the same. -/
theorem tok_same (l r : List Int) (h : 0 < (tokL l).1) : tokL (l.take (tokL l).2.2.2 ++ 32 :: r) = tokL l := by
  cases l with
  | nil => simp [tokL] at h
  | cons c m =>
    revert h
    refine tokL_cases c m (fun x => 0 < x.1 → tokL ((c :: m).take x.2.2.2 ++ 32 :: r) = x) ?_ ?_ ?_ ?_ ?_ ?_ ?_ ?_
    · intro hs _
      have hp := tw_piece isSm ((c :: m).take (tw isSm (c :: m))) 32 r (tw_take isSm (c :: m)) (by decide)
      have hle := tw_le isSm (c :: m)
      rw [List.length_take, Nat.min_eq_left hle] at hp
      have he : (c :: m).take (tw isSm (c :: m)) = c :: m.take (tw isSm m) := by rw [tw_cons m hs]; rfl
      dsimp only
      rw [he] at hp ⊢
      rw [List.cons_append] at hp ⊢
      rw [tokL_cons, if_pos hs, hp]
    · intro hs h2 h3 _
      have hsm : isSm c = false := by rw [isD_iff] at hs; rw [← Bool.not_eq_true, isSm_iff]; omega
      have hp := tw_piece isD ((c :: m).take (tw isD (c :: m))) 32 r (tw_take isD (c :: m)) (by decide)
      have hle := tw_le isD (c :: m)
      rw [List.length_take, Nat.min_eq_left hle] at hp
      have he : (c :: m).take (tw isD (c :: m)) = c :: m.take (tw isD m) := by rw [tw_cons m hs]; rfl
      dsimp only
      rw [he] at hp ⊢
      rw [List.cons_append] at hp ⊢
      rw [tokL_cons, if_neg (by rw [hsm]; simp), if_pos hs, hp, if_neg (by omega)]
    · intro _ _ h; simp at h
    · intro _ h; simp at h
    · intro hc hlt hnm _
      subst hc
      dsimp only
      rcases tw_end (notC 34) m with he | ⟨x, hx, hxp⟩
      · omega
      · have hx34 : x = 34 := by
          rcases Decidable.em (x = 34) with e | e
          · exact e
          · rw [(notC_iff 34 x).2 e] at hxp; cases hxp
        subst hx34
        obtain ⟨n, hn⟩ : ∃ n, tw (notC 34) m = n := ⟨_, rfl⟩
        have hall := tw_take (notC 34) m
        rw [hn] at hlt hnm hx hall ⊢
        have hm1 : m.take (n + 1) = m.take n ++ [34] := by rw [List.take_add_one, hx]; rfl
        have ht : (34 :: m).take (n + 2) ++ 32 :: r = 34 :: (m.take n ++ 34 :: (32 :: r)) := by
          rw [List.take_succ_cons, hm1]; simp
        have hp := tw_piece (notC 34) (m.take n) 34 (32 :: r) hall (by decide)
        rw [List.length_take, Nat.min_eq_left (by omega)] at hp
        have htk : (m.take n ++ 34 :: (32 :: r)).take n = m.take n := by
          rw [List.take_append_of_le_length (by rw [List.length_take]; omega), List.take_take, Nat.min_self]
        rw [ht, tokL_cons, if_neg (by decide), if_neg (by decide), if_neg (by decide), if_pos rfl, hp, htk, if_neg]
        rw [hnm]
        simp
        omega
    · intro _ _ h; simp at h
    · intro h1 h2 h3 h4 h5 _
      dsimp only
      have hmk : markL (c :: m) = 1 ∧ markL (c :: 32 :: r) = 1 ∨ markL (c :: m) = 2 ∧ ∃ d m', m = d :: m' ∧ markL (c :: d :: 32 :: r) = 2 := by
        rw [markL_cons] at h5 ⊢
        by_cases e1 : (c = 60 ∨ c = 62 ∨ c = 33) ∧ m.head? = some 61
        · rw [if_pos e1]
          cases m with
          | nil => simp at e1
          | cons d m' =>
            refine .inr ⟨rfl, d, m', rfl, ?_⟩
            rw [markL_cons, if_pos ⟨e1.1, by simpa using e1.2⟩]
        · rw [if_neg e1] at h5 ⊢
          by_cases e2 : c = 123 ∨ c = 125 ∨ c = 40 ∨ c = 41 ∨ c = 59 ∨ c = 43 ∨ c = 45 ∨ c = 42 ∨ c = 61 ∨ c = 60 ∨ c = 62
          · rw [if_pos e2]
            refine .inl ⟨rfl, ?_⟩
            rw [markL_cons, if_neg (by simp), if_pos e2]
          · rw [if_neg e2] at h5
            exact absurd rfl h5
      rcases hmk with ⟨q1, q2⟩ | ⟨q1, d, m', rfl, q2⟩
      · rw [q1]
        show tokL (c :: 32 :: r) = _
        rw [tokL_cons, if_neg (by rw [h1]; simp), if_neg (by rw [h2]; simp), if_neg h3, if_neg h4, q2]; rfl
      · rw [q1]
        show tokL (c :: d :: 32 :: r) = _
        rw [tokL_cons, if_neg (by rw [h1]; simp), if_neg (by rw [h2]; simp), if_neg h3, if_neg h4, q2]; rfl
    · intro _ _ _ _ _ h; simp at h
theorem name_no10 (X : List Int) (hX : ∀ x ∈ X, 0 ≤ x ∧ x < 256) (h : nameB (strOfNums X) = true) : ∀ x ∈ X, x ≠ 10 := by
  intro x hx h10
  subst h10
  obtain ⟨i, hi, he⟩ := List.mem_iff_getElem.1 hx
  have hz : (strOfNums X).size = X.length := strOfNums_size X
  have hb : bL (strOfNums X) = X := bL_str X hX
  have hg := bL_get (strOfNums X) i (by omega)
  rw [hb, List.getElem?_eq_getElem hi, he] at hg
  have hg10 : gB (strOfNums X) i = 10 := by
    have := Option.some.inj hg
    omega
  have hm := ascii_rune (strOfNums X) i (by omega) (by omega)
  rw [hg10] at hm
  unfold nameB at h
  simp only [Bool.and_eq_true] at h
  have hin := List.all_eq_true.1 h.1.1.2 _ hm
  simp [inNameB, letterB] at hin
/-- A token that can be scanned again. -/
def GoodT (v : TokV) : Prop := ∃ l : List Int, 0 < (tokL l).1 ∧ v.k = (tokL l).1 ∧ txt v = l.take (tokL l).2.2.2 ∧ v.t = strOfNums ((l.take (tokL l).2.2.1).drop (tokL l).2.1) ∧ v.n = numOf (tokL l).1 l ∧ (∀ x ∈ txt v, 0 ≤ x ∧ x < 256 ∧ x ≠ 10) ∧ (txt v).length = (tokL l).2.2.2
theorem tok_parts (l : List Int) (h : 0 < (tokL l).1) (hl : ∀ x ∈ l, 0 ≤ x ∧ x < 256) : (if (tokL l).1 = 3 then 34 :: ((l.take (tokL l).2.2.1).drop (tokL l).2.1 ++ [34]) else (l.take (tokL l).2.2.1).drop (tokL l).2.1) = l.take (tokL l).2.2.2 ∧ ∀ x ∈ l.take (tokL l).2.2.2, x ≠ 10 := by
  cases l with
  | nil => simp [tokL] at h
  | cons c m =>
    revert h
    refine tokL_cases c m (fun x => 0 < x.1 → (if x.1 = 3 then 34 :: (((c :: m).take x.2.2.1).drop x.2.1 ++ [34]) else ((c :: m).take x.2.2.1).drop x.2.1) = (c :: m).take x.2.2.2 ∧ ∀ y ∈ (c :: m).take x.2.2.2, y ≠ 10) ?_ ?_ ?_ ?_ ?_ ?_ ?_ ?_
    · intro hs _
      refine ⟨by rw [if_neg (by simp)]; rfl, fun y hy => ?_⟩
      have := tw_take isSm (c :: m) y hy
      rw [isSm_iff] at this; omega
    · intro hs h2 h3 _
      refine ⟨by rw [if_neg (by simp)]; rfl, fun y hy => ?_⟩
      have := tw_take isD (c :: m) y hy
      rw [isD_iff] at this; omega
    · intro _ _ h; simp at h
    · intro _ h; simp at h
    · intro hc hlt hnm _
      subst hc
      dsimp only
      rcases tw_end (notC 34) m with he | ⟨x, hx, hxp⟩
      · omega
      · have hx34 : x = 34 := by
          rcases Decidable.em (x = 34) with e | e
          · exact e
          · rw [(notC_iff 34 x).2 e] at hxp; cases hxp
        subst hx34
        have hn10 := name_no10 _ (fun y hy => hl y (List.mem_cons_of_mem _ (List.mem_of_mem_take hy))) hnm
        generalize tw (notC 34) m = n at *
        have hm1 : m.take (n + 1) = m.take n ++ [34] := by rw [List.take_add_one, hx]; rfl
        refine ⟨?_, ?_⟩
        · rw [if_pos rfl, List.take_succ_cons, List.take_succ_cons, List.drop_succ_cons, List.drop_zero, hm1]
        · intro y hy
          rw [List.take_succ_cons, hm1] at hy
          rcases List.mem_cons.1 hy with rfl | hy
          · decide
          · rcases List.mem_append.1 hy with hy | hy
            · exact hn10 y hy
            · simp at hy; omega
    · intro _ _ h; simp at h
    · intro h1 h2 h3 h4 h5 _
      refine ⟨by rw [if_neg (by simp)]; rfl, fun y hy => ?_⟩
      dsimp only at hy
      have hc : c ≠ 10 := by
        rintro rfl
        rw [markL_cons, if_neg (by simp), if_neg (by decide)] at h5
        exact h5 rfl
      rw [markL_cons] at hy
      split at hy
      · rename_i e1
        cases m with
        | nil => simp at e1
        | cons d m' =>
          have hd : d = 61 := by simpa using e1.2
          rcases List.mem_cons.1 hy with rfl | hy
          · exact hc
          · simp at hy; omega
      · split at hy
        · simp at hy; omega
        · simp at hy
    · intro _ _ _ _ _ h; simp at h
theorem good_tok (s : ByteArray) {a : Nat} (ha : a < s.size) (hk : 0 < (tokL (restL s a)).1) : GoodT (tokV s a) := by
  have hb := tokL_bd (restL s a) (restL_ne s ha)
  rw [restL_length] at hb
  have hrange : ∀ x ∈ restL s a, 0 ≤ x ∧ x < 256 := fun x hx => bL_bd s x (List.mem_of_mem_drop hx)
  obtain ⟨p1, p2⟩ := tok_parts (restL s a) hk hrange
  have ht : (tokV s a).t = strOfNums (((restL s a).take (tokL (restL s a)).2.2.1).drop (tokL (restL s a)).2.1) := by
    have e := extract_str s (a + (tokL (restL s a)).2.1) ((tokL (restL s a)).2.2.1 - (tokL (restL s a)).2.1) (by omega)
    rw [show a + (tokL (restL s a)).2.1 + ((tokL (restL s a)).2.2.1 - (tokL (restL s a)).2.1) = a + (tokL (restL s a)).2.2.1 from by omega] at e
    show s.extract _ _ = _
    rw [e, List.drop_take]
    unfold restL
    rw [List.drop_drop]
  have hx : txt (tokV s a) = (restL s a).take (tokL (restL s a)).2.2.2 := by
    have hbl : bL (tokV s a).t = ((restL s a).take (tokL (restL s a)).2.2.1).drop (tokL (restL s a)).2.1 := by
      rw [ht, bL_str _ (fun x hx => hrange x (List.mem_of_mem_take (List.mem_of_mem_drop hx)))]
    unfold txt
    rw [hbl, ← p1]; rfl
  refine ⟨restL s a, hk, rfl, hx, ht, rfl, fun x hxx => ?_, ?_⟩
  · rw [hx] at hxx
    have := hrange x (List.mem_of_mem_take hxx)
    exact ⟨this.1, this.2, p2 x hxx⟩
  · rw [hx, List.length_take, restL_length]; omega
/-- A row of good tokens, and the end. -/
inductive Sh : List TokV → Prop
  | fin : ∀ v : TokV, v.k = 0 → v.t = ⟨#[]⟩ → v.n = 0 → Sh [v]
  | tok : ∀ v L, GoodT v → Sh L → Sh (v :: L)
theorem Tr.sh {s : ByteArray} {a : Nat} {L : List TokV} (h : Tr s a L) : Sh L := by
  induction h with
  | fin a ha => exact Sh.fin _ rfl rfl rfl
  | skip _ _ _ _ _ ih => exact ih
  | tok a L ha hk _ _ ih => exact Sh.tok _ _ (good_tok s ha hk) ih
theorem Tr.size {s : ByteArray} {a : Nat} {L : List TokV} (h : Tr s a L) : (wrL L).length + 2 * a ≤ 2 * s.size + 1 := by
  induction h with
  | fin a ha =>
    subst ha
    have : wrL [endV s s.size] = [32] := by
      unfold wrL txt endV
      rfl
    rw [this]; simp; omega
  | skip a b L hab _ ih => omega
  | tok a L ha hk _ _ ih =>
    have hadv := tokL_adv s ha (by omega)
    have hlen : (txt (tokV s a)).length = (tokL (restL s a)).2.2.2 := by
      obtain ⟨l, g1, g2, g3, g4, g5, g6, g7⟩ := good_tok s ha hk
      have hrange : ∀ x ∈ restL s a, 0 ≤ x ∧ x < 256 := fun x hx => bL_bd s x (List.mem_of_mem_drop hx)
      obtain ⟨p1, _⟩ := tok_parts (restL s a) hk hrange
      have hb := tokL_bd (restL s a) (restL_ne s ha)
      rw [restL_length] at hb
      have e := congrArg List.length p1
      rw [List.length_take, restL_length, Nat.min_eq_left (by omega)] at e
      have hbl : (bL (tokV s a).t).length = (tokL (restL s a)).2.2.1 - (tokL (restL s a)).2.1 := by
        rw [bL_length]
        show (s.extract _ _).size = _
        rw [size_extract _ _ _ (by omega)]; omega
      rw [← e]
      unfold txt
      show (if (tokL (restL s a)).1 = 3 then _ else _ : List Int).length = _
      split
      · simp [hbl, restL_length]; omega
      · simp [hbl, restL_length]; omega
    rw [wrL_cons, List.length_append, List.length_cons, hlen]
    omega
theorem Sh.no10 {L : List TokV} (h : Sh L) : ∀ x ∈ wrL L, 0 ≤ x ∧ x < 256 ∧ x ≠ 10 := by
  induction h with
  | fin v h1 h2 h3 =>
    have : wrL [v] = [32] := by
      unfold wrL txt
      simp [h1, h2]; rfl
    rw [this]
    intro x hx
    simp at hx
    omega
  | tok v L hg _ ih =>
    obtain ⟨l, g1, g2, g3, g4, g5, g6, g7⟩ := hg
    intro x hx
    rw [wrL_cons] at hx
    rcases List.mem_append.1 hx with hx | hx
    · exact g6 x hx
    · rcases List.mem_cons.1 hx with rfl | hx
      · omega
      · exact ih x hx
/-- The same tokens, places apart, all on line 1. -/
def SimT (L M : List TokV) : Prop := L.length = M.length ∧ ∀ (i : Nat) (h : i < L.length) (h' : i < M.length), (M[i]'h').k = (L[i]'h).k ∧ (M[i]'h').t = (L[i]'h).t ∧ (M[i]'h').n = (L[i]'h).n ∧ (M[i]'h').line = 1
theorem SimT.cons {u v : TokV} {L M : List TokV} (h : SimT L M) (h1 : v.k = u.k) (h2 : v.t = u.t) (h3 : v.n = u.n) (h4 : v.line = 1) : SimT (u :: L) (v :: M) := by
  refine ⟨by simp [h.1], fun i hi hi' => ?_⟩
  cases i with
  | zero => exact ⟨h1, h2, h3, h4⟩
  | succ i => exact h.2 i (by simpa using hi) (by simpa using hi')
theorem tok_head (l : List Int) (h : 0 < (tokL l).1) : ∃ c r, l = c :: r ∧ isBl c = false := by
  cases l with
  | nil => simp [tokL] at h
  | cons c r =>
    refine ⟨c, r, rfl, ?_⟩
    rw [← Bool.not_eq_true]
    intro hb
    rw [isBl_iff] at hb
    have e : tokL (c :: r) = (-4, 0, 0, 0) := by
      rw [tokL_cons, if_neg (by rw [isSm_iff]; omega), if_neg (by rw [isD_iff]; omega), if_neg (by omega), if_neg (by omega), if_pos]
      rw [markL_cons, if_neg (by omega), if_neg (by omega)]
    rw [e] at h
    simp at h
theorem num_same (l r : List Int) (h : 0 < (tokL l).1) : numOf (tokL l).1 (l.take (tokL l).2.2.2 ++ 32 :: r) = numOf (tokL l).1 l := by
  unfold numOf
  by_cases h2 : (tokL l).1 = 2
  · rw [if_pos h2, if_pos h2]
    congr 1
    have hz : (tokL l).2.2.2 = tw isD l := by
      cases l with
      | nil => simp [tokL] at h
      | cons c m =>
        revert h2
        refine tokL_cases c m (fun x => x.1 = 2 → x.2.2.2 = tw isD (c :: m)) ?_ ?_ ?_ ?_ ?_ ?_ ?_ ?_
        · intro _ hh; simp at hh
        · intro _ _ _ _; rfl
        · intro _ _ hh; simp at hh
        · intro _ hh; simp at hh
        · intro _ _ _ hh; simp at hh
        · intro _ _ hh; simp at hh
        · intro _ _ _ _ _ hh; simp at hh
        · intro _ _ _ _ _ hh; simp at hh
    rw [hz]
    have hp := tw_piece isD (l.take (tw isD l)) 32 r (tw_take isD l) (by decide)
    have hle := tw_le isD l
    rw [List.length_take, Nat.min_eq_left hle] at hp
    rw [firstD_tw, firstD_tw, hp, List.take_append_of_le_length (by rw [List.length_take]; omega), List.take_take, Nat.min_self]
  · rw [if_neg h2, if_neg h2]
theorem again (t : ByteArray) (h10 : ∀ i, i < t.size → gB t i ≠ 10) : ∀ (L : List TokV), Sh L → ∀ (q : Nat) (acc : List TokV), Bd t q → restL t q = wrL L → ∃ M p, scanA t q acc = (acc ++ M, 0, p) ∧ SimT L M := by
  intro L hL
  induction hL with
  | fin v h1 h2 h3 =>
    intro q acc hB hr
    have e : wrL [v] = [32] := by
      unfold wrL txt
      simp [h1, h2]; rfl
    rw [e] at hr
    have hlen := congrArg List.length hr
    rw [restL_length] at hlen
    simp at hlen
    have hq : q < t.size := by omega
    have hc := restL_cons t hq
    rw [hr] at hc
    have hg : (gB t q : Int) = 32 := (List.cons.inj hc).1.symm
    refine ⟨[endV t (q + 1)], 0, ?_, ⟨rfl, fun i hi hi' => ?_⟩⟩
    · rw [scanA_blank t acc hq (by rw [isBl_iff]; omega), scanA_end t acc (by omega)]
    · have : i = 0 := by simpa using hi
      subst this
      refine ⟨h1.symm, h2.symm, h3.symm, ?_⟩
      exact place_line1 t h10 (i := q + 1) (by rw [show q + 1 = t.size from by omega]; exact Bd.end_ t)
  | tok v L hg _ ih =>
    intro q acc hB hr
    obtain ⟨l, g1, g2, g3, g4, g5, g6, g7⟩ := hg
    rw [wrL_cons, g3] at hr
    have hlen := congrArg List.length hr
    rw [restL_length, List.length_append, List.length_cons] at hlen
    have hq : q < t.size := by omega
    have hsame := tok_same l (wrL L) g1
    have hnum := num_same l (wrL L) g1
    rw [← hr] at hsame hnum
    obtain ⟨c, r, hcr, hcb⟩ := tok_head (restL t q) (by rw [hsame]; exact g1)
    have hc := restL_cons t hq
    rw [hcr] at hc
    have hgc : (gB t q : Int) = c := (List.cons.inj hc).1.symm
    have hk : 0 < (tokL (restL t q)).1 := by rw [hsame]; exact g1
    have hadv := tokL_adv t hq (by omega)
    have hz : (l.take (tokL l).2.2.2).length = (tokL l).2.2.2 := by rw [← g3, g7]
    have hr2 : restL t (q + (tokL l).2.2.2) = 32 :: wrL L := by
      rw [← restL_drop, hr, List.drop_append_of_le_length (by omega), List.drop_of_length_le (by omega), List.nil_append]
    have hlen2 := congrArg List.length hr2
    rw [restL_length, List.length_cons] at hlen2
    have hq2 : q + (tokL l).2.2.2 < t.size := by omega
    have hc2 := restL_cons t hq2
    rw [hr2] at hc2
    have hg2 : (gB t (q + (tokL l).2.2.2) : Int) = 32 := (List.cons.inj hc2).1.symm
    have hr3 : restL t (q + (tokL l).2.2.2 + 1) = wrL L := (List.cons.inj hc2).2.symm
    obtain ⟨M, p, hM, hS⟩ := ih (q + (tokL l).2.2.2 + 1) (acc ++ [tokV t q]) (Bd.behind hq2 (by omega)) hr3
    refine ⟨tokV t q :: M, p, ?_, hS.cons ?_ ?_ ?_ ?_⟩
    · rw [scanA_tok t acc hq (by rw [hgc]; exact hcb) hk, hsame, scanA_blank t _ hq2 (by rw [isBl_iff]; omega), hM]; simp
    · show (tokL (restL t q)).1 = _
      rw [hsame, g2]
    · have hgood := good_tok t hq hk
      have hb := tokL_bd (restL t q) (restL_ne t hq)
      rw [restL_length] at hb
      have e := extract_str t (q + (tokL (restL t q)).2.1) ((tokL (restL t q)).2.2.1 - (tokL (restL t q)).2.1) (by omega)
      rw [show q + (tokL (restL t q)).2.1 + ((tokL (restL t q)).2.2.1 - (tokL (restL t q)).2.1) = q + (tokL (restL t q)).2.2.1 from by omega] at e
      show t.extract _ _ = _
      rw [e, g4]
      have hd : (bL t).drop (q + (tokL (restL t q)).2.1) = (restL t q).drop (tokL (restL t q)).2.1 := by unfold restL; rw [List.drop_drop]
      rw [hd, ← List.drop_take, hsame]
      have hb2 : (tokL l).2.2.1 ≤ (tokL l).2.2.2 := by rw [← hsame]; omega
      rw [hr, List.take_append_of_le_length (by omega), List.take_take, Nat.min_eq_left hb2]
    · show numOf (tokL (restL t q)).1 (restL t q) = _
      rw [hsame, hnum, g5]
    · exact place_line1 t h10 hB
end Go.Proofs.Ytnlnkjjegaihcaa
