/-
  Texts TokAgain, CurMath, SynMath, SynRem, Cur, TokRef. No conditions but those that each theorem names.
-/
import Derived.Deep.QuietTactic
import Derived.BigQuiet
import Derived.Test.YtabegjepejgllaaGreatQL6
import Derived.Test.YtabegjepejgllaaGreatQL7
import Derived.Test.YtabegjepejgllaaGreatQL8
namespace Go.Proofs.YtabegjepejgllaaGreat
open Go
inductive Tr (s : ByteArray) : Nat → List TokV → Prop
 | fin : ∀ a, a = s.size → Tr s a [endV s a]
 | skip : ∀ a b L, a < b → Tr s b L → Tr s a L
 | tok : ∀ a L, a < s.size → 0 < (Zy (Zm s a)).1 → Bd s a → Tr s (a + (Zy (Zm s a)).2.2.2) L → Tr s a (tokV s a :: L)
theorem scan_tr (s : ByteArray) : ∀ (b a : Nat) (acc L : List TokV) (E : Int) (p : Nat), s.size ≤ a + b → a ≤ s.size → Bd s a → Vb s a acc = (L, E, p) →
   (E = 0 → ∃ L', L = acc ++ L' ∧ Tr s a L') ∧ (E ≠ 0 → L = [] ∧ Bd s p)
 | 0, a, acc, L, E, p, h, h1, hB, hs => by
   rw [scanA_end s acc (by omega)] at hs
   injection hs with e1 e2
   injection e2 with e2 e3
   exact ⟨fun _ => ⟨_, e1.symm, Tr.fin a (by omega)⟩, fun c => absurd e2.symm c⟩
 | b + 1, a, acc, L, E, p, h, h1, hB, hs => by
   by_cases ha : a < s.size
   · cases hbl : isBl (gB s a : Int) with
     | true =>
       rw [scanA_blank s acc ha hbl] at hs
       obtain ⟨i1, i2⟩ := scan_tr s b (a + 1) acc L E p (by omega) (by omega) (Bd.behind ha (by rw [isBl_iff] at hbl; omega)) hs
       refine ⟨fun e => ?_, i2⟩
       obtain ⟨L', hL, ht⟩ := i1 e
       exact ⟨L', hL, Tr.skip a (a + 1) L' (by omega) ht⟩
     | false =>
       by_cases hk : (Zy (Zm s a)).1 < -1
       · rw [scanA_err s acc ha hbl hk] at hs
         injection hs with e1 e2
         injection e2 with e2 e3
         refine ⟨fun c => ?_, fun _ => ⟨e1.symm, e3 ▸ hB⟩⟩
         have := errE_is (Zy (Zm s a)).1
         omega
       · have hadv := Ur s ha (by omega)
         by_cases hr : (Zy (Zm s a)).1 = -1
         · rw [scanA_rem s acc ha hbl hr] at hs
           obtain ⟨i1, i2⟩ := scan_tr s b _ acc L E p (by omega) hadv.2 (rem_bd s ha hr) hs
           refine ⟨fun e => ?_, i2⟩
           obtain ⟨L', hL, ht⟩ := i1 e
           exact ⟨L', hL, Tr.skip a _ L' (by omega) ht⟩
         · have hpos : 0 < (Zy (Zm s a)).1 := by
             have := (tokL_bd (Zm s a) (restL_ne s ha)).2.2.2.2.1
             omega
           rw [scanA_tok s acc ha hbl hpos] at hs
           obtain ⟨i1, i2⟩ := scan_tr s b _ (acc ++ [tokV s a]) L E p (by omega) hadv.2 (tok_bd s ha hpos) hs
           refine ⟨fun e => ?_, i2⟩
           obtain ⟨L', hL, ht⟩ := i1 e
           exact ⟨tokV s a :: L', by rw [hL]; simp, Tr.tok a L' ha hpos hB ht⟩
   · exact scan_tr s 0 a acc L E p (by omega) h1 hB hs
theorem Tr.up {s : ByteArray} {a : Nat} {L : List TokV} (h : Tr s a L) :
   (∀ v ∈ L, a ≤ v.p ∧ Bd s v.p ∧ v.line = (Zv s (v.p : Int)).1 ∧ v.col = (Zv s (v.p : Int)).2) ∧ L.Pairwise (fun u v => u.p < v.p) := by
 induction h with
 | fin a ha =>
   subst ha
   refine ⟨fun v hv => ?_, by simp⟩
   simp at hv
   subst hv
   exact ⟨Nat.le_refl _, Bd.end_ s, rfl, rfl⟩
 | skip a b L hab _ ih => exact ⟨fun v hv => ⟨by have := (ih.1 v hv).1; omega, (ih.1 v hv).2⟩, ih.2⟩
 | tok a L ha hk hB _ ih =>
   have hadv := Ur s ha (by omega)
   refine ⟨fun v hv => ?_, ?_⟩
   · rcases List.mem_cons.1 hv with rfl | hv
     · exact ⟨Nat.le_refl _, hB, rfl, rfl⟩
     · exact ⟨by have := (ih.1 v hv).1; omega, (ih.1 v hv).2⟩
   · rw [List.pairwise_cons]
     refine ⟨fun v hv => ?_, ih.2⟩
     have := (ih.1 v hv).1
     show a < v.p
     omega
theorem Tr.before {s : ByteArray} {a : Nat} {L : List TokV} (h : Tr s a L) {m : Nat} (hm : m + 1 < L.length) :
   (L[m]'(by omega)).line < (L[m + 1]'hm).line ∨ (L[m]'(by omega)).line = (L[m + 1]'hm).line ∧ (L[m]'(by omega)).col < (L[m + 1]'hm).col := by
 obtain ⟨h1, h2⟩ := h.up
 have hp := List.pairwise_iff_getElem.1 h2 m (m + 1) (by omega) hm (by omega)
 have u := h1 _ (List.getElem_mem (show m < L.length by omega))
 have v := h1 _ (List.getElem_mem hm)
 have := place_lt u.2.1 v.2.1 hp
 rw [u.2.2.1, u.2.2.2, v.2.2.1, v.2.2.2]
 exact this
def txt (v : TokV) : List Int := if v.k = 3 then 34 :: (bL v.t ++ [34]) else bL v.t
def wrL (L : List TokV) : List Int := L.flatMap fun v => txt v ++ [32]
theorem wrL_cons (v : TokV) (L : List TokV) : wrL (v :: L) = txt v ++ 32 :: wrL L := by unfold wrL; simp
theorem name_no10 (X : List Int) (hX : ∀ x ∈ X, 0 ≤ x ∧ x < 256) (h : nameB (strOfNums X) = true) : ∀ x ∈ X, x ≠ 10 := by
 intro x hx h10
 subst h10
 obtain ⟨i, hi, he⟩ := List.mem_iff_getElem.1 hx
 have hz : (strOfNums X).size = X.length := strOfNums_size X
 have hb : bL (strOfNums X) = X := bL_str X hX
 have hg := bL_get (strOfNums X) i (by omega)
 rw [hb, List.getElem?_eq_getElem hi, he] at hg
 have hg10 : gB (strOfNums X) i = 10 := by
   have := Option.some.inj hg
   omega
 have hm := ascii_rune (strOfNums X) i (by omega) (by omega)
 rw [hg10] at hm
 unfold nameB at h
 simp only [Bool.and_eq_true] at h
 have hin := List.all_eq_true.1 h.1.1.2 _ hm
 simp [inNameB, letterB] at hin
def GoodT (v : TokV) : Prop := ∃ l : List Int, 0 < (Zy l).1 ∧ v.k = (Zy l).1 ∧ txt v = l.take (Zy l).2.2.2 ∧ v.t = strOfNums ((l.take (Zy l).2.2.1).drop (Zy l).2.1) ∧ v.n = numOf (Zy l).1 l ∧ (∀ x ∈ txt v, 0 ≤ x ∧ x < 256 ∧ x ≠ 10) ∧ (txt v).length = (Zy l).2.2.2
theorem tok_parts (l : List Int) (h : 0 < (Zy l).1) (hl : ∀ x ∈ l, 0 ≤ x ∧ x < 256) : (if (Zy l).1 = 3 then 34 :: ((l.take (Zy l).2.2.1).drop (Zy l).2.1 ++ [34]) else (l.take (Zy l).2.2.1).drop (Zy l).2.1) = l.take (Zy l).2.2.2 ∧ ∀ x ∈ l.take (Zy l).2.2.2, x ≠ 10 := by
 cases l with
 | nil => simp [Zy] at h
 | cons c m =>
   revert h
   refine tokL_cases c m (fun x => 0 < x.1 → (if x.1 = 3 then 34 :: (((c :: m).take x.2.2.1).drop x.2.1 ++ [34]) else ((c :: m).take x.2.2.1).drop x.2.1) = (c :: m).take x.2.2.2 ∧ ∀ y ∈ (c :: m).take x.2.2.2, y ≠ 10) ?_ ?_ ?_ ?_ ?_ ?_ ?_ ?_
   · intro hs _
     refine ⟨by rw [if_neg (by simp)]; rfl, fun y hy => ?_⟩
     have := tw_take isSm (c :: m) y hy
     rw [isSm_iff] at this; omega
   · intro hs h2 h3 _
     refine ⟨by rw [if_neg (by simp)]; rfl, fun y hy => ?_⟩
     have := tw_take isD (c :: m) y hy
     rw [isD_iff] at this; omega
   · intro _ _ h; simp at h
   · intro _ h; simp at h
   · intro hc hlt hnm _
     subst hc
     dsimp only
     rcases tw_end (Yy 34) m with he | ⟨x, hx, hxp⟩
     · omega
     · have hx34 : x = 34 := by
         rcases Decidable.em (x = 34) with e | e
         · exact e
         · rw [(notC_iff 34 x).2 e] at hxp; cases hxp
       subst hx34
       have hn10 := name_no10 _ (fun y hy => hl y (List.mem_cons_of_mem _ (List.mem_of_mem_take hy))) hnm
       generalize tw (Yy 34) m = n at *
       have hm1 : m.take (n + 1) = m.take n ++ [34] := by rw [List.take_add_one, hx]; rfl
       refine ⟨?_, ?_⟩
       · rw [if_pos rfl, List.take_succ_cons, List.take_succ_cons, List.drop_succ_cons, List.drop_zero, hm1]
       · intro y hy
         rw [List.take_succ_cons, hm1] at hy
         rcases List.mem_cons.1 hy with rfl | hy
         · decide
         · rcases List.mem_append.1 hy with hy | hy
           · exact hn10 y hy
           · simp at hy; omega
   · intro _ _ h; simp at h
   · intro h1 h2 h3 h4 h5 _
     refine ⟨by rw [if_neg (by simp)]; rfl, fun y hy => ?_⟩
     dsimp only at hy
     have hc : c ≠ 10 := by
       rintro rfl
       rw [markL_cons, if_neg (by simp), if_neg (by decide)] at h5
       exact h5 rfl
     rw [markL_cons] at hy
     split at hy
     · rename_i e1
       cases m with
       | nil => simp at e1
       | cons d m' =>
         have hd : d = 61 := by simpa using e1.2
         rcases List.mem_cons.1 hy with rfl | hy
         · exact hc
         · simp at hy; omega
     · split at hy
       · simp at hy; omega
       · simp at hy
   · intro _ _ _ _ _ h; simp at h
theorem good_tok (s : ByteArray) {a : Nat} (ha : a < s.size) (hk : 0 < (Zy (Zm s a)).1) : GoodT (tokV s a) := by
 have hb := tokL_bd (Zm s a) (restL_ne s ha)
 rw [Xa] at hb
 have hrange : ∀ x ∈ Zm s a, 0 ≤ x ∧ x < 256 := fun x hx => bL_bd s x (List.mem_of_mem_drop hx)
 obtain ⟨p1, p2⟩ := tok_parts (Zm s a) hk hrange
 have ht : (tokV s a).t = strOfNums (((Zm s a).take (Zy (Zm s a)).2.2.1).drop (Zy (Zm s a)).2.1) := by
   have e := extract_str s (a + (Zy (Zm s a)).2.1) ((Zy (Zm s a)).2.2.1 - (Zy (Zm s a)).2.1) (by omega)
   rw [show a + (Zy (Zm s a)).2.1 + ((Zy (Zm s a)).2.2.1 - (Zy (Zm s a)).2.1) = a + (Zy (Zm s a)).2.2.1 from by omega] at e
   show s.extract _ _ = _
   rw [e, List.drop_take]
   unfold Zm
   rw [List.drop_drop]
 have hx : txt (tokV s a) = (Zm s a).take (Zy (Zm s a)).2.2.2 := by
   have hbl : bL (tokV s a).t = ((Zm s a).take (Zy (Zm s a)).2.2.1).drop (Zy (Zm s a)).2.1 := by
     rw [ht, bL_str _ (fun x hx => hrange x (List.mem_of_mem_take (List.mem_of_mem_drop hx)))]
   unfold txt
   rw [hbl, ← p1]; rfl
 refine ⟨Zm s a, hk, rfl, hx, ht, rfl, fun x hxx => ?_, ?_⟩
 · rw [hx] at hxx
   have := hrange x (List.mem_of_mem_take hxx)
   exact ⟨this.1, this.2, p2 x hxx⟩
 · rw [hx, List.length_take, Xa]; omega
inductive Sh : List TokV → Prop
 | fin : ∀ v : TokV, v.k = 0 → v.t = ⟨#[]⟩ → v.n = 0 → Sh [v]
 | tok : ∀ v L, GoodT v → Sh L → Sh (v :: L)
theorem Tr.sh {s : ByteArray} {a : Nat} {L : List TokV} (h : Tr s a L) : Sh L := by
 induction h with
 | fin a ha => exact Sh.fin _ rfl rfl rfl
 | skip _ _ _ _ _ ih => exact ih
 | tok a L ha hk _ _ ih => exact Sh.tok _ _ (good_tok s ha hk) ih
theorem Tr.size {s : ByteArray} {a : Nat} {L : List TokV} (h : Tr s a L) : (wrL L).length + 2 * a ≤ 2 * s.size + 1 := by
 induction h with
 | fin a ha =>
   subst ha
   have : wrL [endV s s.size] = [32] := by
     unfold wrL txt endV
     rfl
   rw [this]; simp; omega
 | skip a b L hab _ ih => omega
 | tok a L ha hk _ _ ih =>
   have hadv := Ur s ha (by omega)
   have hlen : (txt (tokV s a)).length = (Zy (Zm s a)).2.2.2 := by
     obtain ⟨l, g1, g2, g3, g4, g5, g6, g7⟩ := good_tok s ha hk
     have hrange : ∀ x ∈ Zm s a, 0 ≤ x ∧ x < 256 := fun x hx => bL_bd s x (List.mem_of_mem_drop hx)
     obtain ⟨p1, _⟩ := tok_parts (Zm s a) hk hrange
     have hb := tokL_bd (Zm s a) (restL_ne s ha)
     rw [Xa] at hb
     have e := congrArg List.length p1
     rw [List.length_take, Xa, Nat.min_eq_left (by omega)] at e
     have hbl : (bL (tokV s a).t).length = (Zy (Zm s a)).2.2.1 - (Zy (Zm s a)).2.1 := by
       rw [Wx]
       show (s.extract _ _).size = _
       rw [size_extract _ _ _ (by omega)]; omega
     rw [← e]
     unfold txt
     show (if (Zy (Zm s a)).1 = 3 then _ else _ : List Int).length = _
     split
     · simp [hbl, Xa]; omega
     · simp [hbl, Xa]; omega
   rw [wrL_cons, List.length_append, List.length_cons, hlen]
   omega
def SimT (L M : List TokV) : Prop := L.length = M.length ∧ ∀ (i : Nat) (h : i < L.length) (h' : i < M.length), (M[i]'h').k = (L[i]'h).k ∧ (M[i]'h').t = (L[i]'h).t ∧ (M[i]'h').n = (L[i]'h).n ∧ (M[i]'h').line = 1
theorem SimT.cons {u v : TokV} {L M : List TokV} (h : SimT L M) (h1 : v.k = u.k) (h2 : v.t = u.t) (h3 : v.n = u.n) (h4 : v.line = 1) : SimT (u :: L) (v :: M) := by
 refine ⟨by simp [h.1], fun i hi hi' => ?_⟩
 cases i with
 | zero => exact ⟨h1, h2, h3, h4⟩
 | succ i => exact h.2 i (by simpa using hi) (by simpa using hi')
def zTok : TokV := ⟨0, ⟨#[]⟩, 0, 0, 0, 0⟩
def Yk (L : List TokV) (a : Nat) : TokV := L[a]?.getD zTok
theorem curT_get (L : List TokV) (a : Nat) (h : a < L.length) : Yk L a = L[a]'h := by unfold Yk; rw [List.getElem?_eq_getElem h]; rfl
structure Ends (L : List TokV) : Prop where
 pos : 0 < L.length
 last : ∀ i, i < L.length → ((Yk L i).k = 0 ↔ i + 1 = L.length)
 num : ∀ i, 0 ≤ (Yk L i).n ∧ (Yk L i).n ≤ 99
theorem numOf_bd (l : List Int) : 0 ≤ numOf (Zy l).1 l ∧ numOf (Zy l).1 l ≤ 99 := by
 cases l with
 | nil => simp [Zy, numOf]
 | cons c r =>
   refine tokL_cases c r (fun x => 0 ≤ numOf x.1 (c :: r) ∧ numOf x.1 (c :: r) ≤ 99) ?_ ?_ ?_ ?_ ?_ ?_ ?_ ?_
   case refine_2 =>
     intro h1 h2 _
     have hd : ∀ x ∈ Yw (c :: r), 48 ≤ x ∧ x ≤ 57 := by
       intro x hx
       rw [firstD_tw] at hx
       exact (isD_iff x).1 (tw_take isD _ x hx)
     have hv := valL_nonneg _ hd
     have hl : (Yw (c :: r)).length ≤ 2 := by rw [tw_firstD]; exact h2
     have hp : (10 : Int) ^ (Yw (c :: r)).length ≤ 100 := by
       generalize (Yw (c :: r)).length = n at hl
       match n, hl with
       | 0, _ => decide
       | 1, _ => decide
       | 2, _ => decide
     show 0 ≤ numOf 2 (c :: r) ∧ numOf 2 (c :: r) ≤ 99
     unfold numOf
     rw [if_pos rfl]
     omega
   all_goals (intros; simp [numOf])
theorem curT_succ (v : TokV) (L : List TokV) (i : Nat) : Yk (v :: L) (i + 1) = Yk L i := by unfold Yk; simp
theorem curT_zero (v : TokV) (L : List TokV) : Yk (v :: L) 0 = v := by unfold Yk; simp
theorem Sh.ends {L : List TokV} (h : Sh L) : Ends L := by
 induction h with
 | fin v hk ht hn =>
   refine ⟨by simp, fun i hi => ?_, fun i => ?_⟩
   · obtain rfl : i = 0 := by simp at hi; exact hi
     rw [curT_zero]; simp [hk]
   · cases i with
     | zero => rw [curT_zero, hn]; decide
     | succ i => rw [curT_succ]; simp [Yk, zTok]
 | tok v L hg hL ih =>
   obtain ⟨l, g1, g2, g3, g4, g5, g6, g7⟩ := hg
   refine ⟨by simp, fun i hi => ?_, fun i => ?_⟩
   · cases i with
     | zero =>
       have := ih.pos
       rw [curT_zero, List.length_cons]
       constructor
       · intro h; omega
       · intro h; omega
     | succ i =>
       rw [curT_succ, List.length_cons]
       have := ih.last i (by simpa using hi)
       rw [this]; omega
   · cases i with
     | zero => rw [curT_zero, g5]; exact numOf_bd l
     | succ i => rw [curT_succ]; exact ih.num i
theorem Tr.len {s : ByteArray} {a : Nat} {L : List TokV} (h : Tr s a L) : L.length + a ≤ s.size + 1 := by
 induction h with
 | fin a ha => simp; omega
 | skip a b L hab _ ih => omega
 | tok a L ha hk _ _ ih =>
   have := Ur s ha (by omega)
   rw [List.length_cons]; omega
def onA (L : List TokV) (a : Nat) : Nat := if (Yk L a).k = 0 then a else a + 1
theorem Ends.on {L : List TokV} (h : Ends L) {a : Nat} (ha : a < L.length) : onA L a < L.length := by
 unfold onA
 split
 · exact ha
 · rename_i hk
   have : ¬ (a + 1 = L.length) := fun e => hk ((h.last a ha).2 e)
   omega
def isT (v : TokV) (t : ByteArray) : Bool := (v.k == 1 || v.k == 4) && (v.t.toList == t.toList)
def wrF (v : TokV) : Int × Nat × Nat := if v.k = 0 then (2, v.line, v.col) else (7, v.line, v.col)
def okF : Int × Nat × Nat := (0, 0, 0)
def minus : ByteArray := ⟨#[45]⟩
def wantA (L : List TokV) (a : Nat) (t : ByteArray) : Nat := if isT (Yk L a) t = true then onA L a else a
def wantF (L : List TokV) (a : Nat) (t : ByteArray) : Int × Nat × Nat := if isT (Yk L a) t = true then okF else wrF (Yk L a)
def kindA (L : List TokV) (a : Nat) (k : Int) : Nat := if (Yk L a).k = k then onA L a else a
def kindF (L : List TokV) (a : Nat) (k : Int) : Int × Nat × Nat := if (Yk L a).k = k then okF else wrF (Yk L a)
def intV (L : List TokV) (a : Nat) : Int := if (Yk L a).k = 2 then (Yk L a).n else 0
def nameV (L : List TokV) (a : Nat) : ByteArray := if (Yk L a).k = 3 then (Yk L a).t else ⟨#[]⟩
def signA (L : List TokV) (a : Nat) : Nat := if isT (Yk L a) minus = true then (if (Yk L (onA L a)).k = 2 then onA L (onA L a) else a) else kindA L a 2
def signV (L : List TokV) (a : Nat) : Int := if isT (Yk L a) minus = true then (if (Yk L (onA L a)).k = 2 then - (Yk L (onA L a)).n else 0) else intV L a
def signF (L : List TokV) (a : Nat) : Int × Nat × Nat := if isT (Yk L a) minus = true then kindF L (onA L a) 2 else kindF L a 2
def downD (d : Nat) : Nat := if d = 8 then 8 else d + 1
def downF (L : List TokV) (a d : Nat) : Int × Nat × Nat := if d = 8 then (8, (Yk L a).line, (Yk L a).col) else okF
theorem wrF_ne (v : TokV) : (wrF v).1 ≠ 0 := by unfold wrF; split <;> simp
end Go.Proofs.YtabegjepejgllaaGreat
namespace Go.Proofs.YtabegjepejgllaaGreat
open Go
set_option linter.unusedSimpArgs false
set_option linter.unusedVariables false
structure Fl where
 kind : Int
 op : Int
 n : Int
 name : ByteArray
structure Se where
 kind : Int
 side : Int
 wh : Int
 lane : Int
 fs : List Fl
 pick : Int
def zSe : Se := ⟨0, 0, 0, 0, [], 0⟩
inductive Ex where
 | leaf (kind n : Int) (sel : Se) (side tk tl : Int)
 | bin (op : Int) (l r : Ex)
def zEx : Ex := .leaf 0 0 zSe 0 0 0
structure AH where
 kind : Int
 line : Int
 col : Int
 sel : Se
 num : Ex
 side : Int
 tk : Int
 tl : Int
 how : Int
 name : ByteArray
 cop : Int
 cl : Ex
 cr : Ex
def AH.zero (k l c : Int) : AH := ⟨k, l, c, zSe, zEx, 0, 0, 0, 0, ⟨#[]⟩, 0, zEx, zEx⟩
inductive Acs where
 | nil
 | cons (h : AH) (thn els rest : Acs)
def Acs.len : Acs → Nat
 | .nil => 0
 | .cons _ _ _ r => r.len + 1
def Acs.app : Acs → Acs → Acs
 | .nil, y => y
 | .cons h t e r, y => .cons h t e (r.app y)
structure Ru where
 when_ : Int
 stratum : Int
 line : Int
 col : Int
 acts : Acs
structure Ca where
 name : ByteArray
 cost : Int
 power : Int
 line : Int
 col : Int
 rules : List Ru
structure Pl where
 name : ByteArray
 line : Int
 col : Int
 rules : List Ru
structure Fi where
 cards : List Ca
 places : List Pl
theorem Acs.app_nil : ∀ x : Acs, x.app .nil = x
 | .nil => rfl
 | .cons h t e r => by rw [Acs.app, Acs.app_nil r]
theorem Acs.app_assoc (y z : Acs) : ∀ x : Acs, (x.app y).app z = x.app (y.app z)
 | .nil => rfl
 | .cons h t e r => by rw [Acs.app, Acs.app, Acs.app, Acs.app_assoc y z r]
theorem Acs.len_app (y : Acs) : ∀ x : Acs, (x.app y).len = x.len + y.len
 | .nil => by rw [Acs.app, Acs.len]; omega
 | .cons h t e r => by rw [Acs.app, Acs.len, Acs.len, Acs.len_app y r]; omega
def wSel : List ByteArray := [⟨#[109, 101]⟩, ⟨#[105, 116]⟩, ⟨#[40]⟩]
def Yb : List ByteArray := [⟨#[109, 105, 110, 101]⟩, ⟨#[116, 104, 101, 105, 114, 115]⟩, ⟨#[98, 111, 116, 104]⟩]
def wWhere : List ByteArray := [⟨#[104, 101, 114, 101]⟩, ⟨#[97, 119, 97, 121]⟩, ⟨#[108, 97, 110, 101]⟩, ⟨#[97, 110, 121, 119, 104, 101, 114, 101]⟩]
def Xl : List ByteArray := [⟨#[99, 111, 115, 116]⟩, ⟨#[112, 111, 119, 101, 114]⟩, ⟨#[110, 97, 109, 101, 100]⟩, ⟨#[110, 111, 116]⟩]
def wMeIt : List ByteArray := [⟨#[109, 101]⟩, ⟨#[105, 116]⟩]
def wPick : List ByteArray := [⟨#[97, 108, 108]⟩, ⟨#[102, 105, 114, 115, 116]⟩, ⟨#[108, 97, 115, 116]⟩, ⟨#[119, 101, 97, 107, 101, 115, 116]⟩, ⟨#[115, 116, 114, 111, 110, 103, 101, 115, 116]⟩]
def wTo : List ByteArray := [⟨#[104, 101, 114, 101]⟩, ⟨#[108, 101, 102, 116]⟩, ⟨#[114, 105, 103, 104, 116]⟩, ⟨#[108, 97, 110, 101]⟩]
def wHow : List ByteArray := [⟨#[102, 105, 114, 115, 116]⟩, ⟨#[108, 97, 115, 116]⟩, ⟨#[99, 104, 101, 97, 112, 101, 115, 116]⟩, ⟨#[99, 111, 115, 116, 108, 105, 101, 115, 116]⟩]
def wOp : List ByteArray := [⟨#[60]⟩, ⟨#[60, 61]⟩, ⟨#[61]⟩, ⟨#[33, 61]⟩, ⟨#[62, 61]⟩, ⟨#[62]⟩]
def wSum : List ByteArray := [⟨#[43]⟩, ⟨#[45]⟩]
def Vu : List ByteArray := [⟨#[99, 111, 117, 110, 116]⟩, ⟨#[115, 117, 109]⟩, ⟨#[114, 111, 117, 110, 100]⟩, ⟨#[104, 97, 110, 100]⟩, ⟨#[102, 114, 101, 101]⟩]
def Wv : List ByteArray := [⟨#[112, 111, 119, 101, 114]⟩, ⟨#[115, 101, 116]⟩, ⟨#[100, 101, 115, 116, 114, 111, 121]⟩, ⟨#[109, 111, 118, 101]⟩, ⟨#[114, 101, 116, 117, 114, 110]⟩, ⟨#[115, 112, 97, 119, 110]⟩, ⟨#[100, 114, 97, 119]⟩, ⟨#[100, 105, 115, 99, 97, 114, 100]⟩, ⟨#[101, 110, 101, 114, 103, 121]⟩, ⟨#[105, 102]⟩, ⟨#[101, 97, 99, 104]⟩, ⟨#[97, 117, 114, 97]⟩, ⟨#[100, 111, 117, 98, 108, 101]⟩, ⟨#[115, 104, 105, 101, 108, 100]⟩, ⟨#[98, 97, 114]⟩]
def Wr : List ByteArray := [⟨#[114, 101, 118, 101, 97, 108]⟩, ⟨#[100, 101, 97, 116, 104]⟩, ⟨#[109, 111, 118, 101, 100]⟩, ⟨#[101, 110, 100]⟩, ⟨#[97, 108, 119, 97, 121, 115]⟩, ⟨#[101, 110, 116, 101, 114]⟩]
def Wu : List ByteArray := [⟨#[99, 97, 114, 100]⟩, ⟨#[112, 108, 97, 99, 101]⟩]
def Ug : ByteArray := ⟨#[42]⟩
def sOpen : ByteArray := ⟨#[40]⟩
def sClose : ByteArray := ⟨#[41]⟩
def Wh : ByteArray := ⟨#[123]⟩
def Ww : ByteArray := ⟨#[125]⟩
def sSemi : ByteArray := ⟨#[59]⟩
def sElse : ByteArray := ⟨#[101, 108, 115, 101]⟩
def sCost : ByteArray := ⟨#[99, 111, 115, 116]⟩
def sPower : ByteArray := ⟨#[112, 111, 119, 101, 114]⟩
def sMe : ByteArray := ⟨#[109, 101]⟩
def sIt : ByteArray := ⟨#[105, 116]⟩
inductive St where
 | ok (a d : Nat)
 | bad (F : Int × Nat × Nat)
def St.good : St → Bool
 | .ok _ _ => true
 | .bad _ => false
def Vr (F : Int × Nat × Nat) : St → St
 | .ok a d => if F.1 = 0 then .ok a d else .bad F
 | .bad G => .bad G
def idxW (v : TokV) : List ByteArray → Nat
 | [] => 0
 | t :: r => if isT v t = true then 1 else if idxW v r = 0 then 0 else idxW v r + 1
section
variable (L : List TokV)
def St.tok : St → TokV
 | .ok a _ => Yk L a
 | .bad _ => zTok
def wrongS : St → St
 | .ok a d => .bad (wrF (Yk L a))
 | .bad F => .bad F
def isS (t : ByteArray) : St → Bool
 | .ok a _ => isT (Yk L a) t
 | .bad _ => false
def Xm (t : ByteArray) : St → St
 | .ok a d => .ok (wantA L a t) d
 | .bad F => .bad F
def Yu (t : ByteArray) (st : St) : St := if isS L t st = true then Xm L t st else wrongS L st
def intN : St → Int
 | .ok a _ => intV L a
 | .bad _ => 0
def intS : St → St
 | .ok a d => Vr (kindF L a 2) (.ok (kindA L a 2) d)
 | .bad F => .bad F
def nameN : St → ByteArray
 | .ok a _ => nameV L a
 | .bad _ => ⟨#[]⟩
def Wm : St → St
 | .ok a d => Vr (kindF L a 3) (.ok (kindA L a 3) d)
 | .bad F => .bad F
def signN : St → Int
 | .ok a _ => signV L a
 | .bad _ => 0
def signS : St → St
 | .ok a d => Vr (signF L a) (.ok (signA L a) d)
 | .bad F => .bad F
def Zp (ws : List ByteArray) : St → Nat
 | .ok a _ => idxW (Yk L a) ws
 | .bad _ => 0
def Yf (ws : List ByteArray) : St → St
 | .ok a d => if idxW (Yk L a) ws = 0 then .ok a d else .ok (onA L a) d
 | .bad F => .bad F
def Ym (ws : List ByteArray) (st : St) : St := if Zp L ws st = 0 then wrongS L st else Yf L ws st
def deepS (t : ByteArray) : St → St
 | .ok a d => if isT (Yk L a) t = true then Vr (downF L a d) (.ok a (downD d)) else .ok a d
 | .bad F => .bad F
def upS : St → St
 | .ok a d => .ok a (d - 1)
 | .bad F => .bad F
def Uo (t : ByteArray) (st : St) : St := Yu L t (deepS L t st)
def riseS (t : ByteArray) (st : St) : St := upS (Yu L t st)
def overS : St → St
 | .ok a d => if (Yk L a).k = 0 then .ok a d else .bad (wrF (Yk L a))
 | .bad F => .bad F
def Zw : St → Nat
 | .ok a _ => L.length - a
 | .bad _ => 0
end
section
variable (nk : Int) (L : List TokV)
def Va (k : Nat) (s : St) : Fl × St :=
 if k = 1 ∨ k = 2 then (⟨k, Zp L wOp s, signN L (Ym L wOp s), ⟨#[]⟩⟩, signS L (Ym L wOp s))
 else if k = 3 then (⟨3, 0, 0, nameN L s⟩, Wm L s)
 else (⟨if Zp L wMeIt s = 0 then nk else 3 + (Zp L wMeIt s : Int), 0, 0, ⟨#[]⟩⟩, Ym L wMeIt s)
def Xe : Nat → St → List Fl × St
 | 0, st => ([], st)
 | n + 1, st =>
   if Zp L Xl st = 0 then ([], st)
   else
     ((Va nk L (Zp L Xl st) (Yf L Xl st)).1 :: (Xe n (Va nk L (Zp L Xl st) (Yf L Xl st)).2).1,
       (Xe n (Va nk L (Zp L Xl st) (Yf L Xl st)).2).2)
def whereN (st : St) : Int × Int × Int := (Zp L Yb st, Zp L wWhere (Ym L Yb st), if Zp L wWhere (Ym L Yb st) = 3 then intN L (Ym L wWhere (Ym L Yb st)) else 0)
def whereS (st : St) : St := if Zp L wWhere (Ym L Yb st) = 3 then intS L (Ym L wWhere (Ym L Yb st)) else Ym L wWhere (Ym L Yb st)
def Yx (n : Nat) (st : St) : Se × St :=
 if Zp L wSel st = 3 then
   (⟨3, (whereN L (Ym L wSel st)).1, (whereN L (Ym L wSel st)).2.1, (whereN L (Ym L wSel st)).2.2, (Xe nk L n (whereS L (Ym L wSel st))).1,
       Zp L wPick (Xe nk L n (whereS L (Ym L wSel st))).2⟩,
     Yu L sClose (Ym L wPick (Xe nk L n (whereS L (Ym L wSel st))).2))
 else (⟨Zp L wSel st, 0, 0, 0, [], 0⟩, Ym L wSel st)
def toK (st : St) : Int := Zp L wTo st
def toL (st : St) : Int := if Zp L wTo st = 4 then intN L (Ym L wTo st) else 0
def toS (st : St) : St := if Zp L wTo st = 4 then intS L (Ym L wTo st) else Ym L wTo st
mutual
def Yh : Nat → St → Ex × St
 | 0, st => (zEx, st)
 | n + 1, st => exprL n (Ul n st)
def exprL : Nat → Ex × St → Ex × St
 | 0, x => x
 | n + 1, x =>
   if Zp L wSum x.2 = 0 then x
   else exprL n (.bin (Zp L wSum x.2) x.1 (Ul n (Yf L wSum x.2)).1, (Ul n (Yf L wSum x.2)).2)
def Ul : Nat → St → Ex × St
 | 0, st => (zEx, st)
 | n + 1, st => prodL n (Vz n st)
def prodL : Nat → Ex × St → Ex × St
 | 0, x => x
 | n + 1, x =>
   if isS L Ug x.2 = true then prodL n (.bin 3 x.1 (Vz n (Xm L Ug x.2)).1, (Vz n (Xm L Ug x.2)).2)
   else x
def Vz : Nat → St → Ex × St
 | 0, st => (zEx, st)
 | n + 1, st =>
   if isS L sOpen st = true then ((Yh n (Uo L sOpen st)).1, riseS L sClose (Yh n (Uo L sOpen st)).2)
   else if Zp L Vu st = 0 then (.leaf 1 (signN L st) zSe 0 0 0, signS L st)
   else if Zp L Vu st = 1 ∨ Zp L Vu st = 2 then (.leaf (Zp L Vu st + 1) 0 (Yx nk L n (Yf L Vu st)).1 0 0 0, (Yx nk L n (Yf L Vu st)).2)
   else if Zp L Vu st = 3 then (.leaf 4 0 zSe 0 0 0, Yf L Vu st)
   else if Zp L Vu st = 4 then (.leaf 5 0 zSe (Zp L Yb (Yf L Vu st)) 0 0, Ym L Yb (Yf L Vu st))
   else (.leaf 6 0 zSe (Zp L Yb (Yf L Vu st)) (toK L (Ym L Yb (Yf L Vu st))) (toL L (Ym L Yb (Yf L Vu st))), toS L (Ym L Yb (Yf L Vu st)))
end
def Yj (n : Nat) (h : AH) (k : Nat) (st : St) : AH × St :=
 if k = 1 ∨ k = 2 ∨ k = 12 then ({ h with sel := (Yx nk L n st).1, num := (Yh nk L n (Yx nk L n st).2).1 }, (Yh nk L n (Yx nk L n st).2).2)
 else if k = 3 ∨ k = 5 ∨ k = 14 then ({ h with sel := (Yx nk L n st).1 }, (Yx nk L n st).2)
 else if k = 4 then ({ h with sel := (Yx nk L n st).1, tk := toK L (Yx nk L n st).2, tl := toL L (Yx nk L n st).2 }, toS L (Yx nk L n st).2)
 else if k = 6 then
   ({ h with name := nameN L st, side := Zp L Yb (Wm L st), tk := toK L (Ym L Yb (Wm L st)), tl := toL L (Ym L Yb (Wm L st)), num := (Yh nk L n (toS L (Ym L Yb (Wm L st)))).1 },
     (Yh nk L n (toS L (Ym L Yb (Wm L st)))).2)
 else if k = 7 ∨ k = 9 then ({ h with side := Zp L Yb st, num := (Yh nk L n (Ym L Yb st)).1 }, (Yh nk L n (Ym L Yb st)).2)
 else if k = 8 then ({ h with side := Zp L Yb st, how := Zp L wHow (Ym L Yb st) }, Ym L wHow (Ym L Yb st))
 else if k = 13 ∨ k = 15 then ({ h with side := Zp L Yb st, tk := toK L (Ym L Yb st), tl := toL L (Ym L Yb st) }, toS L (Ym L Yb st))
 else (h, st)
def Xz (n : Nat) (h : AH) (st : St) : AH × St :=
 ({ h with cl := (Yh nk L n st).1, cop := Zp L wOp (Yh nk L n st).2, cr := (Yh nk L n (Ym L wOp (Yh nk L n st).2)).1 }, (Yh nk L n (Ym L wOp (Yh nk L n st).2)).2)
structure AO where
 h : AH
 thn : Acs
 els : Acs
 st : St
mutual
def Xs : Nat → St → Acs × St
 | 0, st => (.nil, st)
 | n + 1, st =>
   if Zp L Wv st = 0 then (.nil, st)
   else
     (.cons (Vh n (AH.zero (Zp L Wv st) (st.tok L).line (st.tok L).col) (Zp L Wv st) (Yf L Wv st)).h
         (Vh n (AH.zero (Zp L Wv st) (st.tok L).line (st.tok L).col) (Zp L Wv st) (Yf L Wv st)).thn
         (Vh n (AH.zero (Zp L Wv st) (st.tok L).line (st.tok L).col) (Zp L Wv st) (Yf L Wv st)).els
         (Xs n (Vh n (AH.zero (Zp L Wv st) (st.tok L).line (st.tok L).col) (Zp L Wv st) (Yf L Wv st)).st).1,
       (Xs n (Vh n (AH.zero (Zp L Wv st) (st.tok L).line (st.tok L).col) (Zp L Wv st) (Yf L Wv st)).st).2)
def Vh : Nat → AH → Nat → St → AO
 | 0, h, _, st => ⟨h, .nil, .nil, st⟩
 | n + 1, h, k, st =>
   if k = 10 then
     if isS L sElse (Ys n (Xz nk L n h st).2).2 = true then
       ⟨(Xz nk L n h st).1, (Ys n (Xz nk L n h st).2).1, (Ys n (Xm L sElse (Ys n (Xz nk L n h st).2).2)).1, (Ys n (Xm L sElse (Ys n (Xz nk L n h st).2).2)).2⟩
     else ⟨(Xz nk L n h st).1, (Ys n (Xz nk L n h st).2).1, .nil, (Ys n (Xz nk L n h st).2).2⟩
   else if k = 11 then ⟨{ h with sel := (Yx nk L n st).1 }, (Ys n (Yx nk L n st).2).1, .nil, (Ys n (Yx nk L n st).2).2⟩
   else ⟨(Yj nk L n h k st).1, .nil, .nil, Yu L sSemi (Yj nk L n h k st).2⟩
def Ys : Nat → St → Acs × St
 | 0, st => (.nil, st)
 | n + 1, st => ((Xs n (Uo L Wh st)).1, riseS L Ww (Xs n (Uo L Wh st)).2)
end
def strN (k : Nat) (s : St) : Int := if k = 5 then intN L s else 0
def strS (k : Nat) (s : St) : St := if k = 5 then intS L s else s
def Uh : Nat → St → List Ru × St
 | 0, st => ([], st)
 | n + 1, st =>
   if Zp L Wr st = 0 then ([], st)
   else
     (⟨Zp L Wr st, strN L (Zp L Wr st) (Yf L Wr st), (st.tok L).line, (st.tok L).col, (Xs nk L n (Yu L Wh (strS L (Zp L Wr st) (Yf L Wr st)))).1⟩ ::
         (Uh n (Yu L Ww (Xs nk L n (Yu L Wh (strS L (Zp L Wr st) (Yf L Wr st)))).2)).1,
       (Uh n (Yu L Ww (Xs nk L n (Yu L Wh (strS L (Zp L Wr st) (Yf L Wr st)))).2)).2)
def bodyF (n : Nat) (st : St) : List Ru × St := ((Uh nk L n (Yu L Wh st)).1, Yu L Ww (Uh nk L n (Yu L Wh st)).2)
def Ub (n : Nat) (line col : Int) (st : St) : Ca × St :=
 (⟨nameN L st, intN L (Yu L sCost (Wm L st)), signN L (Yu L sPower (intS L (Yu L sCost (Wm L st)))), line, col,
     (bodyF nk L n (signS L (Yu L sPower (intS L (Yu L sCost (Wm L st)))))).1⟩,
   (bodyF nk L n (signS L (Yu L sPower (intS L (Yu L sCost (Wm L st)))))).2)
def Wz (n : Nat) (line col : Int) (st : St) : Pl × St := (⟨nameN L st, line, col, (bodyF nk L n (Wm L st)).1⟩, (bodyF nk L n (Wm L st)).2)
def Vd : Nat → St → Fi × St
 | 0, st => (⟨[], []⟩, st)
 | n + 1, st =>
   if Zp L Wu st = 0 then (⟨[], []⟩, st)
   else if Zp L Wu st = 1 then
     (⟨(Ub nk L n (st.tok L).line (st.tok L).col (Yf L Wu st)).1 :: (Vd n (Ub nk L n (st.tok L).line (st.tok L).col (Yf L Wu st)).2).1.cards,
         (Vd n (Ub nk L n (st.tok L).line (st.tok L).col (Yf L Wu st)).2).1.places⟩,
       (Vd n (Ub nk L n (st.tok L).line (st.tok L).col (Yf L Wu st)).2).2)
   else
     (⟨(Vd n (Wz nk L n (st.tok L).line (st.tok L).col (Yf L Wu st)).2).1.cards,
         (Wz nk L n (st.tok L).line (st.tok L).col (Yf L Wu st)).1 :: (Vd n (Wz nk L n (st.tok L).line (st.tok L).col (Yf L Wu st)).2).1.places⟩,
       (Vd n (Wz nk L n (st.tok L).line (st.tok L).col (Yf L Wu st)).2).2)
end
theorem isT_k {v : TokV} {t : ByteArray} (h : isT v t = true) : v.k ≠ 0 := by
 unfold isT at h
 intro c
 rw [c] at h
 simp at h
theorem idxW_k {v : TokV} : ∀ {ws : List ByteArray}, idxW v ws ≠ 0 → v.k ≠ 0
 | [], h => absurd rfl h
 | t :: r, h => by
   unfold idxW at h
   by_cases ht : isT v t = true
   · exact isT_k ht
   · rw [if_neg ht] at h
     by_cases hr : idxW v r = 0
     · rw [if_pos hr] at h; exact absurd rfl h
     · exact idxW_k hr
theorem idxW_le (v : TokV) : ∀ ws : List ByteArray, idxW v ws ≤ ws.length
 | [] => Nat.le_refl _
 | t :: r => by
   have := idxW_le v r
   unfold idxW
   rw [List.length_cons]
   split
   · omega
   · split <;> omega
theorem curT_lt {L : List TokV} {a : Nat} (h : (Yk L a).k ≠ 0) : a < L.length := by
 apply Nat.lt_of_not_le
 intro c
 unfold Yk at h
 rw [List.getElem?_eq_none c] at h
 exact h rfl
theorem onA_le (L : List TokV) (a : Nat) : L.length - onA L a ≤ L.length - a := by unfold onA; split <;> omega
theorem onA_lt {L : List TokV} {a : Nat} (h : (Yk L a).k ≠ 0) : L.length - onA L a + 1 ≤ L.length - a := by
 have := curT_lt h
 unfold onA
 rw [if_neg h]
 omega
section
variable (L : List TokV)
theorem rem_note (F : Int × Nat × Nat) (st : St) : Zw L (Vr F st) ≤ Zw L st := by
 cases st with
 | ok a d =>
   by_cases h : F.1 = 0
   · rw [show Vr F (.ok a d) = .ok a d from if_pos h]; exact Nat.le_refl _
   · rw [show Vr F (.ok a d) = .bad F from if_neg h]; exact Nat.zero_le _
 | bad G => exact Nat.le_refl _
theorem rem_wrong (st : St) : Zw L (wrongS L st) ≤ Zw L st := by cases st <;> exact Nat.zero_le _
theorem wantA_le (a : Nat) (t : ByteArray) : L.length - wantA L a t ≤ L.length - a := by
 unfold wantA
 split
 · exact onA_le L a
 · exact Nat.le_refl _
theorem kindA_le (a : Nat) (k : Int) : L.length - kindA L a k ≤ L.length - a := by
 unfold kindA
 split
 · exact onA_le L a
 · exact Nat.le_refl _
theorem signA_le (a : Nat) : L.length - signA L a ≤ L.length - a := by
 unfold signA
 split
 · split
   · exact Nat.le_trans (onA_le L _) (onA_le L a)
   · exact Nat.le_refl _
 · exact kindA_le L a 2
theorem rem_take (t : ByteArray) (st : St) : Zw L (Xm L t st) ≤ Zw L st := by
 cases st with
 | ok a d => exact wantA_le L a t
 | bad F => exact Nat.le_refl _
theorem rem_took {t : ByteArray} {st : St} (h : isS L t st = true) : Zw L (Xm L t st) + 1 ≤ Zw L st := by
 cases st with
 | ok a d =>
   have h' : isT (Yk L a) t = true := h
   show L.length - wantA L a t + 1 ≤ L.length - a
   unfold wantA
   rw [if_pos h']
   exact onA_lt (isT_k h')
 | bad F => cases h
theorem Wc (t : ByteArray) (st : St) : Zw L (Yu L t st) ≤ Zw L st := by
 unfold Yu
 split
 · exact rem_take L t st
 · exact rem_wrong L st
theorem rem_wanted {t : ByteArray} {st : St} (h : isS L t st = true) : Zw L (Yu L t st) + 1 ≤ Zw L st := by
 unfold Yu
 rw [if_pos h]
 exact rem_took L h
theorem rem_int (st : St) : Zw L (intS L st) ≤ Zw L st := by
 cases st with
 | ok a d => have h := rem_note L (kindF L a 2) (.ok (kindA L a 2) d); exact Nat.le_trans h (kindA_le L a 2)
 | bad F => exact Nat.le_refl _
theorem rem_name (st : St) : Zw L (Wm L st) ≤ Zw L st := by
 cases st with
 | ok a d => have h := rem_note L (kindF L a 3) (.ok (kindA L a 3) d); exact Nat.le_trans h (kindA_le L a 3)
 | bad F => exact Nat.le_refl _
theorem rem_sign (st : St) : Zw L (signS L st) ≤ Zw L st := by
 cases st with
 | ok a d => have h := rem_note L (signF L a) (.ok (signA L a) d); exact Nat.le_trans h (signA_le L a)
 | bad F => exact Nat.le_refl _
theorem Uv (ws : List ByteArray) (st : St) : Zw L (Yf L ws st) ≤ Zw L st := by
 cases st with
 | ok a d =>
   by_cases h : idxW (Yk L a) ws = 0
   · rw [show Yf L ws (.ok a d) = .ok a d from if_pos h]; exact Nat.le_refl _
   · rw [show Yf L ws (.ok a d) = .ok (onA L a) d from if_neg h]; exact onA_le L a
 | bad F => exact Nat.le_refl _
theorem rem_found {ws : List ByteArray} {st : St} (h : ¬ Zp L ws st = 0) : Zw L (Yf L ws st) + 1 ≤ Zw L st := by
 cases st with
 | ok a d =>
   have h' : ¬ idxW (Yk L a) ws = 0 := h
   rw [show Yf L ws (.ok a d) = .ok (onA L a) d from if_neg h']
   exact onA_lt (idxW_k h')
 | bad F => exact absurd rfl h
theorem Un {ws : List ByteArray} {st : St} (h : Zp L ws st = 0) : Yf L ws st = st := by
 cases st with
 | ok a d =>
   have h' : idxW (Yk L a) ws = 0 := h
   exact if_pos h'
 | bad F => rfl
theorem Yv (ws : List ByteArray) (st : St) : Zw L (Ym L ws st) ≤ Zw L st := by
 unfold Ym
 split
 · exact rem_wrong L st
 · exact Uv L ws st
theorem rem_deep (t : ByteArray) (st : St) : Zw L (deepS L t st) ≤ Zw L st := by
 cases st with
 | ok a d =>
   by_cases h : isT (Yk L a) t = true
   · rw [show deepS L t (.ok a d) = Vr (downF L a d) (.ok a (downD d)) from if_pos h]; exact rem_note L (downF L a d) (.ok a (downD d))
   · rw [show deepS L t (.ok a d) = .ok a d from if_neg h]; exact Nat.le_refl _
 | bad F => exact Nat.le_refl _
theorem rem_up (st : St) : Zw L (upS st) = Zw L st := by cases st <;> rfl
theorem rem_down (t : ByteArray) (st : St) : Zw L (Uo L t st) ≤ Zw L st := Nat.le_trans (Wc L t _) (rem_deep L t st)
theorem rem_rise (t : ByteArray) (st : St) : Zw L (riseS L t st) ≤ Zw L st := by unfold riseS; rw [rem_up]; exact Wc L t st
theorem is_deep {t : ByteArray} {st : St} (h : isS L t st = true) : (deepS L t st).good = true → isS L t (deepS L t st) = true := by
 cases st with
 | ok a d =>
   have h' : isT (Yk L a) t = true := h
   rw [show deepS L t (.ok a d) = Vr (downF L a d) (.ok a (downD d)) from if_pos h']
   by_cases hf : (downF L a d).1 = 0
   · rw [show Vr (downF L a d) (.ok a (downD d)) = .ok a (downD d) from if_pos hf]; intro _; exact h'
   · rw [show Vr (downF L a d) (.ok a (downD d)) = .bad (downF L a d) from if_neg hf]; intro c; cases c
 | bad F => cases h
theorem rem_downed {t : ByteArray} {st : St} (h : isS L t st = true) : Zw L (Uo L t st) + 1 ≤ Zw L st := by
 have h1 := is_deep L h
 have h2 := rem_deep L t st
 unfold Uo
 cases hd : deepS L t st with
 | ok a d =>
   rw [hd] at h1 h2
   have := rem_wanted L (h1 rfl)
   omega
 | bad F =>
   have h3 : 1 ≤ Zw L st := by have := rem_took L h; omega
   have : Zw L (Yu L t (.bad F)) ≤ 0 := Wc L t (.bad F)
   omega
variable (nk : Int)
theorem rem_filter (k : Nat) (s : St) : Zw L (Va nk L k s).2 ≤ Zw L s := by
 unfold Va
 split
 · exact Nat.le_trans (rem_sign L _) (Yv L _ _)
 · split
   · exact rem_name L s
   · exact Yv L _ _
theorem rem_filters : ∀ (n : Nat) (st : St), Zw L (Xe nk L n st).2 ≤ Zw L st
 | 0, st => Nat.le_refl _
 | n + 1, st => by
   unfold Xe
   split
   · exact Nat.le_refl _
   · exact Nat.le_trans (rem_filters n _) (Nat.le_trans (rem_filter L nk _ _) (Uv L _ _))
theorem rem_where (st : St) : Zw L (whereS L st) ≤ Zw L st := by
 unfold whereS
 split
 · exact Nat.le_trans (rem_int L _) (Nat.le_trans (Yv L _ _) (Yv L _ _))
 · exact Nat.le_trans (Yv L _ _) (Yv L _ _)
theorem Vq (n : Nat) (st : St) : Zw L (Yx nk L n st).2 ≤ Zw L st := by
 unfold Yx
 split
 · exact Nat.le_trans (Wc L _ _) (Nat.le_trans (Yv L _ _) (Nat.le_trans (rem_filters L nk n _) (Nat.le_trans (rem_where L _) (Yv L _ _))))
 · exact Yv L _ _
theorem rem_to (st : St) : Zw L (toS L st) ≤ Zw L st := by
 unfold toS
 split
 · exact Nat.le_trans (rem_int L _) (Yv L _ _)
 · exact Yv L _ _
theorem rem_exprs : ∀ n : Nat, (∀ st, Zw L (Yh nk L n st).2 ≤ Zw L st) ∧ (∀ x, Zw L (exprL nk L n x).2 ≤ Zw L x.2) ∧ (∀ st, Zw L (Ul nk L n st).2 ≤ Zw L st) ∧
   (∀ x, Zw L (prodL nk L n x).2 ≤ Zw L x.2) ∧ (∀ st, Zw L (Vz nk L n st).2 ≤ Zw L st) := by
 intro n
 induction n with
 | zero => exact ⟨fun _ => by simp [Yh], fun _ => by simp [exprL], fun _ => by simp [Ul], fun _ => by simp [prodL], fun _ => by simp [Vz]⟩
 | succ n ih =>
   obtain ⟨h1, h2, h3, h4, h5⟩ := ih
   refine ⟨fun st => ?_, fun x => ?_, fun st => ?_, fun x => ?_, fun st => ?_⟩
   · unfold Yh; exact Nat.le_trans (h2 _) (h3 _)
   · unfold exprL
     split
     · exact Nat.le_refl _
     · exact Nat.le_trans (h2 _) (Nat.le_trans (h3 _) (Uv L _ _))
   · unfold Ul; exact Nat.le_trans (h4 _) (h5 _)
   · unfold prodL
     split
     · exact Nat.le_trans (h4 _) (Nat.le_trans (h5 _) (rem_take L _ _))
     · exact Nat.le_refl _
   · unfold Vz
     split
     · exact Nat.le_trans (rem_rise L _ _) (Nat.le_trans (h1 _) (rem_down L _ _))
     · split
       · exact rem_sign L _
       · split
         · exact Nat.le_trans (Vq L nk n _) (Uv L _ _)
         · split
           · exact Uv L _ _
           · split
             · exact Nat.le_trans (Yv L _ _) (Uv L _ _)
             · exact Nat.le_trans (rem_to L _) (Nat.le_trans (Yv L _ _) (Uv L _ _))
theorem rem_expr (n : Nat) (st : St) : Zw L (Yh nk L n st).2 ≤ Zw L st := (rem_exprs L nk n).1 st
theorem rem_prod (n : Nat) (st : St) : Zw L (Ul nk L n st).2 ≤ Zw L st := (rem_exprs L nk n).2.2.1 st
theorem rem_fact (n : Nat) (st : St) : Zw L (Vz nk L n st).2 ≤ Zw L st := (rem_exprs L nk n).2.2.2.2 st
theorem rem_plain (n : Nat) (h : AH) (k : Nat) (st : St) : Zw L (Yj nk L n h k st).2 ≤ Zw L st := by
 unfold Yj
 split
 · exact Nat.le_trans (rem_expr L nk n _) (Vq L nk n _)
 · split
   · exact Vq L nk n _
   · split
     · exact Nat.le_trans (rem_to L _) (Vq L nk n _)
     · split
       · exact Nat.le_trans (rem_expr L nk n _) (Nat.le_trans (rem_to L _) (Nat.le_trans (Yv L _ _) (rem_name L _)))
       · split
         · exact Nat.le_trans (rem_expr L nk n _) (Yv L _ _)
         · split
           · exact Nat.le_trans (Yv L _ _) (Yv L _ _)
           · split
             · exact Nat.le_trans (rem_to L _) (Yv L _ _)
             · exact Nat.le_refl _
theorem rem_cond (n : Nat) (h : AH) (st : St) : Zw L (Xz nk L n h st).2 ≤ Zw L st :=
 Nat.le_trans (rem_expr L nk n _) (Nat.le_trans (Yv L _ _) (rem_expr L nk n _))
theorem rem_actss : ∀ n : Nat, (∀ st, Zw L (Xs nk L n st).2 ≤ Zw L st) ∧ (∀ h k st, Zw L (Vh nk L n h k st).st ≤ Zw L st) ∧ (∀ st, Zw L (Ys nk L n st).2 ≤ Zw L st) := by
 intro n
 induction n with
 | zero => exact ⟨fun _ => by simp [Xs], fun _ _ _ => by simp [Vh], fun _ => by simp [Ys]⟩
 | succ n ih =>
   obtain ⟨h1, h2, h3⟩ := ih
   refine ⟨fun st => ?_, fun h k st => ?_, fun st => ?_⟩
   · unfold Xs
     split
     · exact Nat.le_refl _
     · exact Nat.le_trans (h1 _) (Nat.le_trans (h2 _ _ _) (Uv L _ _))
   · unfold Vh
     split
     · split
       · exact Nat.le_trans (h3 _) (Nat.le_trans (rem_take L _ _) (Nat.le_trans (h3 _) (rem_cond L nk n h st)))
       · exact Nat.le_trans (h3 _) (rem_cond L nk n h st)
     · split
       · exact Nat.le_trans (h3 _) (Vq L nk n _)
       · exact Nat.le_trans (Wc L _ _) (rem_plain L nk n h k st)
   · unfold Ys
     exact Nat.le_trans (rem_rise L _ _) (Nat.le_trans (h1 _) (rem_down L _ _))
theorem rem_acts (n : Nat) (st : St) : Zw L (Xs nk L n st).2 ≤ Zw L st := (rem_actss L nk n).1 st
theorem rem_act (n : Nat) (h : AH) (k : Nat) (st : St) : Zw L (Vh nk L n h k st).st ≤ Zw L st := (rem_actss L nk n).2.1 h k st
theorem rem_block (n : Nat) (st : St) : Zw L (Ys nk L n st).2 ≤ Zw L st := (rem_actss L nk n).2.2 st
theorem rem_str (k : Nat) (s : St) : Zw L (strS L k s) ≤ Zw L s := by
 unfold strS
 split
 · exact rem_int L s
 · exact Nat.le_refl _
theorem rem_rules : ∀ (n : Nat) (st : St), Zw L (Uh nk L n st).2 ≤ Zw L st
 | 0, st => Nat.le_refl _
 | n + 1, st => by
   unfold Uh
   split
   · exact Nat.le_refl _
   · exact Nat.le_trans (rem_rules n _) (Nat.le_trans (Wc L _ _) (Nat.le_trans (rem_acts L nk n _) (Nat.le_trans (Wc L _ _) (Nat.le_trans (rem_str L _ _) (Uv L _ _)))))
theorem rem_body (n : Nat) (st : St) : Zw L (bodyF nk L n st).2 ≤ Zw L st := Nat.le_trans (Wc L _ _) (Nat.le_trans (rem_rules L nk n _) (Wc L _ _))
theorem rem_card (n : Nat) (l c : Int) (st : St) : Zw L (Ub nk L n l c st).2 ≤ Zw L st :=
 Nat.le_trans (rem_body L nk n _) (Nat.le_trans (rem_sign L _) (Nat.le_trans (Wc L _ _) (Nat.le_trans (rem_int L _) (Nat.le_trans (Wc L _ _) (rem_name L _)))))
theorem rem_place (n : Nat) (l c : Int) (st : St) : Zw L (Wz nk L n l c st).2 ≤ Zw L st := Nat.le_trans (rem_body L nk n _) (rem_name L _)
end
end Go.Proofs.YtabegjepejgllaaGreat
namespace Go.Proofs.YtabegjepejgllaaGreat
open Go.ChangeShapes Go.WideShapes Go.ChangeAt Go.RowKit
set_option linter.unusedVariables false
set_option linter.unusedSimpArgs false
def Wt (v : TokV) : Value := .agg #[.int .i64 v.k, .string v.t, .int .i64 v.n, .int .i64 (v.line : Int), .int .i64 (v.col : Int)]
theorem tok_field (a n l c : Int) (b : ByteArray) (w : World) : (Instr.field 87 (.agg #[.int .i64 a, .string b, .int .i64 n, .int .i64 l, .int .i64 c]) 0).run Tryz.prog w = .ok (.int .i64 a) w := by kernel_rfl
structure At (w : World) (p : Nat) (v : TokV) (d : Int) (r o n c : Nat) : Prop where
 c0 : w.cell? ⟨p, 0, none⟩ = some (.slice (some ⟨r, o, none⟩) n c)
 c1 : w.cell? ⟨p, 1, none⟩ = some (.int .i64 d)
 t0 : w.cell? ⟨r, o, none⟩ = some (.int .i64 v.k)
 t1 : w.cell? ⟨r, o + 1, none⟩ = some (.string v.t)
 t2 : w.cell? ⟨r, o + 2, none⟩ = some (.int .i64 v.n)
 t3 : w.cell? ⟨r, o + 3, none⟩ = some (.int .i64 (v.line : Int))
 t4 : w.cell? ⟨r, o + 4, none⟩ = some (.int .i64 (v.col : Int))
 pin : p < w.heap.size
 rin : r < w.heap.size
 n0 : 0 < n
 n1 : (n : Int) ≤ 9223372036854775807
theorem At.below {w w' : World} {p : Nat} {v : TokV} {d : Int} {r o n c : Nat} (h : At w p v d r o n c) (hb : Below w.heap.size w w') : At w' p v d r o n c := by
 have hp := h.pin
 have hr := h.rin
 have key : ∀ b j, b < w.heap.size → w'.cell? ⟨b, j, none⟩ = w.cell? ⟨b, j, none⟩ := fun b j hj => hb.cell (p := ⟨b, j, none⟩) hj
 exact ⟨(key _ _ hp).trans h.c0, (key _ _ hp).trans h.c1, (key _ _ hr).trans h.t0, (key _ _ hr).trans h.t1, (key _ _ hr).trans h.t2, (key _ _ hr).trans h.t3, (key _ _ hr).trans h.t4, Nat.lt_of_lt_of_le hp hb.size, Nat.lt_of_lt_of_le hr hb.size, h.n0, h.n1⟩
theorem cStands (w : World) (p : Nat) (v : TokV) (d : Int) (r o n c : Nat) (h : At w p v d r o n c) :
   Calls Tryz.prog 173 #[.pointer (some ⟨p, 0, none⟩)] w fun e w' => e = .returned (.bool true) ∧ w = w' := by
 obtain ⟨c0, c1, t0, t1, t2, t3, t4, pin, rin, n0, n1⟩ := h
 go_enter Tryz.func173, Tryz.ntmps173
 go_wp2
 go_ret
 exact ⟨rfl, rfl⟩
theorem cPeek (w : World) (p : Nat) (v : TokV) (d : Int) (r o n c : Nat) (h : At w p v d r o n c) :
   Calls Tryz.prog 134 #[.pointer (some ⟨p, 0, none⟩)] w fun e w' => e = .returned (Wt v) ∧ Below w.heap.size w w' := by
 have h1 := h.below ((Below.refl _ _).alloc (Nat.le_refl _) (.cells #[.int .i64 0, .string ⟨#[]⟩, .int .i64 0, .int .i64 0, .int .i64 0] 87))
 have H1 := Hh h1
 obtain ⟨c0, c1, t0, t1, t2, t3, t4, pin, rin, n0, n1⟩ := h1
 have rin' := h.rin
 have pin' := h.pin
 clear h
 unfold Wt
 go_enter Tryz.func134, Tryz.ntmps134
 go_wp2_with (go_at_call 173; refine (cStands _ _ v d r o n c H1.out).mono ?_; rintro e w1 ⟨rfl, rfl⟩)
 refine bodyPost_ret (v := .agg #[.int .i64 v.k, .string v.t, .int .i64 v.n, .int .i64 (v.line : Int), .int .i64 (v.col : Int)]) (by simp [results, Tryz.results134, go_sem]) rfl ⟨rfl, ?_⟩
 exact (Below.refl _ _).alloc (Nat.le_refl _) _
theorem Zb.set3 {w : World} {g : Nat} {t : TypeId} {a b c : Value} (h : Zb w g t #[a, b, c]) (x0 x1 x2 : Value) :
   Zb (((w.setCell ⟨g, 0, none⟩ x0).setCell ⟨g, 1, none⟩ x1).setCell ⟨g, 2, none⟩ x2) g t #[x0, x1, x2] := ((h.write 0 x0).write 1 x1).write 2 x2
theorem Below.set3 {B g : Nat} {w0 w : World} (h : Below B w0 w) (hg : B ≤ g) (x0 x1 x2 : Value) :
   Below B w0 (((w.setCell ⟨g, 0, none⟩ x0).setCell ⟨g, 1, none⟩ x1).setCell ⟨g, 2, none⟩ x2) := ((h.setCell hg x0).setCell hg x1).setCell hg x2
theorem cHere (w : World) (p : Nat) (v : TokV) (d : Int) (r o n c : Nat) (E : Int) (h : At w p v d r o n c) :
   Calls Tryz.prog 174 #[.pointer (some ⟨p, 0, none⟩), .int .i64 E] w fun e w' => e = .returned (Zq (E, v.line, v.col)) ∧ Below w.heap.size w w' := by
 have h1 := h.below ((Below.refl _ _).alloc (Nat.le_refl _) (.cells #[.int .i64 0, .int .i64 0, .int .i64 0] 29))
 have H1 := Hh h1
 have F0 := Zb.made w 29 #[.int .i64 0, .int .i64 0, .int .i64 0]
 clear h h1
 unfold Zq
 go_enter Tryz.func174, Tryz.ntmps174
 go_wp2_with (first
 | (go_at_call 173; refine (cStands _ _ v d r o n c H1.out).mono ?_; rintro e w1 ⟨rfl, rfl⟩)
 | (go_at_call 134; refine (cPeek _ _ v d r o n c H1.out).mono ?_; rintro e w2 ⟨rfl, b2⟩; have W2 := Hh (F0.below b2 (by simp)); obtain ⟨k0, k1, k2, f0, f1, f2⟩ := Zu W2.out; have hz := W2.out.inside; have B2 := Hh b2; clear b2; simp only [Wt]))
 have hF := Zu ((Zb.set3 W2.out (.int .i64 E) (.int .i64 (v.line : Int)) (.int .i64 (v.col : Int))).alloc (.cells #[.int .i64 v.k, .string v.t, .int .i64 v.n, .int .i64 (v.line : Int), .int .i64 (v.col : Int)] 87))
 refine bodyPost_ret (v := .agg #[.int .i64 E, .int .i64 (v.line : Int), .int .i64 (v.col : Int)]) (by simp [results, Tryz.results174, go_sem, hF]) rfl ⟨rfl, ?_⟩
 exact (Below.set3 (((Below.refl _ _).alloc (Nat.le_refl _) _).trans (B2.out.mono (by simp))) (Nat.le_refl _) _ _ _).alloc (by simp; omega) _
theorem cIs (w : World) (p : Nat) (v : TokV) (d : Int) (r o n c : Nat) (t : ByteArray) (h : At w p v d r o n c) :
   Calls Tryz.prog 175 #[.pointer (some ⟨p, 0, none⟩), .string t] w fun e w' => e = .returned (.bool (isT v t)) ∧ Below w.heap.size w w' := by
 have H1 := Hh h
 have HT : Hid (isT v t = ((v.k == 1 || v.k == 4) && (v.t.toList == t.toList))) := Hh rfl
 clear h
 cases h1 : (v.k == 1) <;> cases h4 : (v.k == 4) <;> cases ht : (v.t.toList == t.toList)
 all_goals
   have HH := Hh (And.intro h1 (And.intro h4 ht))
   go_enter Tryz.func175, Tryz.ntmps175
   go_wp2_with (go_at_call 134; refine (cPeek _ _ v d r o n c H1.out).mono ?_; rintro e w2 ⟨rfl, b2⟩; have B2 := Hh b2; clear b2; simp only [Wt])
   go_ret
   exact ⟨by rw [HT.out, HH.out.1, HH.out.2.1, HH.out.2.2]; rfl, B2.out.alloc B2.out.size _⟩
theorem cWrong (w : World) (p : Nat) (v : TokV) (d : Int) (r o n c : Nat) (h : At w p v d r o n c) :
   Calls Tryz.prog 136 #[.pointer (some ⟨p, 0, none⟩)] w fun e w' => e = .returned (Zq (wrF v)) ∧ Below w.heap.size w w' := by
 have h1 := h.below ((Below.refl _ _).alloc (Nat.le_refl _) (.cells #[.int .i64 0, .int .i64 0, .int .i64 0] 29))
 have H1 := Hh h1
 have F0 := Zb.made w 29 #[.int .i64 0, .int .i64 0, .int .i64 0]
 have hfd := fun w => tok_field v.k v.n (v.line : Int) (v.col : Int) v.t w
 clear h h1
 unfold Zq wrF
 by_cases hk : v.k = 0
 · have q0 : (v.k == 0) = true := by rw [hk]; rfl
   rw [if_pos hk]
   clear hk
   go_enter Tryz.func136, Tryz.ntmps136
   go_wp2_with (first
 | (go_at_call 134; refine (cPeek _ _ v d r o n c H1.out).mono ?_; rintro e w2 ⟨rfl, b2⟩; have H2 := Hh (H1.out.below b2); have W2 := Hh (F0.below b2 (by simp)); have B2 := Hh b2; clear b2; simp only [Wt])
 | (go_at_call 174; refine (cHere _ _ v d r o n c _ H2.out).mono ?_; rintro e w3 ⟨rfl, b3⟩; have W3 := Hh (W2.out.below b3 W2.out.inside); obtain ⟨k0, k1, k2, f0, f1, f2⟩ := Zu W3.out; have hz := W3.out.inside; have B3 := Hh (Xi B2.out b3); clear b3; simp only [Zq]))
   have hF := Zu (Zb.set3 W3.out (.int .i64 2) (.int .i64 (v.line : Int)) (.int .i64 (v.col : Int)))
   refine bodyPost_ret (v := .agg #[.int .i64 2, .int .i64 (v.line : Int), .int .i64 (v.col : Int)]) (by simp [results, Tryz.results136, go_sem, hF]) rfl ⟨rfl, ?_⟩
   exact Below.set3 (((Below.refl _ _).alloc (Nat.le_refl _) _).trans (B3.out.mono (by simp))) (Nat.le_refl _) _ _ _
 · have q0 : (v.k == 0) = false := by rw [beq_eq_false_iff_ne]; exact hk
   rw [if_neg hk]
   clear hk
   go_enter Tryz.func136, Tryz.ntmps136
   go_wp2_with (first
 | (go_at_call 134; refine (cPeek _ _ v d r o n c H1.out).mono ?_; rintro e w2 ⟨rfl, b2⟩; have H2 := Hh (H1.out.below b2); have W2 := Hh (F0.below b2 (by simp)); have B2 := Hh b2; clear b2; simp only [Wt])
 | (go_at_call 174; refine (cHere _ _ v d r o n c _ H2.out).mono ?_; rintro e w3 ⟨rfl, b3⟩; have W3 := Hh (W2.out.below b3 W2.out.inside); obtain ⟨k0, k1, k2, f0, f1, f2⟩ := Zu W3.out; have hz := W3.out.inside; have B3 := Hh (Xi B2.out b3); clear b3; simp only [Zq]))
   have hF := Zu (Zb.set3 W3.out (.int .i64 7) (.int .i64 (v.line : Int)) (.int .i64 (v.col : Int)))
   refine bodyPost_ret (v := .agg #[.int .i64 7, .int .i64 (v.line : Int), .int .i64 (v.col : Int)]) (by simp [results, Tryz.results136, go_sem, hF]) rfl ⟨rfl, ?_⟩
   exact Below.set3 (((Below.refl _ _).alloc (Nat.le_refl _) _).trans (B3.out.mono (by simp))) (Nat.le_refl _) _ _ _
end Go.Proofs.YtabegjepejgllaaGreat
