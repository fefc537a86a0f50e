/-
  Plain facts of cursors: the tokens of a text have one end, their last; where a cursor stands behind each call. No program, no conditions.
-/
import Derived.Test.YtnlnkjjegaihcaaTokAgain
namespace Go.Proofs.Ytnlnkjjegaihcaa
open Go
def zTok : TokV := ⟨0, ⟨#[]⟩, 0, 0, 0, 0⟩
/-- The token at a place. -/
def curT (L : List TokV) (a : Nat) : TokV := L[a]?.getD zTok
theorem curT_get (L : List TokV) (a : Nat) (h : a < L.length) : curT L a = L[a]'h := by unfold curT; rw [List.getElem?_eq_getElem h]; rfl
/-- Tokens with one end, the last. -/
structure Ends (L : List TokV) : Prop where
  pos : 0 < L.length
  last : ∀ i, i < L.length → ((curT L i).k = 0 ↔ i + 1 = L.length)
  num : ∀ i, 0 ≤ (curT L i).n ∧ (curT L i).n ≤ 99
theorem numOf_bd (l : List Int) : 0 ≤ numOf (tokL l).1 l ∧ numOf (tokL l).1 l ≤ 99 := by
  cases l with
  | nil => simp [tokL, numOf]
  | cons c r =>
    refine tokL_cases c r (fun x => 0 ≤ numOf x.1 (c :: r) ∧ numOf x.1 (c :: r) ≤ 99) ?_ ?_ ?_ ?_ ?_ ?_ ?_ ?_
    case refine_2 =>
      intro h1 h2 _
      have hd : ∀ x ∈ firstD (c :: r), 48 ≤ x ∧ x ≤ 57 := by
        intro x hx
        rw [firstD_tw] at hx
        exact (isD_iff x).1 (tw_take isD _ x hx)
      have hv := valL_nonneg _ hd
      have hl : (firstD (c :: r)).length ≤ 2 := by rw [tw_firstD]; exact h2
      have hp : (10 : Int) ^ (firstD (c :: r)).length ≤ 100 := by
        generalize (firstD (c :: r)).length = n at hl
        match n, hl with
        | 0, _ => decide
        | 1, _ => decide
        | 2, _ => decide
      show 0 ≤ numOf 2 (c :: r) ∧ numOf 2 (c :: r) ≤ 99
      unfold numOf
      rw [if_pos rfl]
      omega
    all_goals (intros; simp [numOf])
theorem curT_succ (v : TokV) (L : List TokV) (i : Nat) : curT (v :: L) (i + 1) = curT L i := by unfold curT; simp
theorem curT_zero (v : TokV) (L : List TokV) : curT (v :: L) 0 = v := by unfold curT; simp
theorem Sh.ends {L : List TokV} (h : Sh L) : Ends L := by
  induction h with
  | fin v hk ht hn =>
    refine ⟨by simp, fun i hi => ?_, fun i => ?_⟩
    · obtain rfl : i = 0 := by simp at hi; exact hi
      rw [curT_zero]; simp [hk]
    · cases i with
      | zero => rw [curT_zero, hn]; decide
      | succ i => rw [curT_succ]; simp [curT, zTok]
  | tok v L hg hL ih =>
    obtain ⟨l, g1, g2, g3, g4, g5, g6, g7⟩ := hg
    refine ⟨by simp, fun i hi => ?_, fun i => ?_⟩
    · cases i with
      | zero =>
        have := ih.pos
        rw [curT_zero, List.length_cons]
        constructor
        · intro h; omega
        · intro h; omega
      | succ i =>
        rw [curT_succ, List.length_cons]
        have := ih.last i (by simpa using hi)
        rw [this]; omega
    · cases i with
      | zero => rw [curT_zero, g5]; exact numOf_bd l
      | succ i => rw [curT_succ]; exact ih.num i
theorem Tr.len {s : ByteArray} {a : Nat} {L : List TokV} (h : Tr s a L) : L.length + a ≤ s.size + 1 := by
  induction h with
  | fin a ha => simp; omega
  | skip a b L hab _ ih => omega
  | tok a L ha hk _ _ ih =>
    have := tokL_adv s ha (by omega)
    rw [List.length_cons]; omega
/-- One token on. -/
def onA (L : List TokV) (a : Nat) : Nat := if (curT L a).k = 0 then a else a + 1
theorem Ends.on {L : List TokV} (h : Ends L) {a : Nat} (ha : a < L.length) : onA L a < L.length := by
  unfold onA
  split
  · exact ha
  · rename_i hk
    have : ¬ (a + 1 = L.length) := fun e => hk ((h.last a ha).2 e)
    omega
theorem Ends.on' {L : List TokV} (h : Ends L) {a : Nat} (ha : a < L.length) : onA L a = if (a : Int) < (L.length : Int) - 1 then a + 1 else a := by
  unfold onA
  have := h.last a ha
  split
  · rw [if_neg (by omega)]
  · rw [if_pos (by omega)]
/-- A word or a mark with that text. -/
def isT (v : TokV) (t : ByteArray) : Bool := (v.k == 1 || v.k == 4) && (v.t.toList == t.toList)
/-- What is wrong with a token: the fault. -/
def wrF (v : TokV) : Int × Nat × Nat := if v.k = 0 then (2, v.line, v.col) else (7, v.line, v.col)
def okF : Int × Nat × Nat := (0, 0, 0)
def minus : ByteArray := ⟨#[45]⟩
def wantA (L : List TokV) (a : Nat) (t : ByteArray) : Nat := if isT (curT L a) t = true then onA L a else a
def wantF (L : List TokV) (a : Nat) (t : ByteArray) : Int × Nat × Nat := if isT (curT L a) t = true then okF else wrF (curT L a)
/-- A token of a kind: where the cursor stands then, and the fault. -/
def kindA (L : List TokV) (a : Nat) (k : Int) : Nat := if (curT L a).k = k then onA L a else a
def kindF (L : List TokV) (a : Nat) (k : Int) : Int × Nat × Nat := if (curT L a).k = k then okF else wrF (curT L a)
def intV (L : List TokV) (a : Nat) : Int := if (curT L a).k = 2 then (curT L a).n else 0
def nameV (L : List TokV) (a : Nat) : ByteArray := if (curT L a).k = 3 then (curT L a).t else ⟨#[]⟩
/-- Signed: where the cursor stands then, the number, the fault. -/
def signA (L : List TokV) (a : Nat) : Nat := if isT (curT L a) minus = true then (if (curT L (onA L a)).k = 2 then onA L (onA L a) else a) else kindA L a 2
def signV (L : List TokV) (a : Nat) : Int := if isT (curT L a) minus = true then (if (curT L (onA L a)).k = 2 then - (curT L (onA L a)).n else 0) else intV L a
def signF (L : List TokV) (a : Nat) : Int × Nat × Nat := if isT (curT L a) minus = true then kindF L (onA L a) 2 else kindF L a 2
def downD (d : Nat) : Nat := if d = 8 then 8 else d + 1
def downF (L : List TokV) (a d : Nat) : Int × Nat × Nat := if d = 8 then (8, (curT L a).line, (curT L a).col) else okF
theorem wrF_ne (v : TokV) : (wrF v).1 ≠ 0 := by unfold wrF; split <;> simp
end Go.Proofs.Ytnlnkjjegaihcaa
