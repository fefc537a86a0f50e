/-
  The way back: what is written is read, what is read is written. No program, no conditions.
-/
import Derived.Test.YtnflahkpccfhaaaWireMath
import Derived.WalkKit
namespace Go.Proofs.Ytnflahkpccfhaaa
open Go
set_option linter.unusedVariables false
theorem and_low (n : Int) : 0 ≤ bits BinOp.and IntKind.i64 n 65535 ∧ bits BinOp.and IntKind.i64 n 65535 ≤ 65535 := by
  have h : (BitVec.ofInt 64 n &&& BitVec.ofInt 64 65535).toNat ≤ 65535 := by
    rw [BitVec.toNat_and]
    exact Nat.le_trans Nat.and_le_right (by decide)
  obtain ⟨m, hm⟩ : ∃ m, (BitVec.ofInt 64 n &&& BitVec.ofInt 64 65535).toNat = m := ⟨_, rfl⟩
  have e : bits BinOp.and IntKind.i64 n 65535 = IntKind.i64.wrap ((BitVec.ofInt 64 n &&& BitVec.ofInt 64 65535).toNat : Int) := rfl
  rw [e, hm]
  rw [hm] at h
  have e2 : IntKind.i64.wrap (m : Int) = m := by
    simp [IntKind.wrap, IntKind.bits, IntKind.signed]
    omega
  rw [e2]
  omega
def lowN (n : Int) : Int := bits BinOp.and IntKind.i64 n 65535
theorem lowN_bd (n : Int) : 0 ≤ lowN n ∧ lowN n ≤ 65535 := and_low n
/-- The bytes of one act. -/
def encV (k n : Int) (s : ByteArray) : List Int :=
  if k = 0 then bytesL (lowN n) else if k = 1 then signedL (lowN n - 30000) else if k = 2 then [if 0 < n then 1 else 0] else bytesL s.size ++ bL s
theorem encV_by (k n : Int) (s : ByteArray) : ∀ x ∈ encV k n s, 0 ≤ x ∧ x < 256 := by
  unfold encV
  split
  · exact bytesL_by _
  · split
    · exact signedL_by _
    · split
      · split <;> simp
      · intro x hx
        rcases List.mem_append.1 hx with hx | hx
        · exact bytesL_by _ x hx
        · exact bL_bd s x hx
theorem signedL_zig {n : Int} (h0 : -1073741824 ≤ n) (h1 : n ≤ 1073741823) : signedL n = encL (zig n).toNat := by
  have hz := zig_in h0 h1
  unfold signedL
  rw [if_pos ⟨h0, h1⟩, bytesL_in hz.1 hz.2]
theorem enc_ne (n : Nat) : encL n ≠ [] := fun c => by have := encL_len_pos n; rw [c] at this; simp at this
theorem bytesL_ne {n : Int} (h0 : 0 ≤ n) (h1 : n ≤ 2147483647) : bytesL n ≠ [] := by rw [bytesL_in h0 h1]; exact enc_ne _
theorem signedL_ne {n : Int} (h0 : -1073741824 ≤ n) (h1 : n ≤ 1073741823) : signedL n ≠ [] := by rw [signedL_zig h0 h1]; exact enc_ne _
/-- What is read at a place where a number's bytes stand. -/
theorem vtake_there {L P R : List Int} {n : Nat} (hL : ∀ x ∈ L, 0 ≤ x ∧ x < 256) (h : L = P ++ (encL n ++ R)) (hn : n ≤ 2147483647) :
    vtakeOf (strOfNums L) (P.length : Int) = ((n : Int), (P.length : Int) + ((encL n).length : Int), 0) := by
  have hz : (strOfNums L).size = L.length := strOfNums_size L
  have hl : L.length = P.length + ((encL n).length + R.length) := by rw [h]; simp
  have hd : (bL (strOfNums L)).drop (P.length : Int).toNat = encL n ++ R := by rw [bL_str L hL, h, Int.toNat_natCast]; simp
  have ht := takeP_enc n R hn
  rw [vtakeOf_ok _ _ (by omega) (by omega) (by rw [hd, ht]), hd, ht]
theorem read_num {L P R : List Int} {m most : Int} (hL : ∀ x ∈ L, 0 ≤ x ∧ x < 256) (h : L = P ++ (bytesL m ++ R)) (h0 : 0 ≤ m) (h1 : m ≤ most) (h2 : m ≤ 2147483647) :
    rnum (strOfNums L) (P.length : Int) 0 most = ((((P ++ bytesL m).length : Int), 0), m) := by
  rw [bytesL_in h0 h2] at h ⊢
  have hv := vtake_there hL h (by omega)
  rw [Int.toNat_of_nonneg h0] at hv
  unfold rnum
  rw [hv, if_pos rfl, if_pos rfl, if_neg (by omega)]
  simp
theorem read_sig {L P R : List Int} {n least most : Int} (hL : ∀ x ∈ L, 0 ≤ x ∧ x < 256) (h : L = P ++ (signedL n ++ R)) (h0 : -1073741824 ≤ n) (h1 : n ≤ 1073741823) (h2 : least ≤ n) (h3 : n ≤ most) :
    rsig (strOfNums L) (P.length : Int) 0 least most = ((((P ++ signedL n).length : Int), 0), n) := by
  have hz := zig_in h0 h1
  rw [signedL_zig h0 h1] at h ⊢
  have hv := vtake_there hL h (by omega)
  rw [Int.toNat_of_nonneg hz.1] at hv
  unfold rsig stakeOf
  rw [hv, if_pos rfl, if_pos rfl, if_pos rfl]
  simp only
  rw [zag_zig, if_neg (by omega)]
  simp
theorem read_bool {L P R : List Int} (b : Bool) (hL : ∀ x ∈ L, 0 ≤ x ∧ x < 256) (h : L = P ++ ([if b then 1 else 0] ++ R)) :
    rbool (strOfNums L) (P.length : Int) 0 = ((((P ++ [if b then (1 : Int) else 0]).length : Int), 0), b) := by
  have hz : (strOfNums L).size = L.length := strOfNums_size L
  have hl : L.length = P.length + (1 + R.length) := by rw [h]; simp; omega
  have hg : (gB (strOfNums L) P.length : Int) = if b then 1 else 0 := by
    have e := bL_get (strOfNums L) P.length (by omega)
    rw [bL_str L hL, show L[P.length]? = (P ++ ([if b then 1 else 0] ++ R))[P.length]? from by rw [← h]] at e
    simp only [List.singleton_append, List.getElem?_append_right (Nat.le_refl _), Nat.sub_self, List.getElem?_cons_zero] at e
    injection e with e
    exact e.symm
  have hne : ¬ (P.length : Int) = ((strOfNums L).size : Int) := by omega
  unfold rbool
  rw [if_pos rfl, if_neg hne, Int.toNat_natCast]
  cases b
  · have : gB (strOfNums L) P.length = 0 := by simpa using hg
    rw [this, if_pos (by omega)]; simp
  · have : gB (strOfNums L) P.length = 1 := by simp at hg; omega
    rw [this, if_pos (by omega)]; simp
theorem read_text {L P R : List Int} {st : ByteArray} {most : Int} (hL : ∀ x ∈ L, 0 ≤ x ∧ x < 256) (h : L = P ++ ((bytesL st.size ++ bL st) ++ R)) (h1 : (st.size : Int) ≤ most) (h2 : st.size ≤ 2147483647) :
    rtext (strOfNums L) (P.length : Int) 0 most = ((((P ++ (bytesL st.size ++ bL st)).length : Int), 0), st) := by
  have hn := read_num (P := P) (m := st.size) (most := most) (R := bL st ++ R) hL (by rw [h]; simp) (by omega) h1 (by omega)
  have hz : (strOfNums L).size = L.length := strOfNums_size L
  have hbl := bL_length st
  have hl : L.length = P.length + ((bytesL st.size).length + st.size + R.length) := by rw [h]; simp [hbl]; omega
  have hne : ¬ ((st.size : Int) > ((strOfNums L).size : Int) - (((P ++ bytesL st.size).length : Nat) : Int)) := by rw [hz, hl, List.length_append]; omega
  obtain ⟨p, hp⟩ : ∃ p : Nat, (P ++ bytesL (st.size : Int)).length = p := ⟨_, rfl⟩
  have hpl : p = P.length + (bytesL (st.size : Int)).length := by rw [← hp, List.length_append]
  rw [hp] at hn hne
  have hr := rtext_ok hn (show (((p : Int), (0 : Int)), (st.size : Int)).1.2 = 0 from rfl) hne
  simp only at hr
  rw [hr]
  have e := bL_extract (strOfNums L) p st.size (by omega)
  rw [bL_str L hL] at e
  have e2 : ((L.drop p).take st.size) = bL st := by
    rw [h, show P ++ (bytesL (st.size : Int) ++ bL st ++ R) = (P ++ bytesL (st.size : Int)) ++ (bL st ++ R) from by simp, ← hp, List.drop_left, ← hbl, List.take_left]
  rw [e2] at e
  have e3 : (strOfNums L).extract (p : Int).toNat ((p : Int) + (st.size : Int)).toNat = st := by
    rw [show (p : Int).toNat = p from by omega, show ((p : Int) + (st.size : Int)).toNat = p + st.size from by omega, ← str_bL ((strOfNums L).extract _ _), e, str_bL]
  rw [e3, show (((P ++ (bytesL (st.size : Int) ++ bL st)).length : Nat) : Int) = (p : Int) + (st.size : Int) from by simp only [List.length_append, hbl]; omega]
/-- What is read without an error stands in the bytes just as it is written again. -/
theorem num_back {s : ByteArray} {a E most a' n : Int} (h0 : 0 ≤ a) (h1 : a ≤ s.size) (h : rnum s a E most = ((a', 0), n)) :
    E = 0 ∧ 0 ≤ n ∧ n ≤ 2147483647 ∧ a ≤ a' ∧ a' ≤ s.size ∧ (bL s).take a.toNat ++ bytesL n = (bL s).take a'.toNat := by
  unfold rnum at h
  by_cases hE : E = 0
  · rw [if_pos hE] at h
    by_cases hc : (vtakeOf s a).2.2 = 0
    · rw [if_pos hc] at h
      by_cases hm : (vtakeOf s a).1 > most ∧ (vtakeOf s a).1 > 0
      · rw [if_pos hm] at h
        have := congrArg (fun x : (Int × Int) × Int => x.1.2) h
        simp at this
      · rw [if_neg hm] at h
        have e1 : (vtakeOf s a).2.1 = a' := congrArg (fun x : (Int × Int) × Int => x.1.1) h
        have e2 : (vtakeOf s a).1 = n := congrArg (fun x : (Int × Int) × Int => x.2) h
        by_cases hd : (takeP ((bL s).drop a.toNat)).2.2 = 0
        · have hb := takeP_back _ hd
          rw [vtakeOf_ok s a h0 h1 hd] at e1 e2
          simp only at e1 e2
          obtain ⟨b1, b2, b3, b4, b5, b6⟩ := hb
          rw [List.length_drop, bL_length] at b4
          rw [e2] at b1 b2 b6
          refine ⟨hE, b1, b2, by omega, by omega, ?_⟩
          rw [bytesL_in b1 b2, b6, show a'.toNat = a.toNat + (takeP ((bL s).drop a.toNat)).2.1 from by omega, List.take_add]
        · rw [vtakeOf_no s a h0 h1 hd] at hc
          exact absurd hc hd
    · rw [if_neg hc] at h
      have := congrArg (fun x : (Int × Int) × Int => x.1.2) h
      exact absurd this hc
  · rw [if_neg hE] at h
    have := congrArg (fun x : (Int × Int) × Int => x.1.2) h
    exact absurd this hE
theorem sig_back {s : ByteArray} {a E a' n : Int} (h0 : 0 ≤ a) (h1 : a ≤ s.size) (h : rsig s a E (-1073741824) 1073741823 = ((a', 0), n)) :
    E = 0 ∧ signedL n ≠ [] ∧ a ≤ a' ∧ a' ≤ s.size ∧ (bL s).take a.toNat ++ signedL n = (bL s).take a'.toNat := by
  unfold rsig at h
  by_cases hE : E = 0
  · rw [if_pos hE] at h
    by_cases hc : (stakeOf s a).2.2 = 0
    · rw [if_pos hc] at h
      by_cases hm : (stakeOf s a).1 < -1073741824 ∨ (stakeOf s a).1 > 1073741823
      · rw [if_pos hm] at h
        have := congrArg (fun x : (Int × Int) × Int => x.1.2) h
        simp at this
      · rw [if_neg hm] at h
        have e1 : (stakeOf s a).2.1 = a' := congrArg (fun x : (Int × Int) × Int => x.1.1) h
        have e2 : (stakeOf s a).1 = n := congrArg (fun x : (Int × Int) × Int => x.2) h
        rw [e2] at hm
        have hc2 : (vtakeOf s a).2.2 = 0 := by
          apply Classical.byContradiction
          intro c
          unfold stakeOf at hc
          rw [if_neg c] at hc
          exact c hc
        unfold stakeOf at e1 e2
        rw [if_pos hc2] at e1 e2
        simp only at e1 e2
        have hp := vplace s a h0 h1 hc2
        have hr : rnum s a E 2147483647 = (((vtakeOf s a).2.1, 0), (vtakeOf s a).1) := by
          unfold rnum
          rw [if_pos hE, if_pos hc2, if_neg (by omega)]
        obtain ⟨_, c1, c2, c3, c4, c5⟩ := num_back h0 h1 hr
        have hz : zig n = (vtakeOf s a).1 := by rw [← e2, zig_zag _ c1]
        have hs : signedL n = bytesL (vtakeOf s a).1 := by
          unfold signedL
          rw [if_pos (by omega), hz]
        rw [hs, e1] at *
        exact ⟨hE, bytesL_ne c1 c2, c3, c4, c5⟩
    · rw [if_neg hc] at h
      have := congrArg (fun x : (Int × Int) × Int => x.1.2) h
      exact absurd this hc
  · rw [if_neg hE] at h
    have := congrArg (fun x : (Int × Int) × Int => x.1.2) h
    exact absurd this hE
theorem bool_back {s : ByteArray} {a E a' : Int} {b : Bool} (h0 : 0 ≤ a) (h1 : a ≤ s.size) (h : rbool s a E = ((a', 0), b)) :
    E = 0 ∧ a ≤ a' ∧ a' ≤ s.size ∧ (bL s).take a.toNat ++ [if b then 1 else 0] = (bL s).take a'.toNat := by
  unfold rbool at h
  by_cases hE : E = 0
  · rw [if_pos hE] at h
    by_cases hl : a = s.size
    · rw [if_pos hl] at h
      have := congrArg (fun x : (Int × Int) × Bool => x.1.2) h
      simp at this
    · rw [if_neg hl] at h
      by_cases hg : gB s a.toNat ≤ 1
      · rw [if_pos hg] at h
        have e1 : a + 1 = a' := congrArg (fun x : (Int × Int) × Bool => x.1.1) h
        have e2 : decide (gB s a.toNat = 1) = b := congrArg (fun x : (Int × Int) × Bool => x.2) h
        refine ⟨hE, by omega, by omega, ?_⟩
        have hi : a.toNat < s.size := by omega
        rw [show a'.toNat = a.toNat + 1 from by omega, List.take_add_one, bL_get s a.toNat hi]
        congr 1
        subst e2
        by_cases hg1 : gB s a.toNat = 1
        · simp [hg1]
        · have : gB s a.toNat = 0 := by omega
          simp [this]
      · rw [if_neg hg] at h
        have := congrArg (fun x : (Int × Int) × Bool => x.1.2) h
        simp at this
  · rw [if_neg hE] at h
    have := congrArg (fun x : (Int × Int) × Bool => x.1.2) h
    exact absurd this hE
theorem text_back {s t : ByteArray} {a E most a' : Int} (h0 : 0 ≤ a) (h1 : a ≤ s.size) (h : rtext s a E most = ((a', 0), t)) :
    E = 0 ∧ bytesL t.size ≠ [] ∧ a ≤ a' ∧ a' ≤ s.size ∧ (bL s).take a.toNat ++ (bytesL t.size ++ bL t) = (bL s).take a'.toNat := by
  obtain ⟨x, hx⟩ : ∃ x, rnum s a E most = x := ⟨_, rfl⟩
  by_cases he : x.1.2 = 0
  · by_cases hf : x.2 > s.size - x.1.1
    · rw [rtext_far hx he hf] at h
      have := congrArg (fun x : (Int × Int) × ByteArray => x.1.2) h
      simp at this
    · rw [rtext_ok hx he hf] at h
      obtain ⟨⟨p, e⟩, n⟩ := x
      simp only at he hf h
      subst he
      obtain ⟨hE, c1, c2, c3, c4, c5⟩ := num_back h0 h1 hx
      have e1 : p + n = a' := congrArg (fun x : (Int × Int) × ByteArray => x.1.1) h
      have e2 : s.extract p.toNat (p + n).toNat = t := congrArg (fun x : (Int × Int) × ByteArray => x.2) h
      have hb := bL_extract s p.toNat n.toNat (by omega)
      rw [show p.toNat + n.toNat = (p + n).toNat from by omega, e2] at hb
      have hsz : (t.size : Int) = n := by
        have := bL_length t
        rw [hb, List.length_take, List.length_drop, bL_length] at this
        omega
      rw [hsz]
      refine ⟨hE, bytesL_ne c1 c2, by omega, by omega, ?_⟩
      rw [← List.append_assoc, c5, hb, show a'.toNat = p.toNat + n.toNat from by omega, List.take_add]
  · rw [rtext_err hx he] at h
    have := congrArg (fun x : (Int × Int) × ByteArray => x.1.2) h
    exact absurd this he
theorem rtext_size (s : ByteArray) (a E most : Int) : (rtext s a E most).2.size ≤ s.size := by
  unfold rtext
  split
  · split
    · simp
    · rw [ByteArray.size_extract]; omega
  · simp
/-- What the second writer has written while the reader has met no error. -/
def Sofar (s : ByteArray) (a E : Int) (q : Int × List Int) : Prop := E = 0 → q = (0, (bL s).take a.toNat)
theorem Sofar.put {s : ByteArray} {a E a' E' : Int} {q : Int × List Int} {m : List Int} (h : Sofar s a E q) (hb : E' = 0 → E = 0 ∧ m ≠ [] ∧ (bL s).take a.toNat ++ m = (bL s).take a'.toNat) : Sofar s a' E' (wput q m) := by
  intro he
  obtain ⟨h1, h2, h3⟩ := hb he
  rw [h h1, wput_ok rfl h2]
  simp only
  rw [h3]
theorem Sofar.text {s : ByteArray} {a E a' E' : Int} {q : Int × List Int} {m : List Int} (h : Sofar s a E q) (hb : E' = 0 → E = 0 ∧ bytesL m.length ≠ [] ∧ (bL s).take a.toNat ++ (bytesL m.length ++ m) = (bL s).take a'.toNat) : Sofar s a' E' (wtext q m) := by
  intro he
  obtain ⟨h1, h2, h3⟩ := hb he
  rw [h h1]
  unfold wtext
  rw [wput_ok rfl h2, wadd_ok _ rfl]
  simp only
  rw [← h3, List.append_assoc]
theorem rnum_bd {s : ByteArray} {a E most a' E' n : Int} (h0 : 0 ≤ a) (h1 : a ≤ s.size) (h : rnum s a E most = ((a', E'), n)) : 0 ≤ n ∧ n ≤ 2147483647 := by
  have e : (rnum s a E most).2 = n := by rw [h]
  rw [← e]
  by_cases hE : E = 0
  · subst hE
    rcases rnum_cases s a most h0 h1 with c | c
    · omega
    · exact c.2.2.2
  · rw [rnum_bad hE]
    exact ⟨by simp, by simp⟩
theorem rsig_bd {s : ByteArray} {a E a' E' n : Int} (h : rsig s a E (-1073741824) 1073741823 = ((a', E'), n)) : -1073741824 ≤ n ∧ n ≤ 1073741823 := by
  have e : (rsig s a E (-1073741824) 1073741823).2 = n := by rw [h]
  rw [← e]
  unfold rsig
  split
  · split
    · split
      · simp
      · simp only; omega
    · simp
  · simp
end Go.Proofs.Ytnflahkpccfhaaa
