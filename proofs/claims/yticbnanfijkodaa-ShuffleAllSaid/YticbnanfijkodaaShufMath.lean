/-
  The mathematics of layer 21: exchanges, shuffling by draws, the draws between two orders. No program, no conditions.
-/
namespace Go.Proofs.Yticbnanfijkodaa
set_option linter.unusedVariables false
set_option linter.unusedSimpArgs false
/-- The numbers at a and b exchanged. -/
def swp (l : List Int) (a b : Nat) : List Int := (l.set a (l.getD b 0)).set b (l.getD a 0)
theorem swp_len (l : List Int) (a b : Nat) : (swp l a b).length = l.length := by simp [swp]
theorem swp_get (l : List Int) (a b : Nat) (ha : a < l.length) (hb : b < l.length) (k : Nat) (hk : k < l.length) : (swp l a b).getD k 0 = if k = b then l.getD a 0 else if k = a then l.getD b 0 else l.getD k 0 := by
  unfold swp
  simp only [List.getD_eq_getElem?_getD, List.getElem?_set, List.length_set]
  by_cases h1 : b = k
  · subst h1; simp [hb]
  · have h1' : ¬ k = b := fun e => h1 e.symm
    by_cases h2 : a = k
    · subst h2; simp [ha, h1, h1']
    · have h2' : ¬ k = a := fun e => h2 e.symm
      simp [h1, h1', h2, h2']
theorem swp_perm (l : List Int) (a b : Nat) (ha : a < l.length) (hb : b < l.length) : (swp l a b).Perm l := by
  rw [List.perm_iff_count]
  intro x
  unfold swp
  have e1 : l.getD b 0 = l[b] := by rw [List.getD_eq_getElem?_getD, List.getElem?_eq_getElem hb]; rfl
  have e2 : l.getD a 0 = l[a] := by rw [List.getD_eq_getElem?_getD, List.getElem?_eq_getElem ha]; rfl
  rw [e1, e2, List.count_set (by simpa using hb), List.count_set ha]
  have e3 : (l.set a l[b])[b]'(by simpa using hb) = l[b] := by
    rw [List.getElem_set]; split <;> rfl
  rw [e3]
  have h1 : l[a] = x → 0 < l.count x := fun h => List.count_pos_iff.2 (h ▸ List.getElem_mem ha)
  have h2 : l[b] = x → 0 < l.count x := fun h => List.count_pos_iff.2 (h ▸ List.getElem_mem hb)
  by_cases q1 : l[a] = x <;> by_cases q2 : l[b] = x <;> simp [q1, q2] <;> (try have := h1 q1) <;> (try have := h2 q2) <;> omega
def aroundZ (n most : Int) : Int := if most < 1 then 0 else n % most
theorem aroundZ_bd {n most : Int} (h : 1 ≤ most) : 0 ≤ aroundZ n most ∧ aroundZ n most < most := by
  unfold aroundZ
  rw [if_neg (by omega)]
  exact ⟨Int.emod_nonneg _ (by omega), Int.emod_lt_of_pos _ (by omega)⟩
/-- After k exchanges: the k-th from the last one down. -/
def shufK (l ds : List Int) : Nat → List Int
  | 0 => l
  | k + 1 => swp (shufK l ds k) (l.length - 1 - k) (aroundZ (ds.getD k 0) ((l.length - 1 - k : Nat) + 1)).toNat
def shufL (l ds : List Int) : List Int := shufK l ds (l.length - 1)
theorem shufK_len (l ds : List Int) : ∀ k, (shufK l ds k).length = l.length
  | 0 => rfl
  | k + 1 => by unfold shufK; rw [swp_len, shufK_len l ds k]
theorem shufK_perm (l ds : List Int) : ∀ k, k + 1 ≤ l.length ∨ k = 0 → (shufK l ds k).Perm l
  | 0, _ => List.Perm.refl _
  | k + 1, h => by
    have hb := aroundZ_bd (n := ds.getD k 0) (most := ((l.length - 1 - k : Nat) : Int) + 1) (by omega)
    unfold shufK
    refine (swp_perm _ _ _ ?_ ?_).trans (shufK_perm l ds k (by omega))
    · rw [shufK_len]; omega
    · rw [shufK_len]; omega
theorem shufL_perm (l ds : List Int) : (shufL l ds).Perm l := shufK_perm l ds _ (by omega)
/-- The least index below i that holds x, else i. -/
def leastN (l : List Int) (x : Int) : Nat → Nat
  | 0 => 0
  | i + 1 => if leastN l x i < i then leastN l x i else if l.getD i 0 = x then i else i + 1
theorem leastN_spec (l : List Int) (x : Int) : ∀ i, leastN l x i ≤ i ∧ (∀ j, j < leastN l x i → l.getD j 0 ≠ x) ∧ (leastN l x i < i → l.getD (leastN l x i) 0 = x)
  | 0 => ⟨Nat.le_refl _, fun j h => by unfold leastN at h; omega, fun h => by unfold leastN at h; omega⟩
  | i + 1 => by
    obtain ⟨h1, h2, h3⟩ := leastN_spec l x i
    unfold leastN
    by_cases q : leastN l x i < i
    · rw [if_pos q]; exact ⟨by omega, h2, fun _ => h3 q⟩
    · rw [if_neg q]
      have e : leastN l x i = i := by omega
      rw [e] at h2
      by_cases p : l.getD i 0 = x
      · rw [if_pos p]; exact ⟨by omega, h2, fun _ => p⟩
      · rw [if_neg p]
        refine ⟨Nat.le_refl _, fun j hj => ?_, fun h => by omega⟩
        rcases Nat.lt_succ_iff_lt_or_eq.1 hj with h | rfl
        · exact h2 j h
        · exact p
/-- The list and the draws after k of them. -/
def drawK (l to : List Int) : Nat → List Int × List Int
  | 0 => (l, [])
  | k + 1 => (swp (drawK l to k).1 (l.length - 1 - k) (leastN (drawK l to k).1 (to.getD (l.length - 1 - k) 0) (l.length - 1 - k)),
      (drawK l to k).2 ++ [(leastN (drawK l to k).1 (to.getD (l.length - 1 - k) 0) (l.length - 1 - k) : Int)])
def drawL (l to : List Int) : List Int := (drawK l to (l.length - 1)).2
theorem drawK_len (l to : List Int) : ∀ k, (drawK l to k).1.length = l.length ∧ (drawK l to k).2.length = k
  | 0 => ⟨rfl, rfl⟩
  | k + 1 => by
    obtain ⟨h1, h2⟩ := drawK_len l to k
    unfold drawK
    exact ⟨by rw [swp_len]; exact h1, by rw [List.length_append, h2]; rfl⟩
theorem shufK_pre (l : List Int) {ds es : List Int} : ∀ k, (∀ j, j < k → ds.getD j 0 = es.getD j 0) → shufK l ds k = shufK l es k
  | 0, _ => rfl
  | k + 1, h => by
    unfold shufK
    rw [shufK_pre l k (fun j hj => h j (by omega)), h k (by omega)]
theorem around_small {j i : Nat} (h : j ≤ i) : (aroundZ (j : Int) ((i : Nat) + 1)).toNat = j := by
  unfold aroundZ
  rw [if_neg (by omega), Int.emod_eq_of_lt (by omega) (by omega)]
  omega
/-- What stands up to i is the same where what stands behind it is. -/
theorem front_perm {L to : List Int} (hp : L.Perm to) {i : Nat} (hi : i < L.length) (ha : ∀ j, i < j → j < L.length → L.getD j 0 = to.getD j 0) : (L.take (i + 1)).Perm (to.take (i + 1)) := by
  have hl := hp.length_eq
  have hd : L.drop (i + 1) = to.drop (i + 1) := by
    refine List.ext_getElem (by rw [List.length_drop, List.length_drop, hl]) fun j h1 h2 => ?_
    rw [List.length_drop] at h1 h2
    have := ha (i + 1 + j) (by omega) (by omega)
    rw [List.getD_eq_getElem?_getD, List.getD_eq_getElem?_getD, List.getElem?_eq_getElem (by omega), List.getElem?_eq_getElem (by omega)] at this
    rw [List.getElem_drop, List.getElem_drop]
    exact this
  have h1 := hp
  rw [← List.take_append_drop (i + 1) L, ← List.take_append_drop (i + 1) to, hd] at h1
  exact (List.perm_append_right_iff _).1 h1
theorem least_at {L to : List Int} (hp : L.Perm to) {i : Nat} (hi : i < L.length) (ha : ∀ j, i < j → j < L.length → L.getD j 0 = to.getD j 0) : L.getD (leastN L (to.getD i 0) i) 0 = to.getD i 0 := by
  obtain ⟨h1, h2, h3⟩ := leastN_spec L (to.getD i 0) i
  rcases Nat.lt_or_ge (leastN L (to.getD i 0) i) i with q | q
  · exact h3 q
  · have e : leastN L (to.getD i 0) i = i := by omega
    rw [e] at h2 ⊢
    have hm : to.getD i 0 ∈ L.take (i + 1) := by
      refine (front_perm hp hi ha).mem_iff.2 ?_
      have hl := hp.length_eq
      rw [List.mem_take_iff_getElem]
      refine ⟨i, by omega, ?_⟩
      rw [List.getD_eq_getElem?_getD, List.getElem?_eq_getElem (by omega)]
      rfl
    rw [List.mem_take_iff_getElem] at hm
    obtain ⟨j, hj, ej⟩ := hm
    have e2 : L.getD j 0 = to.getD i 0 := by rw [← ej, List.getD_eq_getElem?_getD, List.getElem?_eq_getElem (by omega)]; rfl
    rcases Nat.lt_or_ge j i with r | r
    · exact absurd e2 (h2 j r)
    · have : j = i := by omega
      rw [← this]
      exact this ▸ e2
theorem drawK_perm (l to : List Int) : ∀ k, k + 1 ≤ l.length ∨ k = 0 → (drawK l to k).1.Perm l
  | 0, _ => List.Perm.refl _
  | k + 1, h => by
    have h1 := (leastN_spec (drawK l to k).1 (to.getD (l.length - 1 - k) 0) (l.length - 1 - k)).1
    have h2 := (drawK_len l to k).1
    unfold drawK
    exact (swp_perm _ _ _ (by omega) (by omega)).trans (drawK_perm l to k (by omega))
/-- Behind the places already settled both lists are alike. -/
theorem drawK_at (l to : List Int) (hp : l.Perm to) : ∀ k, k + 1 ≤ l.length ∨ k = 0 → ∀ j, l.length - 1 - k < j → j < l.length → (drawK l to k).1.getD j 0 = to.getD j 0
  | 0, _, j, h1, h2 => by omega
  | k + 1, h, j, h1, h2 => by
    have hl := (drawK_len l to k).1
    have hs := (leastN_spec (drawK l to k).1 (to.getD (l.length - 1 - k) 0) (l.length - 1 - k)).1
    have hat := least_at ((drawK_perm l to k (by omega)).trans hp) (i := l.length - 1 - k) (by omega) (fun j h1 h2 => drawK_at l to hp k (by omega) j h1 (by omega))
    unfold drawK
    rw [swp_get _ _ _ (by omega) (by omega) j (by omega)]
    by_cases e1 : j = leastN (drawK l to k).1 (to.getD (l.length - 1 - k) 0) (l.length - 1 - k)
    · rw [if_pos e1]
      have e2 : j = l.length - 1 - k := by omega
      rw [← e2] at hat ⊢
      rw [← e2] at e1
      rw [← e1] at hat
      exact hat
    · rw [if_neg e1]
      by_cases e2 : j = l.length - 1 - k
      · rw [if_pos e2, e2]; exact hat
      · rw [if_neg e2]; exact drawK_at l to hp k (by omega) j (by omega) h2
theorem drawK_snd (l to : List Int) (k : Nat) : (drawK l to (k + 1)).2 = (drawK l to k).2 ++ [(leastN (drawK l to k).1 (to.getD (l.length - 1 - k) 0) (l.length - 1 - k) : Int)] := rfl
theorem draw_shuf (l to : List Int) : ∀ k, k + 1 ≤ l.length ∨ k = 0 → shufK l (drawK l to k).2 k = (drawK l to k).1
  | 0, _ => rfl
  | k + 1, h => by
    have hl := drawK_len l to k
    have hs := (leastN_spec (drawK l to k).1 (to.getD (l.length - 1 - k) 0) (l.length - 1 - k)).1
    have ih := draw_shuf l to k (by omega)
    unfold shufK
    rw [shufK_pre l (ds := (drawK l to (k + 1)).2) (es := (drawK l to k).2) k (fun j hj => by
      rw [drawK_snd, List.getD_eq_getElem?_getD, List.getElem?_append_left (by omega), List.getD_eq_getElem?_getD]), ih]
    have e : (drawK l to (k + 1)).2.getD k 0 = (leastN (drawK l to k).1 (to.getD (l.length - 1 - k) 0) (l.length - 1 - k) : Int) := by
      rw [drawK_snd, List.getD_eq_getElem?_getD, List.getElem?_append_right (by omega), hl.2, Nat.sub_self]
      rfl
    rw [e, around_small hs]
    rfl
/-- By the draws told the order comes again. -/
theorem draws_back {l to : List Int} (hp : l.Perm to) : shufL l (drawL l to) = to := by
  have h := draw_shuf l to (l.length - 1) (by omega)
  have hl := hp.length_eq
  have hd := (drawK_len l to (l.length - 1)).1
  have hpm := (drawK_perm l to (l.length - 1) (by omega)).trans hp
  unfold shufL drawL
  rw [h]
  refine List.ext_getElem (by omega) fun j h1 h2 => ?_
  have key : (drawK l to (l.length - 1)).1.getD j 0 = to.getD j 0 := by
    rcases Nat.eq_zero_or_pos j with rfl | hj
    · have hf := front_perm hpm (i := 0) (by omega) (fun j h1 h2 => drawK_at l to hp (l.length - 1) (by omega) j (by omega) (by omega))
      have a1 : (drawK l to (l.length - 1)).1.take 1 = [(drawK l to (l.length - 1)).1.getD 0 0] := by
        cases e : (drawK l to (l.length - 1)).1 with
        | nil => rw [e] at h1; cases h1
        | cons x r => rfl
      have a2 : to.take 1 = [to.getD 0 0] := by
        cases to with
        | nil => cases h2
        | cons x r => rfl
      rw [a1, a2] at hf
      exact List.singleton_perm_singleton.1 hf
    · exact drawK_at l to hp (l.length - 1) (by omega) j (by omega) (by omega)
  rw [List.getD_eq_getElem?_getD, List.getD_eq_getElem?_getD, List.getElem?_eq_getElem h1, List.getElem?_eq_getElem h2] at key
  exact key
/-- The same numbers, each as often. -/
def alikeB (a b : List Int) : Bool := decide (a.length = b.length) && a.all fun x => decide (a.count x = b.count x)
theorem alike_perm {a b : List Int} (h1 : a.length = b.length) (h2 : ∀ x ∈ a, a.count x = b.count x) : a.Perm b := by
  have hc : a.Perm (b.filter fun y => decide (y ∈ a)) := by
    rw [List.perm_iff_count]
    intro x
    by_cases hx : x ∈ a
    · rw [h2 x hx, List.count_filter (by simpa using hx)]
    · rw [List.count_eq_zero_of_not_mem hx, List.count_eq_zero_of_not_mem (fun h => hx (by simpa using (List.mem_filter.1 h).2))]
  have hl := hc.length_eq
  have ha : b.filter (fun y => decide (y ∈ a)) = b := List.filter_eq_self.2 (List.length_filter_eq_length_iff.1 (by omega))
  rw [ha] at hc
  exact hc
theorem alike_iff {a b : List Int} : alikeB a b = true ↔ a.Perm b := by
  unfold alikeB
  rw [Bool.and_eq_true, decide_eq_true_eq, List.all_eq_true]
  constructor
  · rintro ⟨h1, h2⟩
    exact alike_perm h1 fun x hx => by simpa using h2 x hx
  · intro h
    exact ⟨h.length_eq, fun x _ => by simpa using h.count_eq x⟩
end Go.Proofs.Yticbnanfijkodaa
