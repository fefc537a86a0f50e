/-
  Plain facts on lists of names: their order, the first ones, where one stands, the next one. No program, no conditions.
-/
import Derived.Lib.Bytealg
namespace Go.Proofs.Ytjioemjgndnofaa
open Go
abbrev Bs := List UInt8
theorem bs_tri (a b : Bs) : a < b ∨ a = b ∨ b < a := by
  by_cases h : a < b
  · exact .inl h
  · by_cases h2 : b < a
    · exact .inr (.inr h2)
    · exact .inr (.inl (List.le_antisymm (List.not_lt.1 h2) (List.not_lt.1 h)))
theorem bs_irr (a : Bs) : ¬ a < a := List.lt_irrefl a
theorem bs_trans {a b c : Bs} (h : a < b) (k : b < c) : a < c := List.lt_trans h k
theorem bs_asym {a b : Bs} (h : a < b) : ¬ b < a := fun k => bs_irr a (bs_trans h k)
theorem bs_not {a b : Bs} (h : ¬ a < b) : b < a ∨ b = a := by rcases bs_tri a b with h1 | h1 | h1 <;> simp_all
theorem bs_pos {a b : Bs} (h : a < b) : b ≠ [] := by rintro rfl; simp at h
theorem bs_nil {a : Bs} (h : a ≠ []) : [] < a := by cases a with
  | nil => exact absurd rfl h
  | cons x l => exact List.nil_lt_cons x l
theorem bytesLess_lt : ∀ (x y : Bs), Op.bytesLess x y = decide (x < y)
  | [], [] => by simp [Op.bytesLess]
  | _ :: _, [] => by simp [Op.bytesLess]
  | [], _ :: _ => by simp [Op.bytesLess]
  | a :: x, b :: y => by
    rw [Op.bytesLess, bytesLess_lt x y]
    simp only [List.cons_lt_cons_iff]
    by_cases h1 : a < b <;> by_cases h2 : a = b <;> by_cases h3 : x < y <;> simp [h1, h2, h3]
theorem compareBytes_lt : ∀ (x y : Bs), (Lib.compareBytes x y < 0 ↔ x < y) ∧ (Lib.compareBytes x y = 0 ↔ x = y)
  | [], [] => by simp [Lib.compareBytes]
  | _ :: _, [] => by simp [Lib.compareBytes]
  | [], _ :: _ => by simp [Lib.compareBytes]
  | a :: x, b :: y => by
    have ih := compareBytes_lt x y
    unfold Lib.compareBytes
    simp only [List.cons_lt_cons_iff, List.cons.injEq]
    by_cases h1 : a < b
    · have : a ≠ b := fun e => UInt8.lt_irrefl a (by rw [← e] at h1; exact h1)
      simp [h1, this]
    · by_cases h2 : b < a
      · have : a ≠ b := fun e => UInt8.lt_irrefl a (by rw [← e] at h2; exact h2)
        simp [h1, h2, this]
      · have : a = b := UInt8.le_antisymm (UInt8.not_lt.1 h2) (UInt8.not_lt.1 h1)
        subst this
        simp [h1, ih.1, ih.2]
def nmAt (N : List Bs) (i : Nat) : Bs := N.getD i []
/-- The order of places: by name, then by index. -/
def before (N : List Bs) (i j : Nat) : Prop := nmAt N i < nmAt N j ∨ (nmAt N i = nmAt N j ∧ i < j)
instance (N : List Bs) (i j : Nat) : Decidable (before N i j) := by unfold before; infer_instance
theorem before_irr (N : List Bs) (i : Nat) : ¬ before N i i := by rintro (h | ⟨_, h⟩); exact bs_irr _ h; omega
theorem before_trans {N : List Bs} {i j k : Nat} (h : before N i j) (g : before N j k) : before N i k := by
  rcases h with h | ⟨h, h'⟩ <;> rcases g with g | ⟨g, g'⟩
  · exact .inl (bs_trans h g)
  · exact .inl (g ▸ h)
  · exact .inl (h ▸ g)
  · exact .inr ⟨h.trans g, by omega⟩
theorem before_tot (N : List Bs) {i j : Nat} (hn : i ≠ j) : before N i j ∨ before N j i := by
  rcases bs_tri (nmAt N i) (nmAt N j) with h | h | h
  · exact .inl (.inl h)
  · rcases Nat.lt_or_gt_of_ne hn with h2 | h2
    · exact .inl (.inr ⟨h, h2⟩)
    · exact .inr (.inr ⟨h.symm, h2⟩)
  · exact .inr (.inl h)
theorem before_asym {N : List Bs} {i j : Nat} (h : before N i j) : ¬ before N j i := fun g => before_irr N i (before_trans h g)
/-- O holds all places of N in their order. -/
structure IsOrder (N : List Bs) (O : List Nat) : Prop where
  perm : O.Perm (List.range N.length)
  sorted : O.Pairwise (before N)
theorem IsOrder.unique {N : List Bs} {O O' : List Nat} (h : IsOrder N O) (g : IsOrder N O') : O = O' :=
  List.Perm.eq_of_pairwise (fun _ _ _ _ h1 h2 => absurd h2 (before_asym h1)) h.sorted g.sorted (h.perm.trans g.perm.symm)
def orderN (N : List Bs) : List Nat := (List.range N.length).mergeSort fun i j => decide (before N i j ∨ i = j)
theorem orderN_is (N : List Bs) : IsOrder N (orderN N) := by
  have hp : (orderN N).Perm (List.range N.length) := List.mergeSort_perm _ _
  refine ⟨hp, ?_⟩
  have hs : (orderN N).Pairwise fun i j => decide (before N i j ∨ i = j) = true := by
    refine List.pairwise_mergeSort ?_ ?_ _
    · intro a b c h1 h2
      simp only [decide_eq_true_eq] at *
      rcases h1 with h1 | rfl
      · rcases h2 with h2 | rfl
        · exact .inl (before_trans h1 h2)
        · exact .inl h1
      · exact h2
    · intro a b
      by_cases e : a = b
      · simp [e]
      · rcases before_tot N e with h | h <;> simp [h]
  have hn : (orderN N).Nodup := hp.nodup_iff.2 List.nodup_range
  refine (hs.and hn).imp ?_
  intro a b ⟨h1, h2⟩
  simp only [decide_eq_true_eq] at h1
  rcases h1 with h1 | h1
  · exact h1
  · exact absurd h1 h2
theorem orderN_eq {N : List Bs} {O : List Nat} (h : IsOrder N O) : O = orderN N := h.unique (orderN_is N)
theorem orderN_len (N : List Bs) : (orderN N).length = N.length := by rw [(orderN_is N).perm.length_eq, List.length_range]
theorem orderN_mem {N : List Bs} {i : Nat} : i ∈ orderN N ↔ i < N.length := by rw [(orderN_is N).perm.mem_iff, List.mem_range]
/-- Where s first stands. -/
def findN (N : List Bs) (s : Bs) : Nat := N.findIdx (· == s)
def findZ (N : List Bs) (s : Bs) : Int := if findN N s < N.length then (findN N s : Int) else -1
theorem findN_lt {N : List Bs} {s : Bs} : findN N s < N.length ↔ s ∈ N := by
  unfold findN
  rw [List.findIdx_lt_length]
  simp
theorem findN_at {N : List Bs} {s : Bs} (h : s ∈ N) : nmAt N (findN N s) = s := by
  have hl := findN_lt.2 h
  have := List.findIdx_getElem (xs := N) (p := (· == s)) (w := hl)
  have e := eq_of_beq this
  unfold nmAt
  rw [List.getD_eq_getElem?_getD, List.getElem?_eq_getElem hl]
  exact e
theorem findN_first {N : List Bs} {s : Bs} {i : Nat} (h : i < N.length) (e : nmAt N i = s) : findN N s ≤ i := by
  unfold findN
  by_cases hh : N.findIdx (· == s) ≤ i
  · exact hh
  · have := List.not_of_lt_findIdx (p := (· == s)) (xs := N) (i := i) (by omega)
    unfold nmAt at e
    rw [List.getD_eq_getElem?_getD, List.getElem?_eq_getElem h] at e
    simp at this e
    exact absurd e this
theorem nmAt_mem {N : List Bs} {i : Nat} (h : i < N.length) : nmAt N i ∈ N := by
  unfold nmAt
  rw [List.getD_eq_getElem?_getD, List.getElem?_eq_getElem h]
  simp
theorem mem_nmAt {N : List Bs} {s : Bs} (h : s ∈ N) : ∃ i, i < N.length ∧ nmAt N i = s := ⟨_, findN_lt.2 h, findN_at h⟩
theorem findZ_le {N : List Bs} {s : Bs} : findZ N s < N.length := by unfold findZ; split <;> omega
def isF (N : List Bs) (i : Nat) : Bool := findN N (nmAt N i) == i
theorem isF_find {N : List Bs} {s : Bs} (h : s ∈ N) : isF N (findN N s) = true := by unfold isF; rw [findN_at h]; simp
theorem isF_eq {N : List Bs} {i j : Nat} (hi : isF N i = true) (hj : isF N j = true) (e : nmAt N i = nmAt N j) : i = j := by
  unfold isF at *
  simp only [beq_iff_eq] at *
  rw [← hi, ← hj, e]
/-- The first ones of each name among the first k in order. -/
def firstsK (N : List Bs) (k : Nat) : List Nat := ((orderN N).take k).filter (isF N)
def firsts (N : List Bs) : List Nat := (orderN N).filter (isF N)
theorem firstsK_all (N : List Bs) : firstsK N N.length = firsts N := by
  unfold firstsK firsts
  rw [List.take_of_length_le (by rw [orderN_len]; omega)]
def ordAt (N : List Bs) (k : Nat) : Nat := (orderN N).getD k 0
theorem ordAt_get {N : List Bs} {k : Nat} (h : k < N.length) : (orderN N)[k]'(by rw [orderN_len]; exact h) = ordAt N k := by
  unfold ordAt; simp [List.getD, List.getElem?_eq_getElem (show k < (orderN N).length by rw [orderN_len]; exact h)]
theorem ordAt_lt {N : List Bs} {k : Nat} (h : k < N.length) : ordAt N k < N.length := by
  have := List.getElem_mem (l := orderN N) (n := k) (by rw [orderN_len]; exact h)
  rw [ordAt_get h] at this
  exact orderN_mem.1 this
theorem take_ord {N : List Bs} {k : Nat} (h : k < N.length) : (orderN N).take (k + 1) = (orderN N).take k ++ [ordAt N k] := by
  rw [List.take_succ_eq_append_getElem (by rw [orderN_len]; exact h), ordAt_get h]
theorem firstsK_zero (N : List Bs) : firstsK N 0 = [] := rfl
theorem firstsK_yes {N : List Bs} {k : Nat} (h : k < N.length) (hf : isF N (ordAt N k) = true) : firstsK N (k + 1) = firstsK N k ++ [ordAt N k] := by
  unfold firstsK
  rw [take_ord h, List.filter_append]
  simp [hf]
theorem firstsK_no {N : List Bs} {k : Nat} (h : k < N.length) (hf : isF N (ordAt N k) = false) : firstsK N (k + 1) = firstsK N k := by
  unfold firstsK
  rw [take_ord h, List.filter_append]
  simp [hf]
theorem firstsK_le (N : List Bs) (k : Nat) : (firstsK N k).length ≤ k := by
  unfold firstsK
  exact Nat.le_trans (List.length_filter_le _ _) (by simp; omega)
theorem firstsK_mem {N : List Bs} {k i : Nat} : i ∈ firstsK N k → i < N.length := by
  intro h
  exact orderN_mem.1 (List.mem_of_mem_take (List.mem_filter.1 h).1)
/-- What stands ahead in the order stands among the first k. -/
theorem before_take {N : List Bs} {k i : Nat} (hk : k < N.length) (hi : i < N.length) (hb : before N i (ordAt N k)) : i ∈ (orderN N).take k := by
  have hm := orderN_mem.2 hi
  rw [← List.take_append_drop k (orderN N)] at hm
  rcases List.mem_append.1 hm with h | h
  · exact h
  · exfalso
    have hs := (orderN_is N).sorted
    rw [List.mem_iff_getElem] at h
    obtain ⟨j, hj, e⟩ := h
    rw [List.getElem_drop] at e
    have hj' : k + j < (orderN N).length := by simp at hj; omega
    by_cases j0 : j = 0
    · subst j0
      simp only [Nat.add_zero] at e
      rw [ordAt_get hk] at e
      rw [e] at hb
      exact before_irr _ _ hb
    · have := (List.pairwise_iff_getElem.1 hs) k (k + j) (by omega) hj' (by omega)
      rw [e, ordAt_get hk] at this
      exact before_asym hb this
theorem take_before {N : List Bs} {k i : Nat} (hk : k < N.length) (h : i ∈ (orderN N).take k) : before N i (ordAt N k) := by
  rw [List.mem_iff_getElem] at h
  obtain ⟨j, hj, e⟩ := h
  rw [List.getElem_take] at e
  have hj' : j < k := by simp at hj; omega
  have := (List.pairwise_iff_getElem.1 (orderN_is N).sorted) j k (by rw [orderN_len]; omega) (by rw [orderN_len]; omega) hj'
  rw [e, ordAt_get hk] at this
  exact this
theorem firstsK_sorted (N : List Bs) (k : Nat) : (firstsK N k).Pairwise (before N) := ((orderN_is N).sorted.sublist (List.take_sublist k _)).sublist List.filter_sublist
/-- The last of the first ones so far. -/
def lastK (N : List Bs) (k : Nat) : Nat := (firstsK N k).getD ((firstsK N k).length - 1) 0
theorem lastK_mem {N : List Bs} {k : Nat} (h : firstsK N k ≠ []) : lastK N k ∈ firstsK N k := by
  have : (firstsK N k).length - 1 < (firstsK N k).length := by have := List.length_pos_iff.2 h; omega
  unfold lastK
  rw [List.getD_eq_getElem?_getD, List.getElem?_eq_getElem this]
  simp
theorem lastK_ge {N : List Bs} {k i : Nat} (h : i ∈ firstsK N k) : i = lastK N k ∨ before N i (lastK N k) := by
  have hne : firstsK N k ≠ [] := by intro e; rw [e] at h; cases h
  have hl : (firstsK N k).length - 1 < (firstsK N k).length := by have := List.length_pos_iff.2 hne; omega
  have e : (firstsK N k)[(firstsK N k).length - 1] = lastK N k := by
    unfold lastK
    rw [List.getD_eq_getElem?_getD, List.getElem?_eq_getElem hl]
    simp
  rw [List.mem_iff_getElem] at h
  obtain ⟨j, hj, e2⟩ := h
  by_cases hjl : j = (firstsK N k).length - 1
  · subst hjl; exact .inl (e2.symm.trans e)
  · have := (List.pairwise_iff_getElem.1 (firstsK_sorted N k)) j _ hj hl (by omega)
    rw [e, e2] at this
    exact .inr this
/-- The test of the loop: is the next in order the first of its name? -/
theorem isF_step {N : List Bs} {k : Nat} (hk : k < N.length) : isF N (ordAt N k) = true ↔ firstsK N k = [] ∨ nmAt N (lastK N k) ≠ nmAt N (ordAt N k) := by
  have ho := ordAt_lt hk
  constructor
  · intro hf
    by_cases hne : firstsK N k = []
    · exact .inl hne
    · right
      intro e
      have hm := lastK_mem hne
      obtain ⟨hm1, hm2⟩ := List.mem_filter.1 hm
      have := isF_eq hm2 hf e
      have hb := take_before hk hm1
      rw [this] at hb
      exact before_irr _ _ hb
  · intro h
    cases hf : isF N (ordAt N k) with
    | true => rfl
    | false =>
      exfalso
      have hmem : nmAt N (ordAt N k) ∈ N := nmAt_mem ho
      have h0 : findN N (nmAt N (ordAt N k)) ≠ ordAt N k := by
        intro e; unfold isF at hf; rw [e] at hf; simp at hf
      have hle := findN_first ho rfl
      have hb : before N (findN N (nmAt N (ordAt N k))) (ordAt N k) := .inr ⟨findN_at hmem, by omega⟩
      have hin : findN N (nmAt N (ordAt N k)) ∈ firstsK N k := List.mem_filter.2 ⟨before_take hk (findN_lt.2 hmem) hb, isF_find hmem⟩
      rcases h with h | h
      · rw [h] at hin; cases hin
      · apply h
        have hne : firstsK N k ≠ [] := by intro e; rw [e] at hin; cases hin
        have hl := take_before hk (List.mem_filter.1 (lastK_mem hne)).1
        have e0 := findN_at hmem
        rcases lastK_ge hin with e | g
        · rw [← e, e0]
        · rcases g with g | ⟨g, _⟩
          · rw [e0] at g
            rcases hl with hl | ⟨hl, _⟩
            · exact absurd hl (bs_asym g)
            · rw [hl] at g; exact absurd g (bs_irr _)
          · rw [← g, e0]
/-- The unlike names in order. -/
def dist (N : List Bs) : List Bs := (firsts N).map (nmAt N)
theorem dist_len (N : List Bs) : (dist N).length = (firsts N).length := by simp [dist]
theorem firsts_le (N : List Bs) : (firsts N).length ≤ N.length := by rw [← firstsK_all]; exact firstsK_le N _
theorem dist_sorted (N : List Bs) : (dist N).Pairwise (· < ·) := by
  unfold dist
  rw [List.pairwise_map]
  have hs := firstsK_sorted N N.length
  rw [firstsK_all] at hs
  refine List.Pairwise.imp_of_mem ?_ hs
  intro a b ha hb h
  rcases h with h | ⟨h, h2⟩
  · exact h
  · have := isF_eq (List.mem_filter.1 ha).2 (List.mem_filter.1 hb).2 h
    omega
theorem dist_mem {N : List Bs} {s : Bs} : s ∈ dist N ↔ s ∈ N := by
  unfold dist
  rw [List.mem_map]
  constructor
  · rintro ⟨i, hi, rfl⟩
    exact nmAt_mem (orderN_mem.1 (List.mem_filter.1 hi).1)
  · intro h
    exact ⟨findN N s, List.mem_filter.2 ⟨orderN_mem.2 (findN_lt.2 h), isF_find h⟩, findN_at h⟩
theorem countP_lt : ∀ {D : List Bs} (_ : D.Pairwise (· < ·)) (s : Bs) (t : Nat) (h : t < D.length), D[t] < s ↔ t < D.countP fun x => decide (x < s)
  | [], _, _, _, h => by simp at h
  | x :: D, hs, s, 0, h => by
    rw [List.countP_cons]
    by_cases hx : x < s
    · simp [hx]
    · simp only [List.getElem_cons_zero, hx, decide_false, false_iff]
      have : D.countP (fun y => decide (y < s)) = 0 := by
        rw [List.countP_eq_zero]
        intro y hy
        have := List.rel_of_pairwise_cons hs hy
        simp only [decide_eq_true_eq]
        exact fun k => hx (bs_trans this k)
      simp [this]
  | x :: D, hs, s, t + 1, h => by
    rw [List.countP_cons, List.getElem_cons_succ, countP_lt hs.of_cons s t (by simpa using h)]
    by_cases hx : x < s
    · simp [hx]
    · have : D.countP (fun y => decide (y < s)) = 0 := by
        rw [List.countP_eq_zero]
        intro y hy
        have := List.rel_of_pairwise_cons hs hy
        simp only [decide_eq_true_eq]
        exact fun k => hx (bs_trans this k)
      simp [hx, this]
/-- How many unlike names are less than s. -/
def pos (N : List Bs) (s : Bs) : Nat := (dist N).countP fun x => decide (x < s)
theorem pos_le (N : List Bs) (s : Bs) : pos N s ≤ (firsts N).length := by rw [← dist_len]; exact List.countP_le_length
theorem pos_lt {N : List Bs} (s : Bs) {t : Nat} (h : t < (firsts N).length) : nmAt N ((firsts N).getD t 0) < s ↔ t < pos N s := by
  have := countP_lt (dist_sorted N) s t (by rw [dist_len]; exact h)
  unfold pos
  rw [← this]
  unfold dist
  rw [List.getElem_map, List.getD_eq_getElem?_getD, List.getElem?_eq_getElem h]
  rfl
def nmF (N : List Bs) (t : Nat) : Bs := nmAt N ((firsts N).getD t 0)
theorem nmF_get {N : List Bs} {t : Nat} (h : t < (firsts N).length) : (dist N)[t]'(by rw [dist_len]; exact h) = nmF N t := by
  unfold dist nmF
  rw [List.getElem_map, List.getD_eq_getElem?_getD, List.getElem?_eq_getElem h]
  rfl
theorem nmF_mem {N : List Bs} {t : Nat} (h : t < (firsts N).length) : nmF N t ∈ N := by
  rw [← nmF_get h]
  exact dist_mem.1 (List.getElem_mem _)
theorem nmF_mono {N : List Bs} {t u : Nat} (h : t < u) (hu : u < (firsts N).length) : nmF N t < nmF N u := by
  rw [← nmF_get hu, ← nmF_get (show t < _ by omega)]
  exact (List.pairwise_iff_getElem.1 (dist_sorted N)) t u _ _ h
theorem mem_nmF {N : List Bs} {s : Bs} (h : s ∈ N) : ∃ t, t < (firsts N).length ∧ nmF N t = s := by
  have := dist_mem.2 h
  rw [List.mem_iff_getElem] at this
  obtain ⟨t, ht, e⟩ := this
  rw [dist_len] at ht
  rw [nmF_get ht] at e
  exact ⟨t, ht, e⟩
/-- Does s stand where it would? -/
def hit (N : List Bs) (s : Bs) : Bool := decide (pos N s < (firsts N).length ∧ nmF N (pos N s) = s)
theorem hit_iff {N : List Bs} {s : Bs} : hit N s = true ↔ s ∈ N := by
  unfold hit
  rw [decide_eq_true_eq]
  constructor
  · rintro ⟨h, e⟩
    rw [← e]; exact nmF_mem h
  · intro h
    obtain ⟨t, ht, e⟩ := mem_nmF h
    have ht2 : ¬ t < pos N s := by
      rw [← pos_lt s ht]
      show ¬ nmF N t < s
      rw [e]; exact bs_irr _
    have : pos N s = t := by
      by_cases hp : pos N s < t
      · exfalso
        have h1 := nmF_mono hp ht
        rw [e] at h1
        exact absurd ((pos_lt s (show pos N s < _ by omega)).1 h1) (by omega)
      · omega
    rw [this]; exact ⟨ht, e⟩
theorem hit_find {N : List Bs} {s : Bs} (h : hit N s = true) : (firsts N).getD (pos N s) 0 = findN N s := by
  have hm := hit_iff.1 h
  unfold hit at h
  rw [decide_eq_true_eq] at h
  obtain ⟨h, e⟩ := h
  have hin : (firsts N).getD (pos N s) 0 ∈ firsts N := by
    rw [List.getD_eq_getElem?_getD, List.getElem?_eq_getElem h]; simp
  exact isF_eq (List.mem_filter.1 hin).2 (isF_find hm) (by rw [findN_at hm]; exact e)
theorem findZ_hit {N : List Bs} {s : Bs} (h : hit N s = true) : findZ N s = (findN N s : Int) := by
  unfold findZ; rw [if_pos (findN_lt.2 (hit_iff.1 h))]
theorem findZ_no {N : List Bs} {s : Bs} (h : hit N s = false) : findZ N s = -1 := by
  unfold findZ; rw [if_neg]
  rw [findN_lt, ← hit_iff, h]; simp
/-- How many unlike names. -/
def unlikeK (N : List Bs) (k : Nat) : Nat := (List.range k).countP (isF N)
theorem unlike_len (N : List Bs) : (firsts N).length = unlikeK N N.length := by
  unfold firsts unlikeK
  rw [← List.countP_eq_length_filter]
  exact (orderN_is N).perm.countP_eq _
theorem unlikeK_succ (N : List Bs) (k : Nat) : unlikeK N (k + 1) = unlikeK N k + if isF N k then 1 else 0 := by
  unfold unlikeK
  rw [List.range_succ, List.countP_append]
  simp [List.countP_cons]
theorem unlikeK_le (N : List Bs) (k : Nat) : unlikeK N k ≤ k := by
  unfold unlikeK
  exact Nat.le_trans List.countP_le_length (by simp)
/-- The least name above s. -/
def NextIs (N : List Bs) (s r : Bs) : Prop := (r = [] ∧ ∀ x ∈ N, ¬ s < x) ∨ (r ∈ N ∧ s < r ∧ ∀ x ∈ N, s < x → ¬ x < r)
theorem NextIs.unique {N : List Bs} {s r r' : Bs} (h : NextIs N s r) (g : NextIs N s r') : r = r' := by
  rcases h with ⟨rfl, h⟩ | ⟨h1, h2, h3⟩ <;> rcases g with ⟨rfl, g⟩ | ⟨g1, g2, g3⟩
  · rfl
  · exact absurd g2 (h _ g1)
  · exact absurd h2 (g _ h1)
  · rcases bs_tri r r' with k | k | k
    · exact absurd k (g3 _ h1 h2)
    · exact k
    · exact absurd k (h3 _ g1 g2)
def nextStep (s best x : Bs) : Bs := if s < x ∧ (best = [] ∨ x < best) then x else best
def nextN (N : List Bs) (s : Bs) : Bs := N.foldl (nextStep s) []
theorem nextIs_snoc {N : List Bs} {s r x : Bs} (h : NextIs N s r) : NextIs (N ++ [x]) s (nextStep s r x) := by
  unfold nextStep
  split
  · rename_i hc
    obtain ⟨h1, h2⟩ := hc
    refine .inr ⟨by simp, h1, ?_⟩
    intro y hy hsy
    rcases List.mem_append.1 hy with hy | hy
    · rcases h with ⟨rfl, h⟩ | ⟨_, h4, h5⟩
      · exact absurd hsy (h y hy)
      · rcases h2 with rfl | h2
        · exact absurd rfl (bs_pos h4)
        · exact fun k => h5 y hy hsy (bs_trans k h2)
    · simp at hy; rw [hy]; exact bs_irr _
  · rename_i hc
    rcases h with ⟨rfl, h⟩ | ⟨h3, h4, h5⟩
    · refine .inl ⟨rfl, ?_⟩
      intro y hy
      rcases List.mem_append.1 hy with hy | hy
      · exact h y hy
      · simp at hy; rw [hy]; exact fun k => hc ⟨k, .inl rfl⟩
    · refine .inr ⟨List.mem_append_left _ h3, h4, ?_⟩
      intro y hy hsy
      rcases List.mem_append.1 hy with hy | hy
      · exact h5 y hy hsy
      · simp at hy; subst hy
        exact fun k => hc ⟨hsy, .inr k⟩
theorem nextIs_fold : ∀ (M N : List Bs) (s r : Bs), NextIs N s r → NextIs (N ++ M) s (M.foldl (nextStep s) r)
  | [], N, s, r, h => by simpa using h
  | x :: M, N, s, r, h => by
    have := nextIs_fold M (N ++ [x]) s _ (nextIs_snoc h (x := x))
    simpa using this
theorem nextN_is (N : List Bs) (s : Bs) : NextIs N s (nextN N s) := by
  have := nextIs_fold N [] s [] (.inl ⟨rfl, fun x h => by cases h⟩)
  simpa [nextN] using this
theorem nextN_eq {N : List Bs} {s r : Bs} (h : NextIs N s r) : nextN N s = r := (nextN_is N s).unique h
theorem nextN_take {N : List Bs} {k : Nat} (s : Bs) (h : k < N.length) : nextN (N.take (k + 1)) s = nextStep s (nextN (N.take k) s) (nmAt N k) := by
  unfold nextN
  rw [List.take_succ_eq_append_getElem h, List.foldl_append]
  unfold nmAt
  rw [List.getD_eq_getElem?_getD, List.getElem?_eq_getElem h]
  rfl
/-- Where the next one stands among the unlike names. -/
def posNext (N : List Bs) (s : Bs) : Nat := if hit N s then pos N s + 1 else pos N s
theorem posNext_le (N : List Bs) (s : Bs) : posNext N s ≤ (firsts N).length := by
  unfold posNext
  have := pos_le N s
  split
  · rename_i h
    unfold hit at h
    rw [decide_eq_true_eq] at h
    omega
  · exact this
theorem posNext_lt {N : List Bs} {s : Bs} {t : Nat} (h : t < (firsts N).length) : s < nmF N t ↔ posNext N s ≤ t := by
  have hp := pos_lt s h
  change nmF N t < s ↔ _ at hp
  unfold posNext
  by_cases hh : hit N s = true
  · rw [if_pos hh]
    have hh2 := hh
    unfold hit at hh2
    rw [decide_eq_true_eq] at hh2
    constructor
    · intro hs
      by_cases e : t = pos N s
      · rw [e, hh2.2] at hs; exact absurd hs (bs_irr _)
      · have : ¬ t < pos N s := fun k => bs_asym hs (hp.2 k)
        omega
    · intro hle
      have := nmF_mono (show pos N s < t by omega) h
      rw [hh2.2] at this
      exact this
  · rw [if_neg hh]
    constructor
    · intro hs
      have : ¬ t < pos N s := fun k => bs_asym hs (hp.2 k)
      omega
    · intro hle
      rcases bs_tri s (nmF N t) with k | k | k
      · exact k
      · exact absurd (hit_iff.2 (k ▸ nmF_mem h)) hh
      · have := hp.1 k; omega
theorem next_end {N : List Bs} {s : Bs} (h : posNext N s = (firsts N).length) : nextN N s = [] := by
  apply nextN_eq
  refine .inl ⟨rfl, fun x hx => ?_⟩
  obtain ⟨t, ht, rfl⟩ := mem_nmF hx
  rw [posNext_lt ht]; omega
theorem next_at {N : List Bs} {s : Bs} (h : posNext N s < (firsts N).length) : nextN N s = nmF N (posNext N s) := by
  apply nextN_eq
  refine .inr ⟨nmF_mem h, (posNext_lt h).2 (Nat.le_refl _), fun x hx hs => ?_⟩
  obtain ⟨t, ht, rfl⟩ := mem_nmF hx
  rw [posNext_lt ht] at hs
  intro k
  rcases Nat.lt_or_eq_of_le hs with g | g
  · exact bs_asym k (nmF_mono g ht)
  · rw [g] at k; exact bs_irr _ k
/-- The first place whose name stood ahead. -/
def twiceN (N : List Bs) : Int := match (List.range N.length).find? (fun i => !isF N i) with | some i => (i : Int) | none => -1
theorem find_range {p : Nat → Bool} {n i : Nat} (hi : i < n) (hp : p i = true) (hb : ∀ j, j < i → p j = false) : (List.range n).find? p = some i := by
  rw [List.find?_eq_some_iff_append]
  refine ⟨hp, List.range i, (List.range n).drop (i + 1), ?_, ?_⟩
  · have h1 := (List.take_append_drop i (List.range n)).symm
    rw [List.take_range, Nat.min_eq_left (Nat.le_of_lt hi), List.drop_eq_getElem_cons (by simpa using hi)] at h1
    simpa using h1
  · intro a ha; simpa using hb a (List.mem_range.1 ha)
theorem twice_at {N : List Bs} {i : Nat} (hi : i < N.length) (h : isF N i = false) (hb : ∀ j, j < i → isF N j = true) : twiceN N = i := by
  unfold twiceN
  rw [find_range (p := fun i => !isF N i) hi (by simp [h]) (fun j hj => by simp [hb j hj])]
theorem twice_no {N : List Bs} (hb : ∀ j, j < N.length → isF N j = true) : twiceN N = -1 := by
  unfold twiceN
  rw [List.find?_eq_none.2 (fun x hx => by simp [hb x (List.mem_range.1 hx)])]
theorem isF_lt {N : List Bs} {i : Nat} (hi : i < N.length) : findZ N (nmAt N i) = (findN N (nmAt N i) : Int) ∧ findN N (nmAt N i) ≤ i := by
  have hm := nmAt_mem hi
  exact ⟨by unfold findZ; rw [if_pos (findN_lt.2 hm)], findN_first hi rfl⟩
theorem isF_of {N : List Bs} {i : Nat} (hi : i < N.length) (b : Bool) (h : isF N i = b) : findZ N (nmAt N i) < i ↔ b = false := by
  obtain ⟨h1, h2⟩ := isF_lt hi
  rw [h1]
  unfold isF at h
  cases b
  · simp at h; simp; omega
  · simp at h; simp; omega
/-- The walk: the unlike names that aren't empty, one by one. -/
def dpos (N : List Bs) : List Bs := (dist N).filter (· != [])
def dAt (N : List Bs) (i : Nat) : Bs := (dpos N).getD i []
def sAt (N : List Bs) (i : Nat) : Bs := if i = 0 then [] else dAt N (i - 1)
theorem dAt_get {N : List Bs} {i : Nat} (h : i < (dpos N).length) : (dpos N)[i] = dAt N i := by
  unfold dAt; rw [List.getD_eq_getElem?_getD, List.getElem?_eq_getElem h]; rfl
theorem dAt_mem {N : List Bs} {i : Nat} (h : i < (dpos N).length) : dAt N i ∈ N ∧ dAt N i ≠ [] := by
  have := List.getElem_mem h
  rw [dAt_get h] at this
  obtain ⟨h1, h2⟩ := List.mem_filter.1 this
  exact ⟨dist_mem.1 h1, by simpa using h2⟩
theorem mem_dAt {N : List Bs} {s : Bs} (h : s ∈ N) (hs : s ≠ []) : ∃ i, i < (dpos N).length ∧ dAt N i = s := by
  have : s ∈ dpos N := List.mem_filter.2 ⟨dist_mem.2 h, by simpa using hs⟩
  rw [List.mem_iff_getElem] at this
  obtain ⟨t, ht, e⟩ := this
  exact ⟨t, ht, by rw [← dAt_get ht]; exact e⟩
theorem dAt_mono {N : List Bs} {t u : Nat} (h : t < u) (hu : u < (dpos N).length) : dAt N t < dAt N u := by
  rw [← dAt_get hu, ← dAt_get (show t < _ by omega)]
  exact (List.pairwise_iff_getElem.1 ((dist_sorted N).sublist List.filter_sublist)) t u _ _ h
theorem sAt_lt {N : List Bs} {i j : Nat} (hi : i ≤ (dpos N).length) (hj : j < (dpos N).length) : sAt N i < dAt N j ↔ i ≤ j := by
  unfold sAt
  by_cases h0 : i = 0
  · rw [if_pos h0]
    exact ⟨fun _ => by omega, fun _ => bs_nil (dAt_mem hj).2⟩
  · rw [if_neg h0]
    constructor
    · intro h
      by_cases hh : i ≤ j
      · exact hh
      · rcases Nat.lt_or_eq_of_le (show j ≤ i - 1 by omega) with g | g
        · exact absurd h (bs_asym (dAt_mono g (by omega)))
        · rw [g] at h; exact absurd h (bs_irr _)
    · intro h; exact dAt_mono (by omega) hj
theorem sAt_succ (N : List Bs) (i : Nat) : sAt N (i + 1) = dAt N i := by unfold sAt; simp
theorem next_walk {N : List Bs} {i : Nat} (h : i < (dpos N).length) : nextN N (sAt N i) = dAt N i := by
  apply nextN_eq
  refine .inr ⟨(dAt_mem h).1, (sAt_lt (by omega) h).2 (Nat.le_refl _), fun x hx hs => ?_⟩
  obtain ⟨t, ht, rfl⟩ := mem_dAt hx (bs_pos hs)
  rw [sAt_lt (by omega) ht] at hs
  intro k
  rcases Nat.lt_or_eq_of_le hs with g | g
  · exact bs_asym k (dAt_mono g ht)
  · rw [g] at k; exact bs_irr _ k
theorem next_done (N : List Bs) : nextN N (sAt N (dpos N).length) = [] := by
  apply nextN_eq
  refine .inl ⟨rfl, fun x hx hs => ?_⟩
  obtain ⟨t, ht, rfl⟩ := mem_dAt hx (bs_pos hs)
  rw [sAt_lt (Nat.le_refl _) ht] at hs
  omega
theorem dpos_le (N : List Bs) : (dpos N).length ≤ N.length := by
  unfold dpos
  exact Nat.le_trans (List.length_filter_le _ _) (by rw [dist_len]; exact firsts_le N)
theorem dpos_count (N : List Bs) : (dpos N).length + (if [] ∈ N then 1 else 0) = (firsts N).length := by
  have h1 : (dist N).length = (dist N).countP (fun x => x != []) + (dist N).countP (fun x => !(x != [])) := by
    rw [List.length_eq_countP_add_countP (fun x => x != [])]
    congr 1
    apply List.countP_congr
    intro x _
    cases x <;> simp
  rw [dist_len] at h1
  rw [h1]
  unfold dpos
  rw [← List.countP_eq_length_filter]
  congr 1
  have h2 : (dist N).countP (fun x => !(x != [])) = (dist N).count [] := by
    unfold List.count
    congr 1
    funext x
    cases x <;> rfl
  rw [h2]
  have hn : (dist N).Nodup := (dist_sorted N).imp fun h e => by rw [e] at h; exact bs_irr _ h
  by_cases h : [] ∈ N
  · rw [if_pos h]
    have := List.count_pos_iff.2 (dist_mem.2 h)
    have h3 := List.nodup_iff_count.1 hn []
    omega
  · rw [if_neg h, List.count_eq_zero.2]
    rw [dist_mem]; exact h
end Go.Proofs.Ytjioemjgndnofaa
