/-
  Plain facts of the tokens of card texts: what one token is, what lies between tokens, the whole scan; lines and columns along it. No program, no conditions.
-/
import Derived.Test.YtnlnkjjegaihcaaDigitsMath
import Derived.Test.YtnlnkjjegaihcaaRunesList
namespace Go.Proofs.Ytnlnkjjegaihcaa
open Go
/-! ## Where runes begin -/
/-- A place at which a rune begins, or the end. -/
def Bd (s : ByteArray) (i : Nat) : Prop := i ≤ s.size ∧ ∃ done, Upto s i done
theorem Bd.zero (s : ByteArray) : Bd s 0 := ⟨Nat.zero_le _, [], Upto.zero s⟩
theorem dec_cont (s : ByteArray) (i k : Nat) (_hi : i < s.size) (h0 : 0 < k) (h1 : k < (Utf8.decode s i).2) : 128 ≤ gB s (i + k) := by
  rw [dec_eq] at h1
  split at h1
  · dsimp only at h1; omega
  · split at h1
    · rename_i h
      have c1 := (cB_iff s (i + 1)).1 h.2
      split at h1
      · dsimp only at h1; rw [show k = 1 from by omega]; omega
      · dsimp only at h1; omega
    · split at h1
      · rename_i h
        have c1 := (cB_iff s (i + 1)).1 h.2.1
        have c2 := (cB_iff s (i + 2)).1 h.2.2
        split at h1
        · dsimp only at h1
          have hk : k = 1 ∨ k = 2 := by omega
          rcases hk with rfl | rfl <;> omega
        · dsimp only at h1; omega
      · split at h1
        · rename_i h
          have c1 := (cB_iff s (i + 1)).1 h.2.1
          have c2 := (cB_iff s (i + 2)).1 h.2.2.1
          have c3 := (cB_iff s (i + 3)).1 h.2.2.2
          split at h1
          · dsimp only at h1
            have hk : k = 1 ∨ k = 2 ∨ k = 3 := by omega
            rcases hk with rfl | rfl | rfl <;> omega
          · dsimp only at h1; omega
        · dsimp only at h1; omega
theorem upto_reach (s : ByteArray) (q : Nat) (hq : q ≤ s.size) (ha : q = s.size ∨ gB s q < 128) : ∀ (b i : Nat) (done : List (Nat × Nat)), q ≤ i + b → i ≤ q → Upto s i done → ∃ more, Upto s q (done ++ more)
  | 0, i, done, h1, h2, h => by
    have : i = q := by omega
    subst this
    exact ⟨[], by simpa using h⟩
  | b + 1, i, done, h1, h2, h => by
    by_cases he : i = q
    · subst he
      exact ⟨[], by simpa using h⟩
    · have hi : i < s.size := by omega
      have hd := dec_bd s i hi
      have hle : i + (Utf8.decode s i).2 ≤ q := by
        rcases Nat.lt_or_ge q (i + (Utf8.decode s i).2) with hlt | hge
        · exfalso
          have := dec_cont s i (q - i) hi (by omega) (by omega)
          rw [show i + (q - i) = q from by omega] at this
          omega
        · exact hge
      obtain ⟨more, hm⟩ := upto_reach s q hq ha b _ _ (by omega) hle (h.next hi)
      exact ⟨_ :: more, by simpa using hm⟩
theorem Bd.reach {s : ByteArray} {q : Nat} (hq : q ≤ s.size) (ha : q = s.size ∨ gB s q < 128) : Bd s q := by
  obtain ⟨m, hm⟩ := upto_reach s q hq ha q 0 [] (by omega) (by omega) (Upto.zero s)
  exact ⟨hq, _, hm⟩
theorem Bd.end_ (s : ByteArray) : Bd s s.size := Bd.reach (Nat.le_refl _) (.inl rfl)
theorem Bd.next {s : ByteArray} {i : Nat} (h : Bd s i) (hi : i < s.size) : Bd s (i + (Utf8.decode s i).2) := by
  obtain ⟨_, d, hu⟩ := h
  have := dec_bd s i hi
  exact ⟨by omega, _, hu.next hi⟩
theorem Bd.behind {s : ByteArray} {q : Nat} (hq : q < s.size) (ha : gB s q < 128) : Bd s (q + 1) := by
  have h := (Bd.reach (Nat.le_of_lt hq) (.inr ha)).next hq
  rwa [dec_of_ascii s q ha] at h
/-- Runes of a part that ends where a rune begins. -/
theorem dec_part (s : ByteArray) (i j : Nat) (hj : j ≤ s.size) (h : i + (Utf8.decode s i).2 ≤ j) (hi : i < j) : Utf8.decode (s.extract 0 j) i = Utf8.decode s i := by
  have hz : (s.extract 0 j).size = j := by rw [size_extract s 0 j hj]; omega
  have hg : ∀ k, k < j → gB (s.extract 0 j) k = gB s k := fun k hk => by
    have := gB_extract s 0 j k (by omega) hj
    rwa [Nat.zero_add] at this
  have hc : ∀ k, k < j → cB (s.extract 0 j) k = cB s k := fun k hk => by
    rw [Bool.eq_iff_iff, cB_iff, cB_iff, hz, hg k hk]; omega
  have hc' : ∀ k, cB (s.extract 0 j) k = true → k < j := fun k hk => by
    have := (cB_iff _ _).1 hk
    omega
  have h0 := hg i hi
  rw [dec_eq s i] at h
  rw [dec_eq (s.extract 0 j) i, dec_eq s i, h0]
  by_cases ha : gB s i < 128
  · rw [if_pos ha, if_pos ha]
  · rw [if_neg ha] at h
    rw [if_neg ha, if_neg ha]
    by_cases k1 : i + 1 < j
    · rw [hc _ k1, hg _ k1]
      by_cases k2 : i + 2 < j
      · rw [hc _ k2, hg _ k2]
        by_cases k3 : i + 3 < j
        · rw [hc _ k3, hg _ k3]
        · have e3 : cB (s.extract 0 j) (i + 3) = false := by
            rw [← Bool.not_eq_true]; intro hh; exact k3 (hc' _ hh)
          rw [e3]
          by_cases b1 : gB s i / 32 = 6 ∧ cB s (i + 1) = true
          · rw [if_pos b1, if_pos b1]
          · rw [if_neg b1] at h; rw [if_neg b1, if_neg b1]
            by_cases b2 : gB s i / 16 = 14 ∧ cB s (i + 1) = true ∧ cB s (i + 2) = true
            · rw [if_pos b2, if_pos b2]
            · rw [if_neg b2] at h; rw [if_neg b2, if_neg b2]
              rw [if_neg (by simp)]
              repeat' split
              all_goals first
                | rfl
                | (exfalso; simp only [*] at h; simp at h; omega)
                | (exfalso; rw [if_pos (by assumption)] at h; rw [if_pos (by assumption)] at h; dsimp only at h; omega)
      · have e2 : cB (s.extract 0 j) (i + 2) = false := by
          rw [← Bool.not_eq_true]; intro hh; exact k2 (hc' _ hh)
        rw [e2]
        by_cases b1 : gB s i / 32 = 6 ∧ cB s (i + 1) = true
        · rw [if_pos b1, if_pos b1]
        · rw [if_neg b1] at h; rw [if_neg b1, if_neg b1, if_neg (by simp), if_neg (by simp)]
          repeat' split
          all_goals first
            | rfl
            | (exfalso; rw [if_pos (by assumption)] at h; rw [if_pos (by assumption)] at h; dsimp only at h; omega)
            | (exfalso; rw [if_neg (by assumption)] at h; rw [if_pos (by assumption)] at h; rw [if_pos (by assumption)] at h; dsimp only at h; omega)
    · have e1 : cB (s.extract 0 j) (i + 1) = false := by
        rw [← Bool.not_eq_true]; intro hh; exact k1 (hc' _ hh)
      rw [e1, if_neg (by simp), if_neg (by simp), if_neg (by simp)]
      repeat' split
      all_goals first
        | rfl
        | (exfalso; rw [if_pos (by assumption)] at h; rw [if_pos (by assumption)] at h; dsimp only at h; omega)
        | (exfalso; rw [if_neg (by assumption)] at h; rw [if_pos (by assumption)] at h; rw [if_pos (by assumption)] at h; dsimp only at h; omega)
        | (exfalso; rw [if_neg (by assumption)] at h; rw [if_neg (by assumption)] at h; rw [if_pos (by assumption)] at h; rw [if_pos (by assumption)] at h; dsimp only at h; omega)
theorem extract_extract' (s : ByteArray) (i j : Nat) (hij : i ≤ j) (hj : j ≤ s.size) : s.extract i j = (s.extract i s.size).extract 0 (j - i) := by
  rw [ByteArray.extract_extract]
  congr 1 <;> omega
/-- The runes of a piece between two places at which runes begin. -/
theorem dec_piece (s : ByteArray) (i j k : Nat) (hij : i ≤ j) (hj : j ≤ s.size) (hk : i + k < j) (h : i + k + (Utf8.decode s (i + k)).2 ≤ j) : Utf8.decode (s.extract i j) k = Utf8.decode s (i + k) := by
  have e := dec_extract s i (by omega) k (by omega)
  rw [extract_extract' s i j hij hj, dec_part _ _ _ (by rw [size_extract _ _ _ (Nat.le_refl _)]; omega) (by rw [e]; omega) (by omega), e]
def fld (p : Nat × Nat) (l : List (Nat × Nat)) : Nat × Nat := l.foldl (fun p x => placeStep p x.1) p
theorem fld_nil (p : Nat × Nat) : fld p [] = p := rfl
theorem fld_cons (p : Nat × Nat) (x : Nat × Nat) (l : List (Nat × Nat)) : fld p (x :: l) = fld (placeStep p x.1) l := rfl
theorem fld_app (p : Nat × Nat) (l m : List (Nat × Nat)) : fld p (l ++ m) = fld (fld p l) m := List.foldl_append
theorem fld_line (l : List (Nat × Nat)) : ∀ p : Nat × Nat, p.1 ≤ (fld p l).1 := by
  induction l with
  | nil => intro p; exact Nat.le_refl _
  | cons x l ih =>
    intro p
    rw [fld_cons]
    refine Nat.le_trans ?_ (ih _)
    unfold placeStep; split <;> (dsimp only; omega)
/-- How a place goes on behind a piece whose own end lies at 'x'. -/
def adv (p x : Nat × Nat) : Nat × Nat := if 1 < x.1 then (p.1 + x.1 - 1, x.2) else (p.1, p.2 + x.2 - 1)
theorem fld_adv (l : List (Nat × Nat)) : ∀ (p q : Nat × Nat), 1 ≤ q.1 → 1 ≤ q.2 → fld (adv p q) l = adv p (fld q l) := by
  induction l with
  | nil => intro p q _ _; rfl
  | cons x l ih =>
    intro p q h1 h2
    rw [fld_cons, fld_cons]
    have e : placeStep (adv p q) x.1 = adv p (placeStep q x.1) := by
      unfold placeStep adv
      by_cases hx : x.1 = 10
      · simp only [if_pos hx]
        repeat' split
        all_goals first
          | (exfalso; omega)
          | (simp; try omega)
      · simp only [if_neg hx]
        repeat' split
        all_goals (simp; try omega)
    rw [e, ih p (placeStep q x.1) (by unfold placeStep; split <;> (dsimp only; omega)) (by unfold placeStep; split <;> (dsimp only; omega))]
theorem adv_one (p : Nat × Nat) : adv p (1, 1) = p := by
  unfold adv; simp
/-- A piece's own runes are those of the whole. -/
theorem piece_runes (s : ByteArray) (i j : Nat) (hj : j ≤ s.size) : ∀ (b k : Nat) (more : List (Nat × Nat)) (done : List (Nat × Nat)), j ≤ i + k + b → i + k ≤ j → Upto s (i + k) done → Upto s j (done ++ more) →
    (runesAt (s.extract i j) k).map (·.1) = more.map (·.1)
  | 0, k, more, done, h1, h2, hu, hw => by
    have e : i + k = j := by omega
    have hz : (s.extract i j).size = j - i := size_extract s i j hj
    rw [runesAt_end _ _ (by omega)]
    have a1 := hu.all
    have a2 := hw.all
    rw [e] at a1
    rw [a1, List.append_assoc] at a2
    have := List.append_cancel_left a2
    have : more = [] := by
      have hl := congrArg List.length this
      simp at hl
      exact hl
    rw [this]
  | b + 1, k, more, done, h1, h2, hu, hw => by
    by_cases e : i + k = j
    · exact piece_runes s i j hj 0 k more done (by omega) h2 hu hw
    · have hlt : i + k < s.size := by omega
      have hz : (s.extract i j).size = j - i := size_extract s i j hj
      have hn := hu.next hlt
      have a1 := hu.all
      have a2 := hw.all
      rw [runesAt_step s _ hlt] at a1
      rw [a1, List.append_assoc] at a2
      have a3 := List.append_cancel_left a2
      cases more with
      | nil =>
        exfalso
        rw [List.nil_append] at a3
        have hm : ((Utf8.decode s (i + k)).1, i + k) ∈ runesAt s j := by rw [← a3]; exact List.mem_cons_self
        have := (runesAt_from s s.size j (by omega) _ hm).1
        simp at this
        omega
      | cons x more =>
        rw [List.cons_append] at a3
        have hx : x = ((Utf8.decode s (i + k)).1, i + k) := (List.cons.inj a3).1.symm
        have hle : i + k + (Utf8.decode s (i + k)).2 ≤ j := by
          rcases Nat.lt_or_ge j (i + k + (Utf8.decode s (i + k)).2) with hlt' | hge
          · exfalso
            have t := (List.cons.inj a3).2
            cases more with
            | nil =>
              rw [List.nil_append] at t
              by_cases hjs : j < s.size
              · rw [runesAt_step s j hjs] at t
                have hm : ((Utf8.decode s j).1, j) ∈ runesAt s (i + k + (Utf8.decode s (i + k)).2) := by rw [t]; exact List.mem_cons_self
                have := (runesAt_from s s.size _ (by omega) _ hm).1
                simp at this
                omega
              · have := dec_bd s (i + k) hlt
                omega
            | cons y more =>
              have hm : y ∈ runesAt s (i + k + (Utf8.decode s (i + k)).2) := by rw [t]; simp
              have g1 := (runesAt_from s s.size _ (by omega) _ hm).1
              have g2 := hw.before y (by simp)
              omega
          · exact hge
        have hd := dec_piece s i j k (by omega) hj (by omega) hle
        have hb := dec_bd s (i + k) hlt
        rw [runesAt_step _ k (by omega), hd, List.map_cons, List.map_cons, hx]
        congr 1
        have ih := piece_runes s i j hj b (k + (Utf8.decode s (i + k)).2) more (done ++ [((Utf8.decode s (i + k)).1, i + k)]) (by omega) (by omega) (by rw [← Nat.add_assoc]; exact hn) (by rw [List.append_assoc]; rw [← hx]; simpa using hw)
        exact ih
theorem fld_map (l m : List (Nat × Nat)) (h : l.map (·.1) = m.map (·.1)) (p : Nat × Nat) : fld p l = fld p m := by
  have e : ∀ l : List (Nat × Nat), ∀ p, fld p l = (l.map (·.1)).foldl placeStep p := by
    intro l
    induction l with
    | nil => intro p; rfl
    | cons x l ih => intro p; rw [fld_cons, ih]; rfl
  rw [e, e, h]
theorem Upto.more {s : ByteArray} {i j : Nat} {d e : List (Nat × Nat)} (hi : Upto s i d) (hj : Upto s j e) (hij : i ≤ j) : ∃ more, e = d ++ more ∧ ∀ x ∈ more, i ≤ x.2 := by
  have a1 := hi.all
  have a2 := hj.all
  rw [a1] at a2
  rcases List.append_eq_append_iff.1 a2 with ⟨m, h1, h2⟩ | ⟨m, h1, h2⟩
  · refine ⟨m, h1, fun x hx => ?_⟩
    have hm : x ∈ runesAt s i := by rw [h2]; simp [hx]
    exact (runesAt_from s s.size i (by omega) x hm).1
  · cases m with
    | nil => exact ⟨[], by simpa using h1.symm, fun x hx => by cases hx⟩
    | cons x m =>
      exfalso
      have g1 := hi.before x (by rw [h1]; simp)
      have hm : x ∈ runesAt s j := by rw [h2]; simp
      have g2 := (runesAt_from s s.size j (by omega) x hm).1
      omega
theorem place_fld {s : ByteArray} {i : Nat} {d : List (Nat × Nat)} (h : Upto s i d) : placeOf s i = fld (1, 1) d := h.place
/-- LINE AND COLUMN BEHIND A PIECE: those of its beginning, and what the piece by itself tells. -/
theorem place_pass {s : ByteArray} {i j : Nat} (hi : Bd s i) (hj : Bd s j) (hij : i ≤ j) : placeOf s (j : Int) = adv (placeOf s (i : Int)) (placeOf (s.extract i j) ((j - i : Nat) : Int)) := by
  obtain ⟨hi1, d, hu⟩ := hi
  obtain ⟨hj1, e, hv⟩ := hj
  obtain ⟨more, rfl, _⟩ := hu.more hv hij
  have hz : (s.extract i j).size = j - i := size_extract s i j hj1
  have hp := piece_runes s i j hj1 (j - i) 0 more d (by omega) (by omega) (by simpa using hu) hv
  obtain ⟨_, f, hw⟩ := Bd.end_ (s.extract i j)
  have hf := hw.length_end (Nat.le_refl _)
  rw [place_fld hu, place_fld hv, fld_app]
  rw [← hz, place_fld hw, ← hf]
  have hf2 : fld (1, 1) (runesOf (s.extract i j)) = fld (1, 1) more := fld_map _ _ hp _
  rw [hf2, ← fld_adv more _ _ (by decide) (by decide), adv_one]
/-- Later places are greater. -/
theorem place_lt {s : ByteArray} {i j : Nat} (hi : Bd s i) (hj : Bd s j) (hij : i < j) :
    (placeOf s (i : Int)).1 < (placeOf s (j : Int)).1 ∨ (placeOf s (i : Int)).1 = (placeOf s (j : Int)).1 ∧ (placeOf s (i : Int)).2 < (placeOf s (j : Int)).2 := by
  obtain ⟨hi1, d, hu⟩ := hi
  obtain ⟨hj1, e, hv⟩ := hj
  obtain ⟨more, rfl, hge⟩ := hu.more hv (by omega)
  have hne : more ≠ [] := by
    rintro rfl
    have a1 := hu.all
    have a2 := hv.all
    rw [List.append_nil] at a2
    rw [a1] at a2
    have a3 := List.append_cancel_left a2
    rw [runesAt_step s i (by omega)] at a3
    have hm : ((Utf8.decode s i).1, i) ∈ runesAt s j := by rw [← a3]; exact List.mem_cons_self
    have := (runesAt_from s s.size j (by omega) _ hm).1
    simp at this
    omega
  rw [place_fld hu, place_fld hv, fld_app]
  generalize fld (1, 1) d = p
  have key : ∀ (l : List (Nat × Nat)) (p q : Nat × Nat), (p.1 < q.1 ∨ p.1 = q.1 ∧ p.2 < q.2) → p.1 < (fld q l).1 ∨ p.1 = (fld q l).1 ∧ p.2 < (fld q l).2 := by
    intro l
    induction l with
    | nil => intro p q h; exact h
    | cons x l ih =>
      intro p q h
      rw [fld_cons]
      apply ih
      unfold placeStep; split <;> (dsimp only; omega)
  cases more with
  | nil => exact absurd rfl hne
  | cons x l =>
    rw [fld_cons]
    apply key
    unfold placeStep; split <;> (dsimp only; omega)
theorem place_pos (s : ByteArray) {i : Nat} (hi : Bd s i) : 1 ≤ (placeOf s (i : Int)).1 ∧ 1 ≤ (placeOf s (i : Int)).2 := by
  obtain ⟨_, d, hu⟩ := hi
  rw [place_fld hu]
  have key : ∀ (l : List (Nat × Nat)) (p : Nat × Nat), 1 ≤ p.1 → 1 ≤ p.2 → 1 ≤ (fld p l).1 ∧ 1 ≤ (fld p l).2 := by
    intro l
    induction l with
    | nil => intro p h1 h2; exact ⟨h1, h2⟩
    | cons x l ih =>
      intro p h1 h2
      rw [fld_cons]
      apply ih <;> (unfold placeStep; split <;> (dsimp only; omega))
  exact key _ _ (by decide) (by decide)
/-- An ASCII byte is a rune. -/
theorem ascii_rune (s : ByteArray) (i : Nat) (hi : i < s.size) (h : gB s i < 128) : (gB s i, i) ∈ runesOf s := by
  obtain ⟨_, d, hu⟩ := Bd.reach (Nat.le_of_lt hi) (.inr h)
  rw [hu.all, runesAt_step s i hi, dec_of_ascii s i h]
  simp
theorem rune_ascii (s : ByteArray) : ∀ (b i : Nat), s.size ≤ i + b → ∀ x ∈ runesAt s i, x.1 < 128 → x.2 < s.size ∧ gB s x.2 = x.1
  | 0, i, h => by rw [runesAt_end s i (by omega)]; simp
  | b + 1, i, h => by
    by_cases hi : i < s.size
    · have hd := dec_bd s i hi
      rw [runesAt_step s i hi]
      intro x hx hlt
      rcases List.mem_cons.1 hx with rfl | hx
      · dsimp only at hlt ⊢
        exact ⟨hi, (dec_ascii s i hlt).1.symm⟩
      · exact rune_ascii s b _ (by omega) x hx hlt
    · rw [runesAt_end s i (by omega)]; simp
/-- Where no line ends, every place lies on line 1. -/
theorem place_line1 (s : ByteArray) (h : ∀ i, i < s.size → gB s i ≠ 10) {i : Nat} (hi : Bd s i) : (placeOf s (i : Int)).1 = 1 := by
  obtain ⟨_, d, hu⟩ := hi
  rw [place_fld hu]
  have hd : ∀ x ∈ d, x.1 ≠ 10 := by
    intro x hx h10
    have hm : x ∈ runesOf s := by rw [hu.all]; simp [hx]
    have := rune_ascii s s.size 0 (by omega) x hm (by omega)
    exact h _ this.1 (by omega)
  have key : ∀ (l : List (Nat × Nat)) (p : Nat × Nat), (∀ x ∈ l, x.1 ≠ 10) → (fld p l).1 = p.1 := by
    intro l
    induction l with
    | nil => intro p _; rfl
    | cons x l ih =>
      intro p hl
      rw [fld_cons, ih _ (fun y hy => hl y (by simp [hy]))]
      unfold placeStep
      rw [if_neg (hl x (by simp))]
  rw [key d _ hd]
end Go.Proofs.Ytnlnkjjegaihcaa
