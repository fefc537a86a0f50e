/-
  Plain facts of the list of a string's runes, each with the place where it begins: their number, lines and columns, names. No program, no conditions.
-/
import Derived.Test.YtnlnkjjegaihcaaRunesMath
namespace Go.Proofs.Ytnlnkjjegaihcaa
open Go
def runesFrom (s : ByteArray) : Nat → Nat → List (Nat × Nat)
  | 0, _ => []
  | b + 1, i => if i < s.size then ((Utf8.decode s i).1, i) :: runesFrom s b (i + (Utf8.decode s i).2) else []
theorem runesFrom_end (s : ByteArray) (b i : Nat) (h : s.size ≤ i) : runesFrom s b i = [] := by
  cases b with
  | zero => rfl
  | succ b => simp only [runesFrom]; rw [if_neg (by omega)]
theorem runesFrom_step (s : ByteArray) (b i : Nat) (h : i < s.size) : runesFrom s (b + 1) i = ((Utf8.decode s i).1, i) :: runesFrom s b (i + (Utf8.decode s i).2) := by
  simp only [runesFrom]; rw [if_pos h]
theorem runesFrom_fuel (s : ByteArray) : ∀ (b c i : Nat), s.size ≤ i + b → s.size ≤ i + c → runesFrom s b i = runesFrom s c i
  | 0, c, i, h, _ => by rw [runesFrom_end s c i (by omega)]; rfl
  | b + 1, 0, i, _, h => by rw [runesFrom_end s (b + 1) i (by omega)]; rfl
  | b + 1, c + 1, i, h1, h2 => by
    by_cases h : i < s.size
    · have := dec_bd s i h
      rw [runesFrom_step s b i h, runesFrom_step s c i h, runesFrom_fuel s b c _ (by omega) (by omega)]
    · rw [runesFrom_end s _ i (by omega), runesFrom_end s _ i (by omega)]
/-- The runes from a place on, with as much fuel as is wanted. -/
def runesAt (s : ByteArray) (i : Nat) : List (Nat × Nat) := runesFrom s (s.size - i) i
theorem runesAt_end (s : ByteArray) (i : Nat) (h : s.size ≤ i) : runesAt s i = [] := runesFrom_end s _ i h
theorem runesAt_step (s : ByteArray) (i : Nat) (h : i < s.size) : runesAt s i = ((Utf8.decode s i).1, i) :: runesAt s (i + (Utf8.decode s i).2) := by
  have := dec_bd s i h
  unfold runesAt
  rw [show s.size - i = (s.size - i - 1) + 1 from by omega, runesFrom_step s _ i h]
  congr 1
  exact runesFrom_fuel s _ _ _ (by omega) (by omega)
def runesOf (s : ByteArray) : List (Nat × Nat) := runesAt s 0
theorem runesAt_length (s : ByteArray) : ∀ (b i : Nat), s.size ≤ i + b → (runesAt s i).length ≤ s.size - i
  | 0, i, h => by rw [runesAt_end s i (by omega)]; simp
  | b + 1, i, h => by
    by_cases hi : i < s.size
    · have := dec_bd s i hi
      have ih := runesAt_length s b (i + (Utf8.decode s i).2) (by omega)
      rw [runesAt_step s i hi, List.length_cons]; omega
    · rw [runesAt_end s i (by omega)]; simp
theorem runesOf_length (s : ByteArray) : (runesOf s).length ≤ s.size := runesAt_length s s.size 0 (by omega)
/-- The places rise: from i on all begin at i or later. -/
theorem runesAt_from (s : ByteArray) : ∀ (b i : Nat), s.size ≤ i + b → ∀ x ∈ runesAt s i, i ≤ x.2 ∧ x.2 < s.size ∧ x.1 ≤ 1114111
  | 0, i, h => by rw [runesAt_end s i (by omega)]; simp
  | b + 1, i, h => by
    by_cases hi : i < s.size
    · have := dec_bd s i hi
      rw [runesAt_step s i hi]
      intro x hx
      rcases List.mem_cons.1 hx with rfl | hx
      · dsimp only; omega
      · have := runesAt_from s b (i + (Utf8.decode s i).2) (by omega) x hx
        omega
    · rw [runesAt_end s i (by omega)]; simp
/-- Line and column behind one more rune. -/
def placeStep (p : Nat × Nat) (r : Nat) : Nat × Nat := if r = 10 then (p.1 + 1, 1) else (p.1, p.2 + 1)
def placeL (at_ : Int) : List (Nat × Nat) → Nat × Nat → Nat × Nat
  | [], p => p
  | x :: l, p => if at_ ≤ (x.2 : Int) then p else placeL at_ l (placeStep p x.1)
def placeOf (s : ByteArray) (at_ : Int) : Nat × Nat := placeL at_ (runesOf s) (1, 1)
theorem placeStep_bd (p : Nat × Nat) (r : Nat) (m : Nat) (h1 : p.1 ≤ m) (h2 : p.2 ≤ m) (h3 : 1 ≤ m): (placeStep p r).1 ≤ m + 1 ∧ (placeStep p r).2 ≤ m + 1 := by
  unfold placeStep; split <;> (dsimp only; omega)
theorem placeL_bd (at_ : Int) : ∀ (l : List (Nat × Nat)) (p : Nat × Nat) (m : Nat), p.1 ≤ m → p.2 ≤ m → 1 ≤ m → (placeL at_ l p).1 ≤ m + l.length ∧ (placeL at_ l p).2 ≤ m + l.length
  | [], p, m, h1, h2, _ => by simp only [placeL, List.length_nil]; omega
  | x :: l, p, m, h1, h2, h3 => by
    simp only [placeL, List.length_cons]
    split
    · omega
    · have := placeStep_bd p x.1 m h1 h2 h3
      have := placeL_bd at_ l (placeStep p x.1) (m + 1) this.1 this.2 (by omega)
      omega
theorem placeOf_bd (s : ByteArray) (at_ : Int) : (placeOf s at_).1 ≤ 1 + s.size ∧ (placeOf s at_).2 ≤ 1 + s.size := by
  have h := placeL_bd at_ (runesOf s) (1, 1) 1 (by simp) (by simp) (by omega)
  have := runesOf_length s
  unfold placeOf; omega
/-- At a place up to which some runes reach: line and column are behind them. -/
theorem placeL_behind (at_ : Nat) : ∀ (done rest : List (Nat × Nat)) (p : Nat × Nat), (∀ x ∈ done, x.2 < at_) → (∀ x ∈ rest, at_ ≤ x.2) → placeL at_ (done ++ rest) p = done.foldl (fun p x => placeStep p x.1) p
  | [], rest, p, _, hr => by
    cases rest with
    | nil => rfl
    | cons x l =>
      have := hr x (List.mem_cons_self)
      simp only [List.nil_append, placeL, List.foldl_nil]
      rw [if_pos (by omega)]
  | x :: l, rest, p, hd, hr => by
    have := hd x (List.mem_cons_self)
    simp only [List.cons_append, placeL, List.foldl_cons]
    rw [if_neg (by omega), placeL_behind at_ l rest _ (fun y hy => hd y (List.mem_cons_of_mem _ hy)) hr]
/-- The runes up to a place: a part of the walk. -/
structure Upto (s : ByteArray) (i : Nat) (done : List (Nat × Nat)) : Prop where
  all : runesOf s = done ++ runesAt s i
  before : ∀ x ∈ done, x.2 < i
theorem Upto.zero (s : ByteArray) : Upto s 0 [] := ⟨rfl, fun x hx => by cases hx⟩
theorem Upto.next {s : ByteArray} {i : Nat} {done : List (Nat × Nat)} (h : Upto s i done) (hi : i < s.size) : Upto s (i + (Utf8.decode s i).2) (done ++ [((Utf8.decode s i).1, i)]) := by
  have := dec_bd s i hi
  refine ⟨?_, fun x hx => ?_⟩
  · rw [h.all, runesAt_step s i hi]; simp
  · rcases List.mem_append.1 hx with hx | hx
    · have := h.before x hx; omega
    · simp at hx; subst hx; dsimp only; omega
theorem Upto.place {s : ByteArray} {i : Nat} {done : List (Nat × Nat)} (h : Upto s i done) : placeOf s i = done.foldl (fun p x => placeStep p x.1) (1, 1) := by
  unfold placeOf
  rw [h.all]
  exact placeL_behind i done _ _ h.before (fun x hx => (runesAt_from s s.size i (by omega) x hx).1)
theorem Upto.place_next {s : ByteArray} {i : Nat} {done : List (Nat × Nat)} (h : Upto s i done) (hi : i < s.size) : placeOf s ((i : Int) + ((Utf8.decode s i).2 : Int)) = placeStep (placeOf s i) (Utf8.decode s i).1 := by
  have := (h.next hi).place
  rw [Int.natCast_add] at this
  rw [this, h.place, List.foldl_append]; rfl
theorem Upto.length_end {s : ByteArray} {i : Nat} {done : List (Nat × Nat)} (h : Upto s i done) (hi : s.size ≤ i) : runesOf s = done := by
  rw [h.all, runesAt_end s i hi, List.append_nil]
def letterB (n : Int) : Bool := decide (97 ≤ n ∧ n ≤ 122) || decide (65 ≤ n ∧ n ≤ 90) || decide (192 ≤ n ∧ n ≤ 591 ∧ n ≠ 215 ∧ n ≠ 247)
def inNameB (n : Int) : Bool := letterB n || decide (48 ≤ n ∧ n ≤ 57) || decide (n = 32) || decide (n = 39) || decide (n = 45)
def nameB (s : ByteArray) : Bool := decide (1 ≤ (runesOf s).length) && decide ((runesOf s).length ≤ 24) && (runesOf s).all (fun x => inNameB x.1) &&
  decide (((runesOf s).map (·.1)).head? ≠ some 32) && decide (((runesOf s).map (·.1)).getLast? ≠ some 32)
theorem head_space (s : ByteArray) (h : 0 < s.size) : ((runesOf s).map (·.1)).head? = some 32 ↔ gB s 0 = 32 := by
  unfold runesOf
  rw [runesAt_step s 0 h]
  simp only [List.map_cons, List.head?_cons, Option.some.injEq]
  constructor
  · intro e
    have := dec_ascii s 0 (by omega)
    omega
  · intro e
    rw [dec_of_ascii s 0 (by omega)]
    exact e
theorem last_space_at (s : ByteArray) : ∀ (b i : Nat), s.size ≤ i + b → i < s.size → (((runesAt s i).map (·.1)).getLast? = some 32 ↔ gB s (s.size - 1) = 32)
  | 0, i, h, hi => by omega
  | b + 1, i, h, hi => by
    have hb := dec_bd s i hi
    rw [runesAt_step s i hi]
    by_cases hn : i + (Utf8.decode s i).2 < s.size
    · have ih := last_space_at s b (i + (Utf8.decode s i).2) (by omega) hn
      rw [← ih, runesAt_step s _ hn]
      simp only [List.map_cons, List.getLast?_cons_cons]
    · rw [runesAt_end s _ (by omega)]
      simp only [List.map_cons, List.map_nil, List.getLast?_singleton, Option.some.injEq]
      constructor
      · intro e
        have := dec_ascii s i (by omega)
        rw [show s.size - 1 = i from by omega]
        omega
      · intro e
        by_cases h1 : 1 < (Utf8.decode s i).2
        · have := dec_last s i h1
          rw [show i + (Utf8.decode s i).2 - 1 = s.size - 1 from by omega] at this
          omega
        · rw [show s.size - 1 = i from by omega] at e
          rw [dec_of_ascii s i (by omega)]
          exact e
theorem last_space (s : ByteArray) (h : 0 < s.size) : ((runesOf s).map (·.1)).getLast? = some 32 ↔ gB s (s.size - 1) = 32 := last_space_at s s.size 0 (by omega) h
end Go.Proofs.Ytnlnkjjegaihcaa
