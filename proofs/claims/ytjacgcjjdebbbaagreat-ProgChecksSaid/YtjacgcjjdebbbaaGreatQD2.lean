/-
  Texts PrgMath. No conditions but those that each theorem names.
-/
import Derived.WalkKit
namespace Go.Proofs.YtjacgcjjdebbbaaGreat
set_option linter.unusedVariables false
set_option linter.unusedSimpArgs false
structure IV where
 op : Int
 a : Int
 b : Int
 c : Int
instance : Inhabited IV := ⟨⟨0, 0, 0, 0⟩⟩
def tkF (op : Int) : Int :=
 if op = 7 ∨ op = 8 ∨ op = 9 ∨ op = 19 then 2 else if op = 10 ∨ op = 11 ∨ op = 15 ∨ op = 16 ∨ op = 18 ∨ op = 23 then 1 else 0
def ptF (op : Int) : Int := if op < 10 then 1 else 0
def Xc (op : Int) : Bool := decide (op = 2 ∨ op = 3 ∨ (10 ≤ op ∧ op ≤ 14) ∨ op = 21 ∨ op = 23 ∨ op = 25)
theorem tk_bd (op : Int) : 0 ≤ tkF op ∧ tkF op ≤ 2 := by
 unfold tkF
 repeat' split
 all_goals omega
theorem pt_bd (op : Int) : 0 ≤ ptF op ∧ ptF op ≤ 1 := by unfold ptF; split <;> omega
def Yn (f : Nat → IV) : Nat → Int
 | 0 => 0
 | k + 1 => if Yn f k < tkF (f k).op then -1 else Yn f k - tkF (f k).op + ptF (f k).op
def Yo (f : Nat → IV) : Nat → Int
 | 0 => -1
 | k + 1 => if (f k).op = 22 then -1 else if (f k).op = 21 then (k : Int) else Yo f k
def Wh (f : Nat → IV) : Nat → Int
 | 0 => 0
 | k + 1 => max (Wh f k) (Yn f (k + 1))
theorem deep_bd (f : Nat → IV) : ∀ k, -1 ≤ Yn f k ∧ Yn f k ≤ k := by
 intro k
 induction k with
 | zero => simp [Yn]
 | succ k ih =>
   have h1 := tk_bd (f k).op
   have h2 := pt_bd (f k).op
   simp only [Yn]
   split <;> omega
theorem deep_bad {f : Nat → IV} {i : Nat} (h : Yn f i = -1) : ∀ d, Yn f (i + d) = -1 := by
 intro d
 induction d with
 | zero => exact h
 | succ d ih =>
   have h1 := tk_bd (f (i + d)).op
   show Yn f (i + d + 1) = -1
   simp only [Yn]
   rw [if_pos (by omega)]
theorem deep_bad' {f : Nat → IV} {i j : Nat} (h : Yn f i = -1) (hj : i ≤ j) : Yn f j = -1 := by
 obtain ⟨d, rfl⟩ := Nat.exists_eq_add_of_le hj; exact deep_bad h d
theorem deep_less {f : Nat → IV} {i : Nat} (h : Yn f i < tkF (f i).op) : Yn f (i + 1) = -1 := by simp only [Yn]; rw [if_pos h]
theorem deep_more {f : Nat → IV} {i : Nat} (h : ¬ Yn f i < tkF (f i).op) : Yn f (i + 1) = Yn f i - tkF (f i).op + ptF (f i).op := by simp only [Yn]; rw [if_neg h]
theorem open_bd (f : Nat → IV) : ∀ k, Yo f k = -1 ∨ (0 ≤ Yo f k ∧ Yo f k < k) := by
 intro k
 induction k with
 | zero => exact .inl rfl
 | succ k ih =>
   simp only [Yo]
   repeat' split
   all_goals omega
theorem high_bd (f : Nat → IV) : ∀ k, 0 ≤ Wh f k ∧ Wh f k ≤ k := by
 intro k
 induction k with
 | zero => simp [Wh]
 | succ k ih => have h := deep_bd f (k + 1); simp only [Wh]; omega
def Wy (x : IV) (s m : Nat) : Bool := decide ((Xc x.op = true → 0 ≤ x.a ∧ x.a < s) ∧ (x.op = 15 → 0 ≤ x.a ∧ x.a < m))
def Vk (x : IV) (k : Nat) : Int := if x.op = 19 ∨ x.op = 21 then x.b else if x.op = 20 then x.a else k + 1
def Wz (x : IV) (k n : Nat) : Bool := decide ((k : Int) < Vk x k ∧ Vk x k ≤ n)
def nesB (f : Nat → IV) (k : Nat) : Bool :=
 decide (((f k).op = 21 → Yo f k < 0) ∧ ((f k).op = 22 → 0 ≤ Yo f k ∧ (f k).a = Yo f k + 1 ∧ (f (Yo f k).toNat).b = k + 1))
def movB (f : Nat → IV) (k : Nat) : Bool := decide (0 ≤ Yn f (k + 1) ∧ (9 < (f k).op → Yn f (k + 1) ≤ 0))
def oneF (f : Nat → IV) (n s m k : Nat) : Int :=
 if (f k).op < 1 ∨ 26 < (f k).op then 13
 else if Wy (f k) s m = false then 12
 else if Wz (f k) k n = false then 12
 else if nesB f k = false then 12
 else if movB f k = false then 16 else 0
theorem one_deep {f : Nat → IV} {n s m k : Nat} (h : oneF f n s m k = 0) : 0 ≤ Yn f (k + 1) := by
 unfold oneF at h
 by_cases c : movB f k = false
 · rw [c] at h; exfalso; revert h; repeat' (first | split | simp)
   rename_i h5; exact absurd rfl h5
 · have c' : movB f k = true := by simpa using c
   unfold movB at c'; simp at c'; exact c'.1
def chkF (f : Nat → IV) (n s m : Nat) : Nat → Nat → Int × Int
 | 0, k => if 0 ≤ Yo f k ∨ 0 < Yn f k then (16, (k : Int)) else (0, 0)
 | r + 1, k => if oneF f n s m k = 0 then chkF f n s m r (k + 1) else (oneF f n s m k, (k : Int))
def Ws (f : Nat → IV) (n s m : Nat) : Int × Int := if 96 < n then (3, 96) else chkF f n s m n 0
def mostF (f : Nat → IV) (n s m : Nat) : Int := if (Ws f n s m).1 = 0 then Wh f n else 0
theorem chk_step {f : Nat → IV} {n s m k : Nat} (hk : k < n) (h : oneF f n s m k = 0) : chkF f n s m (n - k) k = chkF f n s m (n - (k + 1)) (k + 1) := by
 obtain ⟨d, hd⟩ : ∃ d, n - k = d + 1 := ⟨n - k - 1, by omega⟩
 rw [hd, show n - (k + 1) = d by omega]
 simp only [chkF]; rw [if_pos h]
theorem chk_bad {f : Nat → IV} {n s m k : Nat} (hk : k < n) (h : oneF f n s m k ≠ 0) : chkF f n s m (n - k) k = (oneF f n s m k, (k : Int)) := by
 obtain ⟨d, hd⟩ : ∃ d, n - k = d + 1 := ⟨n - k - 1, by omega⟩
 rw [hd]
 simp only [chkF]; rw [if_neg h]
theorem chk_end {f : Nat → IV} {n s m : Nat} : chkF f n s m (n - n) n = if 0 ≤ Yo f n ∨ 0 < Yn f n then (16, (n : Int)) else (0, 0) := by
 rw [Nat.sub_self]; simp only [chkF]
end Go.Proofs.YtjacgcjjdebbbaaGreat
