/-
  Texts Base, RunesMath, DigitsMath, RunesList, TokMath, TokL, Strs, Ret, DigTake, Own, Blk, Two, Reads. No conditions but those that each theorem names.
-/
import Derived.Test.YtabegjepejgllaaGreatRows
import Derived.WalkKit
import Derived.ProofKit
import Derived.WalkLawsBesides
import Derived.Outline
import Derived.OpenShut
import Derived.Below
import Derived.Lib.Hide
import Derived.Laws.RangeAny
import Derived.Laws.BytesArg
import Derived.Laws.Strings
import Derived.Shelf.Small.Strs
import Derived.Shelf.Strings.Prefix
import Derived.Shelf.Lay
import Derived.Ground.NamesProg
import Derived.Calls
import Derived.Laws.Strings2
import Derived.IntWalk
import Derived.Laws.OwnMore
import Derived.Maps.AppendAt
import Derived.OwnWalk
import Derived.Deep.QuietTactic
import Derived.Laws.Rows
import Derived.Lib.AppendStr
namespace Go.Proofs.YtabegjepejgllaaGreat
open Go.ChangeShapes Go.WideShapes Go.ChangeAt Go.RowKit
theorem Hh {p : Prop} (h : p) : Hid p := Lib.hid h
end Go.Proofs.YtabegjepejgllaaGreat
namespace Go.Proofs.YtabegjepejgllaaGreat
open Go
def gB (s : ByteArray) (i : Nat) : Nat := (s.get! i).toNat
theorem gB_lt (s : ByteArray) (i : Nat) : gB s i < 256 := (s.get! i).toNat_lt
theorem gB_eq (s : ByteArray) (i : Nat) (h : i < s.size) : gB s i = (s[i]'h).toNat := by
 unfold gB
 have := get_at s i h
 rw [Nat.add_zero] at this
 rw [this]
def cB (s : ByteArray) (i : Nat) : Bool := decide (i < s.size) && decide (128 ≤ gB s i) && decide (gB s i < 192)
theorem cB_iff (s : ByteArray) (i : Nat) : cB s i = true ↔ i < s.size ∧ 128 ≤ gB s i ∧ gB s i < 192 := by
 unfold cB; simp; omega
theorem dec_eq (s : ByteArray) (i : Nat) : Utf8.decode s i =
   if gB s i < 128 then (gB s i, 1)
   else if gB s i / 32 = 6 ∧ cB s (i + 1) = true then
     (if 128 ≤ gB s i % 32 * 64 + gB s (i + 1) % 64 then (gB s i % 32 * 64 + gB s (i + 1) % 64, 2) else (65533, 1))
   else if gB s i / 16 = 14 ∧ cB s (i + 1) = true ∧ cB s (i + 2) = true then
     (if 2048 ≤ gB s i % 16 * 4096 + gB s (i + 1) % 64 * 64 + gB s (i + 2) % 64 ∧ ¬ (55296 ≤ gB s i % 16 * 4096 + gB s (i + 1) % 64 * 64 + gB s (i + 2) % 64 ∧ gB s i % 16 * 4096 + gB s (i + 1) % 64 * 64 + gB s (i + 2) % 64 ≤ 57343) then (gB s i % 16 * 4096 + gB s (i + 1) % 64 * 64 + gB s (i + 2) % 64, 3) else (65533, 1))
   else if gB s i / 8 = 30 ∧ cB s (i + 1) = true ∧ cB s (i + 2) = true ∧ cB s (i + 3) = true then
     (if 65536 ≤ gB s i % 8 * 262144 + gB s (i + 1) % 64 * 4096 + gB s (i + 2) % 64 * 64 + gB s (i + 3) % 64 ∧ gB s i % 8 * 262144 + gB s (i + 1) % 64 * 4096 + gB s (i + 2) % 64 * 64 + gB s (i + 3) % 64 ≤ 1114111 then (gB s i % 8 * 262144 + gB s (i + 1) % 64 * 4096 + gB s (i + 2) % 64 * 64 + gB s (i + 3) % 64, 4) else (65533, 1))
   else (65533, 1) := by
 have e : ∀ k, (s.get! k).toNat = gB s k := fun k => rfl
 have c : ∀ k, (decide (i + k < s.size) && (gB s (i + k) / 64 == 2)) = cB s (i + k) := by
   intro k
   rw [Bool.eq_iff_iff, cB_iff]
   simp
   omega
 have h0 := gB_lt s i
 have h1 := gB_lt s (i + 1)
 have h2 := gB_lt s (i + 2)
 unfold Utf8.decode
 simp only [e, c, Nat.add_zero, Utf8.runeError, Bool.and_eq_true, beq_iff_eq, Utf8.valid, Bool.or_eq_true, decide_eq_true_eq, and_assoc, ge_iff_le]
 generalize gB s i = a at *
 generalize gB s (i + 1) = b at *
 generalize gB s (i + 2) = d at *
 generalize gB s (i + 3) = f at *
 repeat' split
 all_goals first
   | rfl
   | (exfalso; omega)
theorem Uk (s : ByteArray) (i : Nat) (h : i < s.size) : 1 ≤ (Utf8.decode s i).2 ∧ i + (Utf8.decode s i).2 ≤ s.size ∧ (Utf8.decode s i).2 ≤ 4 ∧ (Utf8.decode s i).1 ≤ 1114111 := by
 have h0 := gB_lt s i
 rw [dec_eq]
 repeat' split
 all_goals simp only [cB_iff] at *
 all_goals ((try dsimp only); omega)
theorem dec_ascii (s : ByteArray) (i : Nat) (h : (Utf8.decode s i).1 < 128) : (Utf8.decode s i).1 = gB s i ∧ (Utf8.decode s i).2 = 1 := by
 rw [dec_eq] at h ⊢
 repeat' split
 all_goals (simp only [*] at h; revert h; dsimp only; repeat' split)
 all_goals first
   | (exact fun _ => ⟨rfl, rfl⟩)
   | (intro h; exfalso; simp only [*] at *; omega)
   | (intro h; exfalso; omega)
theorem Xp (s : ByteArray) (i : Nat) (h : gB s i < 128) : Utf8.decode s i = (gB s i, 1) := by
 rw [dec_eq, if_pos h]
theorem dec_last (s : ByteArray) (i : Nat) (h : 1 < (Utf8.decode s i).2) : 128 ≤ gB s (i + (Utf8.decode s i).2 - 1) := by
 rw [dec_eq] at h ⊢
 repeat' split
 all_goals simp only [*, cB_iff] at *
 all_goals (try (simp at h; done))
 all_goals (simp; omega)
def numsAt (s : ByteArray) (i n : Nat) : List Int := (List.range n).map fun j => (gB s (i + j) : Int)
theorem numsAt_length (s : ByteArray) (i n : Nat) : (numsAt s i n).length = n := by simp [numsAt]
theorem gB_extract (s : ByteArray) (a b i : Nat) (h : a + i < b) (hb : b ≤ s.size) : gB (s.extract a b) i = gB s (a + i) := by
 rw [gB_eq _ i (by rw [ByteArray.size_extract]; omega), gB_eq _ (a + i) (by omega), ByteArray.getElem_extract]
theorem size_extract (s : ByteArray) (a b : Nat) (hb : b ≤ s.size) : (s.extract a b).size = b - a := by rw [ByteArray.size_extract]; omega
theorem dec_extract (s : ByteArray) (a : Nat) (h : a ≤ s.size) (i : Nat) (hi : a + i < s.size) : Utf8.decode (s.extract a s.size) i = Utf8.decode s (a + i) := by
 have hz : (s.extract a s.size).size = s.size - a := size_extract s a s.size (Nat.le_refl _)
 have g0 : gB (s.extract a s.size) i = gB s (a + i) := gB_extract s a s.size i hi (Nat.le_refl _)
 have gc : ∀ k, cB (s.extract a s.size) (i + k) = cB s (a + i + k) ∧ (cB s (a + i + k) = true → gB (s.extract a s.size) (i + k) = gB s (a + i + k)) := by
   intro k
   by_cases hk : a + i + k < s.size
   · have g := gB_extract s a s.size (i + k) (by omega) (Nat.le_refl _)
     rw [show a + (i + k) = a + i + k from by omega] at g
     refine ⟨?_, fun _ => g⟩
     unfold cB; rw [hz, g]
     simp only [show (i + k < s.size - a) = True from by simp; omega, hk]
   · have e1 : cB (s.extract a s.size) (i + k) = false := by unfold cB; rw [hz]; simp; omega
     have e2 : cB s (a + i + k) = false := by unfold cB; simp; omega
     exact ⟨e1.trans e2.symm, fun h => by rw [e2] at h; cases h⟩
 obtain ⟨c1, d1⟩ := gc 1
 obtain ⟨c2, d2⟩ := gc 2
 obtain ⟨c3, d3⟩ := gc 3
 rw [dec_eq, dec_eq, g0, c1, c2, c3]
 by_cases e1 : cB s (a + i + 1) = true
 · rw [d1 e1]
   by_cases e2 : cB s (a + i + 2) = true
   · rw [d2 e2]
     by_cases e3 : cB s (a + i + 3) = true
     · rw [d3 e3]
     · simp [e3]
   · simp [e2]
 · simp [e1]
theorem strOfNums_eq (l m : List Int) (hl : ∀ x ∈ l, 0 ≤ x ∧ x < 256) (hm : ∀ x ∈ m, 0 ≤ x ∧ x < 256) (h : strOfNums l = strOfNums m) : l = m := by
 have e := congrArg (fun b : ByteArray => b.data.toList.map (fun c : UInt8 => (c.toNat : Int))) h
 have k : ∀ l : List Int, (∀ x ∈ l, 0 ≤ x ∧ x < 256) → (strOfNums l).data.toList.map (fun c : UInt8 => (c.toNat : Int)) = l := by
   intro l hl
   rw [strOfNums_data, List.map_map]
   conv => rhs; rw [← List.map_id l]
   apply List.map_congr_left
   intro x hx
   have := hl x hx
   simp
   omega
 rw [← k l hl, ← k m hm]
 exact e
theorem numsAt_bd (s : ByteArray) (i n : Nat) : ∀ x ∈ numsAt s i n, 0 ≤ x ∧ x < 256 := by
 intro x hx
 simp only [numsAt, List.mem_map] at hx
 obtain ⟨j, _, rfl⟩ := hx
 have := gB_lt s (i + j)
 omega
theorem extract_nums (s : ByteArray) (i n : Nat) (h : i + n ≤ s.size) : s.extract i (i + n) = strOfNums (numsAt s i n) := by
 have hz : (s.extract i (i + n)).size = n := by rw [size_extract _ _ _ h]; omega
 apply ByteArray.ext
 apply Array.ext
 · show (s.extract i (i + n)).size = (strOfNums (numsAt s i n)).size
   rw [hz, strOfNums_size, numsAt_length]
 · intro j h1 h2
   have hj : j < n := by rw [← hz]; exact h1
   have e : (strOfNums (numsAt s i n)).data[j] = UInt8.ofNat (gB s (i + j)) := by
     simp [strOfNums, numsAt]
   rw [e]
   have g := gB_eq s (i + j) (by omega)
   apply UInt8.toNat_inj.1
   rw [g]
   simp
   rfl
def bL (s : ByteArray) : List Int := numsAt s 0 s.size
theorem Wx (s : ByteArray) : (bL s).length = s.size := numsAt_length _ _ _
theorem bL_bd (s : ByteArray) : ∀ x ∈ bL s, 0 ≤ x ∧ x < 256 := numsAt_bd _ _ _
theorem str_bL (s : ByteArray) : strOfNums (bL s) = s := by
 have h := extract_nums s 0 s.size (by omega)
 rw [Nat.zero_add] at h
 unfold bL
 rw [← h]
 exact ByteArray.extract_zero_size
theorem bL_get (s : ByteArray) (i : Nat) (h : i < s.size) : (bL s)[i]? = some (gB s i : Int) := by
 simp [bL, numsAt, h]
theorem bL_str (l : List Int) (hl : ∀ x ∈ l, 0 ≤ x ∧ x < 256) : bL (strOfNums l) = l :=
 strOfNums_eq _ _ (bL_bd _) hl (str_bL _)
theorem bL_extract (s : ByteArray) (i n : Nat) (h : i + n ≤ s.size) : bL (s.extract i (i + n)) = ((bL s).drop i).take n := by
 rw [extract_nums s i n h, bL_str _ (numsAt_bd _ _ _)]
 apply List.ext_getElem?
 intro j
 by_cases hj : j < n
 · rw [List.getElem?_take_of_lt hj, List.getElem?_drop, bL_get s (i + j) (by omega)]
   simp [numsAt, hj]
 · rw [List.getElem?_eq_none (by rw [numsAt_length]; omega), List.getElem?_eq_none (by rw [List.length_take]; omega)]
def isD (x : Int) : Bool := decide (48 ≤ x) && decide (x ≤ 57)
theorem isD_iff (x : Int) : isD x = true ↔ 48 ≤ x ∧ x ≤ 57 := by simp [isD]
def valL (l : List Int) : Int := l.foldl (fun n d => 10 * n + (d - 48)) 0
theorem valL_snoc (l : List Int) (d : Int) : valL (l ++ [d]) = 10 * valL l + (d - 48) := by simp [valL]
theorem snoc_cases (l : List Int) : l = [] ∨ ∃ m d, l = m ++ [d] := by
 rcases List.eq_nil_or_concat l with h | ⟨m, d, h⟩
 · exact .inl h
 · exact .inr ⟨m, d, by rw [h, List.concat_eq_append]⟩
theorem valL_nonneg (l : List Int) (hl : ∀ x ∈ l, 48 ≤ x ∧ x ≤ 57) : 0 ≤ valL l ∧ valL l < 10 ^ l.length := by
 generalize hn : l.length = n
 induction n generalizing l with
 | zero => rw [List.eq_nil_of_length_eq_zero hn]; simp [valL]
 | succ n ih =>
   rcases snoc_cases l with rfl | ⟨m, d, rfl⟩
   · simp at hn
   · have := ih m (fun x hx => hl x (by simp [hx])) (by simpa using hn)
     have := hl d (by simp)
     rw [valL_snoc, Int.pow_succ]
     omega
theorem pow10_le {k : Nat} (h : k ≤ 9) : (10 : Int) ^ k ≤ 1000000000 := by
 have h : k = 0 ∨ k = 1 ∨ k = 2 ∨ k = 3 ∨ k = 4 ∨ k = 5 ∨ k = 6 ∨ k = 7 ∨ k = 8 ∨ k = 9 := by omega
 rcases h with rfl | rfl | rfl | rfl | rfl | rfl | rfl | rfl | rfl | rfl <;> decide
def plain (l : List Int) : Bool := !decide (l[0]? = some 48) || decide (l.length = 1)
def Yw (l : List Int) : List Int := l.takeWhile isD
theorem firstD_cons {x : Int} (r : List Int) (h : isD x = true) : Yw (x :: r) = x :: Yw r := by simp [Yw, h]
theorem firstD_stop {x : Int} (r : List Int) (h : isD x = false) : Yw (x :: r) = [] := by simp [Yw, h]
theorem firstD_isD (l : List Int) : ∀ x ∈ Yw l, 48 ≤ x ∧ x ≤ 57 := by
 intro x hx
 have : isD x = true := by
   unfold Yw at hx
   exact (List.all_eq_true.1 (List.all_takeWhile (l := l) (p := isD))) x hx
 exact (isD_iff x).1 this
theorem firstD_take (l : List Int) : l.take (Yw l).length = Yw l := by
 induction l with
 | nil => rfl
 | cons x r ih =>
   cases h : isD x with
   | true => rw [firstD_cons r h]; simp [ih]
   | false => rw [firstD_stop r h]; rfl
theorem firstD_len (l : List Int) : (Yw l).length ≤ l.length := by
 have := congrArg List.length (firstD_take l)
 rw [List.length_take] at this; omega
theorem drop_cons {l : List Int} {i : Nat} (h : i < l.length) : l.drop i = l[i] :: l.drop (i + 1) := List.drop_eq_getElem_cons h
theorem bL_drop (s : ByteArray) (i : Nat) (h : i < s.size) : (bL s).drop i = (gB s i : Int) :: (bL s).drop (i + 1) := by
 have hl : i < (bL s).length := by rw [Wx]; exact h
 rw [drop_cons hl]
 congr 1
 have := bL_get s i h
 rw [List.getElem?_eq_getElem hl] at this
 exact Option.some.inj this
theorem bL_drop_nil (s : ByteArray) (i : Nat) (h : s.size ≤ i) : (bL s).drop i = [] := List.drop_eq_nil_of_le (by rw [Wx]; exact h)
def takeOf (s : ByteArray) (a most : Int) : Int × Int × Bool :=
 if a < 0 ∨ (s.size : Int) ≤ a then (0, 0, false)
 else if Yw ((bL s).drop a.toNat) ≠ [] ∧ ((Yw ((bL s).drop a.toNat)).length : Int) ≤ most ∧ (Yw ((bL s).drop a.toNat)).length ≤ 9 ∧ plain (Yw ((bL s).drop a.toNat)) = true then
   (valL (Yw ((bL s).drop a.toNat)), a + ((Yw ((bL s).drop a.toNat)).length : Int), true)
 else (0, 0, false)
def Vp (s : ByteArray) : Nat → Nat → List (Nat × Nat)
 | 0, _ => []
 | b + 1, i => if i < s.size then ((Utf8.decode s i).1, i) :: Vp s b (i + (Utf8.decode s i).2) else []
theorem Vv (s : ByteArray) (b i : Nat) (h : s.size ≤ i) : Vp s b i = [] := by
 cases b with
 | zero => rfl
 | succ b => simp only [Vp]; rw [if_neg (by omega)]
theorem runesFrom_step (s : ByteArray) (b i : Nat) (h : i < s.size) : Vp s (b + 1) i = ((Utf8.decode s i).1, i) :: Vp s b (i + (Utf8.decode s i).2) := by
 simp only [Vp]; rw [if_pos h]
theorem runesFrom_fuel (s : ByteArray) : ∀ (b c i : Nat), s.size ≤ i + b → s.size ≤ i + c → Vp s b i = Vp s c i
 | 0, c, i, h, _ => by rw [Vv s c i (by omega)]; rfl
 | b + 1, 0, i, _, h => by rw [Vv s (b + 1) i (by omega)]; rfl
 | b + 1, c + 1, i, h1, h2 => by
   by_cases h : i < s.size
   · have := Uk s i h
     rw [runesFrom_step s b i h, runesFrom_step s c i h, runesFrom_fuel s b c _ (by omega) (by omega)]
   · rw [Vv s _ i (by omega), Vv s _ i (by omega)]
def Wl (s : ByteArray) (i : Nat) : List (Nat × Nat) := Vp s (s.size - i) i
theorem Wy (s : ByteArray) (i : Nat) (h : s.size ≤ i) : Wl s i = [] := Vv s _ i h
theorem Xh (s : ByteArray) (i : Nat) (h : i < s.size) : Wl s i = ((Utf8.decode s i).1, i) :: Wl s (i + (Utf8.decode s i).2) := by
 have := Uk s i h
 unfold Wl
 rw [show s.size - i = (s.size - i - 1) + 1 from by omega, runesFrom_step s _ i h]
 congr 1
 exact runesFrom_fuel s _ _ _ (by omega) (by omega)
def Wd (s : ByteArray) : List (Nat × Nat) := Wl s 0
theorem runesAt_length (s : ByteArray) : ∀ (b i : Nat), s.size ≤ i + b → (Wl s i).length ≤ s.size - i
 | 0, i, h => by rw [Wy s i (by omega)]; simp
 | b + 1, i, h => by
   by_cases hi : i < s.size
   · have := Uk s i hi
     have ih := runesAt_length s b (i + (Utf8.decode s i).2) (by omega)
     rw [Xh s i hi, List.length_cons]; omega
   · rw [Wy s i (by omega)]; simp
theorem runesOf_length (s : ByteArray) : (Wd s).length ≤ s.size := runesAt_length s s.size 0 (by omega)
theorem Wk (s : ByteArray) : ∀ (b i : Nat), s.size ≤ i + b → ∀ x ∈ Wl s i, i ≤ x.2 ∧ x.2 < s.size ∧ x.1 ≤ 1114111
 | 0, i, h => by rw [Wy s i (by omega)]; simp
 | b + 1, i, h => by
   by_cases hi : i < s.size
   · have := Uk s i hi
     rw [Xh s i hi]
     intro x hx
     rcases List.mem_cons.1 hx with rfl | hx
     · dsimp only; omega
     · have := Wk s b (i + (Utf8.decode s i).2) (by omega) x hx
       omega
   · rw [Wy s i (by omega)]; simp
def Yp (p : Nat × Nat) (r : Nat) : Nat × Nat := if r = 10 then (p.1 + 1, 1) else (p.1, p.2 + 1)
def placeL (at_ : Int) : List (Nat × Nat) → Nat × Nat → Nat × Nat
 | [], p => p
 | x :: l, p => if at_ ≤ (x.2 : Int) then p else placeL at_ l (Yp p x.1)
def Zv (s : ByteArray) (at_ : Int) : Nat × Nat := placeL at_ (Wd s) (1, 1)
theorem placeStep_bd (p : Nat × Nat) (r : Nat) (m : Nat) (h1 : p.1 ≤ m) (h2 : p.2 ≤ m) (h3 : 1 ≤ m): (Yp p r).1 ≤ m + 1 ∧ (Yp p r).2 ≤ m + 1 := by
 unfold Yp; split <;> (dsimp only; omega)
theorem placeL_bd (at_ : Int) : ∀ (l : List (Nat × Nat)) (p : Nat × Nat) (m : Nat), p.1 ≤ m → p.2 ≤ m → 1 ≤ m → (placeL at_ l p).1 ≤ m + l.length ∧ (placeL at_ l p).2 ≤ m + l.length
 | [], p, m, h1, h2, _ => by simp only [placeL, List.length_nil]; omega
 | x :: l, p, m, h1, h2, h3 => by
   simp only [placeL, List.length_cons]
   split
   · omega
   · have := placeStep_bd p x.1 m h1 h2 h3
     have := placeL_bd at_ l (Yp p x.1) (m + 1) this.1 this.2 (by omega)
     omega
theorem placeOf_bd (s : ByteArray) (at_ : Int) : (Zv s at_).1 ≤ 1 + s.size ∧ (Zv s at_).2 ≤ 1 + s.size := by
 have h := placeL_bd at_ (Wd s) (1, 1) 1 (by simp) (by simp) (by omega)
 have := runesOf_length s
 unfold Zv; omega
theorem placeL_behind (at_ : Nat) : ∀ (done rest : List (Nat × Nat)) (p : Nat × Nat), (∀ x ∈ done, x.2 < at_) → (∀ x ∈ rest, at_ ≤ x.2) → placeL at_ (done ++ rest) p = done.foldl (fun p x => Yp p x.1) p
 | [], rest, p, _, hr => by
   cases rest with
   | nil => rfl
   | cons x l =>
     have := hr x (List.mem_cons_self)
     simp only [List.nil_append, placeL, List.foldl_nil]
     rw [if_pos (by omega)]
 | x :: l, rest, p, hd, hr => by
   have := hd x (List.mem_cons_self)
   simp only [List.cons_append, placeL, List.foldl_cons]
   rw [if_neg (by omega), placeL_behind at_ l rest _ (fun y hy => hd y (List.mem_cons_of_mem _ hy)) hr]
structure Upto (s : ByteArray) (i : Nat) (done : List (Nat × Nat)) : Prop where
 all : Wd s = done ++ Wl s i
 before : ∀ x ∈ done, x.2 < i
theorem Upto.zero (s : ByteArray) : Upto s 0 [] := ⟨rfl, fun x hx => by cases hx⟩
theorem Upto.next {s : ByteArray} {i : Nat} {done : List (Nat × Nat)} (h : Upto s i done) (hi : i < s.size) : Upto s (i + (Utf8.decode s i).2) (done ++ [((Utf8.decode s i).1, i)]) := by
 have := Uk s i hi
 refine ⟨?_, fun x hx => ?_⟩
 · rw [h.all, Xh s i hi]; simp
 · rcases List.mem_append.1 hx with hx | hx
   · have := h.before x hx; omega
   · simp at hx; subst hx; dsimp only; omega
theorem Upto.place {s : ByteArray} {i : Nat} {done : List (Nat × Nat)} (h : Upto s i done) : Zv s i = done.foldl (fun p x => Yp p x.1) (1, 1) := by
 unfold Zv
 rw [h.all]
 exact placeL_behind i done _ _ h.before (fun x hx => (Wk s s.size i (by omega) x hx).1)
theorem Upto.length_end {s : ByteArray} {i : Nat} {done : List (Nat × Nat)} (h : Upto s i done) (hi : s.size ≤ i) : Wd s = done := by
 rw [h.all, Wy s i hi, List.append_nil]
def letterB (n : Int) : Bool := decide (97 ≤ n ∧ n ≤ 122) || decide (65 ≤ n ∧ n ≤ 90) || decide (192 ≤ n ∧ n ≤ 591 ∧ n ≠ 215 ∧ n ≠ 247)
def inNameB (n : Int) : Bool := letterB n || decide (48 ≤ n ∧ n ≤ 57) || decide (n = 32) || decide (n = 39) || decide (n = 45)
def nameB (s : ByteArray) : Bool := decide (1 ≤ (Wd s).length) && decide ((Wd s).length ≤ 24) && (Wd s).all (fun x => inNameB x.1) &&
 decide (((Wd s).map (·.1)).head? ≠ some 32) && decide (((Wd s).map (·.1)).getLast? ≠ some 32)
theorem head_space (s : ByteArray) (h : 0 < s.size) : ((Wd s).map (·.1)).head? = some 32 ↔ gB s 0 = 32 := by
 unfold Wd
 rw [Xh s 0 h]
 simp only [List.map_cons, List.head?_cons, Option.some.injEq]
 constructor
 · intro e
   have := dec_ascii s 0 (by omega)
   omega
 · intro e
   rw [Xp s 0 (by omega)]
   exact e
theorem last_space_at (s : ByteArray) : ∀ (b i : Nat), s.size ≤ i + b → i < s.size → (((Wl s i).map (·.1)).getLast? = some 32 ↔ gB s (s.size - 1) = 32)
 | 0, i, h, hi => by omega
 | b + 1, i, h, hi => by
   have hb := Uk s i hi
   rw [Xh s i hi]
   by_cases hn : i + (Utf8.decode s i).2 < s.size
   · have ih := last_space_at s b (i + (Utf8.decode s i).2) (by omega) hn
     rw [← ih, Xh s _ hn]
     simp only [List.map_cons, List.getLast?_cons_cons]
   · rw [Wy s _ (by omega)]
     simp only [List.map_cons, List.map_nil, List.getLast?_singleton, Option.some.injEq]
     constructor
     · intro e
       have := dec_ascii s i (by omega)
       rw [show s.size - 1 = i from by omega]
       omega
     · intro e
       by_cases h1 : 1 < (Utf8.decode s i).2
       · have := dec_last s i h1
         rw [show i + (Utf8.decode s i).2 - 1 = s.size - 1 from by omega] at this
         omega
       · rw [show s.size - 1 = i from by omega] at e
         rw [Xp s i (by omega)]
         exact e
theorem last_space (s : ByteArray) (h : 0 < s.size) : ((Wd s).map (·.1)).getLast? = some 32 ↔ gB s (s.size - 1) = 32 := last_space_at s s.size 0 (by omega) h
def Bd (s : ByteArray) (i : Nat) : Prop := i ≤ s.size ∧ ∃ done, Upto s i done
theorem Bd.zero (s : ByteArray) : Bd s 0 := ⟨Nat.zero_le _, [], Upto.zero s⟩
theorem dec_cont (s : ByteArray) (i k : Nat) (_hi : i < s.size) (h0 : 0 < k) (h1 : k < (Utf8.decode s i).2) : 128 ≤ gB s (i + k) := by
 rw [dec_eq] at h1
 split at h1
 · dsimp only at h1; omega
 · split at h1
   · rename_i h
     have c1 := (cB_iff s (i + 1)).1 h.2
     split at h1
     · dsimp only at h1; rw [show k = 1 from by omega]; omega
     · dsimp only at h1; omega
   · split at h1
     · rename_i h
       have c1 := (cB_iff s (i + 1)).1 h.2.1
       have c2 := (cB_iff s (i + 2)).1 h.2.2
       split at h1
       · dsimp only at h1
         have hk : k = 1 ∨ k = 2 := by omega
         rcases hk with rfl | rfl <;> omega
       · dsimp only at h1; omega
     · split at h1
       · rename_i h
         have c1 := (cB_iff s (i + 1)).1 h.2.1
         have c2 := (cB_iff s (i + 2)).1 h.2.2.1
         have c3 := (cB_iff s (i + 3)).1 h.2.2.2
         split at h1
         · dsimp only at h1
           have hk : k = 1 ∨ k = 2 ∨ k = 3 := by omega
           rcases hk with rfl | rfl | rfl <;> omega
         · dsimp only at h1; omega
       · dsimp only at h1; omega
theorem upto_reach (s : ByteArray) (q : Nat) (hq : q ≤ s.size) (ha : q = s.size ∨ gB s q < 128) : ∀ (b i : Nat) (done : List (Nat × Nat)), q ≤ i + b → i ≤ q → Upto s i done → ∃ more, Upto s q (done ++ more)
 | 0, i, done, h1, h2, h => by
   have : i = q := by omega
   subst this
   exact ⟨[], by simpa using h⟩
 | b + 1, i, done, h1, h2, h => by
   by_cases he : i = q
   · subst he
     exact ⟨[], by simpa using h⟩
   · have hi : i < s.size := by omega
     have hd := Uk s i hi
     have hle : i + (Utf8.decode s i).2 ≤ q := by
       rcases Nat.lt_or_ge q (i + (Utf8.decode s i).2) with hlt | hge
       · exfalso
         have := dec_cont s i (q - i) hi (by omega) (by omega)
         rw [show i + (q - i) = q from by omega] at this
         omega
       · exact hge
     obtain ⟨more, hm⟩ := upto_reach s q hq ha b _ _ (by omega) hle (h.next hi)
     exact ⟨_ :: more, by simpa using hm⟩
theorem Bd.reach {s : ByteArray} {q : Nat} (hq : q ≤ s.size) (ha : q = s.size ∨ gB s q < 128) : Bd s q := by
 obtain ⟨m, hm⟩ := upto_reach s q hq ha q 0 [] (by omega) (by omega) (Upto.zero s)
 exact ⟨hq, _, hm⟩
theorem Bd.end_ (s : ByteArray) : Bd s s.size := Bd.reach (Nat.le_refl _) (.inl rfl)
theorem Bd.next {s : ByteArray} {i : Nat} (h : Bd s i) (hi : i < s.size) : Bd s (i + (Utf8.decode s i).2) := by
 obtain ⟨_, d, hu⟩ := h
 have := Uk s i hi
 exact ⟨by omega, _, hu.next hi⟩
theorem Bd.behind {s : ByteArray} {q : Nat} (hq : q < s.size) (ha : gB s q < 128) : Bd s (q + 1) := by
 have h := (Bd.reach (Nat.le_of_lt hq) (.inr ha)).next hq
 rwa [Xp s q ha] at h
theorem dec_part (s : ByteArray) (i j : Nat) (hj : j ≤ s.size) (h : i + (Utf8.decode s i).2 ≤ j) (hi : i < j) : Utf8.decode (s.extract 0 j) i = Utf8.decode s i := by
 have hz : (s.extract 0 j).size = j := by rw [size_extract s 0 j hj]; omega
 have hg : ∀ k, k < j → gB (s.extract 0 j) k = gB s k := fun k hk => by
   have := gB_extract s 0 j k (by omega) hj
   rwa [Nat.zero_add] at this
 have hc : ∀ k, k < j → cB (s.extract 0 j) k = cB s k := fun k hk => by
   rw [Bool.eq_iff_iff, cB_iff, cB_iff, hz, hg k hk]; omega
 have hc' : ∀ k, cB (s.extract 0 j) k = true → k < j := fun k hk => by
   have := (cB_iff _ _).1 hk
   omega
 have h0 := hg i hi
 rw [dec_eq s i] at h
 rw [dec_eq (s.extract 0 j) i, dec_eq s i, h0]
 by_cases ha : gB s i < 128
 · rw [if_pos ha, if_pos ha]
 · rw [if_neg ha] at h
   rw [if_neg ha, if_neg ha]
   by_cases k1 : i + 1 < j
   · rw [hc _ k1, hg _ k1]
     by_cases k2 : i + 2 < j
     · rw [hc _ k2, hg _ k2]
       by_cases k3 : i + 3 < j
       · rw [hc _ k3, hg _ k3]
       · have e3 : cB (s.extract 0 j) (i + 3) = false := by
           rw [← Bool.not_eq_true]; intro hh; exact k3 (hc' _ hh)
         rw [e3]
         by_cases b1 : gB s i / 32 = 6 ∧ cB s (i + 1) = true
         · rw [if_pos b1, if_pos b1]
         · rw [if_neg b1] at h; rw [if_neg b1, if_neg b1]
           by_cases b2 : gB s i / 16 = 14 ∧ cB s (i + 1) = true ∧ cB s (i + 2) = true
           · rw [if_pos b2, if_pos b2]
           · rw [if_neg b2] at h; rw [if_neg b2, if_neg b2]
             rw [if_neg (by simp)]
             repeat' split
             all_goals first
               | rfl
               | (exfalso; simp only [*] at h; simp at h; omega)
               | (exfalso; rw [if_pos (by assumption)] at h; rw [if_pos (by assumption)] at h; dsimp only at h; omega)
     · have e2 : cB (s.extract 0 j) (i + 2) = false := by
         rw [← Bool.not_eq_true]; intro hh; exact k2 (hc' _ hh)
       rw [e2]
       by_cases b1 : gB s i / 32 = 6 ∧ cB s (i + 1) = true
       · rw [if_pos b1, if_pos b1]
       · rw [if_neg b1] at h; rw [if_neg b1, if_neg b1, if_neg (by simp), if_neg (by simp)]
         repeat' split
         all_goals first
           | rfl
           | (exfalso; rw [if_pos (by assumption)] at h; rw [if_pos (by assumption)] at h; dsimp only at h; omega)
           | (exfalso; rw [if_neg (by assumption)] at h; rw [if_pos (by assumption)] at h; rw [if_pos (by assumption)] at h; dsimp only at h; omega)
   · have e1 : cB (s.extract 0 j) (i + 1) = false := by
       rw [← Bool.not_eq_true]; intro hh; exact k1 (hc' _ hh)
     rw [e1, if_neg (by simp), if_neg (by simp), if_neg (by simp)]
     repeat' split
     all_goals first
       | rfl
       | (exfalso; rw [if_pos (by assumption)] at h; rw [if_pos (by assumption)] at h; dsimp only at h; omega)
       | (exfalso; rw [if_neg (by assumption)] at h; rw [if_pos (by assumption)] at h; rw [if_pos (by assumption)] at h; dsimp only at h; omega)
       | (exfalso; rw [if_neg (by assumption)] at h; rw [if_neg (by assumption)] at h; rw [if_pos (by assumption)] at h; rw [if_pos (by assumption)] at h; dsimp only at h; omega)
theorem extract_extract' (s : ByteArray) (i j : Nat) (hij : i ≤ j) (hj : j ≤ s.size) : s.extract i j = (s.extract i s.size).extract 0 (j - i) := by
 rw [ByteArray.extract_extract]
 congr 1 <;> omega
theorem dec_piece (s : ByteArray) (i j k : Nat) (hij : i ≤ j) (hj : j ≤ s.size) (hk : i + k < j) (h : i + k + (Utf8.decode s (i + k)).2 ≤ j) : Utf8.decode (s.extract i j) k = Utf8.decode s (i + k) := by
 have e := dec_extract s i (by omega) k (by omega)
 rw [extract_extract' s i j hij hj, dec_part _ _ _ (by rw [size_extract _ _ _ (Nat.le_refl _)]; omega) (by rw [e]; omega) (by omega), e]
def fld (p : Nat × Nat) (l : List (Nat × Nat)) : Nat × Nat := l.foldl (fun p x => Yp p x.1) p
theorem fld_cons (p : Nat × Nat) (x : Nat × Nat) (l : List (Nat × Nat)) : fld p (x :: l) = fld (Yp p x.1) l := rfl
theorem fld_app (p : Nat × Nat) (l m : List (Nat × Nat)) : fld p (l ++ m) = fld (fld p l) m := List.foldl_append
def adv (p x : Nat × Nat) : Nat × Nat := if 1 < x.1 then (p.1 + x.1 - 1, x.2) else (p.1, p.2 + x.2 - 1)
theorem fld_adv (l : List (Nat × Nat)) : ∀ (p q : Nat × Nat), 1 ≤ q.1 → 1 ≤ q.2 → fld (adv p q) l = adv p (fld q l) := by
 induction l with
 | nil => intro p q _ _; rfl
 | cons x l ih =>
   intro p q h1 h2
   rw [fld_cons, fld_cons]
   have e : Yp (adv p q) x.1 = adv p (Yp q x.1) := by
     unfold Yp adv
     by_cases hx : x.1 = 10
     · simp only [if_pos hx]
       repeat' split
       all_goals first
         | (exfalso; omega)
         | (simp; try omega)
     · simp only [if_neg hx]
       repeat' split
       all_goals (simp; try omega)
   rw [e, ih p (Yp q x.1) (by unfold Yp; split <;> (dsimp only; omega)) (by unfold Yp; split <;> (dsimp only; omega))]
theorem adv_one (p : Nat × Nat) : adv p (1, 1) = p := by
 unfold adv; simp
theorem piece_runes (s : ByteArray) (i j : Nat) (hj : j ≤ s.size) : ∀ (b k : Nat) (more : List (Nat × Nat)) (done : List (Nat × Nat)), j ≤ i + k + b → i + k ≤ j → Upto s (i + k) done → Upto s j (done ++ more) →
   (Wl (s.extract i j) k).map (·.1) = more.map (·.1)
 | 0, k, more, done, h1, h2, hu, hw => by
   have e : i + k = j := by omega
   have hz : (s.extract i j).size = j - i := size_extract s i j hj
   rw [Wy _ _ (by omega)]
   have a1 := hu.all
   have a2 := hw.all
   rw [e] at a1
   rw [a1, List.append_assoc] at a2
   have := List.append_cancel_left a2
   have : more = [] := by
     have hl := congrArg List.length this
     simp at hl
     exact hl
   rw [this]
 | b + 1, k, more, done, h1, h2, hu, hw => by
   by_cases e : i + k = j
   · exact piece_runes s i j hj 0 k more done (by omega) h2 hu hw
   · have hlt : i + k < s.size := by omega
     have hz : (s.extract i j).size = j - i := size_extract s i j hj
     have hn := hu.next hlt
     have a1 := hu.all
     have a2 := hw.all
     rw [Xh s _ hlt] at a1
     rw [a1, List.append_assoc] at a2
     have a3 := List.append_cancel_left a2
     cases more with
     | nil =>
       exfalso
       rw [List.nil_append] at a3
       have hm : ((Utf8.decode s (i + k)).1, i + k) ∈ Wl s j := by rw [← a3]; exact List.mem_cons_self
       have := (Wk s s.size j (by omega) _ hm).1
       simp at this
       omega
     | cons x more =>
       rw [List.cons_append] at a3
       have hx : x = ((Utf8.decode s (i + k)).1, i + k) := (List.cons.inj a3).1.symm
       have hle : i + k + (Utf8.decode s (i + k)).2 ≤ j := by
         rcases Nat.lt_or_ge j (i + k + (Utf8.decode s (i + k)).2) with hlt' | hge
         · exfalso
           have t := (List.cons.inj a3).2
           cases more with
           | nil =>
             rw [List.nil_append] at t
             by_cases hjs : j < s.size
             · rw [Xh s j hjs] at t
               have hm : ((Utf8.decode s j).1, j) ∈ Wl s (i + k + (Utf8.decode s (i + k)).2) := by rw [t]; exact List.mem_cons_self
               have := (Wk s s.size _ (by omega) _ hm).1
               simp at this
               omega
             · have := Uk s (i + k) hlt
               omega
           | cons y more =>
             have hm : y ∈ Wl s (i + k + (Utf8.decode s (i + k)).2) := by rw [t]; simp
             have g1 := (Wk s s.size _ (by omega) _ hm).1
             have g2 := hw.before y (by simp)
             omega
         · exact hge
       have hd := dec_piece s i j k (by omega) hj (by omega) hle
       have hb := Uk s (i + k) hlt
       rw [Xh _ k (by omega), hd, List.map_cons, List.map_cons, hx]
       congr 1
       have ih := piece_runes s i j hj b (k + (Utf8.decode s (i + k)).2) more (done ++ [((Utf8.decode s (i + k)).1, i + k)]) (by omega) (by omega) (by rw [← Nat.add_assoc]; exact hn) (by rw [List.append_assoc]; rw [← hx]; simpa using hw)
       exact ih
theorem fld_map (l m : List (Nat × Nat)) (h : l.map (·.1) = m.map (·.1)) (p : Nat × Nat) : fld p l = fld p m := by
 have e : ∀ l : List (Nat × Nat), ∀ p, fld p l = (l.map (·.1)).foldl Yp p := by
   intro l
   induction l with
   | nil => intro p; rfl
   | cons x l ih => intro p; rw [fld_cons, ih]; rfl
 rw [e, e, h]
theorem Upto.more {s : ByteArray} {i j : Nat} {d e : List (Nat × Nat)} (hi : Upto s i d) (hj : Upto s j e) (hij : i ≤ j) : ∃ more, e = d ++ more ∧ ∀ x ∈ more, i ≤ x.2 := by
 have a1 := hi.all
 have a2 := hj.all
 rw [a1] at a2
 rcases List.append_eq_append_iff.1 a2 with ⟨m, h1, h2⟩ | ⟨m, h1, h2⟩
 · refine ⟨m, h1, fun x hx => ?_⟩
   have hm : x ∈ Wl s i := by rw [h2]; simp [hx]
   exact (Wk s s.size i (by omega) x hm).1
 · cases m with
   | nil => exact ⟨[], by simpa using h1.symm, fun x hx => by cases hx⟩
   | cons x m =>
     exfalso
     have g1 := hi.before x (by rw [h1]; simp)
     have hm : x ∈ Wl s j := by rw [h2]; simp
     have g2 := (Wk s s.size j (by omega) x hm).1
     omega
theorem place_fld {s : ByteArray} {i : Nat} {d : List (Nat × Nat)} (h : Upto s i d) : Zv s i = fld (1, 1) d := h.place
theorem place_pass {s : ByteArray} {i j : Nat} (hi : Bd s i) (hj : Bd s j) (hij : i ≤ j) : Zv s (j : Int) = adv (Zv s (i : Int)) (Zv (s.extract i j) ((j - i : Nat) : Int)) := by
 obtain ⟨hi1, d, hu⟩ := hi
 obtain ⟨hj1, e, hv⟩ := hj
 obtain ⟨more, rfl, _⟩ := hu.more hv hij
 have hz : (s.extract i j).size = j - i := size_extract s i j hj1
 have hp := piece_runes s i j hj1 (j - i) 0 more d (by omega) (by omega) (by simpa using hu) hv
 obtain ⟨_, f, hw⟩ := Bd.end_ (s.extract i j)
 have hf := hw.length_end (Nat.le_refl _)
 rw [place_fld hu, place_fld hv, fld_app]
 rw [← hz, place_fld hw, ← hf]
 have hf2 : fld (1, 1) (Wd (s.extract i j)) = fld (1, 1) more := fld_map _ _ hp _
 rw [hf2, ← fld_adv more _ _ (by decide) (by decide), adv_one]
theorem place_lt {s : ByteArray} {i j : Nat} (hi : Bd s i) (hj : Bd s j) (hij : i < j) :
   (Zv s (i : Int)).1 < (Zv s (j : Int)).1 ∨ (Zv s (i : Int)).1 = (Zv s (j : Int)).1 ∧ (Zv s (i : Int)).2 < (Zv s (j : Int)).2 := by
 obtain ⟨hi1, d, hu⟩ := hi
 obtain ⟨hj1, e, hv⟩ := hj
 obtain ⟨more, rfl, hge⟩ := hu.more hv (by omega)
 have hne : more ≠ [] := by
   rintro rfl
   have a1 := hu.all
   have a2 := hv.all
   rw [List.append_nil] at a2
   rw [a1] at a2
   have a3 := List.append_cancel_left a2
   rw [Xh s i (by omega)] at a3
   have hm : ((Utf8.decode s i).1, i) ∈ Wl s j := by rw [← a3]; exact List.mem_cons_self
   have := (Wk s s.size j (by omega) _ hm).1
   simp at this
   omega
 rw [place_fld hu, place_fld hv, fld_app]
 generalize fld (1, 1) d = p
 have key : ∀ (l : List (Nat × Nat)) (p q : Nat × Nat), (p.1 < q.1 ∨ p.1 = q.1 ∧ p.2 < q.2) → p.1 < (fld q l).1 ∨ p.1 = (fld q l).1 ∧ p.2 < (fld q l).2 := by
   intro l
   induction l with
   | nil => intro p q h; exact h
   | cons x l ih =>
     intro p q h
     rw [fld_cons]
     apply ih
     unfold Yp; split <;> (dsimp only; omega)
 cases more with
 | nil => exact absurd rfl hne
 | cons x l =>
   rw [fld_cons]
   apply key
   unfold Yp; split <;> (dsimp only; omega)
theorem place_pos (s : ByteArray) {i : Nat} (hi : Bd s i) : 1 ≤ (Zv s (i : Int)).1 ∧ 1 ≤ (Zv s (i : Int)).2 := by
 obtain ⟨_, d, hu⟩ := hi
 rw [place_fld hu]
 have key : ∀ (l : List (Nat × Nat)) (p : Nat × Nat), 1 ≤ p.1 → 1 ≤ p.2 → 1 ≤ (fld p l).1 ∧ 1 ≤ (fld p l).2 := by
   intro l
   induction l with
   | nil => intro p h1 h2; exact ⟨h1, h2⟩
   | cons x l ih =>
     intro p h1 h2
     rw [fld_cons]
     apply ih <;> (unfold Yp; split <;> (dsimp only; omega))
 exact key _ _ (by decide) (by decide)
theorem ascii_rune (s : ByteArray) (i : Nat) (hi : i < s.size) (h : gB s i < 128) : (gB s i, i) ∈ Wd s := by
 obtain ⟨_, d, hu⟩ := Bd.reach (Nat.le_of_lt hi) (.inr h)
 rw [hu.all, Xh s i hi, Xp s i h]
 simp
def isSm (x : Int) : Bool := decide (97 ≤ x) && decide (x ≤ 122)
theorem isSm_iff (x : Int) : isSm x = true ↔ 97 ≤ x ∧ x ≤ 122 := by unfold isSm; simp
def Yy (c : Int) (x : Int) : Bool := !decide (x = c)
theorem notC_iff (c x : Int) : Yy c x = true ↔ x ≠ c := by unfold Yy; simp
def isBl (x : Int) : Bool := decide (x = 32) || decide (x = 9) || decide (x = 10)
theorem isBl_iff (x : Int) : isBl x = true ↔ x = 32 ∨ x = 9 ∨ x = 10 := by unfold isBl; simp [or_assoc]
def tw (p : Int → Bool) (l : List Int) : Nat := (l.takeWhile p).length
theorem tw_nil (p : Int → Bool) : tw p [] = 0 := rfl
theorem Vo {p : Int → Bool} {x : Int} (r : List Int) (h : p x = true) : tw p (x :: r) = tw p r + 1 := by simp [tw, h]
theorem tw_stop {p : Int → Bool} {x : Int} (r : List Int) (h : p x = false) : tw p (x :: r) = 0 := by simp [tw, h]
theorem tw_le (p : Int → Bool) : ∀ l : List Int, tw p l ≤ l.length
 | [] => Nat.le_refl _
 | x :: r => by
   cases h : p x with
   | true => rw [Vo r h, List.length_cons]; have := tw_le p r; omega
   | false => rw [tw_stop r h]; omega
theorem tw_at (p : Int → Bool) : ∀ (l : List Int) (k : Nat), k < tw p l → ∃ x, l[k]? = some x ∧ p x = true
 | [], k, h => by rw [tw_nil] at h; omega
 | x :: r, k, h => by
   cases hp : p x with
   | true =>
     rw [Vo r hp] at h
     cases k with
     | zero => exact ⟨x, rfl, hp⟩
     | succ k =>
       obtain ⟨y, h1, h2⟩ := tw_at p r k (by omega)
       exact ⟨y, by simpa using h1, h2⟩
   | false => rw [tw_stop r hp] at h; omega
theorem tw_end (p : Int → Bool) : ∀ (l : List Int), tw p l = l.length ∨ ∃ x, l[tw p l]? = some x ∧ p x = false
 | [] => .inl rfl
 | x :: r => by
   cases hp : p x with
   | true =>
     rw [Vo r hp]
     rcases tw_end p r with h | ⟨y, h1, h2⟩
     · exact .inl (by rw [h, List.length_cons])
     · exact .inr ⟨y, by simpa using h1, h2⟩
   | false => rw [tw_stop r hp]; exact .inr ⟨x, rfl, hp⟩
theorem tw_take (p : Int → Bool) (l : List Int) : ∀ y ∈ l.take (tw p l), p y = true := by
 intro y hy
 obtain ⟨k, hk⟩ := List.mem_iff_getElem?.1 hy
 rw [List.getElem?_take] at hk
 split at hk
 · rename_i h
   obtain ⟨x, h1, h2⟩ := tw_at p l k h
   rw [h1] at hk
   cases hk
   exact h2
 · cases hk
theorem tw_firstD (l : List Int) : (Yw l).length = tw isD l := rfl
theorem firstD_tw (l : List Int) : Yw l = l.take (tw isD l) := (firstD_take l).symm
def Vw : List Int → Nat
 | [] => 0
 | c :: r => if (c = 60 ∨ c = 62 ∨ c = 33) ∧ r.head? = some 61 then 2
   else if c = 123 ∨ c = 125 ∨ c = 40 ∨ c = 41 ∨ c = 59 ∨ c = 43 ∨ c = 45 ∨ c = 42 ∨ c = 61 ∨ c = 60 ∨ c = 62 then 1 else 0
theorem markL_cons (c : Int) (r : List Int) : Vw (c :: r) = if (c = 60 ∨ c = 62 ∨ c = 33) ∧ r.head? = some 61 then 2
   else if c = 123 ∨ c = 125 ∨ c = 40 ∨ c = 41 ∨ c = 59 ∨ c = 43 ∨ c = 45 ∨ c = 42 ∨ c = 61 ∨ c = 60 ∨ c = 62 then 1 else 0 := rfl
def Zy : List Int → Int × Nat × Nat × Nat
 | [] => (0, 0, 0, 0)
 | c :: r =>
   if isSm c = true then (1, 0, tw isSm (c :: r), tw isSm (c :: r))
   else if isD c = true then (if 2 < tw isD (c :: r) ∨ (tw isD (c :: r) = 2 ∧ c = 48) then (-2, 0, 0, 0) else (2, 0, tw isD (c :: r), tw isD (c :: r)))
   else if c = 35 then (-1, 0, tw (Yy 10) (c :: r), tw (Yy 10) (c :: r))
   else if c = 34 then (if tw (Yy 34) r = r.length ∨ nameB (strOfNums (r.take (tw (Yy 34) r))) = false then (-3, 0, 0, 0) else (3, 1, tw (Yy 34) r + 1, tw (Yy 34) r + 2))
   else if Vw (c :: r) = 0 then (-4, 0, 0, 0) else (4, 0, Vw (c :: r), Vw (c :: r))
theorem tokL_cons (c : Int) (r : List Int) : Zy (c :: r) =
   if isSm c = true then (1, 0, tw isSm (c :: r), tw isSm (c :: r))
   else if isD c = true then (if 2 < tw isD (c :: r) ∨ (tw isD (c :: r) = 2 ∧ c = 48) then (-2, 0, 0, 0) else (2, 0, tw isD (c :: r), tw isD (c :: r)))
   else if c = 35 then (-1, 0, tw (Yy 10) (c :: r), tw (Yy 10) (c :: r))
   else if c = 34 then (if tw (Yy 34) r = r.length ∨ nameB (strOfNums (r.take (tw (Yy 34) r))) = false then (-3, 0, 0, 0) else (3, 1, tw (Yy 34) r + 1, tw (Yy 34) r + 2))
   else if Vw (c :: r) = 0 then (-4, 0, 0, 0) else (4, 0, Vw (c :: r), Vw (c :: r)) := rfl
theorem markL_le (l : List Int) : Vw l ≤ l.length ∧ Vw l ≤ 2 := by
 cases l with
 | nil => simp [Vw]
 | cons c r =>
   rw [markL_cons]
   split
   · rename_i h
     cases r with
     | nil => simp at h
     | cons d r => simp
   · split <;> simp
theorem tokL_cases (c : Int) (r : List Int) (P : Int × Nat × Nat × Nat → Prop)
   (h1 : isSm c = true → P (1, 0, tw isSm (c :: r), tw isSm (c :: r)))
   (h2 : isD c = true → tw isD (c :: r) ≤ 2 → ¬ (tw isD (c :: r) = 2 ∧ c = 48) → P (2, 0, tw isD (c :: r), tw isD (c :: r)))
   (h2e : isD c = true → (2 < tw isD (c :: r) ∨ (tw isD (c :: r) = 2 ∧ c = 48)) → P (-2, 0, 0, 0))
   (h3 : c = 35 → P (-1, 0, tw (Yy 10) (c :: r), tw (Yy 10) (c :: r)))
   (h4 : c = 34 → tw (Yy 34) r < r.length → nameB (strOfNums (r.take (tw (Yy 34) r))) = true → P (3, 1, tw (Yy 34) r + 1, tw (Yy 34) r + 2))
   (h4e : c = 34 → (tw (Yy 34) r = r.length ∨ nameB (strOfNums (r.take (tw (Yy 34) r))) = false) → P (-3, 0, 0, 0))
   (h5 : isSm c = false → isD c = false → c ≠ 35 → c ≠ 34 → Vw (c :: r) ≠ 0 → P (4, 0, Vw (c :: r), Vw (c :: r)))
   (h5e : isSm c = false → isD c = false → c ≠ 35 → c ≠ 34 → Vw (c :: r) = 0 → P (-4, 0, 0, 0)) : P (Zy (c :: r)) := by
 rw [tokL_cons]
 split
 · exact h1 (by assumption)
 · rename_i n1
   rw [Bool.not_eq_true] at n1
   split
   · split
     · exact h2e (by assumption) (by assumption)
     · exact h2 (by assumption) (by omega) (by omega)
   · rename_i n2
     rw [Bool.not_eq_true] at n2
     split
     · exact h3 (by assumption)
     · split
       · split
         · exact h4e (by assumption) (by assumption)
         · rename_i hn
           have := tw_le (Yy 34) r
           refine h4 (by assumption) (by omega) ?_
           rw [← Bool.not_eq_false]; intro hh; exact hn (.inr hh)
       · split
         · exact h5e n1 n2 (by assumption) (by assumption) (by assumption)
         · exact h5 n1 n2 (by assumption) (by assumption) (by assumption)
theorem tokL_bd (l : List Int) (h : l ≠ []) : (Zy l).2.1 ≤ (Zy l).2.2.1 ∧ (Zy l).2.2.1 ≤ (Zy l).2.2.2 ∧ (Zy l).2.2.2 ≤ l.length ∧ (-1 ≤ (Zy l).1 → 1 ≤ (Zy l).2.2.2) ∧
   (Zy l).1 ≠ 0 ∧ -4 ≤ (Zy l).1 ∧ (Zy l).1 ≤ 4 := by
 cases l with
 | nil => exact absurd rfl h
 | cons c r =>
   refine tokL_cases c r (fun x => x.2.1 ≤ x.2.2.1 ∧ x.2.2.1 ≤ x.2.2.2 ∧ x.2.2.2 ≤ (c :: r).length ∧ (-1 ≤ x.1 → 1 ≤ x.2.2.2) ∧ x.1 ≠ 0 ∧ -4 ≤ x.1 ∧ x.1 ≤ 4) ?_ ?_ ?_ ?_ ?_ ?_ ?_ ?_
   · intro hs
     have := tw_le isSm (c :: r)
     rw [Vo r hs] at *
     refine ⟨by simp, by simp, by simpa using this, fun _ => by simp, by simp, by simp, by simp⟩
   · intro hs _ _
     have := tw_le isD (c :: r)
     rw [Vo r hs] at *
     refine ⟨by simp, by simp, by simpa using this, fun _ => by simp, by simp, by simp, by simp⟩
   · intro _ _; simp
   · intro hc
     have hp : Yy 10 c = true := by rw [notC_iff]; omega
     have := tw_le (Yy 10) (c :: r)
     rw [Vo r hp] at *
     refine ⟨by simp, by simp, by simpa using this, fun _ => by simp, by simp, by simp, by simp⟩
   · intro _ h _
     refine ⟨by simp, by simp, by simp; omega, fun _ => by simp, by simp, by simp, by simp⟩
   · intro _ _; simp
   · intro _ _ _ _ h
     have := markL_le (c :: r)
     refine ⟨by simp, by simp, this.1, fun _ => by simp; omega, by simp, by simp, by simp⟩
   · intro _ _ _ _ _; simp
theorem tokL_last (l : List Int) (h : 0 < (Zy l).1) : ∃ x, l[(Zy l).2.2.2 - 1]? = some x ∧ x < 128 := by
 cases l with
 | nil => simp [Zy] at h
 | cons c r =>
   revert h
   refine tokL_cases c r (fun x => 0 < x.1 → ∃ y, (c :: r)[x.2.2.2 - 1]? = some y ∧ y < 128) ?_ ?_ ?_ ?_ ?_ ?_ ?_ ?_
   · intro hs _
     obtain ⟨x, h1, h2⟩ := tw_at isSm (c :: r) (tw isSm (c :: r) - 1) (by rw [Vo r hs]; omega)
     exact ⟨x, h1, by rw [isSm_iff] at h2; omega⟩
   · intro hs _ _ _
     obtain ⟨x, h1, h2⟩ := tw_at isD (c :: r) (tw isD (c :: r) - 1) (by rw [Vo r hs]; omega)
     exact ⟨x, h1, by rw [isD_iff] at h2; omega⟩
   · intro _ _ h; simp at h
   · intro _ h; simp at h
   · intro _ h _ _
     rcases tw_end (Yy 34) r with he | ⟨x, h1, h2⟩
     · omega
     · refine ⟨x, by simpa using h1, ?_⟩
       have : x = 34 := by
         rcases Decidable.em (x = 34) with e | e
         · exact e
         · rw [(notC_iff 34 x).2 e] at h2; cases h2
       omega
   · intro _ _ h; simp at h
   · intro _ _ _ _ h _
     rw [markL_cons] at h ⊢
     split
     · rename_i hc
       cases r with
       | nil => simp at hc
       | cons d r =>
         simp at hc
         refine ⟨d, by simp, by omega⟩
     · rename_i hc
       rw [if_neg hc] at h
       split
       · exact ⟨c, by simp, by omega⟩
       · rename_i hc2
         rw [if_neg hc2] at h
         exact absurd rfl h
   · intro _ _ _ _ _ h; simp at h
def Vt : List Int → Bool → Nat
 | [], _ => 0
 | c :: r, true => 1 + Vt r (Yy 10 c)
 | c :: r, false => if c = 35 then 1 + Vt r true else if isBl c = true then 1 + Vt r false else 0
theorem gapM_le : ∀ (l : List Int) (b : Bool), Vt l b ≤ l.length
 | [], _ => Nat.le_refl _
 | c :: r, true => by have := gapM_le r (Yy 10 c); simp only [Vt, List.length_cons]; omega
 | c :: r, false => by
   have h1 := gapM_le r true
   have h2 := gapM_le r false
   simp only [Vt, List.length_cons]
   split
   · omega
   · split <;> omega
theorem gapM_true : ∀ l : List Int, Vt l true = tw (Yy 10) l + Vt (l.drop (tw (Yy 10) l)) false
 | [] => rfl
 | c :: r => by
   cases h : Yy 10 c with
   | true =>
     rw [Vo r h]
     simp only [Vt, h, List.drop_succ_cons]
     rw [gapM_true r]; omega
   | false =>
     have hc : c = 10 := by
       rcases Decidable.em (c = 10) with e | e
       · exact e
       · rw [(notC_iff 10 c).2 e] at h; cases h
     subst hc
     rw [tw_stop r h]
     simp only [Vt, h, List.drop_zero]
     rw [if_neg (by decide), if_pos (by decide)]; omega
structure TokV where
 k : Int
 t : ByteArray
 n : Int
 line : Nat
 col : Nat
 p : Nat
def TokV.cells (v : TokV) : List Value := [.int .i64 v.k, .string v.t, .int .i64 v.n, .int .i64 (v.line : Int), .int .i64 (v.col : Int)]
def Zm (s : ByteArray) (a : Nat) : List Int := (bL s).drop a
theorem restL_nil (s : ByteArray) {a : Nat} (h : s.size ≤ a) : Zm s a = [] := bL_drop_nil s a h
theorem Wa (s : ByteArray) {a : Nat} (h : a < s.size) : Zm s a = (gB s a : Int) :: Zm s (a + 1) := bL_drop s a h
theorem Xa (s : ByteArray) (a : Nat) : (Zm s a).length = s.size - a := by unfold Zm; rw [List.length_drop, Wx]
theorem restL_drop (s : ByteArray) (a n : Nat) : (Zm s a).drop n = Zm s (a + n) := by unfold Zm; rw [List.drop_drop]
theorem restL_get (s : ByteArray) (a k : Nat) (h : a + k < s.size) : (Zm s a)[k]? = some (gB s (a + k) : Int) := by
 unfold Zm; rw [List.getElem?_drop, bL_get s _ h]
theorem restL_ne (s : ByteArray) {a : Nat} (h : a < s.size) : Zm s a ≠ [] := by rw [Wa s h]; simp
def endV (s : ByteArray) (a : Nat) : TokV := ⟨0, ⟨#[]⟩, 0, (Zv s (a : Int)).1, (Zv s (a : Int)).2, a⟩
def numOf (k : Int) (l : List Int) : Int := if k = 2 then valL (Yw l) else 0
def tokV (s : ByteArray) (a : Nat) : TokV :=
 ⟨(Zy (Zm s a)).1, s.extract (a + (Zy (Zm s a)).2.1) (a + (Zy (Zm s a)).2.2.1), numOf (Zy (Zm s a)).1 (Zm s a), (Zv s (a : Int)).1, (Zv s (a : Int)).2, a⟩
def errE (k : Int) : Int := if k = -2 then 12 else if k = -3 then 10 else 6
def scanF (s : ByteArray) : Nat → Nat → List TokV → List TokV × Int × Nat
 | 0, _, _ => ([], 0, 0)
 | b + 1, a, acc =>
   if s.size ≤ a then (acc ++ [endV s a], 0, 0)
   else if isBl (gB s a) = true then scanF s b (a + 1) acc
   else if (Zy (Zm s a)).1 < -1 then ([], errE (Zy (Zm s a)).1, a)
   else if (Zy (Zm s a)).1 = -1 then scanF s b (a + (Zy (Zm s a)).2.2.2) acc
   else scanF s b (a + (Zy (Zm s a)).2.2.2) (acc ++ [tokV s a])
theorem Ur (s : ByteArray) {a : Nat} (h : a < s.size) (hk : -1 ≤ (Zy (Zm s a)).1) : 1 ≤ (Zy (Zm s a)).2.2.2 ∧ a + (Zy (Zm s a)).2.2.2 ≤ s.size := by
 have := tokL_bd (Zm s a) (restL_ne s h)
 rw [Xa] at this
 omega
theorem scanF_fuel (s : ByteArray) : ∀ (b c a : Nat) (acc : List TokV), a ≤ s.size → s.size < a + b → s.size < a + c → scanF s b a acc = scanF s c a acc
 | 0, c, a, acc, h1, h, hc => by exfalso; omega
 | b + 1, 0, a, acc, h1, h, hc => by exfalso; omega
 | b + 1, c + 1, a, acc, h1, h, hc => by
   unfold scanF
   by_cases h0 : s.size ≤ a
   · rw [if_pos h0, if_pos h0]
   · rw [if_neg h0, if_neg h0]
     split
     · exact scanF_fuel s b c _ _ (by omega) (by omega) (by omega)
     · split
       · rfl
       · rename_i hk
         have := Ur s (by omega) (by omega : -1 ≤ (Zy (Zm s a)).1)
         split
         · exact scanF_fuel s b c _ _ (by omega) (by omega) (by omega)
         · exact scanF_fuel s b c _ _ (by omega) (by omega) (by omega)
def Vb (s : ByteArray) (a : Nat) (acc : List TokV) : List TokV × Int × Nat := scanF s (s.size + 1) a acc
theorem scanA_eq (s : ByteArray) (a : Nat) (acc : List TokV) : Vb s a acc =
   if s.size ≤ a then (acc ++ [endV s a], 0, 0)
   else if isBl (gB s a) = true then Vb s (a + 1) acc
   else if (Zy (Zm s a)).1 < -1 then ([], errE (Zy (Zm s a)).1, a)
   else if (Zy (Zm s a)).1 = -1 then Vb s (a + (Zy (Zm s a)).2.2.2) acc
   else Vb s (a + (Zy (Zm s a)).2.2.2) (acc ++ [tokV s a]) := by
 unfold Vb
 conv => lhs; unfold scanF
 by_cases h0 : s.size ≤ a
 · rw [if_pos h0, if_pos h0]
 · rw [if_neg h0, if_neg h0]
   split
   · exact scanF_fuel s _ _ _ _ (by omega) (by omega) (by omega)
   · split
     · rfl
     · rename_i hk
       have := Ur s (by omega) (by omega : -1 ≤ (Zy (Zm s a)).1)
       split
       · exact scanF_fuel s _ _ _ _ (by omega) (by omega) (by omega)
       · exact scanF_fuel s _ _ _ _ (by omega) (by omega) (by omega)
theorem scanA_end (s : ByteArray) {a : Nat} (acc : List TokV) (h : s.size ≤ a) : Vb s a acc = (acc ++ [endV s a], 0, 0) := by rw [scanA_eq, if_pos h]
theorem scanA_blank (s : ByteArray) {a : Nat} (acc : List TokV) (h : a < s.size) (hb : isBl (gB s a) = true) : Vb s a acc = Vb s (a + 1) acc := by
 rw [scanA_eq, if_neg (by omega), if_pos hb]
theorem scanA_err (s : ByteArray) {a : Nat} (acc : List TokV) (h : a < s.size) (hb : isBl (gB s a) = false) (hk : (Zy (Zm s a)).1 < -1) : Vb s a acc = ([], errE (Zy (Zm s a)).1, a) := by
 rw [scanA_eq, if_neg (by omega), if_neg (by rw [hb]; simp), if_pos hk]
theorem scanA_rem (s : ByteArray) {a : Nat} (acc : List TokV) (h : a < s.size) (hb : isBl (gB s a) = false) (hk : (Zy (Zm s a)).1 = -1) : Vb s a acc = Vb s (a + (Zy (Zm s a)).2.2.2) acc := by
 rw [scanA_eq, if_neg (by omega), if_neg (by rw [hb]; simp), if_neg (by omega), if_pos hk]
theorem scanA_tok (s : ByteArray) {a : Nat} (acc : List TokV) (h : a < s.size) (hb : isBl (gB s a) = false) (hk : 0 < (Zy (Zm s a)).1) : Vb s a acc = Vb s (a + (Zy (Zm s a)).2.2.2) (acc ++ [tokV s a]) := by
 rw [scanA_eq, if_neg (by omega), if_neg (by rw [hb]; simp), if_neg (by omega), if_neg (by omega)]
theorem tokL_hash (r : List Int) : Zy (35 :: r) = (-1, 0, tw (Yy 10) r + 1, tw (Yy 10) r + 1) := by
 rw [tokL_cons, if_neg (by decide), if_neg (by decide), if_pos rfl, Vo r (by decide)]
def gapE (s : ByteArray) (a : Nat) : Nat := a + Vt (Zm s a) false
theorem gapE_le (s : ByteArray) {a : Nat} (h : a ≤ s.size) : a ≤ gapE s a ∧ gapE s a ≤ s.size := by
 have := gapM_le (Zm s a) false
 rw [Xa] at this
 unfold gapE; omega
theorem gap_all (s : ByteArray) : ∀ (b a : Nat), s.size ≤ a + b → a ≤ s.size → Bd s a →
   (∀ acc, Vb s a acc = Vb s (gapE s a) acc) ∧ Bd s (gapE s a) ∧ (gapE s a < s.size → isBl (gB s (gapE s a)) = false ∧ gB s (gapE s a) ≠ 35)
 | 0, a, h, h1, hB => by
   have e : gapE s a = a := by unfold gapE; rw [restL_nil s (by omega)]; rfl
   rw [e]
   exact ⟨fun _ => rfl, hB, fun hh => by omega⟩
 | b + 1, a, h, h1, hB => by
   by_cases ha : a < s.size
   · by_cases h35 : gB s a = 35
     · have hbd : Bd s (a + (tw (Yy 10) (Zm s (a + 1)) + 1)) := by
         have hle := tw_le (Yy 10) (Zm s (a + 1))
         rw [Xa] at hle
         rcases tw_end (Yy 10) (Zm s (a + 1)) with he | ⟨x, hx, hp⟩
         · rw [Xa] at he
           rw [he, show a + (s.size - (a + 1) + 1) = s.size from by omega]
           exact Bd.end_ s
         · have hlt : tw (Yy 10) (Zm s (a + 1)) < (Zm s (a + 1)).length := by
             rcases Nat.lt_or_ge (tw (Yy 10) (Zm s (a + 1))) (Zm s (a + 1)).length with hh | hh
             · exact hh
             · rw [List.getElem?_eq_none hh] at hx; cases hx
           rw [Xa] at hlt
           rw [restL_get s (a + 1) _ (by omega)] at hx
           cases hx
           refine Bd.reach (by omega) (.inr ?_)
           rw [show a + (tw (Yy 10) (Zm s (a + 1)) + 1) = a + 1 + tw (Yy 10) (Zm s (a + 1)) from by omega]
           rcases Decidable.em (gB s (a + 1 + tw (Yy 10) (Zm s (a + 1))) = 10) with e | e
           · omega
           · rw [(notC_iff 10 _).2 (by omega)] at hp; cases hp
       have hle := hbd.1
       obtain ⟨i1, i2, i3⟩ := gap_all s b (a + (tw (Yy 10) (Zm s (a + 1)) + 1)) (by omega) hle hbd
       have e : gapE s a = gapE s (a + (tw (Yy 10) (Zm s (a + 1)) + 1)) := by
         unfold gapE
         rw [Wa s ha, h35]
         simp only [Vt]
         rw [if_pos (show ((35 : Nat) : Int) = 35 from rfl), gapM_true, restL_drop, show a + 1 + tw (Yy 10) (Zm s (a + 1)) = a + (tw (Yy 10) (Zm s (a + 1)) + 1) from by omega]
         omega
       rw [e]
       refine ⟨fun acc => ?_, i2, i3⟩
       have ht : Zy (Zm s a) = (-1, 0, tw (Yy 10) (Zm s (a + 1)) + 1, tw (Yy 10) (Zm s (a + 1)) + 1) := by rw [Wa s ha, h35]; exact tokL_hash _
       rw [scanA_rem s acc ha (by rw [h35]; decide) (by rw [ht]), ht]
       exact i1 acc
     · cases hbl : isBl (gB s a) with
       | true =>
         have h128 : gB s a < 128 := by rw [isBl_iff] at hbl; omega
         obtain ⟨i1, i2, i3⟩ := gap_all s b (a + 1) (by omega) (by omega) (Bd.behind ha h128)
         have e : gapE s a = gapE s (a + 1) := by
           unfold gapE
           rw [Wa s ha]
           simp only [Vt]
           rw [if_neg (by omega), if_pos hbl]
           omega
         rw [e]
         exact ⟨fun acc => (scanA_blank s acc ha hbl).trans (i1 acc), i2, i3⟩
       | false =>
         have e : gapE s a = a := by
           unfold gapE
           rw [Wa s ha]
           simp only [Vt]
           rw [if_neg (by omega), hbl, if_neg (by simp)]
           omega
         rw [e]
         exact ⟨fun _ => rfl, hB, fun _ => ⟨hbl, h35⟩⟩
   · exact gap_all s 0 a (by omega) h1 hB
theorem tok_bd (s : ByteArray) {a : Nat} (h : a < s.size) (hk : 0 < (Zy (Zm s a)).1) : Bd s (a + (Zy (Zm s a)).2.2.2) := by
 obtain ⟨x, h1, h2⟩ := tokL_last (Zm s a) hk
 have hb := Ur s h (by omega)
 rw [restL_get s a _ (by omega)] at h1
 cases h1
 have := Bd.behind (s := s) (q := a + ((Zy (Zm s a)).2.2.2 - 1)) (by omega) (by omega)
 rwa [show a + ((Zy (Zm s a)).2.2.2 - 1) + 1 = a + (Zy (Zm s a)).2.2.2 from by omega] at this
theorem rem_bd (s : ByteArray) {a : Nat} (h : a < s.size) (hk : (Zy (Zm s a)).1 = -1) : Bd s (a + (Zy (Zm s a)).2.2.2) := by
 have hb := Ur s h (by omega)
 have h35 : gB s a = 35 ∧ (Zy (Zm s a)).2.2.2 = tw (Yy 10) (Zm s a) := by
   rw [Wa s h] at hk ⊢
   revert hk
   refine tokL_cases (gB s a) (Zm s (a + 1)) (fun x => x.1 = -1 → gB s a = 35 ∧ x.2.2.2 = tw (Yy 10) ((gB s a : Int) :: Zm s (a + 1))) ?_ ?_ ?_ ?_ ?_ ?_ ?_ ?_
   · intro _ hh; simp at hh
   · intro _ _ _ hh; simp at hh
   · intro _ _ hh; simp at hh
   · intro hc _; exact ⟨by omega, rfl⟩
   · intro _ _ _ hh; simp at hh
   · intro _ _ hh; simp at hh
   · intro _ _ _ _ _ hh; simp at hh
   · intro _ _ _ _ _ hh; simp at hh
 rw [h35.2] at hb ⊢
 rcases tw_end (Yy 10) (Zm s a) with he | ⟨x, hx, hp⟩
 · rw [Xa] at he
   rw [he, show a + (s.size - a) = s.size from by omega]
   exact Bd.end_ s
 · by_cases hlt : a + tw (Yy 10) (Zm s a) < s.size
   · rw [restL_get s a _ hlt] at hx
     cases hx
     refine Bd.reach hb.2 (.inr ?_)
     rcases Decidable.em (gB s (a + tw (Yy 10) (Zm s a)) = 10) with e | e
     · omega
     · rw [(notC_iff 10 _).2 (by omega)] at hp; cases hp
   · rw [show a + tw (Yy 10) (Zm s a) = s.size from by omega]
     exact Bd.end_ s
end Go.Proofs.YtabegjepejgllaaGreat
namespace Go.Proofs.YtabegjepejgllaaGreat
open Go.Shelf
shelf_lay Lays.n137 Nm 137 at Tryz as indexByteL
shelf_lay Lays.n99 Nm 99 at Tryz as hasPrefixL
open Go.ChangeShapes Go.WideShapes Go.ChangeAt Go.RowKit
theorem bL_map (s : ByteArray) : bL s = s.data.toList.map fun c : UInt8 => (c.toNat : Int) := by
 apply List.ext_getElem?
 intro i
 by_cases h : i < s.size
 · rw [bL_get s i h, List.getElem?_map, gB_eq s i h]
   have : s.data.toList[i]? = some (s[i]'h) := by
     rw [Array.getElem?_toList]
     exact Array.getElem?_eq_getElem (by simpa using h)
   rw [this]; rfl
 · rw [List.getElem?_eq_none (by rw [Wx]; omega), List.getElem?_eq_none (by rw [List.length_map, Array.length_toList]; exact Nat.le_of_not_lt h)]
def idxOf (c : Int) (l : List Int) : Int := if tw (Yy c) l = l.length then -1 else (tw (Yy c) l : Int)
theorem indexByte_idx (c : UInt8) : ∀ l : List UInt8, Lib.indexByte l c = idxOf (c.toNat : Int) (l.map fun c : UInt8 => (c.toNat : Int))
 | [] => by simp [Lib.indexByte, idxOf, tw]
 | b :: l => by
   have ih := indexByte_idx c l
   unfold Lib.indexByte
   by_cases h : b = c
   · subst h
     rw [if_pos (by simp)]
     unfold idxOf
     rw [List.map_cons, tw_stop _ (by unfold Yy; simp)]
     simp
   · have hn : Yy (c.toNat : Int) (b.toNat : Int) = true := by
       rw [notC_iff]
       intro e
       exact h (UInt8.toNat_inj.1 (by omega))
     rw [if_neg (by simpa using h), ih]
     unfold idxOf
     rw [List.map_cons, Vo _ hn, List.length_cons]
     have := tw_le (Yy (c.toNat : Int)) (l.map fun c : UInt8 => (c.toNat : Int))
     by_cases e : tw (Yy (c.toNat : Int)) (l.map fun c : UInt8 => (c.toNat : Int)) = (l.map fun c : UInt8 => (c.toNat : Int)).length
     · rw [if_pos e, if_pos (by simp), if_pos (by omega)]
     · rw [if_neg e, if_neg (by simp), if_neg (by omega)]; try omega
theorem IndexByte_any (s : ByteArray) (c : Nat) (hc : c < 256) (w : World) : Calls Tryz.prog 265 #[.string s, .int .u8 (c : Int)] w fun e w' => e = .returned (.int .i64 (idxOf (c : Int) (bL s))) ∧ w = w' := by
 refine (Any.strings_IndexByte indexByteL s (c : Int) w).mono ?_
 rintro e w' ⟨rfl, rfl⟩
 refine ⟨?_, rfl⟩
 rw [indexByte_idx, bL_map]
 congr 3
 simp
 omega
theorem prefix_map (p l : List UInt8) : p.isPrefixOf l = (p.map fun c : UInt8 => (c.toNat : Int)).isPrefixOf (l.map fun c : UInt8 => (c.toNat : Int)) := by
 induction p generalizing l with
 | nil => simp
 | cons x p ih =>
   cases l with
   | nil => simp
   | cons y l =>
     simp only [List.map_cons, List.isPrefixOf, ih l]
     congr 1
     rw [Bool.eq_iff_iff]
     simp only [beq_iff_eq]
     constructor
     · rintro rfl; rfl
     · intro h; exact UInt8.toNat_inj.1 (by omega)
theorem HasPrefix_any (s p : ByteArray) (w : World) : Calls Tryz.prog 268 #[.string s, .string p] w fun e w' => e = .returned (.bool ((bL p).isPrefixOf (bL s))) ∧ w = w' := by
 refine (Any.strings_HasPrefix hasPrefixL s p w).mono ?_
 rintro e w' ⟨rfl, rfl⟩
 refine ⟨?_, rfl⟩
 rw [bL_map, bL_map, ← prefix_map]; rfl
def mkL : List (List Int) := [[123], [125], [40], [41], [59], [43], [45], [42], [61], [60], [62], [60, 61], [62, 61], [33, 61]]
def Vf (l : List Int) (n : Nat) (m : List Int) : Nat := if n < m.length ∧ m.isPrefixOf l = true then m.length else n
theorem mk_fold (l : List Int) : mkL.foldl (Vf l) 0 = Vw l := by
 cases l with
 | nil => simp [mkL, Vf, Vw]
 | cons c r =>
   rw [markL_cons]
   have hd : ∀ d : Int, ([d] : List Int).isPrefixOf (c :: r) = decide (c = d) := by
     intro d
     rw [Bool.eq_iff_iff]; simp [List.isPrefixOf]; exact eq_comm
   have he : ∀ d e : Int, ([d, e] : List Int).isPrefixOf (c :: r) = (decide (c = d) && decide (r.head? = some e)) := by
     intro d e
     rw [Bool.eq_iff_iff]
     cases r with
     | nil => simp [List.isPrefixOf]
     | cons y r => simp [List.isPrefixOf]; rw [@eq_comm _ d, @eq_comm _ e]
   simp only [mkL, List.foldl_cons, List.foldl_nil, Vf, hd, he, List.length_cons, List.length_nil, decide_eq_true_eq, Bool.and_eq_true]
   by_cases e61 : r.head? = some 61
   all_goals
     by_cases h123 : c = 123
     · subst h123; simp [e61]
     by_cases h125 : c = 125
     · subst h125; simp [e61]
     by_cases h40 : c = 40
     · subst h40; simp [e61]
     by_cases h41 : c = 41
     · subst h41; simp [e61]
     by_cases h59 : c = 59
     · subst h59; simp [e61]
     by_cases h43 : c = 43
     · subst h43; simp [e61]
     by_cases h45 : c = 45
     · subst h45; simp [e61]
     by_cases h42 : c = 42
     · subst h42; simp [e61]
     by_cases h61 : c = 61
     · subst h61; simp [e61]
     by_cases h60 : c = 60
     · subst h60; simp [e61]
     by_cases h62 : c = 62
     · subst h62; simp [e61]
     by_cases h33 : c = 33
     · subst h33; simp [e61]
     simp [h123, h125, h40, h41, h59, h43, h45, h42, h61, h60, h62, h33]
theorem mk_bd (l : List Int) (k : Nat) : (mkL.take k).foldl (Vf l) 0 ≤ 2 := by
 have key : ∀ (m : List (List Int)) (n : Nat), n ≤ 2 → (∀ x ∈ m, x.length ≤ 2) → m.foldl (Vf l) n ≤ 2 := by
   intro m
   induction m with
   | nil => intro n h _; exact h
   | cons x m ih =>
     intro n h hm
     rw [List.foldl_cons]
     refine ih _ ?_ (fun y hy => hm y (by simp [hy]))
     unfold Vf
     split
     · exact hm x (by simp)
     · exact h
 refine key _ 0 (by decide) fun x hx => ?_
 have : ∀ x ∈ mkL, x.length ≤ 2 := by decide
 exact this x (List.mem_of_mem_take hx)
theorem mk_next (l : List Int) (k : Nat) (h : k < 14) : (mkL.take (k + 1)).foldl (Vf l) 0 = Vf l ((mkL.take k).foldl (Vf l) 0) (mkL[k]'h) := by
 rw [List.take_succ_eq_append_getElem h, List.foldl_append]; rfl
def mkS : List ByteArray := mkL.map strOfNums
def mkCs : List Value := mkS.map Value.string
theorem mk_by (k : Nat) (h : k < 14) : ∀ x ∈ mkL[k]'h, 0 ≤ x ∧ x < 256 := by
 have : ∀ y ∈ mkL, ∀ x ∈ y, 0 ≤ x ∧ x < 256 := by decide
 exact this _ (List.getElem_mem _)
theorem mkCs_at (k : Nat) (h : k < 14) : mkCs[k]? = some (.string (strOfNums (mkL[k]'h))) := by
 unfold mkCs mkS
 rw [List.getElem?_map, List.getElem?_map, List.getElem?_eq_getElem h]; rfl
theorem mk_len (k : Nat) (h : k < 14) : 1 ≤ (mkL[k]'h).length ∧ (mkL[k]'h).length ≤ 2 := by
 have : ∀ y ∈ mkL, 1 ≤ y.length ∧ y.length ≤ 2 := by decide
 exact this _ (List.getElem_mem _)
end Go.Proofs.YtabegjepejgllaaGreat
namespace Go.Proofs.YtabegjepejgllaaGreat
open Go
theorem rI {k : IntKind} {a b : Int} (h : a = b) : Ending.returned (.int k a) = .returned (.int k b) := by rw [h]
theorem rV {a b : Value} (h : a = b) : Ending.returned a = .returned b := by rw [h]
theorem vI {k : IntKind} {a b : Int} (h : a = b) : Value.int k a = Value.int k b := by rw [h]
end Go.Proofs.YtabegjepejgllaaGreat
namespace Go.Proofs.YtabegjepejgllaaGreat
open Go.ChangeShapes Go.WideShapes Go.ChangeAt Go.RowKit
set_option linter.unusedVariables false
set_option linter.unusedSimpArgs false
theorem digitsEnd_any (s : ByteArray) (a : Nat) (w : World) (hs : s.size ≤ 140737488355328) (ha : a ≤ s.size) : Calls Tryz.prog 284 #[.string s, .int .i64 a] w fun e w' => e = .returned (.int .i64 ((a + (Yw ((bL s).drop a)).length : Nat) : Int)) ∧ w = w' := by
 go_enter Tryz.func284, Tryz.ntmps284
 go_wp2
 go_loop [1] (fun i => ∃ k : Nat, i = .int .i64 k ∧ k ≤ s.size ∧ k + (Yw ((bL s).drop k)).length = a + (Yw ((bL s).drop a)).length) (fun i => s.size - (intOf i).toNat)
 case atStart => exact ⟨a, rfl, ha, rfl⟩
 case round =>
   obtain ⟨k, rfl, hk, he⟩ := hrel
   by_cases h : k < s.size
   · have g := gB_eq s k h
     have hd := bL_drop s k h
     have l1 : (k : Int) < (s.size : Int) := by omega
     have l0 : decide (s.size ≤ k) = false := by simp; omega
     cases hD : isD (gB s k : Int) with
     | true =>
       have hD' := (isD_iff _).1 hD
       rw [hd, firstD_cons _ hD, List.length_cons] at he
       rw [g] at hD'
       have b1 : (48 : Int) ≤ ((s[k]'h).toNat : Int) := hD'.1
       have b2 : ((s[k]'h).toNat : Int) ≤ 57 := hD'.2
       have HE := Hh he
       clear he hd hD hD' g
       go_wp2
       go_round
       case rel => exact ⟨k + 1, by go_num, by omega, by have := HE.out; omega⟩
       case measure => simp [intOf]; omega
     | false =>
       rw [hd, firstD_stop _ hD] at he
       have hE : k = a + (Yw ((bL s).drop a)).length := he
       have hD' : ¬ (48 ≤ (gB s k : Int) ∧ (gB s k : Int) ≤ 57) := fun c => by rw [(isD_iff _).2 c] at hD; cases hD
       rw [g] at hD'
       have HE := Hh hE
       clear he hd hD g hE
       by_cases b1 : (48 : Int) ≤ ((s[k]'h).toNat : Int)
       · have b2 : ¬ ((s[k]'h).toNat : Int) ≤ 57 := fun c => hD' ⟨b1, c⟩
         clear hD'
         go_wp2
         go_ret
         exact ⟨rI (by have := HE.out; omega), rfl⟩
       · clear hD'
         go_wp2
         go_ret
         exact ⟨rI (by have := HE.out; omega), rfl⟩
   · rw [bL_drop_nil s k (by omega)] at he
     have hE : k = a + (Yw ((bL s).drop a)).length := he
     have HE := Hh hE
     clear he hE
     go_wp2
     go_ret
     exact ⟨rI (by have := HE.out; omega), rfl⟩
def takeV (x : Int × Int × Bool) : Value := .tuple #[.int .i64 x.1, .int .i64 x.2.1, .bool x.2.2]
theorem dTake_any (s : ByteArray) (a most : Int) (w : World) (hs : s.size ≤ 140737488355328) (m1 : -9223372036854775808 ≤ most) (m2 : most ≤ 9223372036854775807) (a1 : -9223372036854775808 ≤ a) (a2 : a ≤ 9223372036854775807) :
   Calls Tryz.prog 264 #[.string s, .int .i64 a, .int .i64 most] w fun e w' => e = .returned (takeV (takeOf s a most)) ∧ w = w' := by
 by_cases h0 : a < 0
 · have T := Hh (show takeOf s a most = (0, 0, false) by unfold takeOf; rw [if_pos (.inl h0)])
   go_enter Tryz.func264, Tryz.ntmps264
   go_wp2
   go_ret3
   exact ⟨by rw [T.out]; rfl, rfl⟩
 · by_cases h1 : (s.size : Int) ≤ a
   · have T := Hh (show takeOf s a most = (0, 0, false) by unfold takeOf; rw [if_pos (.inr h1)])
     go_enter Tryz.func264, Tryz.ntmps264
     go_wp2
     go_ret3
     exact ⟨by rw [T.out]; rfl, rfl⟩
   · obtain ⟨i, rfl⟩ : ∃ i : Nat, a = i := ⟨a.toNat, by omega⟩
     have hi : i < s.size := by omega
     obtain ⟨D, hD⟩ : ∃ D, Yw ((bL s).drop i) = D := ⟨_, rfl⟩
     have hend := digitsEnd_any s i
     have htk : takeOf s i most = if D ≠ [] ∧ (D.length : Int) ≤ most ∧ D.length ≤ 9 ∧ plain D = true then (valL D, (i : Int) + (D.length : Int), true) else (0, 0, false) := by
       unfold takeOf
       rw [if_neg (by omega), Int.toNat_natCast, hD]
     rw [hD] at hend
     have hle : D.length ≤ s.size - i := by
       have := firstD_len ((bL s).drop i)
       rw [hD, List.length_drop, Wx] at this
       exact this
     have hdr := firstD_take ((bL s).drop i)
     rw [hD] at hdr
     have l1 : decide ((i : Int) < 0) = false := by simp
     have l2 : decide (s.size ≤ i) = false := by simp; omega
     have l3 : (i : Int) < (s.size : Int) := by omega
     have HDR := Hh hdr
     have hsub : (i : Int) + (D.length : Int) - (i : Int) = (D.length : Int) := by omega
     have hD' : ∀ x ∈ D, 48 ≤ x ∧ x ≤ 57 := fun x hx => firstD_isD _ x (by rw [hD]; exact hx)
     clear hdr hD
     by_cases c0 : D.length = 0
     · rw [if_neg (fun c => c.1 (List.eq_nil_of_length_eq_zero c0))] at htk
       have T := Hh htk
       clear htk
       go_enter Tryz.func264, Tryz.ntmps264
       go_wp2_with (go_at_call 284; refine (hend _ hs (by omega)).mono ?_; rintro e w' ⟨rfl, rfl⟩)
       go_ret3
       exact ⟨by rw [T.out]; rfl, rfl⟩
     · have n0 : ((D.length : Int) == 0) = false := by rw [beq_eq_false_iff_ne]; omega
       by_cases c1 : most < (D.length : Int)
       · rw [if_neg (fun c => by omega)] at htk
         have T := Hh htk
         clear htk
         go_enter Tryz.func264, Tryz.ntmps264
         go_wp2_with (go_at_call 284; refine (hend _ hs (by omega)).mono ?_; rintro e w' ⟨rfl, rfl⟩)
         go_ret3
         exact ⟨by rw [T.out]; rfl, rfl⟩
       · by_cases c2 : 9 < (D.length : Int)
         · rw [if_neg (fun c => by omega)] at htk
           have T := Hh htk
           clear htk
           go_enter Tryz.func264, Tryz.ntmps264
           go_wp2_with (go_at_call 284; refine (hend _ hs (by omega)).mono ?_; rintro e w' ⟨rfl, rfl⟩)
           go_ret3
           exact ⟨by rw [T.out]; rfl, rfl⟩
         · have g0 : D[0]? = some ((s[i]'hi).toNat : Int) := by
             have h := congrArg (fun l : List Int => l[0]?) HDR.out
             rw [List.getElem?_take_of_lt (by omega), List.getElem?_drop, Nat.add_zero, bL_get s i hi, gB_eq s i hi] at h
             exact h.symm
           have hpl : plain D = (!(((s[i]'hi).toNat : Int) == 48) || decide (D.length = 1)) := by
             unfold plain
             rw [g0]
             rw [Bool.eq_iff_iff]; simp
           cases hp : plain D with
           | false =>
             rw [if_neg (fun c => by rw [hp] at c; exact absurd c.2.2.2 (by simp))] at htk
             have T := Hh htk
             rw [hp] at hpl
             have e1 : (((s[i]'hi).toNat : Int) == 48) = true := by
               cases h : (((s[i]'hi).toNat : Int) == 48) with
               | true => rfl
               | false => rw [h] at hpl; simp at hpl
             have e2 : 1 < (D.length : Int) := by
               rw [e1] at hpl
               simp at hpl
               omega
             clear htk hp hpl g0
             go_enter Tryz.func264, Tryz.ntmps264
             go_wp2_with (go_at_call 284; refine (hend _ hs (by omega)).mono ?_; rintro e w' ⟨rfl, rfl⟩)
             go_ret3
             exact ⟨by rw [T.out]; rfl, rfl⟩
           | true =>
             rw [if_pos ⟨fun c => c0 (by rw [c]; rfl), by omega, by omega, hp⟩] at htk
             have T := Hh htk
             rw [hp] at hpl
             have e : (((s[i]'hi).toNat : Int) == 48) = false ∨ (((s[i]'hi).toNat : Int) == 48) = true ∧ (D.length : Int) ≤ 1 := by
               cases h : (((s[i]'hi).toNat : Int) == 48) with
               | false => exact .inl rfl
               | true => rw [h] at hpl; simp at hpl; exact .inr ⟨rfl, by omega⟩
             have hb : ∀ k (hk : k < D.length), ∃ hz : i + k < s.size, D[k] = ((s[i + k]'hz).toNat : Int) := by
               intro k hk
               have hz : i + k < s.size := by omega
               refine ⟨hz, ?_⟩
               have h := congrArg (fun l : List Int => l[k]?) HDR.out
               rw [List.getElem?_take_of_lt (by omega), List.getElem?_drop, bL_get s (i + k) hz, gB_eq s (i + k) hz, List.getElem?_eq_getElem hk] at h
               exact (Option.some.inj h).symm
             have hdd : ∀ x ∈ D, 48 ≤ x ∧ x ≤ 57 := hD'
             clear htk hp hpl g0
             have HBB := Hh hb
             have HDD := Hh hdd
             clear hb hdd
             rcases e with e | ⟨e, e'⟩
             all_goals
               go_enter Tryz.func264, Tryz.ntmps264
               go_wp2_with (go_at_call 284; refine (hend _ hs (by omega)).mono ?_; rintro e w' ⟨rfl, rfl⟩)
               go_loop [6, 10, 45] (fun n _ j => ∃ k : Nat, j = .int .i64 k ∧ k ≤ D.length ∧ n = .int .i64 (valL (D.take k))) (fun _ _ j => D.length - (intOf j).toNat)
               case atStart => exact ⟨0, rfl, by omega, rfl⟩
               case round =>
                 obtain ⟨k, rfl, hk, rfl⟩ := hrel
                 by_cases hkl : k < D.length
                 · obtain ⟨hz, hx⟩ := HBB.out k hkl
                   have hv := valL_nonneg (D.take k) (fun x hx => HDD.out x (List.mem_of_mem_take hx))
                   have hlen : (D.take k).length = k := by rw [List.length_take]; omega
                   rw [hlen] at hv
                   have hv2 : valL (D.take k) < 1000000000 := Int.lt_of_lt_of_le hv.2 (pow10_le (show k ≤ 9 by omega))
                   have hv1 := hv.1
                   have hd := HDD.out _ (List.getElem_mem hkl)
                   rw [hx] at hd
                   obtain ⟨hd1, hd2⟩ := hd
                   have hs2 : valL (D.take (k + 1)) = 10 * valL (D.take k) + (((s[i + k]'hz).toNat : Int) - 48) := by
                     rw [List.take_succ_eq_append_getElem hkl, valL_snoc, hx]
                   have HS := Hh hs2
                   have lk : (k : Int) < (D.length : Int) := by omega
                   have li : (i : Int) + (k : Int) < (s.size : Int) := by omega
                   clear hs2 hv hx hlen
                   generalize valL (D.take k) = V at *
                   go_wp2
                   go_round
                   case rel => exact ⟨k + 1, by go_num, by omega, by rw [HS.out]⟩
                   case measure => simp [intOf]; omega
                 · obtain rfl : k = D.length := by omega
                   have HL := Hh (show valL (D.take D.length) = valL D by rw [List.take_length])
                   clear hk hkl
                   go_wp2
                   go_ret3
                   exact ⟨by rw [T.out]; exact rV (by unfold takeV; rw [← HL.out]; rfl), rfl⟩
end Go.Proofs.YtabegjepejgllaaGreat
namespace Go.Proofs.YtabegjepejgllaaGreat
open Go Go.RowKit
def Uq (w : World) (B : Nat) (A : Option Addr) (cs : List Value) : Prop :=
 cs = [] ∨ ∃ g off, A = some ⟨g, off, none⟩ ∧ g < B ∧ ∀ j, j < cs.length → w.cell? ⟨g, off + j, none⟩ = cs[j]?
theorem Uq.same {w w' : World} {B : Nat} {A : Option Addr} {cs : List Value} (h : Uq w B A cs) (hs : ∀ k, k < B → w'.heap[k]? = w.heap[k]?) : Uq w' B A cs := by
 rcases h with h | ⟨g, off, rfl, hg, hc⟩
 · exact .inl h
 · exact .inr ⟨g, off, rfl, hg, fun j hj => (World.cell?_of_block (w := w) (a := ⟨g, off + j, none⟩) (hs g hg)).trans (hc j hj)⟩
theorem Uq.below {w w' : World} {B : Nat} {A : Option Addr} {cs : List Value} (h : Uq w B A cs) (hb : Below B w w') : Uq w' B A cs := h.same hb.block
theorem Uq.mono {w : World} {B B' : Nat} {A : Option Addr} {cs : List Value} (h : Uq w B A cs) (hB : B ≤ B') : Uq w B' A cs := by
 rcases h with h | ⟨g, off, rfl, hg, hc⟩
 · exact .inl h
 · exact .inr ⟨g, off, rfl, by omega, hc⟩
theorem Uq.alloc {w : World} {B : Nat} {A : Option Addr} {cs : List Value} (h : Uq w B A cs) (hB : B ≤ w.heap.size) (o : Obj) : Uq (w.alloc o) B A cs :=
 h.same fun k hk => Below.heap_alloc w o k (by omega)
theorem Uq.at_ {w : World} {B : Nat} {A : Option Addr} {cs : List Value} (h : Uq w B A cs) (hn : 0 < cs.length) : ∃ g off, A = some ⟨g, off, none⟩ ∧ g < B ∧ ∀ j, j < cs.length → w.cell? ⟨g, off + j, none⟩ = cs[j]? := by
 rcases h with h | h
 · rw [h] at hn; simp at hn
 · exact h
theorem own_form {w : World} {base : Nat} {e : TypeId} {size : Nat} {v : Value} {n : Nat} {xs : List Value} (h : w.ownsRow base e size v n xs) :
   ∃ A c, v = .slice A n c ∧ n ≤ c ∧ c ≤ maxLen ∧ Uq w w.heap.size A xs := by
 obtain ⟨h1, h2⟩ := id h
 rcases h2 with ⟨rfl, rfl⟩ | ⟨g, cap, cur, rfl, hb, hh, hn, hm, hs, ht⟩
 · exact ⟨none, 0, rfl, by omega, by unfold maxLen; omega, .inl (List.eq_nil_of_length_eq_zero (by simpa using h1))⟩
 · refine ⟨_, cap, rfl, hn, hm, .inr ⟨g, 0, rfl, (h.lt g rfl).2, fun j hj => ?_⟩⟩
   rw [Nat.zero_add]
   exact World.ownsRow.cellAt h j (by omega)
def Apart (a b : Value) : Prop := ∀ k, a.ownBlock = some k → b.ownBlock ≠ some k
theorem Apart.symm {a b : Value} (h : Apart a b) : Apart b a := fun k hb ha => h k ha hb
theorem Apart.nil (b : Value) : Apart (.slice none 0 0) b := fun k h => by simp [Value.ownBlock] at h
theorem Apart.grown {a v v' : Value} {w : World} {base : Nat} {e : TypeId} {size n : Nat} {xs : List Value} {H : Nat} (h : Apart a v) (ha : w.ownsRow base e size a n xs) (hH : w.heap.size ≤ H)
   (hat : v'.ownBlock = v.ownBlock ∨ v'.ownBlock = some H) : Apart a v' := by
 intro k hk
 rcases hat with e | e
 · rw [e]; exact h k hk
 · rw [e]
   have := (ha.lt k hk).2
   intro c; injection c with c; omega
theorem Apart.kept {a v : Value} {w w' : World} {base : Nat} {e : TypeId} {size n : Nat} {xs : List Value} (h : Apart a v) (ha : w.ownsRow base e size a n xs) (hg : w.grownBy w' v.ownBlock) : w'.ownsRow base e size a n xs := by
 refine ha.kept hg ?_
 cases hk : a.ownBlock with
 | none => exact .inl rfl
 | some k => exact .inr (fun c => h k hk c.symm)
theorem own_mono {w : World} {base base' : Nat} {e : TypeId} {size : Nat} {v : Value} {n : Nat} {xs : List Value} (h : w.ownsRow base e size v n xs) (hb : base' ≤ base) : w.ownsRow base' e size v n xs := by
 obtain ⟨h1, h2⟩ := h
 refine ⟨h1, ?_⟩
 rcases h2 with h2 | ⟨g, cap, cur, hv, hg, r⟩
 · exact .inl h2
 · exact .inr ⟨g, cap, cur, hv, by omega, r⟩
theorem Um {w w' : World} {base : Nat} {e : TypeId} {size : Nat} {v : Value} {n : Nat} {xs : List Value} (h : w.ownsRow base e size v n xs) (hb : Below w.heap.size w w') : w'.ownsRow base e size v n xs := by
 obtain ⟨h1, h2⟩ := id h
 refine ⟨h1, ?_⟩
 rcases h2 with h2 | ⟨g, cap, cur, hv, hg, hh, r⟩
 · exact .inl h2
 · refine .inr ⟨g, cap, cur, hv, hg, ?_, r⟩
   rw [hb.block g ((h.lt g (by rw [hv]; rfl)).2)]
   exact hh
theorem below_push {B : Nat} {w0 w w' : World} {v : Value} {base : Nat} {e : TypeId} {size n : Nat} {xs : List Value} (h : Below B w0 w) (hown : w.ownsRow base e size v n xs) (hg : w.grownBy w' v.ownBlock) (hB : B ≤ base) (hs : B ≤ w.heap.size) : Below B w0 w' :=
 h.grown hg hs (fun k hk => by have := hown.lt k hk; omega)
theorem Xi {w b c : World} (h : Below w.heap.size w b) (k : Below b.heap.size b c) : Below w.heap.size w c := h.trans (k.mono h.size)
theorem Up {B : Nat} {a w : World} (h : Below B a w) : Below B a w.drew := ⟨h.os, h.tape, h.output, h.size, h.block⟩
theorem below_drewN {B : Nat} {a w : World} (h : Below B a w) (n : Nat) : Below B a (w.drewN n) := ⟨h.os, h.tape, h.output, h.size, h.block⟩
def Zb (w : World) (g : Nat) (t : TypeId) (cs : Array Value) : Prop := w.heap[g]? = some (.cells cs t (0, 0))
theorem Zb.inside {w : World} {g : Nat} {t : TypeId} {cs : Array Value} (h : Zb w g t cs) : g < w.heap.size := by
 apply Nat.lt_of_not_le
 intro c
 have e : w.heap[g]? = none := Array.getElem?_eq_none c
 unfold Zb at h
 rw [e] at h
 cases h
theorem Zb.read {w : World} {g : Nat} {t : TypeId} {cs : Array Value} (h : Zb w g t cs) (i : Nat) : w.cell? ⟨g, i, none⟩ = cs[i]? := cell_of_row w g i cs t (0, 0) h
theorem Zb.thawed {w : World} {g : Nat} {t : TypeId} {cs : Array Value} (h : Zb w g t cs) (i : Nat) : w.frozen? ⟨g, i, none⟩ = false := by
 have e : w.heap[g]? = some (.cells cs t (0, 0)) := h
 simp [World.frozen?, e]
theorem Zb.made (w : World) (t : TypeId) (cs : Array Value) : Zb (w.alloc (.cells cs t)) w.heap.size t cs := heap_alloc_new w _
theorem Zb.alloc {w : World} {g : Nat} {t : TypeId} {cs : Array Value} (h : Zb w g t cs) (o : Obj) : Zb (w.alloc o) g t cs := by
 unfold Zb
 rw [Below.heap_alloc w o g h.inside]
 exact h
theorem Zb.write {w : World} {g : Nat} {t : TypeId} {cs : Array Value} (h : Zb w g t cs) (i : Nat) (u : Value) : Zb (w.setCell ⟨g, i, none⟩ u) g t (cs.setIfInBounds i u) :=
 heap_setCell_same w g i cs t u h
theorem Zb.aside {w : World} {g : Nat} {t : TypeId} {cs : Array Value} (h : Zb w g t cs) {p : Addr} (hp : g ≠ p.block) (u : Value) : Zb (w.setCell p u) g t cs := by
 unfold Zb
 rw [Below.heap_setCell w p u g hp]
 exact h
theorem Zb.below {w w' : World} {B g : Nat} {t : TypeId} {cs : Array Value} (h : Zb w g t cs) (hb : Below B w w') (hg : g < B) : Zb w' g t cs := by
 unfold Zb
 rw [hb.block g hg]
 exact h
def TailIs (cs : Array Value) (f : Nat) (l : List Int) : Prop := f + l.length = cs.size ∧ ∀ j, j < l.length → cs[f + j]? = some (.int .u8 (l.getD j 0))
theorem TailIs.next {cs : Array Value} {f : Nat} {l : List Int} (h : TailIs cs (f + 1) l) (x : Int) : TailIs (cs.setIfInBounds f (.int .u8 x)) f (x :: l) := by
 obtain ⟨h1, h2⟩ := h
 refine ⟨by rw [Array.size_setIfInBounds, List.length_cons]; omega, fun j hj => ?_⟩
 rw [List.length_cons] at hj
 rw [Array.getElem?_setIfInBounds]
 cases j with
 | zero => rw [if_pos (by omega), if_pos (by omega)]; rfl
 | succ j =>
   rw [if_neg (by omega), show f + (j + 1) = f + 1 + j from by omega, h2 j (by omega)]
   rfl
theorem TailIs.cells {w : World} {g : Nat} {t : TypeId} {cs : Array Value} {f : Nat} {l : List Int} (h : TailIs cs f l) (hw : Zb w g t cs) : ∀ j, j < l.length → w.cell? ⟨g, f + j, none⟩ = some (.int .u8 (l.getD j 0)) := fun j hj => by
 rw [hw.read]; exact h.2 j hj
theorem whole2 {w : World} {g : Nat} {t : TypeId} {a b : Value} (h : Zb w g t #[a, b]) : w.cell? ⟨g, 0, none⟩ = some a ∧ w.cell? ⟨g, 1, none⟩ = some b ∧ w.frozen? ⟨g, 0, none⟩ = false ∧ w.frozen? ⟨g, 1, none⟩ = false :=
 ⟨by rw [h.read]; rfl, by rw [h.read]; rfl, h.thawed 0, h.thawed 1⟩
theorem Zu {w : World} {g : Nat} {t : TypeId} {a b c : Value} (h : Zb w g t #[a, b, c]) : w.cell? ⟨g, 0, none⟩ = some a ∧ w.cell? ⟨g, 1, none⟩ = some b ∧ w.cell? ⟨g, 2, none⟩ = some c ∧
   w.frozen? ⟨g, 0, none⟩ = false ∧ w.frozen? ⟨g, 1, none⟩ = false ∧ w.frozen? ⟨g, 2, none⟩ = false :=
 ⟨by rw [h.read]; rfl, by rw [h.read]; rfl, by rw [h.read]; rfl, h.thawed 0, h.thawed 1, h.thawed 2⟩
structure Two (w : World) (t : TypeId) (cs : Array Value) (u : TypeId) (ds : Array Value) (x : World) : Prop where
 k0 : Zb x w.heap.size t cs
 k1 : Zb x (w.heap.size + 1) u ds
 below : Below w.heap.size w x
theorem Two.start (w : World) (t : TypeId) (cs : Array Value) (u : TypeId) (ds : Array Value) : Two w t cs u ds ((w.alloc (.cells cs t)).alloc (.cells ds u)) := by
 refine ⟨(Zb.made _ _ _).alloc _, ?_, ((Below.refl _ _).alloc (Nat.le_refl _) _).alloc (by simp) _⟩
 have := Zb.made (w.alloc (.cells cs t)) u ds
 simpa using this
theorem Two.next {w x y : World} {t u : TypeId} {cs ds : Array Value} (h : Two w t cs u ds x) (hb : Below x.heap.size x y) : Two w t cs u ds y :=
 ⟨h.k0.below hb h.k0.inside, h.k1.below hb h.k1.inside, h.below.trans (hb.mono h.below.size)⟩
theorem Two.drew {w x : World} {t u : TypeId} {cs ds : Array Value} (h : Two w t cs u ds x) : Two w t cs u ds x.drew :=
 ⟨h.k0, h.k1, h.below.drew⟩
def Vn (w : World) (A : Option Addr) (cs : List Value) : Prop :=
 cs = [] ∨ ∃ x, A = some x ∧ x.block < w.heap.size ∧ ∀ j, j < cs.length → w.cell? (x.add j) = cs[j]?
theorem Vn.below {w w' : World} {A : Option Addr} {cs : List Value} (h : Vn w A cs) (hb : Below w.heap.size w w') : Vn w' A cs := by
 rcases h with h | ⟨x, rfl, hx, hc⟩
 · exact .inl h
 · refine .inr ⟨x, rfl, Nat.lt_of_lt_of_le hx hb.size, fun j hj => ?_⟩
   rw [hb.cell (p := x.add j) (by unfold Addr.add; split <;> exact hx)]
   exact hc j hj
theorem Vn.alloc {w : World} {A : Option Addr} {cs : List Value} (h : Vn w A cs) (o : Obj) : Vn (w.alloc o) A cs := h.below ((Below.refl _ _).alloc (Nat.le_refl _) o)
theorem Vn.at_ {w : World} {A : Option Addr} {cs : List Value} (h : Vn w A cs) (hn : 0 < cs.length) : ∃ x, A = some x ∧ x.block < w.heap.size ∧ ∀ j, j < cs.length → w.cell? (x.add j) = cs[j]? := by
 rcases h with h | h
 · rw [h] at hn; simp at hn
 · exact h
theorem Uq.reads {w : World} {A : Option Addr} {cs : List Value} (h : Uq w w.heap.size A cs) : Vn w A cs := by
 rcases h with h | ⟨g, off, rfl, hg, hc⟩
 · exact .inl h
 · exact .inr ⟨⟨g, off, none⟩, rfl, hg, fun j hj => by rw [Addr.add_lit]; exact hc j hj⟩
theorem Vn.made (w : World) (cs : Array Value) (t : TypeId) : Vn (w.alloc (.cells cs t)) (some ⟨w.heap.size, 0, none⟩) cs.toList := by
 refine .inr ⟨_, rfl, by simp, fun j hj => ?_⟩
 rw [Addr.add_lit, (Zb.made w t cs).read, Nat.zero_add]
 simp
theorem conv_own {P : Program} {w : World} {base : Nat} {src e t : TypeId} {size n : Nat} {v : Value} {l : List Int} (hs : P.underlying src = some (.slice e)) (he : P.underlying e = some (.int .u8)) (h : w.ownsRow base t size v n (l.map (Value.int .u8))) (hn : n = l.length) :
   ∀ dst, P.underlying dst = some .string → (convert src dst v).run P w = .ok (.string (strOfNums l)) w := by
 obtain ⟨A, c, rfl, h1, h2, h3⟩ := own_form h
 rcases h3 with h3 | ⟨g, off, rfl, hg, hc⟩
 · have hl : l = [] := by simpa using h3
   subst hl
   subst hn
   obtain ⟨_, h4⟩ := h
   rcases h4 with ⟨h4, _⟩ | ⟨g, cap, cur, h4, _⟩
   · injection h4 with e1 e2 e3
     subst e1; subst e3
     exact run_convert_bytes_nil (P := P) w src e hs he 0 0
   · injection h4 with e1 e2 e3
     subst e1
     exact run_convert_bytes_arg w src e hs he g 0 0 c [] rfl (fun i hi => by omega)
 · refine run_convert_bytes_arg w src e hs he g off n c l hn.symm (fun i hi => ?_)
   rw [hc i (by rw [List.length_map]; omega), List.getElem?_map, List.getElem?_eq_getElem (by omega)]
   simp [List.getD, List.getElem?_eq_getElem (show i < l.length by omega)]
end Go.Proofs.YtabegjepejgllaaGreat
