/-
  Texts Own, RunesMath, DigitsMath, Blk, Reads, Keeps, Base, Two, Laid, RunesList, TokMath, TokL, Strs, Runes, Ret, DigTake, Tok, Tok2, Tok3, Tok4, TokScan, TokAgain. No conditions but those that each theorem names.
-/
import Derived.Below
import Derived.Laws.OwnMore
import Derived.Maps.AppendAt
import Derived.OwnWalk
import Derived.Deep.QuietTactic
import Derived.Laws.RangeAny
import Derived.Laws.BytesArg
import Derived.Laws.Strings
import Derived.Laws.Rows
import Derived.Lib.AppendStr
import Derived.Test.YtljdgdphldckhaaGreatRows
import Derived.WalkKit
import Derived.ProofKit
import Derived.WalkLawsBesides
import Derived.Outline
import Derived.OpenShut
import Derived.Lib.Hide
import Derived.Deep.Draws
import Derived.Deep.OwnRows
import Derived.Shelf.Small.Strs
import Derived.Shelf.Strings.Prefix
import Derived.IntWalk
import Derived.Calls
import Derived.Laws.Strings2
import Derived.RegionTactic
import Derived.ChangeAlike
set_option maxRecDepth 20000
set_option maxHeartbeats 12800000
namespace Go.Proofs.YtljdgdphldckhaaGreat
open Go Go.RowKit
theorem Qz1 {α : Type} (l : List α) (i : Nat) (a : α) : l.toArray.setIfInBounds i a = (l.set i a).toArray := List.setIfInBounds_toArray l i a
theorem Qy1 {α : Type} {l : List α} {a b : α} : (a :: l).set 0 b = b :: l := rfl
theorem Qx1 {α : Type} {l : List α} {i : Nat} {a b : α} : (a :: l).set (i + 1) b = a :: l.set i b := rfl
theorem Hh {p : Prop} (h : p) : Hid p := Lib.hid h
def Zac (w : World) (B : Nat) (A : Option Addr) (cs : List Value) : Prop :=
 cs = [] ∨ ∃ g off, A = some ⟨g, off, none⟩ ∧ g < B ∧ ∀ j, j < cs.length → w.cell? ⟨g, off + j, none⟩ = cs[j]?
theorem Zac.same {w w' : World} {B : Nat} {A : Option Addr} {cs : List Value} (h : Zac w B A cs) (hs : ∀ k, k < B → w'.heap[k]? = w.heap[k]?) : Zac w' B A cs := by
 rcases h with h | ⟨g, off, rfl, hg, hc⟩
 · exact .inl h
 · exact .inr ⟨g, off, rfl, hg, fun j hj => (World.cell?_of_block (w := w) (a := ⟨g, off + j, none⟩) (hs g hg)).trans (hc j hj)⟩
theorem Zac.below {w w' : World} {B : Nat} {A : Option Addr} {cs : List Value} (h : Zac w B A cs) (hb : Below B w w') : Zac w' B A cs := h.same hb.block
theorem Zac.mono {w : World} {B B' : Nat} {A : Option Addr} {cs : List Value} (h : Zac w B A cs) (hB : B ≤ B') : Zac w B' A cs := by
 rcases h with h | ⟨g, off, rfl, hg, hc⟩
 · exact .inl h
 · exact .inr ⟨g, off, rfl, by omega, hc⟩
theorem Zac.alloc {w : World} {B : Nat} {A : Option Addr} {cs : List Value} (h : Zac w B A cs) (hB : B ≤ w.heap.size) (o : Obj) : Zac (w.alloc o) B A cs :=
 h.same fun k hk => Below.heap_alloc w o k (by omega)
theorem Zac.at_ {w : World} {B : Nat} {A : Option Addr} {cs : List Value} (h : Zac w B A cs) (hn : 0 < cs.length) : ∃ g off, A = some ⟨g, off, none⟩ ∧ g < B ∧ ∀ j, j < cs.length → w.cell? ⟨g, off + j, none⟩ = cs[j]? := by
 rcases h with h | h
 · rw [h] at hn; simp at hn
 · exact h
theorem Xx {w : World} {base : Nat} {e : TypeId} {size : Nat} {v : Value} {n : Nat} {xs : List Value} (h : w.ownsRow base e size v n xs) :
   ∃ A c, v = .slice A n c ∧ n ≤ c ∧ c ≤ maxLen ∧ Zac w w.heap.size A xs := by
 obtain ⟨h1, h2⟩ := id h
 rcases h2 with ⟨rfl, rfl⟩ | ⟨g, cap, cur, rfl, hb, hh, hn, hm, hs, ht⟩
 · exact ⟨none, 0, rfl, by omega, by unfold maxLen; omega, .inl (List.eq_nil_of_length_eq_zero (by simpa using h1))⟩
 · refine ⟨_, cap, rfl, hn, hm, .inr ⟨g, 0, rfl, (h.lt g rfl).2, fun j hj => ?_⟩⟩
   rw [Nat.zero_add]
   exact World.ownsRow.cellAt h j (by omega)
def Apart (a b : Value) : Prop := ∀ k, a.ownBlock = some k → b.ownBlock ≠ some k
theorem Apart.symm {a b : Value} (h : Apart a b) : Apart b a := fun k hb ha => h k ha hb
theorem Apart.nil (b : Value) : Apart (.slice none 0 0) b := fun k h => by simp [Value.ownBlock] at h
theorem Apart.grown {a v v' : Value} {w : World} {base : Nat} {e : TypeId} {size n : Nat} {xs : List Value} {H : Nat} (h : Apart a v) (ha : w.ownsRow base e size a n xs) (hH : w.heap.size ≤ H)
   (hat : v'.ownBlock = v.ownBlock ∨ v'.ownBlock = some H) : Apart a v' := by
 intro k hk
 rcases hat with e | e
 · rw [e]; exact h k hk
 · rw [e]
   have := (ha.lt k hk).2
   intro c; injection c with c; omega
theorem Apart.kept {a v : Value} {w w' : World} {base : Nat} {e : TypeId} {size n : Nat} {xs : List Value} (h : Apart a v) (ha : w.ownsRow base e size a n xs) (hg : w.grownBy w' v.ownBlock) : w'.ownsRow base e size a n xs := by
 refine ha.kept hg ?_
 cases hk : a.ownBlock with
 | none => exact .inl rfl
 | some k => exact .inr (fun c => h k hk c.symm)
theorem own_mono {w : World} {base base' : Nat} {e : TypeId} {size : Nat} {v : Value} {n : Nat} {xs : List Value} (h : w.ownsRow base e size v n xs) (hb : base' ≤ base) : w.ownsRow base' e size v n xs := by
 obtain ⟨h1, h2⟩ := h
 refine ⟨h1, ?_⟩
 rcases h2 with h2 | ⟨g, cap, cur, hv, hg, r⟩
 · exact .inl h2
 · exact .inr ⟨g, cap, cur, hv, by omega, r⟩
theorem Un {w w' : World} {base : Nat} {e : TypeId} {size : Nat} {v : Value} {n : Nat} {xs : List Value} (h : w.ownsRow base e size v n xs) (hb : Below w.heap.size w w') : w'.ownsRow base e size v n xs := by
 obtain ⟨h1, h2⟩ := id h
 refine ⟨h1, ?_⟩
 rcases h2 with h2 | ⟨g, cap, cur, hv, hg, hh, r⟩
 · exact .inl h2
 · refine .inr ⟨g, cap, cur, hv, hg, ?_, r⟩
   rw [hb.block g ((h.lt g (by rw [hv]; rfl)).2)]
   exact hh
theorem below_push {B : Nat} {w0 w w' : World} {v : Value} {base : Nat} {e : TypeId} {size n : Nat} {xs : List Value} (h : Below B w0 w) (hown : w.ownsRow base e size v n xs) (hg : w.grownBy w' v.ownBlock) (hB : B ≤ base) (hs : B ≤ w.heap.size) : Below B w0 w' :=
 h.grown hg hs (fun k hk => by have := hown.lt k hk; omega)
theorem Xr {w b c : World} (h : Below w.heap.size w b) (k : Below b.heap.size b c) : Below w.heap.size w c := h.trans (k.mono h.size)
theorem below_drew1 {B : Nat} {a w : World} (h : Below B a w) : Below B a w.drew := ⟨h.os, h.tape, h.output, h.size, h.block⟩
theorem below_drewN {B : Nat} {a w : World} (h : Below B a w) (n : Nat) : Below B a (w.drewN n) := ⟨h.os, h.tape, h.output, h.size, h.block⟩
end Go.Proofs.YtljdgdphldckhaaGreat
namespace Go.Proofs.YtljdgdphldckhaaGreat
open Go
def gB (s : ByteArray) (i : Nat) : Nat := (s.get! i).toNat
theorem gB_lt (s : ByteArray) (i : Nat) : gB s i < 256 := (s.get! i).toNat_lt
theorem gB_eq (s : ByteArray) (i : Nat) (h : i < s.size) : gB s i = (s[i]'h).toNat := by
 unfold gB
 have := get_at s i h
 rw [Nat.add_zero] at this
 rw [this]
def cB (s : ByteArray) (i : Nat) : Bool := decide (i < s.size) && decide (128 ≤ gB s i) && decide (gB s i < 192)
theorem cB_iff (s : ByteArray) (i : Nat) : cB s i = true ↔ i < s.size ∧ 128 ≤ gB s i ∧ gB s i < 192 := by
 unfold cB; simp; omega
theorem dec_eq (s : ByteArray) (i : Nat) : Utf8.decode s i =
   if gB s i < 128 then (gB s i, 1)
   else if gB s i / 32 = 6 ∧ cB s (i + 1) = true then
     (if 128 ≤ gB s i % 32 * 64 + gB s (i + 1) % 64 then (gB s i % 32 * 64 + gB s (i + 1) % 64, 2) else (65533, 1))
   else if gB s i / 16 = 14 ∧ cB s (i + 1) = true ∧ cB s (i + 2) = true then
     (if 2048 ≤ gB s i % 16 * 4096 + gB s (i + 1) % 64 * 64 + gB s (i + 2) % 64 ∧ ¬ (55296 ≤ gB s i % 16 * 4096 + gB s (i + 1) % 64 * 64 + gB s (i + 2) % 64 ∧ gB s i % 16 * 4096 + gB s (i + 1) % 64 * 64 + gB s (i + 2) % 64 ≤ 57343) then (gB s i % 16 * 4096 + gB s (i + 1) % 64 * 64 + gB s (i + 2) % 64, 3) else (65533, 1))
   else if gB s i / 8 = 30 ∧ cB s (i + 1) = true ∧ cB s (i + 2) = true ∧ cB s (i + 3) = true then
     (if 65536 ≤ gB s i % 8 * 262144 + gB s (i + 1) % 64 * 4096 + gB s (i + 2) % 64 * 64 + gB s (i + 3) % 64 ∧ gB s i % 8 * 262144 + gB s (i + 1) % 64 * 4096 + gB s (i + 2) % 64 * 64 + gB s (i + 3) % 64 ≤ 1114111 then (gB s i % 8 * 262144 + gB s (i + 1) % 64 * 4096 + gB s (i + 2) % 64 * 64 + gB s (i + 3) % 64, 4) else (65533, 1))
   else (65533, 1) := by
 have e : ∀ k, (s.get! k).toNat = gB s k := fun k => rfl
 have c : ∀ k, (decide (i + k < s.size) && (gB s (i + k) / 64 == 2)) = cB s (i + k) := by
   intro k
   rw [Bool.eq_iff_iff, cB_iff]
   simp
   omega
 have h0 := gB_lt s i
 have h1 := gB_lt s (i + 1)
 have h2 := gB_lt s (i + 2)
 unfold Utf8.decode
 simp only [e, c, Nat.add_zero, Utf8.runeError, Bool.and_eq_true, beq_iff_eq, Utf8.valid, Bool.or_eq_true, decide_eq_true_eq, and_assoc, ge_iff_le]
 generalize gB s i = a at *
 generalize gB s (i + 1) = b at *
 generalize gB s (i + 2) = d at *
 generalize gB s (i + 3) = f at *
 repeat' split
 all_goals first
   | rfl
   | (exfalso; omega)
theorem Jw (s : ByteArray) (i : Nat) (h : i < s.size) : 1 ≤ (Utf8.decode s i).2 ∧ i + (Utf8.decode s i).2 ≤ s.size ∧ (Utf8.decode s i).2 ≤ 4 ∧ (Utf8.decode s i).1 ≤ 1114111 := by
 have h0 := gB_lt s i
 rw [dec_eq]
 repeat' split
 all_goals simp only [cB_iff] at *
 all_goals ((try dsimp only); omega)
theorem dec_ascii (s : ByteArray) (i : Nat) (h : (Utf8.decode s i).1 < 128) : (Utf8.decode s i).1 = gB s i ∧ (Utf8.decode s i).2 = 1 := by
 rw [dec_eq] at h ⊢
 repeat' split
 all_goals (simp only [*] at h; revert h; dsimp only; repeat' split)
 all_goals first
   | (exact fun _ => ⟨rfl, rfl⟩)
   | (intro h; exfalso; simp only [*] at *; omega)
   | (intro h; exfalso; omega)
theorem Wl (s : ByteArray) (i : Nat) (h : gB s i < 128) : Utf8.decode s i = (gB s i, 1) := by
 rw [dec_eq, if_pos h]
theorem dec_last (s : ByteArray) (i : Nat) (h : 1 < (Utf8.decode s i).2) : 128 ≤ gB s (i + (Utf8.decode s i).2 - 1) := by
 rw [dec_eq] at h ⊢
 repeat' split
 all_goals simp only [*, cB_iff] at *
 all_goals (try (simp at h; done))
 all_goals (simp; omega)
def numsAt (s : ByteArray) (i n : Nat) : List Int := (List.range n).map fun j => (gB s (i + j) : Int)
theorem numsAt_length (s : ByteArray) (i n : Nat) : (numsAt s i n).length = n := by simp [numsAt]
theorem gB_extract (s : ByteArray) (a b i : Nat) (h : a + i < b) (hb : b ≤ s.size) : gB (s.extract a b) i = gB s (a + i) := by
 rw [gB_eq _ i (by rw [ByteArray.size_extract]; omega), gB_eq _ (a + i) (by omega), ByteArray.getElem_extract]
theorem size_extract (s : ByteArray) (a b : Nat) (hb : b ≤ s.size) : (s.extract a b).size = b - a := by rw [ByteArray.size_extract]; omega
theorem dec_extract (s : ByteArray) (a : Nat) (h : a ≤ s.size) (i : Nat) (hi : a + i < s.size) : Utf8.decode (s.extract a s.size) i = Utf8.decode s (a + i) := by
 have hz : (s.extract a s.size).size = s.size - a := size_extract s a s.size (Nat.le_refl _)
 have g0 : gB (s.extract a s.size) i = gB s (a + i) := gB_extract s a s.size i hi (Nat.le_refl _)
 have gc : ∀ k, cB (s.extract a s.size) (i + k) = cB s (a + i + k) ∧ (cB s (a + i + k) = true → gB (s.extract a s.size) (i + k) = gB s (a + i + k)) := by
   intro k
   by_cases hk : a + i + k < s.size
   · have g := gB_extract s a s.size (i + k) (by omega) (Nat.le_refl _)
     rw [show a + (i + k) = a + i + k from by omega] at g
     refine ⟨?_, fun _ => g⟩
     unfold cB; rw [hz, g]
     simp only [show (i + k < s.size - a) = True from by simp; omega, hk]
   · have e1 : cB (s.extract a s.size) (i + k) = false := by unfold cB; rw [hz]; simp; omega
     have e2 : cB s (a + i + k) = false := by unfold cB; simp; omega
     exact ⟨e1.trans e2.symm, fun h => by rw [e2] at h; cases h⟩
 obtain ⟨c1, d1⟩ := gc 1
 obtain ⟨c2, d2⟩ := gc 2
 obtain ⟨c3, d3⟩ := gc 3
 rw [dec_eq, dec_eq, g0, c1, c2, c3]
 by_cases e1 : cB s (a + i + 1) = true
 · rw [d1 e1]
   by_cases e2 : cB s (a + i + 2) = true
   · rw [d2 e2]
     by_cases e3 : cB s (a + i + 3) = true
     · rw [d3 e3]
     · simp [e3]
   · simp [e2]
 · simp [e1]
theorem strOfNums_eq (l m : List Int) (hl : ∀ x ∈ l, 0 ≤ x ∧ x < 256) (hm : ∀ x ∈ m, 0 ≤ x ∧ x < 256) (h : strOfNums l = strOfNums m) : l = m := by
 have e := congrArg (fun b : ByteArray => b.data.toList.map (fun c : UInt8 => (c.toNat : Int))) h
 have k : ∀ l : List Int, (∀ x ∈ l, 0 ≤ x ∧ x < 256) → (strOfNums l).data.toList.map (fun c : UInt8 => (c.toNat : Int)) = l := by
   intro l hl
   rw [strOfNums_data, List.map_map]
   conv => rhs; rw [← List.map_id l]
   apply List.map_congr_left
   intro x hx
   have := hl x hx
   simp
   omega
 rw [← k l hl, ← k m hm]
 exact e
theorem numsAt_bd (s : ByteArray) (i n : Nat) : ∀ x ∈ numsAt s i n, 0 ≤ x ∧ x < 256 := by
 intro x hx
 simp only [numsAt, List.mem_map] at hx
 obtain ⟨j, _, rfl⟩ := hx
 have := gB_lt s (i + j)
 omega
theorem extract_nums (s : ByteArray) (i n : Nat) (h : i + n ≤ s.size) : s.extract i (i + n) = strOfNums (numsAt s i n) := by
 have hz : (s.extract i (i + n)).size = n := by rw [size_extract _ _ _ h]; omega
 apply ByteArray.ext
 apply Array.ext
 · show (s.extract i (i + n)).size = (strOfNums (numsAt s i n)).size
   rw [hz, strOfNums_size, numsAt_length]
 · intro j h1 h2
   have hj : j < n := by rw [← hz]; exact h1
   have e : (strOfNums (numsAt s i n)).data[j] = UInt8.ofNat (gB s (i + j)) := by
     simp [strOfNums, numsAt]
   rw [e]
   have g := gB_eq s (i + j) (by omega)
   apply UInt8.toNat_inj.1
   rw [g]
   simp
   rfl
def bL (s : ByteArray) : List Int := numsAt s 0 s.size
theorem Wy (s : ByteArray) : (bL s).length = s.size := numsAt_length _ _ _
theorem bL_bd (s : ByteArray) : ∀ x ∈ bL s, 0 ≤ x ∧ x < 256 := numsAt_bd _ _ _
theorem str_bL (s : ByteArray) : strOfNums (bL s) = s := by
 have h := extract_nums s 0 s.size (by omega)
 rw [Nat.zero_add] at h
 unfold bL
 rw [← h]
 exact ByteArray.extract_zero_size
theorem bL_get (s : ByteArray) (i : Nat) (h : i < s.size) : (bL s)[i]? = some (gB s i : Int) := by
 simp [bL, numsAt, h]
theorem bL_str (l : List Int) (hl : ∀ x ∈ l, 0 ≤ x ∧ x < 256) : bL (strOfNums l) = l :=
 strOfNums_eq _ _ (bL_bd _) hl (str_bL _)
theorem str_eq_iff (l m : List Int) (hl : ∀ x ∈ l, 0 ≤ x ∧ x < 256) (hm : ∀ x ∈ m, 0 ≤ x ∧ x < 256) : ((strOfNums l).toList == (strOfNums m).toList) = decide (l = m) := by
 rw [ByteArray.toList_eq, ByteArray.toList_eq, Bool.eq_iff_iff, beq_iff_eq, decide_eq_true_iff]
 constructor
 · intro e; exact strOfNums_eq _ _ hl hm (ByteArray.ext (Array.toList_inj.1 e))
 · intro e; rw [e]
theorem bL_extract (s : ByteArray) (i n : Nat) (h : i + n ≤ s.size) : bL (s.extract i (i + n)) = ((bL s).drop i).take n := by
 rw [extract_nums s i n h, bL_str _ (numsAt_bd _ _ _)]
 apply List.ext_getElem?
 intro j
 by_cases hj : j < n
 · rw [List.getElem?_take_of_lt hj, List.getElem?_drop, bL_get s (i + j) (by omega)]
   simp [numsAt, hj]
 · rw [List.getElem?_eq_none (by rw [numsAt_length]; omega), List.getElem?_eq_none (by rw [List.length_take]; omega)]
def digL (n : Nat) : List Int := if n < 10 then [48 + (n : Int)] else digL (n / 10) ++ [48 + ((n % 10 : Nat) : Int)]
theorem digL_lt {n : Nat} (h : n < 10) : digL n = [48 + (n : Int)] := by rw [digL, if_pos h]
theorem digL_ge {n : Nat} (h : 10 ≤ n) : digL n = digL (n / 10) ++ [48 + ((n % 10 : Nat) : Int)] := by
 conv => lhs; rw [digL]
 rw [if_neg (by omega)]
def isD (x : Int) : Bool := decide (48 ≤ x) && decide (x ≤ 57)
theorem isD_iff (x : Int) : isD x = true ↔ 48 ≤ x ∧ x ≤ 57 := by simp [isD]
def valL (l : List Int) : Int := l.foldl (fun n d => 10 * n + (d - 48)) 0
theorem valL_snoc (l : List Int) (d : Int) : valL (l ++ [d]) = 10 * valL l + (d - 48) := by simp [valL]
theorem snoc_cases (l : List Int) : l = [] ∨ ∃ m d, l = m ++ [d] := by
 rcases List.eq_nil_or_concat l with h | ⟨m, d, h⟩
 · exact .inl h
 · exact .inr ⟨m, d, by rw [h, List.concat_eq_append]⟩
theorem valL_nonneg (l : List Int) (hl : ∀ x ∈ l, 48 ≤ x ∧ x ≤ 57) : 0 ≤ valL l ∧ valL l < 10 ^ l.length := by
 generalize hn : l.length = n
 induction n generalizing l with
 | zero => rw [List.eq_nil_of_length_eq_zero hn]; simp [valL]
 | succ n ih =>
   rcases snoc_cases l with rfl | ⟨m, d, rfl⟩
   · simp at hn
   · have := ih m (fun x hx => hl x (by simp [hx])) (by simpa using hn)
     have := hl d (by simp)
     rw [valL_snoc, Int.pow_succ]
     omega
theorem pow10_le {k : Nat} (h : k ≤ 9) : (10 : Int) ^ k ≤ 1000000000 := by
 have h : k = 0 ∨ k = 1 ∨ k = 2 ∨ k = 3 ∨ k = 4 ∨ k = 5 ∨ k = 6 ∨ k = 7 ∨ k = 8 ∨ k = 9 := by omega
 rcases h with rfl | rfl | rfl | rfl | rfl | rfl | rfl | rfl | rfl | rfl <;> decide
def plain (l : List Int) : Bool := !decide (l[0]? = some 48) || decide (l.length = 1)
def putL (n : Int) : List Int := if n < 0 then 45 :: digL (-n).toNat else digL n.toNat
def putS (n : Int) : ByteArray := strOfNums (putL n)
theorem putL_neg {n : Int} (h : n < 0) : putL n = 45 :: digL (-n).toNat := by rw [putL, if_pos h]
theorem putL_pos {n : Int} (h : 0 ≤ n) : putL n = digL n.toNat := by rw [putL, if_neg (by omega)]
def Xl (l : List Int) : List Int := l.takeWhile isD
theorem firstD_cons {x : Int} (r : List Int) (h : isD x = true) : Xl (x :: r) = x :: Xl r := by simp [Xl, h]
theorem firstD_stop {x : Int} (r : List Int) (h : isD x = false) : Xl (x :: r) = [] := by simp [Xl, h]
theorem firstD_isD (l : List Int) : ∀ x ∈ Xl l, 48 ≤ x ∧ x ≤ 57 := by
 intro x hx
 have : isD x = true := by
   unfold Xl at hx
   exact (List.all_eq_true.1 (List.all_takeWhile (l := l) (p := isD))) x hx
 exact (isD_iff x).1 this
theorem firstD_take (l : List Int) : l.take (Xl l).length = Xl l := by
 induction l with
 | nil => rfl
 | cons x r ih =>
   cases h : isD x with
   | true => rw [firstD_cons r h]; simp [ih]
   | false => rw [firstD_stop r h]; rfl
theorem firstD_len (l : List Int) : (Xl l).length ≤ l.length := by
 have := congrArg List.length (firstD_take l)
 rw [List.length_take] at this; omega
theorem drop_cons {l : List Int} {i : Nat} (h : i < l.length) : l.drop i = l[i] :: l.drop (i + 1) := List.drop_eq_getElem_cons h
theorem bL_drop (s : ByteArray) (i : Nat) (h : i < s.size) : (bL s).drop i = (gB s i : Int) :: (bL s).drop (i + 1) := by
 have hl : i < (bL s).length := by rw [Wy]; exact h
 rw [drop_cons hl]
 congr 1
 have := bL_get s i h
 rw [List.getElem?_eq_getElem hl] at this
 exact Option.some.inj this
theorem bL_drop_nil (s : ByteArray) (i : Nat) (h : s.size ≤ i) : (bL s).drop i = [] := List.drop_eq_nil_of_le (by rw [Wy]; exact h)
def takeOf (s : ByteArray) (a most : Int) : Int × Int × Bool :=
 if a < 0 ∨ (s.size : Int) ≤ a then (0, 0, false)
 else if Xl ((bL s).drop a.toNat) ≠ [] ∧ ((Xl ((bL s).drop a.toNat)).length : Int) ≤ most ∧ (Xl ((bL s).drop a.toNat)).length ≤ 9 ∧ plain (Xl ((bL s).drop a.toNat)) = true then
   (valL (Xl ((bL s).drop a.toNat)), a + ((Xl ((bL s).drop a.toNat)).length : Int), true)
 else (0, 0, false)
end Go.Proofs.YtljdgdphldckhaaGreat
namespace Go.Proofs.YtljdgdphldckhaaGreat
open Go Go.RowKit
def Zb (w : World) (g : Nat) (t : TypeId) (cs : Array Value) : Prop := w.heap[g]? = some (.cells cs t (0, 0))
theorem Zb.inside {w : World} {g : Nat} {t : TypeId} {cs : Array Value} (h : Zb w g t cs) : g < w.heap.size := by
 apply Nat.lt_of_not_le
 intro c
 have e : w.heap[g]? = none := Array.getElem?_eq_none c
 unfold Zb at h
 rw [e] at h
 cases h
theorem Zb.read {w : World} {g : Nat} {t : TypeId} {cs : Array Value} (h : Zb w g t cs) (i : Nat) : w.cell? ⟨g, i, none⟩ = cs[i]? := cell_of_row w g i cs t (0, 0) h
theorem Zb.thawed {w : World} {g : Nat} {t : TypeId} {cs : Array Value} (h : Zb w g t cs) (i : Nat) : w.frozen? ⟨g, i, none⟩ = false := by
 have e : w.heap[g]? = some (.cells cs t (0, 0)) := h
 simp [World.frozen?, e]
theorem Zb.made (w : World) (t : TypeId) (cs : Array Value) : Zb (w.alloc (.cells cs t)) w.heap.size t cs := heap_alloc_new w _
theorem Zb.alloc {w : World} {g : Nat} {t : TypeId} {cs : Array Value} (h : Zb w g t cs) (o : Obj) : Zb (w.alloc o) g t cs := by
 unfold Zb
 rw [Below.heap_alloc w o g h.inside]
 exact h
theorem Zb.write {w : World} {g : Nat} {t : TypeId} {cs : Array Value} (h : Zb w g t cs) (i : Nat) (u : Value) : Zb (w.setCell ⟨g, i, none⟩ u) g t (cs.setIfInBounds i u) :=
 heap_setCell_same w g i cs t u h
theorem Zb.aside {w : World} {g : Nat} {t : TypeId} {cs : Array Value} (h : Zb w g t cs) {p : Addr} (hp : g ≠ p.block) (u : Value) : Zb (w.setCell p u) g t cs := by
 unfold Zb
 rw [Below.heap_setCell w p u g hp]
 exact h
theorem Zb.below {w w' : World} {B g : Nat} {t : TypeId} {cs : Array Value} (h : Zb w g t cs) (hb : Below B w w') (hg : g < B) : Zb w' g t cs := by
 unfold Zb
 rw [hb.block g hg]
 exact h
def TailIs (cs : Array Value) (f : Nat) (l : List Int) : Prop := f + l.length = cs.size ∧ ∀ j, j < l.length → cs[f + j]? = some (.int .u8 (l.getD j 0))
theorem TailIs.next {cs : Array Value} {f : Nat} {l : List Int} (h : TailIs cs (f + 1) l) (x : Int) : TailIs (cs.setIfInBounds f (.int .u8 x)) f (x :: l) := by
 obtain ⟨h1, h2⟩ := h
 refine ⟨by rw [Array.size_setIfInBounds, List.length_cons]; omega, fun j hj => ?_⟩
 rw [List.length_cons] at hj
 rw [Array.getElem?_setIfInBounds]
 cases j with
 | zero => rw [if_pos (by omega), if_pos (by omega)]; rfl
 | succ j =>
   rw [if_neg (by omega), show f + (j + 1) = f + 1 + j from by omega, h2 j (by omega)]
   rfl
theorem TailIs.cells {w : World} {g : Nat} {t : TypeId} {cs : Array Value} {f : Nat} {l : List Int} (h : TailIs cs f l) (hw : Zb w g t cs) : ∀ j, j < l.length → w.cell? ⟨g, f + j, none⟩ = some (.int .u8 (l.getD j 0)) := fun j hj => by
 rw [hw.read]; exact h.2 j hj
def Jd (w : World) (A : Option Addr) (cs : List Value) : Prop :=
 cs = [] ∨ ∃ x, A = some x ∧ x.block < w.heap.size ∧ ∀ j, j < cs.length → w.cell? (x.add j) = cs[j]?
theorem Jd.below {w w' : World} {A : Option Addr} {cs : List Value} (h : Jd w A cs) (hb : Below w.heap.size w w') : Jd w' A cs := by
 rcases h with h | ⟨x, rfl, hx, hc⟩
 · exact .inl h
 · refine .inr ⟨x, rfl, Nat.lt_of_lt_of_le hx hb.size, fun j hj => ?_⟩
   rw [hb.cell (p := x.add j) (by unfold Addr.add; split <;> exact hx)]
   exact hc j hj
theorem Jd.alloc {w : World} {A : Option Addr} {cs : List Value} (h : Jd w A cs) (o : Obj) : Jd (w.alloc o) A cs := h.below ((Below.refl _ _).alloc (Nat.le_refl _) o)
theorem Jd.at_ {w : World} {A : Option Addr} {cs : List Value} (h : Jd w A cs) (hn : 0 < cs.length) : ∃ x, A = some x ∧ x.block < w.heap.size ∧ ∀ j, j < cs.length → w.cell? (x.add j) = cs[j]? := by
 rcases h with h | h
 · rw [h] at hn; simp at hn
 · exact h
theorem Zac.reads {w : World} {A : Option Addr} {cs : List Value} (h : Zac w w.heap.size A cs) : Jd w A cs := by
 rcases h with h | ⟨g, off, rfl, hg, hc⟩
 · exact .inl h
 · exact .inr ⟨⟨g, off, none⟩, rfl, hg, fun j hj => by rw [Addr.add_lit]; exact hc j hj⟩
theorem Jd.made (w : World) (cs : Array Value) (t : TypeId) : Jd (w.alloc (.cells cs t)) (some ⟨w.heap.size, 0, none⟩) cs.toList := by
 refine .inr ⟨_, rfl, by simp, fun j hj => ?_⟩
 rw [Addr.add_lit, (Zb.made w t cs).read, Nat.zero_add]
 simp
theorem strCells_str (l : List Int) (hl : ∀ x ∈ l, 0 ≤ x ∧ x < 256) : Lib.strCells (strOfNums l) = l.map (Value.int .u8) := by
 have e : (strOfNums l).data.toList.map (fun c : UInt8 => (c.toNat : Int)) = l := by
   rw [strOfNums_data, List.map_map]
   conv => rhs; rw [← List.map_id l]
   apply List.map_congr_left
   intro x hx
   have := hl x hx
   simp
   omega
 unfold Lib.strCells
 conv => rhs; rw [← e, List.map_map]
 rfl
structure Zo (S : Nat → Prop) (w w' : World) : Prop where
 os : w'.os = w.os
 tape : w'.tape = w.tape
 output : w'.output = w.output
 size : w.heap.size ≤ w'.heap.size
 block : ∀ k, k < w.heap.size → ¬ S k → w'.heap[k]? = w.heap[k]?
theorem Zo.refl (S : Nat → Prop) (w : World) : Zo S w w := ⟨rfl, rfl, rfl, Nat.le_refl _, fun _ _ _ => rfl⟩
theorem Zo.trans {S : Nat → Prop} {a b c : World} (h : Zo S a b) (k : Zo S b c) : Zo S a c :=
 ⟨k.os.trans h.os, k.tape.trans h.tape, k.output.trans h.output, Nat.le_trans h.size k.size, fun i hi hn => (k.block i (Nat.lt_of_lt_of_le hi h.size) hn).trans (h.block i hi hn)⟩
theorem Zo.mono {S T : Nat → Prop} {a b : World} (h : Zo S a b) (hs : ∀ k, S k → T k) : Zo T a b := ⟨h.os, h.tape, h.output, h.size, fun k hk hn => h.block k hk fun c => hn (hs k c)⟩
theorem Zo.of_below {S : Nat → Prop} {a b : World} (h : Below a.heap.size a b) : Zo S a b := ⟨h.os, h.tape, h.output, h.size, fun k hk _ => h.block k hk⟩
theorem Zo.below {S : Nat → Prop} {a b : World} (h : Zo S a b) {B : Nat} (hB : B ≤ a.heap.size) (hs : ∀ k, S k → B ≤ k) : Below B a b :=
 ⟨h.os, h.tape, h.output, h.size, fun k hk => h.block k (by omega) fun c => by have := hs k c; omega⟩
theorem Zo.setCell {S : Nat → Prop} {a b : World} (h : Zo S a b) {p : Addr} (hp : S p.block) (u : Value) : Zo S a (b.setCell p u) :=
 h.trans ⟨rfl, rfl, rfl, by simp [World.setCell], fun k _ hn => Below.heap_setCell _ _ _ _ (fun c => hn (c ▸ hp))⟩
theorem Zo.alloc {S : Nat → Prop} {a b : World} (h : Zo S a b) (o : Obj) : Zo S a (b.alloc o) :=
 h.trans ⟨rfl, rfl, rfl, by simp, fun k hk _ => Below.heap_alloc _ _ _ hk⟩
theorem Zo.drew {S : Nat → Prop} {a b : World} (h : Zo S a b) : Zo S a b.drew := ⟨h.os, h.tape, h.output, h.size, h.block⟩
theorem Zo.grown {S : Nat → Prop} {a b c : World} (h : Zo S a b) {row : Option Nat} (hg : b.grownBy c row) (hr : ∀ k, row = some k → S k) : Zo S a c :=
 h.trans ⟨hg.os, hg.tape, hg.output, hg.size, fun k hk hn => hg.block k hk fun c => hn (hr k c.symm)⟩
theorem Zo.whole {S : Nat → Prop} {a b : World} (h : Zo S a b) {g : Nat} {t : TypeId} {cs : Array Value} (hw : Zb a g t cs) (hg : ¬ S g) : Zb b g t cs := by
 unfold Zb
 rw [h.block g hw.inside hg]
 exact hw
theorem Zo.owns {S : Nat → Prop} {a b : World} (h : Zo S a b) {base : Nat} {e : TypeId} {size : Nat} {v : Value} {n : Nat} {xs : List Value} (ho : a.ownsRow base e size v n xs) (hv : ∀ k, v.ownBlock = some k → ¬ S k) : b.ownsRow base e size v n xs := by
 obtain ⟨h1, h2⟩ := id ho
 refine ⟨h1, ?_⟩
 rcases h2 with h2 | ⟨g, cap, cur, rfl, hg, hh, r⟩
 · exact .inl h2
 · refine .inr ⟨g, cap, cur, rfl, hg, ?_, r⟩
   rw [h.block g (ho.lt g rfl).2 (hv g rfl)]
   exact hh
theorem Vr {w w' : World} {row : Option Nat} (hg : w.grownBy w' row) {g : Nat} {t : TypeId} {cs : Array Value} (hw : Zb w g t cs) (hn : row ≠ some g) : Zb w' g t cs := by
 unfold Zb
 rw [hg.block g hw.inside (fun c => hn c.symm)]
 exact hw
theorem Vx {w : World} {base : Nat} {e : TypeId} {size : Nat} {v : Value} {n : Nat} {xs : List Value} (h : w.ownsRow base e size v n xs) {p : Addr} (hp : v.ownBlock ≠ some p.block) (u : Value) : (w.setCell p u).ownsRow base e size v n xs :=
 (Zo.setCell (S := fun k => k = p.block) (Zo.refl _ w) rfl u).owns h fun k hk c => hp (by rw [hk, c])
end Go.Proofs.YtljdgdphldckhaaGreat
namespace Go.Proofs.YtljdgdphldckhaaGreat
open Go.ChangeShapes Go.WideShapes Go.ChangeAt Go.RowKit
end Go.Proofs.YtljdgdphldckhaaGreat
namespace Go.Proofs.YtljdgdphldckhaaGreat
open Go Go.RowKit
theorem whole2 {w : World} {g : Nat} {t : TypeId} {a b : Value} (h : Zb w g t #[a, b]) : w.cell? ⟨g, 0, none⟩ = some a ∧ w.cell? ⟨g, 1, none⟩ = some b ∧ w.frozen? ⟨g, 0, none⟩ = false ∧ w.frozen? ⟨g, 1, none⟩ = false :=
 ⟨by rw [h.read]; rfl, by rw [h.read]; rfl, h.thawed 0, h.thawed 1⟩
theorem Zu {w : World} {g : Nat} {t : TypeId} {a b c : Value} (h : Zb w g t #[a, b, c]) : w.cell? ⟨g, 0, none⟩ = some a ∧ w.cell? ⟨g, 1, none⟩ = some b ∧ w.cell? ⟨g, 2, none⟩ = some c ∧
   w.frozen? ⟨g, 0, none⟩ = false ∧ w.frozen? ⟨g, 1, none⟩ = false ∧ w.frozen? ⟨g, 2, none⟩ = false :=
 ⟨by rw [h.read]; rfl, by rw [h.read]; rfl, by rw [h.read]; rfl, h.thawed 0, h.thawed 1, h.thawed 2⟩
structure Two (w : World) (t : TypeId) (cs : Array Value) (u : TypeId) (ds : Array Value) (x : World) : Prop where
 k0 : Zb x w.heap.size t cs
 k1 : Zb x (w.heap.size + 1) u ds
 below : Below w.heap.size w x
theorem Two.start (w : World) (t : TypeId) (cs : Array Value) (u : TypeId) (ds : Array Value) : Two w t cs u ds ((w.alloc (.cells cs t)).alloc (.cells ds u)) := by
 refine ⟨(Zb.made _ _ _).alloc _, ?_, ((Below.refl _ _).alloc (Nat.le_refl _) _).alloc (by simp) _⟩
 have := Zb.made (w.alloc (.cells cs t)) u ds
 simpa using this
theorem Two.next {w x y : World} {t u : TypeId} {cs ds : Array Value} (h : Two w t cs u ds x) (hb : Below x.heap.size x y) : Two w t cs u ds y :=
 ⟨h.k0.below hb h.k0.inside, h.k1.below hb h.k1.inside, h.below.trans (hb.mono h.below.size)⟩
theorem Two.drew {w x : World} {t u : TypeId} {cs ds : Array Value} (h : Two w t cs u ds x) : Two w t cs u ds x.drew :=
 ⟨h.k0, h.k1, h.below.drew⟩
theorem own_heap {w w' : World} {base : Nat} {e : TypeId} {size : Nat} {v : Value} {n : Nat} {xs : List Value} (h : w.ownsRow base e size v n xs) (he : w'.heap = w.heap) : w'.ownsRow base e size v n xs := by
 unfold World.ownsRow at *
 rw [he]
 exact h
structure Zat (Y wr : World) (o : Obj) : Prop where
 heap : Y.heap = (wr.alloc o).heap
 os : Y.os = wr.os
 tape : Y.tape = wr.tape
 output : Y.output = wr.output
theorem Zat.keeps {S : Nat → Prop} {a Y wr : World} {o : Obj} (l : Zat Y wr o) (h : Zo S a wr) : Zo S a Y := by
 have k := h.alloc o
 exact ⟨l.os.trans h.os, l.tape.trans h.tape, l.output.trans h.output, by rw [l.heap]; exact k.size, fun b h1 h2 => by rw [l.heap]; exact k.block b h1 h2⟩
theorem Zat.whole {Y wr : World} {o : Obj} (l : Zat Y wr o) {g : Nat} {t : TypeId} {cs : Array Value} (h : Zb wr g t cs) : Zb Y g t cs := by
 unfold Zb; rw [l.heap]; exact h.alloc o
theorem Zat.own {Y wr : World} {o : Obj} (l : Zat Y wr o) {base : Nat} {e : TypeId} {size : Nat} {v : Value} {n : Nat} {xs : List Value} (h : wr.ownsRow base e size v n xs) : Y.ownsRow base e size v n xs := own_heap (h.alloc o) l.heap
theorem Zat.size {Y wr : World} {o : Obj} (l : Zat Y wr o) : Y.heap.size = wr.heap.size + 1 := by rw [l.heap]; simp
theorem Zat.far {Y wr w3 : World} {o : Obj} (l : Zat Y wr o) {row : Option Nat} (hg : Y.grownBy w3 row) {p : Addr} (hp : p.block < wr.heap.size) (hn : some p.block ≠ row) : w3.cell? p = wr.cell? p ∧ w3.frozen? p = wr.frozen? p := by
 have h1 := hg.block p.block (by rw [l.size]; omega) hn
 have h2 : Y.heap[p.block]? = wr.heap[p.block]? := by rw [l.heap]; exact Below.heap_alloc wr o p.block hp
 exact ⟨World.cell?_of_block (h1.trans h2), World.frozen?_of_block (h1.trans h2)⟩
theorem Zo.drewN {S : Nat → Prop} {a b : World} (h : Zo S a b) (q : Nat) : Zo S a (b.drewN q) := ⟨h.os, h.tape, h.output, h.size, h.block⟩
theorem Zat.ge {Y wr : World} {o : Obj} (l : Zat Y wr o) {n : Nat} (h : n ≤ wr.heap.size) : n ≤ Y.heap.size := by rw [l.size]; omega
theorem Zat.below {Y wr w : World} {o : Obj} (l : Zat Y wr o) {B : Nat} (h : Below B w wr) (hB : B ≤ wr.heap.size) : Below B w Y :=
 ⟨l.os.trans h.os, l.tape.trans h.tape, l.output.trans h.output, by rw [l.size]; have := h.size; omega, fun k hk => by rw [l.heap, Below.heap_alloc wr o k (by omega)]; exact h.block k hk⟩
theorem Zat.grown {Y wr w' : World} {o : Obj} (l : Zat Y wr o) {row : Option Nat} (hg : Y.grownBy w' row) : wr.grownBy w' row :=
 ⟨hg.os.trans l.os, hg.tape.trans l.tape, hg.output.trans l.output, Nat.le_trans (by rw [l.size]; omega) hg.size, fun k hk hn => (hg.block k (by rw [l.size]; omega) hn).trans (by rw [l.heap]; exact Below.heap_alloc wr o k hk)⟩
theorem Zb.drew {w : World} {g : Nat} {t : TypeId} {cs : Array Value} (h : Zb w g t cs) : Zb w.drew g t cs := h
theorem Zb.drewN {w : World} {g : Nat} {t : TypeId} {cs : Array Value} (h : Zb w g t cs) (n : Nat) : Zb (w.drewN n) g t cs := h
end Go.Proofs.YtljdgdphldckhaaGreat
namespace Go.Proofs.YtljdgdphldckhaaGreat
open Go
def Jf (s : ByteArray) : Nat → Nat → List (Nat × Nat)
 | 0, _ => []
 | b + 1, i => if i < s.size then ((Utf8.decode s i).1, i) :: Jf s b (i + (Utf8.decode s i).2) else []
theorem Jj (s : ByteArray) (b i : Nat) (h : s.size ≤ i) : Jf s b i = [] := by
 cases b with
 | zero => rfl
 | succ b => simp only [Jf]; rw [if_neg (by omega)]
theorem runesFrom_step (s : ByteArray) (b i : Nat) (h : i < s.size) : Jf s (b + 1) i = ((Utf8.decode s i).1, i) :: Jf s b (i + (Utf8.decode s i).2) := by
 simp only [Jf]; rw [if_pos h]
theorem runesFrom_fuel (s : ByteArray) : ∀ (b c i : Nat), s.size ≤ i + b → s.size ≤ i + c → Jf s b i = Jf s c i
 | 0, c, i, h, _ => by rw [Jj s c i (by omega)]; rfl
 | b + 1, 0, i, _, h => by rw [Jj s (b + 1) i (by omega)]; rfl
 | b + 1, c + 1, i, h1, h2 => by
   by_cases h : i < s.size
   · have := Jw s i h
     rw [runesFrom_step s b i h, runesFrom_step s c i h, runesFrom_fuel s b c _ (by omega) (by omega)]
   · rw [Jj s _ i (by omega), Jj s _ i (by omega)]
def Vq (s : ByteArray) (i : Nat) : List (Nat × Nat) := Jf s (s.size - i) i
theorem Uf (s : ByteArray) (i : Nat) (h : s.size ≤ i) : Vq s i = [] := Jj s _ i h
theorem Wb (s : ByteArray) (i : Nat) (h : i < s.size) : Vq s i = ((Utf8.decode s i).1, i) :: Vq s (i + (Utf8.decode s i).2) := by
 have := Jw s i h
 unfold Vq
 rw [show s.size - i = (s.size - i - 1) + 1 from by omega, runesFrom_step s _ i h]
 congr 1
 exact runesFrom_fuel s _ _ _ (by omega) (by omega)
def Vd (s : ByteArray) : List (Nat × Nat) := Vq s 0
theorem runesAt_length (s : ByteArray) : ∀ (b i : Nat), s.size ≤ i + b → (Vq s i).length ≤ s.size - i
 | 0, i, h => by rw [Uf s i (by omega)]; simp
 | b + 1, i, h => by
   by_cases hi : i < s.size
   · have := Jw s i hi
     have ih := runesAt_length s b (i + (Utf8.decode s i).2) (by omega)
     rw [Wb s i hi, List.length_cons]; omega
   · rw [Uf s i (by omega)]; simp
theorem runesOf_length (s : ByteArray) : (Vd s).length ≤ s.size := runesAt_length s s.size 0 (by omega)
theorem Vp (s : ByteArray) : ∀ (b i : Nat), s.size ≤ i + b → ∀ x ∈ Vq s i, i ≤ x.2 ∧ x.2 < s.size ∧ x.1 ≤ 1114111
 | 0, i, h => by rw [Uf s i (by omega)]; simp
 | b + 1, i, h => by
   by_cases hi : i < s.size
   · have := Jw s i hi
     rw [Wb s i hi]
     intro x hx
     rcases List.mem_cons.1 hx with rfl | hx
     · dsimp only; omega
     · have := Vp s b (i + (Utf8.decode s i).2) (by omega) x hx
       omega
   · rw [Uf s i (by omega)]; simp
def Yw (p : Nat × Nat) (r : Nat) : Nat × Nat := if r = 10 then (p.1 + 1, 1) else (p.1, p.2 + 1)
def placeL (at_ : Int) : List (Nat × Nat) → Nat × Nat → Nat × Nat
 | [], p => p
 | x :: l, p => if at_ ≤ (x.2 : Int) then p else placeL at_ l (Yw p x.1)
def Zx (s : ByteArray) (at_ : Int) : Nat × Nat := placeL at_ (Vd s) (1, 1)
theorem placeStep_bd (p : Nat × Nat) (r : Nat) (m : Nat) (h1 : p.1 ≤ m) (h2 : p.2 ≤ m) (h3 : 1 ≤ m): (Yw p r).1 ≤ m + 1 ∧ (Yw p r).2 ≤ m + 1 := by
 unfold Yw; split <;> (dsimp only; omega)
theorem placeL_bd (at_ : Int) : ∀ (l : List (Nat × Nat)) (p : Nat × Nat) (m : Nat), p.1 ≤ m → p.2 ≤ m → 1 ≤ m → (placeL at_ l p).1 ≤ m + l.length ∧ (placeL at_ l p).2 ≤ m + l.length
 | [], p, m, h1, h2, _ => by simp only [placeL, List.length_nil]; omega
 | x :: l, p, m, h1, h2, h3 => by
   simp only [placeL, List.length_cons]
   split
   · omega
   · have := placeStep_bd p x.1 m h1 h2 h3
     have := placeL_bd at_ l (Yw p x.1) (m + 1) this.1 this.2 (by omega)
     omega
theorem placeOf_bd (s : ByteArray) (at_ : Int) : (Zx s at_).1 ≤ 1 + s.size ∧ (Zx s at_).2 ≤ 1 + s.size := by
 have h := placeL_bd at_ (Vd s) (1, 1) 1 (by simp) (by simp) (by omega)
 have := runesOf_length s
 unfold Zx; omega
theorem placeL_behind (at_ : Nat) : ∀ (done rest : List (Nat × Nat)) (p : Nat × Nat), (∀ x ∈ done, x.2 < at_) → (∀ x ∈ rest, at_ ≤ x.2) → placeL at_ (done ++ rest) p = done.foldl (fun p x => Yw p x.1) p
 | [], rest, p, _, hr => by
   cases rest with
   | nil => rfl
   | cons x l =>
     have := hr x (List.mem_cons_self)
     simp only [List.nil_append, placeL, List.foldl_nil]
     rw [if_pos (by omega)]
 | x :: l, rest, p, hd, hr => by
   have := hd x (List.mem_cons_self)
   simp only [List.cons_append, placeL, List.foldl_cons]
   rw [if_neg (by omega), placeL_behind at_ l rest _ (fun y hy => hd y (List.mem_cons_of_mem _ hy)) hr]
structure Upto (s : ByteArray) (i : Nat) (done : List (Nat × Nat)) : Prop where
 all : Vd s = done ++ Vq s i
 before : ∀ x ∈ done, x.2 < i
theorem Upto.zero (s : ByteArray) : Upto s 0 [] := ⟨rfl, fun x hx => by cases hx⟩
theorem Upto.next {s : ByteArray} {i : Nat} {done : List (Nat × Nat)} (h : Upto s i done) (hi : i < s.size) : Upto s (i + (Utf8.decode s i).2) (done ++ [((Utf8.decode s i).1, i)]) := by
 have := Jw s i hi
 refine ⟨?_, fun x hx => ?_⟩
 · rw [h.all, Wb s i hi]; simp
 · rcases List.mem_append.1 hx with hx | hx
   · have := h.before x hx; omega
   · simp at hx; subst hx; dsimp only; omega
theorem Upto.place {s : ByteArray} {i : Nat} {done : List (Nat × Nat)} (h : Upto s i done) : Zx s i = done.foldl (fun p x => Yw p x.1) (1, 1) := by
 unfold Zx
 rw [h.all]
 exact placeL_behind i done _ _ h.before (fun x hx => (Vp s s.size i (by omega) x hx).1)
theorem Upto.length_end {s : ByteArray} {i : Nat} {done : List (Nat × Nat)} (h : Upto s i done) (hi : s.size ≤ i) : Vd s = done := by
 rw [h.all, Uf s i hi, List.append_nil]
def letterB (n : Int) : Bool := decide (97 ≤ n ∧ n ≤ 122) || decide (65 ≤ n ∧ n ≤ 90) || decide (192 ≤ n ∧ n ≤ 591 ∧ n ≠ 215 ∧ n ≠ 247)
def inNameB (n : Int) : Bool := letterB n || decide (48 ≤ n ∧ n ≤ 57) || decide (n = 32) || decide (n = 39) || decide (n = 45)
def nameB (s : ByteArray) : Bool := decide (1 ≤ (Vd s).length) && decide ((Vd s).length ≤ 24) && (Vd s).all (fun x => inNameB x.1) &&
 decide (((Vd s).map (·.1)).head? ≠ some 32) && decide (((Vd s).map (·.1)).getLast? ≠ some 32)
theorem head_space (s : ByteArray) (h : 0 < s.size) : ((Vd s).map (·.1)).head? = some 32 ↔ gB s 0 = 32 := by
 unfold Vd
 rw [Wb s 0 h]
 simp only [List.map_cons, List.head?_cons, Option.some.injEq]
 constructor
 · intro e
   have := dec_ascii s 0 (by omega)
   omega
 · intro e
   rw [Wl s 0 (by omega)]
   exact e
theorem last_space_at (s : ByteArray) : ∀ (b i : Nat), s.size ≤ i + b → i < s.size → (((Vq s i).map (·.1)).getLast? = some 32 ↔ gB s (s.size - 1) = 32)
 | 0, i, h, hi => by omega
 | b + 1, i, h, hi => by
   have hb := Jw s i hi
   rw [Wb s i hi]
   by_cases hn : i + (Utf8.decode s i).2 < s.size
   · have ih := last_space_at s b (i + (Utf8.decode s i).2) (by omega) hn
     rw [← ih, Wb s _ hn]
     simp only [List.map_cons, List.getLast?_cons_cons]
   · rw [Uf s _ (by omega)]
     simp only [List.map_cons, List.map_nil, List.getLast?_singleton, Option.some.injEq]
     constructor
     · intro e
       have := dec_ascii s i (by omega)
       rw [show s.size - 1 = i from by omega]
       omega
     · intro e
       by_cases h1 : 1 < (Utf8.decode s i).2
       · have := dec_last s i h1
         rw [show i + (Utf8.decode s i).2 - 1 = s.size - 1 from by omega] at this
         omega
       · rw [show s.size - 1 = i from by omega] at e
         rw [Wl s i (by omega)]
         exact e
theorem last_space (s : ByteArray) (h : 0 < s.size) : ((Vd s).map (·.1)).getLast? = some 32 ↔ gB s (s.size - 1) = 32 := last_space_at s s.size 0 (by omega) h
def Bd (s : ByteArray) (i : Nat) : Prop := i ≤ s.size ∧ ∃ done, Upto s i done
theorem Bd.zero (s : ByteArray) : Bd s 0 := ⟨Nat.zero_le _, [], Upto.zero s⟩
theorem dec_cont (s : ByteArray) (i k : Nat) (_hi : i < s.size) (h0 : 0 < k) (h1 : k < (Utf8.decode s i).2) : 128 ≤ gB s (i + k) := by
 rw [dec_eq] at h1
 split at h1
 · dsimp only at h1; omega
 · split at h1
   · rename_i h
     have c1 := (cB_iff s (i + 1)).1 h.2
     split at h1
     · dsimp only at h1; rw [show k = 1 from by omega]; omega
     · dsimp only at h1; omega
   · split at h1
     · rename_i h
       have c1 := (cB_iff s (i + 1)).1 h.2.1
       have c2 := (cB_iff s (i + 2)).1 h.2.2
       split at h1
       · dsimp only at h1
         have hk : k = 1 ∨ k = 2 := by omega
         rcases hk with rfl | rfl <;> omega
       · dsimp only at h1; omega
     · split at h1
       · rename_i h
         have c1 := (cB_iff s (i + 1)).1 h.2.1
         have c2 := (cB_iff s (i + 2)).1 h.2.2.1
         have c3 := (cB_iff s (i + 3)).1 h.2.2.2
         split at h1
         · dsimp only at h1
           have hk : k = 1 ∨ k = 2 ∨ k = 3 := by omega
           rcases hk with rfl | rfl | rfl <;> omega
         · dsimp only at h1; omega
       · dsimp only at h1; omega
theorem upto_reach (s : ByteArray) (q : Nat) (hq : q ≤ s.size) (ha : q = s.size ∨ gB s q < 128) : ∀ (b i : Nat) (done : List (Nat × Nat)), q ≤ i + b → i ≤ q → Upto s i done → ∃ more, Upto s q (done ++ more)
 | 0, i, done, h1, h2, h => by
   have : i = q := by omega
   subst this
   exact ⟨[], by simpa using h⟩
 | b + 1, i, done, h1, h2, h => by
   by_cases he : i = q
   · subst he
     exact ⟨[], by simpa using h⟩
   · have hi : i < s.size := by omega
     have hd := Jw s i hi
     have hle : i + (Utf8.decode s i).2 ≤ q := by
       rcases Nat.lt_or_ge q (i + (Utf8.decode s i).2) with hlt | hge
       · exfalso
         have := dec_cont s i (q - i) hi (by omega) (by omega)
         rw [show i + (q - i) = q from by omega] at this
         omega
       · exact hge
     obtain ⟨more, hm⟩ := upto_reach s q hq ha b _ _ (by omega) hle (h.next hi)
     exact ⟨_ :: more, by simpa using hm⟩
theorem Bd.reach {s : ByteArray} {q : Nat} (hq : q ≤ s.size) (ha : q = s.size ∨ gB s q < 128) : Bd s q := by
 obtain ⟨m, hm⟩ := upto_reach s q hq ha q 0 [] (by omega) (by omega) (Upto.zero s)
 exact ⟨hq, _, hm⟩
theorem Bd.end_ (s : ByteArray) : Bd s s.size := Bd.reach (Nat.le_refl _) (.inl rfl)
theorem Bd.next {s : ByteArray} {i : Nat} (h : Bd s i) (hi : i < s.size) : Bd s (i + (Utf8.decode s i).2) := by
 obtain ⟨_, d, hu⟩ := h
 have := Jw s i hi
 exact ⟨by omega, _, hu.next hi⟩
theorem Bd.behind {s : ByteArray} {q : Nat} (hq : q < s.size) (ha : gB s q < 128) : Bd s (q + 1) := by
 have h := (Bd.reach (Nat.le_of_lt hq) (.inr ha)).next hq
 rwa [Wl s q ha] at h
theorem dec_part (s : ByteArray) (i j : Nat) (hj : j ≤ s.size) (h : i + (Utf8.decode s i).2 ≤ j) (hi : i < j) : Utf8.decode (s.extract 0 j) i = Utf8.decode s i := by
 have hz : (s.extract 0 j).size = j := by rw [size_extract s 0 j hj]; omega
 have hg : ∀ k, k < j → gB (s.extract 0 j) k = gB s k := fun k hk => by
   have := gB_extract s 0 j k (by omega) hj
   rwa [Nat.zero_add] at this
 have hc : ∀ k, k < j → cB (s.extract 0 j) k = cB s k := fun k hk => by
   rw [Bool.eq_iff_iff, cB_iff, cB_iff, hz, hg k hk]; omega
 have hc' : ∀ k, cB (s.extract 0 j) k = true → k < j := fun k hk => by
   have := (cB_iff _ _).1 hk
   omega
 have h0 := hg i hi
 rw [dec_eq s i] at h
 rw [dec_eq (s.extract 0 j) i, dec_eq s i, h0]
 by_cases ha : gB s i < 128
 · rw [if_pos ha, if_pos ha]
 · rw [if_neg ha] at h
   rw [if_neg ha, if_neg ha]
   by_cases k1 : i + 1 < j
   · rw [hc _ k1, hg _ k1]
     by_cases k2 : i + 2 < j
     · rw [hc _ k2, hg _ k2]
       by_cases k3 : i + 3 < j
       · rw [hc _ k3, hg _ k3]
       · have e3 : cB (s.extract 0 j) (i + 3) = false := by
           rw [← Bool.not_eq_true]; intro hh; exact k3 (hc' _ hh)
         rw [e3]
         by_cases b1 : gB s i / 32 = 6 ∧ cB s (i + 1) = true
         · rw [if_pos b1, if_pos b1]
         · rw [if_neg b1] at h; rw [if_neg b1, if_neg b1]
           by_cases b2 : gB s i / 16 = 14 ∧ cB s (i + 1) = true ∧ cB s (i + 2) = true
           · rw [if_pos b2, if_pos b2]
           · rw [if_neg b2] at h; rw [if_neg b2, if_neg b2]
             rw [if_neg (by simp)]
             repeat' split
             all_goals first
               | rfl
               | (exfalso; simp only [*] at h; simp at h; omega)
               | (exfalso; rw [if_pos (by assumption)] at h; rw [if_pos (by assumption)] at h; dsimp only at h; omega)
     · have e2 : cB (s.extract 0 j) (i + 2) = false := by
         rw [← Bool.not_eq_true]; intro hh; exact k2 (hc' _ hh)
       rw [e2]
       by_cases b1 : gB s i / 32 = 6 ∧ cB s (i + 1) = true
       · rw [if_pos b1, if_pos b1]
       · rw [if_neg b1] at h; rw [if_neg b1, if_neg b1, if_neg (by simp), if_neg (by simp)]
         repeat' split
         all_goals first
           | rfl
           | (exfalso; rw [if_pos (by assumption)] at h; rw [if_pos (by assumption)] at h; dsimp only at h; omega)
           | (exfalso; rw [if_neg (by assumption)] at h; rw [if_pos (by assumption)] at h; rw [if_pos (by assumption)] at h; dsimp only at h; omega)
   · have e1 : cB (s.extract 0 j) (i + 1) = false := by
       rw [← Bool.not_eq_true]; intro hh; exact k1 (hc' _ hh)
     rw [e1, if_neg (by simp), if_neg (by simp), if_neg (by simp)]
     repeat' split
     all_goals first
       | rfl
       | (exfalso; rw [if_pos (by assumption)] at h; rw [if_pos (by assumption)] at h; dsimp only at h; omega)
       | (exfalso; rw [if_neg (by assumption)] at h; rw [if_pos (by assumption)] at h; rw [if_pos (by assumption)] at h; dsimp only at h; omega)
       | (exfalso; rw [if_neg (by assumption)] at h; rw [if_neg (by assumption)] at h; rw [if_pos (by assumption)] at h; rw [if_pos (by assumption)] at h; dsimp only at h; omega)
theorem extract_extract' (s : ByteArray) (i j : Nat) (hij : i ≤ j) (hj : j ≤ s.size) : s.extract i j = (s.extract i s.size).extract 0 (j - i) := by
 rw [ByteArray.extract_extract]
 congr 1 <;> omega
theorem dec_piece (s : ByteArray) (i j k : Nat) (hij : i ≤ j) (hj : j ≤ s.size) (hk : i + k < j) (h : i + k + (Utf8.decode s (i + k)).2 ≤ j) : Utf8.decode (s.extract i j) k = Utf8.decode s (i + k) := by
 have e := dec_extract s i (by omega) k (by omega)
 rw [extract_extract' s i j hij hj, dec_part _ _ _ (by rw [size_extract _ _ _ (Nat.le_refl _)]; omega) (by rw [e]; omega) (by omega), e]
def fld (p : Nat × Nat) (l : List (Nat × Nat)) : Nat × Nat := l.foldl (fun p x => Yw p x.1) p
theorem fld_cons (p : Nat × Nat) (x : Nat × Nat) (l : List (Nat × Nat)) : fld p (x :: l) = fld (Yw p x.1) l := rfl
theorem fld_app (p : Nat × Nat) (l m : List (Nat × Nat)) : fld p (l ++ m) = fld (fld p l) m := List.foldl_append
def adv (p x : Nat × Nat) : Nat × Nat := if 1 < x.1 then (p.1 + x.1 - 1, x.2) else (p.1, p.2 + x.2 - 1)
theorem fld_adv (l : List (Nat × Nat)) : ∀ (p q : Nat × Nat), 1 ≤ q.1 → 1 ≤ q.2 → fld (adv p q) l = adv p (fld q l) := by
 induction l with
 | nil => intro p q _ _; rfl
 | cons x l ih =>
   intro p q h1 h2
   rw [fld_cons, fld_cons]
   have e : Yw (adv p q) x.1 = adv p (Yw q x.1) := by
     unfold Yw adv
     by_cases hx : x.1 = 10
     · simp only [if_pos hx]
       repeat' split
       all_goals first
         | (exfalso; omega)
         | (simp; try omega)
     · simp only [if_neg hx]
       repeat' split
       all_goals (simp; try omega)
   rw [e, ih p (Yw q x.1) (by unfold Yw; split <;> (dsimp only; omega)) (by unfold Yw; split <;> (dsimp only; omega))]
theorem adv_one (p : Nat × Nat) : adv p (1, 1) = p := by
 unfold adv; simp
theorem piece_runes (s : ByteArray) (i j : Nat) (hj : j ≤ s.size) : ∀ (b k : Nat) (more : List (Nat × Nat)) (done : List (Nat × Nat)), j ≤ i + k + b → i + k ≤ j → Upto s (i + k) done → Upto s j (done ++ more) →
   (Vq (s.extract i j) k).map (·.1) = more.map (·.1)
 | 0, k, more, done, h1, h2, hu, hw => by
   have e : i + k = j := by omega
   have hz : (s.extract i j).size = j - i := size_extract s i j hj
   rw [Uf _ _ (by omega)]
   have a1 := hu.all
   have a2 := hw.all
   rw [e] at a1
   rw [a1, List.append_assoc] at a2
   have := List.append_cancel_left a2
   have : more = [] := by
     have hl := congrArg List.length this
     simp at hl
     exact hl
   rw [this]
 | b + 1, k, more, done, h1, h2, hu, hw => by
   by_cases e : i + k = j
   · exact piece_runes s i j hj 0 k more done (by omega) h2 hu hw
   · have hlt : i + k < s.size := by omega
     have hz : (s.extract i j).size = j - i := size_extract s i j hj
     have hn := hu.next hlt
     have a1 := hu.all
     have a2 := hw.all
     rw [Wb s _ hlt] at a1
     rw [a1, List.append_assoc] at a2
     have a3 := List.append_cancel_left a2
     cases more with
     | nil =>
       exfalso
       rw [List.nil_append] at a3
       have hm : ((Utf8.decode s (i + k)).1, i + k) ∈ Vq s j := by rw [← a3]; exact List.mem_cons_self
       have := (Vp s s.size j (by omega) _ hm).1
       simp at this
       omega
     | cons x more =>
       rw [List.cons_append] at a3
       have hx : x = ((Utf8.decode s (i + k)).1, i + k) := (List.cons.inj a3).1.symm
       have hle : i + k + (Utf8.decode s (i + k)).2 ≤ j := by
         rcases Nat.lt_or_ge j (i + k + (Utf8.decode s (i + k)).2) with hlt' | hge
         · exfalso
           have t := (List.cons.inj a3).2
           cases more with
           | nil =>
             rw [List.nil_append] at t
             by_cases hjs : j < s.size
             · rw [Wb s j hjs] at t
               have hm : ((Utf8.decode s j).1, j) ∈ Vq s (i + k + (Utf8.decode s (i + k)).2) := by rw [t]; exact List.mem_cons_self
               have := (Vp s s.size _ (by omega) _ hm).1
               simp at this
               omega
             · have := Jw s (i + k) hlt
               omega
           | cons y more =>
             have hm : y ∈ Vq s (i + k + (Utf8.decode s (i + k)).2) := by rw [t]; simp
             have g1 := (Vp s s.size _ (by omega) _ hm).1
             have g2 := hw.before y (by simp)
             omega
         · exact hge
       have hd := dec_piece s i j k (by omega) hj (by omega) hle
       have hb := Jw s (i + k) hlt
       rw [Wb _ k (by omega), hd, List.map_cons, List.map_cons, hx]
       congr 1
       have ih := piece_runes s i j hj b (k + (Utf8.decode s (i + k)).2) more (done ++ [((Utf8.decode s (i + k)).1, i + k)]) (by omega) (by omega) (by rw [← Nat.add_assoc]; exact hn) (by rw [List.append_assoc]; rw [← hx]; simpa using hw)
       exact ih
theorem fld_map (l m : List (Nat × Nat)) (h : l.map (·.1) = m.map (·.1)) (p : Nat × Nat) : fld p l = fld p m := by
 have e : ∀ l : List (Nat × Nat), ∀ p, fld p l = (l.map (·.1)).foldl Yw p := by
   intro l
   induction l with
   | nil => intro p; rfl
   | cons x l ih => intro p; rw [fld_cons, ih]; rfl
 rw [e, e, h]
theorem Upto.more {s : ByteArray} {i j : Nat} {d e : List (Nat × Nat)} (hi : Upto s i d) (hj : Upto s j e) (hij : i ≤ j) : ∃ more, e = d ++ more ∧ ∀ x ∈ more, i ≤ x.2 := by
 have a1 := hi.all
 have a2 := hj.all
 rw [a1] at a2
 rcases List.append_eq_append_iff.1 a2 with ⟨m, h1, h2⟩ | ⟨m, h1, h2⟩
 · refine ⟨m, h1, fun x hx => ?_⟩
   have hm : x ∈ Vq s i := by rw [h2]; simp [hx]
   exact (Vp s s.size i (by omega) x hm).1
 · cases m with
   | nil => exact ⟨[], by simpa using h1.symm, fun x hx => by cases hx⟩
   | cons x m =>
     exfalso
     have g1 := hi.before x (by rw [h1]; simp)
     have hm : x ∈ Vq s j := by rw [h2]; simp
     have g2 := (Vp s s.size j (by omega) x hm).1
     omega
theorem place_fld {s : ByteArray} {i : Nat} {d : List (Nat × Nat)} (h : Upto s i d) : Zx s i = fld (1, 1) d := h.place
theorem place_pass {s : ByteArray} {i j : Nat} (hi : Bd s i) (hj : Bd s j) (hij : i ≤ j) : Zx s (j : Int) = adv (Zx s (i : Int)) (Zx (s.extract i j) ((j - i : Nat) : Int)) := by
 obtain ⟨hi1, d, hu⟩ := hi
 obtain ⟨hj1, e, hv⟩ := hj
 obtain ⟨more, rfl, _⟩ := hu.more hv hij
 have hz : (s.extract i j).size = j - i := size_extract s i j hj1
 have hp := piece_runes s i j hj1 (j - i) 0 more d (by omega) (by omega) (by simpa using hu) hv
 obtain ⟨_, f, hw⟩ := Bd.end_ (s.extract i j)
 have hf := hw.length_end (Nat.le_refl _)
 rw [place_fld hu, place_fld hv, fld_app]
 rw [← hz, place_fld hw, ← hf]
 have hf2 : fld (1, 1) (Vd (s.extract i j)) = fld (1, 1) more := fld_map _ _ hp _
 rw [hf2, ← fld_adv more _ _ (by decide) (by decide), adv_one]
theorem place_lt {s : ByteArray} {i j : Nat} (hi : Bd s i) (hj : Bd s j) (hij : i < j) :
   (Zx s (i : Int)).1 < (Zx s (j : Int)).1 ∨ (Zx s (i : Int)).1 = (Zx s (j : Int)).1 ∧ (Zx s (i : Int)).2 < (Zx s (j : Int)).2 := by
 obtain ⟨hi1, d, hu⟩ := hi
 obtain ⟨hj1, e, hv⟩ := hj
 obtain ⟨more, rfl, hge⟩ := hu.more hv (by omega)
 have hne : more ≠ [] := by
   rintro rfl
   have a1 := hu.all
   have a2 := hv.all
   rw [List.append_nil] at a2
   rw [a1] at a2
   have a3 := List.append_cancel_left a2
   rw [Wb s i (by omega)] at a3
   have hm : ((Utf8.decode s i).1, i) ∈ Vq s j := by rw [← a3]; exact List.mem_cons_self
   have := (Vp s s.size j (by omega) _ hm).1
   simp at this
   omega
 rw [place_fld hu, place_fld hv, fld_app]
 generalize fld (1, 1) d = p
 have key : ∀ (l : List (Nat × Nat)) (p q : Nat × Nat), (p.1 < q.1 ∨ p.1 = q.1 ∧ p.2 < q.2) → p.1 < (fld q l).1 ∨ p.1 = (fld q l).1 ∧ p.2 < (fld q l).2 := by
   intro l
   induction l with
   | nil => intro p q h; exact h
   | cons x l ih =>
     intro p q h
     rw [fld_cons]
     apply ih
     unfold Yw; split <;> (dsimp only; omega)
 cases more with
 | nil => exact absurd rfl hne
 | cons x l =>
   rw [fld_cons]
   apply key
   unfold Yw; split <;> (dsimp only; omega)
theorem place_pos (s : ByteArray) {i : Nat} (hi : Bd s i) : 1 ≤ (Zx s (i : Int)).1 ∧ 1 ≤ (Zx s (i : Int)).2 := by
 obtain ⟨_, d, hu⟩ := hi
 rw [place_fld hu]
 have key : ∀ (l : List (Nat × Nat)) (p : Nat × Nat), 1 ≤ p.1 → 1 ≤ p.2 → 1 ≤ (fld p l).1 ∧ 1 ≤ (fld p l).2 := by
   intro l
   induction l with
   | nil => intro p h1 h2; exact ⟨h1, h2⟩
   | cons x l ih =>
     intro p h1 h2
     rw [fld_cons]
     apply ih <;> (unfold Yw; split <;> (dsimp only; omega))
 exact key _ _ (by decide) (by decide)
theorem ascii_rune (s : ByteArray) (i : Nat) (hi : i < s.size) (h : gB s i < 128) : (gB s i, i) ∈ Vd s := by
 obtain ⟨_, d, hu⟩ := Bd.reach (Nat.le_of_lt hi) (.inr h)
 rw [hu.all, Wb s i hi, Wl s i h]
 simp
def isSm (x : Int) : Bool := decide (97 ≤ x) && decide (x ≤ 122)
theorem isSm_iff (x : Int) : isSm x = true ↔ 97 ≤ x ∧ x ≤ 122 := by unfold isSm; simp
def Xe (c : Int) (x : Int) : Bool := !decide (x = c)
theorem Zan (c x : Int) : Xe c x = true ↔ x ≠ c := by unfold Xe; simp
def isBl (x : Int) : Bool := decide (x = 32) || decide (x = 9) || decide (x = 10)
theorem isBl_iff (x : Int) : isBl x = true ↔ x = 32 ∨ x = 9 ∨ x = 10 := by unfold isBl; simp [or_assoc]
def tw (p : Int → Bool) (l : List Int) : Nat := (l.takeWhile p).length
theorem tw_nil (p : Int → Bool) : tw p [] = 0 := rfl
theorem Je {p : Int → Bool} {x : Int} (r : List Int) (h : p x = true) : tw p (x :: r) = tw p r + 1 := by simp [tw, h]
theorem tw_stop {p : Int → Bool} {x : Int} (r : List Int) (h : p x = false) : tw p (x :: r) = 0 := by simp [tw, h]
theorem tw_le (p : Int → Bool) : ∀ l : List Int, tw p l ≤ l.length
 | [] => Nat.le_refl _
 | x :: r => by
   cases h : p x with
   | true => rw [Je r h, List.length_cons]; have := tw_le p r; omega
   | false => rw [tw_stop r h]; omega
theorem tw_at (p : Int → Bool) : ∀ (l : List Int) (k : Nat), k < tw p l → ∃ x, l[k]? = some x ∧ p x = true
 | [], k, h => by rw [tw_nil] at h; omega
 | x :: r, k, h => by
   cases hp : p x with
   | true =>
     rw [Je r hp] at h
     cases k with
     | zero => exact ⟨x, rfl, hp⟩
     | succ k =>
       obtain ⟨y, h1, h2⟩ := tw_at p r k (by omega)
       exact ⟨y, by simpa using h1, h2⟩
   | false => rw [tw_stop r hp] at h; omega
theorem tw_end (p : Int → Bool) : ∀ (l : List Int), tw p l = l.length ∨ ∃ x, l[tw p l]? = some x ∧ p x = false
 | [] => .inl rfl
 | x :: r => by
   cases hp : p x with
   | true =>
     rw [Je r hp]
     rcases tw_end p r with h | ⟨y, h1, h2⟩
     · exact .inl (by rw [h, List.length_cons])
     · exact .inr ⟨y, by simpa using h1, h2⟩
   | false => rw [tw_stop r hp]; exact .inr ⟨x, rfl, hp⟩
theorem tw_take (p : Int → Bool) (l : List Int) : ∀ y ∈ l.take (tw p l), p y = true := by
 intro y hy
 obtain ⟨k, hk⟩ := List.mem_iff_getElem?.1 hy
 rw [List.getElem?_take] at hk
 split at hk
 · rename_i h
   obtain ⟨x, h1, h2⟩ := tw_at p l k h
   rw [h1] at hk
   cases hk
   exact h2
 · cases hk
theorem tw_firstD (l : List Int) : (Xl l).length = tw isD l := rfl
theorem firstD_tw (l : List Int) : Xl l = l.take (tw isD l) := (firstD_take l).symm
def Jm : List Int → Nat
 | [] => 0
 | c :: r => if (c = 60 ∨ c = 62 ∨ c = 33) ∧ r.head? = some 61 then 2
   else if c = 123 ∨ c = 125 ∨ c = 40 ∨ c = 41 ∨ c = 59 ∨ c = 43 ∨ c = 45 ∨ c = 42 ∨ c = 61 ∨ c = 60 ∨ c = 62 then 1 else 0
theorem markL_cons (c : Int) (r : List Int) : Jm (c :: r) = if (c = 60 ∨ c = 62 ∨ c = 33) ∧ r.head? = some 61 then 2
   else if c = 123 ∨ c = 125 ∨ c = 40 ∨ c = 41 ∨ c = 59 ∨ c = 43 ∨ c = 45 ∨ c = 42 ∨ c = 61 ∨ c = 60 ∨ c = 62 then 1 else 0 := rfl
def Yb : List Int → Int × Nat × Nat × Nat
 | [] => (0, 0, 0, 0)
 | c :: r =>
   if isSm c = true then (1, 0, tw isSm (c :: r), tw isSm (c :: r))
   else if isD c = true then (if 2 < tw isD (c :: r) ∨ (tw isD (c :: r) = 2 ∧ c = 48) then (-2, 0, 0, 0) else (2, 0, tw isD (c :: r), tw isD (c :: r)))
   else if c = 35 then (-1, 0, tw (Xe 10) (c :: r), tw (Xe 10) (c :: r))
   else if c = 34 then (if tw (Xe 34) r = r.length ∨ nameB (strOfNums (r.take (tw (Xe 34) r))) = false then (-3, 0, 0, 0) else (3, 1, tw (Xe 34) r + 1, tw (Xe 34) r + 2))
   else if Jm (c :: r) = 0 then (-4, 0, 0, 0) else (4, 0, Jm (c :: r), Jm (c :: r))
theorem tokL_cons (c : Int) (r : List Int) : Yb (c :: r) =
   if isSm c = true then (1, 0, tw isSm (c :: r), tw isSm (c :: r))
   else if isD c = true then (if 2 < tw isD (c :: r) ∨ (tw isD (c :: r) = 2 ∧ c = 48) then (-2, 0, 0, 0) else (2, 0, tw isD (c :: r), tw isD (c :: r)))
   else if c = 35 then (-1, 0, tw (Xe 10) (c :: r), tw (Xe 10) (c :: r))
   else if c = 34 then (if tw (Xe 34) r = r.length ∨ nameB (strOfNums (r.take (tw (Xe 34) r))) = false then (-3, 0, 0, 0) else (3, 1, tw (Xe 34) r + 1, tw (Xe 34) r + 2))
   else if Jm (c :: r) = 0 then (-4, 0, 0, 0) else (4, 0, Jm (c :: r), Jm (c :: r)) := rfl
theorem markL_le (l : List Int) : Jm l ≤ l.length ∧ Jm l ≤ 2 := by
 cases l with
 | nil => simp [Jm]
 | cons c r =>
   rw [markL_cons]
   split
   · rename_i h
     cases r with
     | nil => simp at h
     | cons d r => simp
   · split <;> simp
theorem Ju (c : Int) (r : List Int) (P : Int × Nat × Nat × Nat → Prop)
   (h1 : isSm c = true → P (1, 0, tw isSm (c :: r), tw isSm (c :: r)))
   (h2 : isD c = true → tw isD (c :: r) ≤ 2 → ¬ (tw isD (c :: r) = 2 ∧ c = 48) → P (2, 0, tw isD (c :: r), tw isD (c :: r)))
   (h2e : isD c = true → (2 < tw isD (c :: r) ∨ (tw isD (c :: r) = 2 ∧ c = 48)) → P (-2, 0, 0, 0))
   (h3 : c = 35 → P (-1, 0, tw (Xe 10) (c :: r), tw (Xe 10) (c :: r)))
   (h4 : c = 34 → tw (Xe 34) r < r.length → nameB (strOfNums (r.take (tw (Xe 34) r))) = true → P (3, 1, tw (Xe 34) r + 1, tw (Xe 34) r + 2))
   (h4e : c = 34 → (tw (Xe 34) r = r.length ∨ nameB (strOfNums (r.take (tw (Xe 34) r))) = false) → P (-3, 0, 0, 0))
   (h5 : isSm c = false → isD c = false → c ≠ 35 → c ≠ 34 → Jm (c :: r) ≠ 0 → P (4, 0, Jm (c :: r), Jm (c :: r)))
   (h5e : isSm c = false → isD c = false → c ≠ 35 → c ≠ 34 → Jm (c :: r) = 0 → P (-4, 0, 0, 0)) : P (Yb (c :: r)) := by
 rw [tokL_cons]
 split
 · exact h1 (by assumption)
 · rename_i n1
   rw [Bool.not_eq_true] at n1
   split
   · split
     · exact h2e (by assumption) (by assumption)
     · exact h2 (by assumption) (by omega) (by omega)
   · rename_i n2
     rw [Bool.not_eq_true] at n2
     split
     · exact h3 (by assumption)
     · split
       · split
         · exact h4e (by assumption) (by assumption)
         · rename_i hn
           have := tw_le (Xe 34) r
           refine h4 (by assumption) (by omega) ?_
           rw [← Bool.not_eq_false]; intro hh; exact hn (.inr hh)
       · split
         · exact h5e n1 n2 (by assumption) (by assumption) (by assumption)
         · exact h5 n1 n2 (by assumption) (by assumption) (by assumption)
theorem tokL_bd (l : List Int) (h : l ≠ []) : (Yb l).2.1 ≤ (Yb l).2.2.1 ∧ (Yb l).2.2.1 ≤ (Yb l).2.2.2 ∧ (Yb l).2.2.2 ≤ l.length ∧ (-1 ≤ (Yb l).1 → 1 ≤ (Yb l).2.2.2) ∧
   (Yb l).1 ≠ 0 ∧ -4 ≤ (Yb l).1 ∧ (Yb l).1 ≤ 4 := by
 cases l with
 | nil => exact absurd rfl h
 | cons c r =>
   refine Ju c r (fun x => x.2.1 ≤ x.2.2.1 ∧ x.2.2.1 ≤ x.2.2.2 ∧ x.2.2.2 ≤ (c :: r).length ∧ (-1 ≤ x.1 → 1 ≤ x.2.2.2) ∧ x.1 ≠ 0 ∧ -4 ≤ x.1 ∧ x.1 ≤ 4) ?_ ?_ ?_ ?_ ?_ ?_ ?_ ?_
   · intro hs
     have := tw_le isSm (c :: r)
     rw [Je r hs] at *
     refine ⟨by simp, by simp, by simpa using this, fun _ => by simp, by simp, by simp, by simp⟩
   · intro hs _ _
     have := tw_le isD (c :: r)
     rw [Je r hs] at *
     refine ⟨by simp, by simp, by simpa using this, fun _ => by simp, by simp, by simp, by simp⟩
   · intro _ _; simp
   · intro hc
     have hp : Xe 10 c = true := by rw [Zan]; omega
     have := tw_le (Xe 10) (c :: r)
     rw [Je r hp] at *
     refine ⟨by simp, by simp, by simpa using this, fun _ => by simp, by simp, by simp, by simp⟩
   · intro _ h _
     refine ⟨by simp, by simp, by simp; omega, fun _ => by simp, by simp, by simp, by simp⟩
   · intro _ _; simp
   · intro _ _ _ _ h
     have := markL_le (c :: r)
     refine ⟨by simp, by simp, this.1, fun _ => by simp; omega, by simp, by simp, by simp⟩
   · intro _ _ _ _ _; simp
theorem tokL_last (l : List Int) (h : 0 < (Yb l).1) : ∃ x, l[(Yb l).2.2.2 - 1]? = some x ∧ x < 128 := by
 cases l with
 | nil => simp [Yb] at h
 | cons c r =>
   revert h
   refine Ju c r (fun x => 0 < x.1 → ∃ y, (c :: r)[x.2.2.2 - 1]? = some y ∧ y < 128) ?_ ?_ ?_ ?_ ?_ ?_ ?_ ?_
   · intro hs _
     obtain ⟨x, h1, h2⟩ := tw_at isSm (c :: r) (tw isSm (c :: r) - 1) (by rw [Je r hs]; omega)
     exact ⟨x, h1, by rw [isSm_iff] at h2; omega⟩
   · intro hs _ _ _
     obtain ⟨x, h1, h2⟩ := tw_at isD (c :: r) (tw isD (c :: r) - 1) (by rw [Je r hs]; omega)
     exact ⟨x, h1, by rw [isD_iff] at h2; omega⟩
   · intro _ _ h; simp at h
   · intro _ h; simp at h
   · intro _ h _ _
     rcases tw_end (Xe 34) r with he | ⟨x, h1, h2⟩
     · omega
     · refine ⟨x, by simpa using h1, ?_⟩
       have : x = 34 := by
         rcases Decidable.em (x = 34) with e | e
         · exact e
         · rw [(Zan 34 x).2 e] at h2; cases h2
       omega
   · intro _ _ h; simp at h
   · intro _ _ _ _ h _
     rw [markL_cons] at h ⊢
     split
     · rename_i hc
       cases r with
       | nil => simp at hc
       | cons d r =>
         simp at hc
         refine ⟨d, by simp, by omega⟩
     · rename_i hc
       rw [if_neg hc] at h
       split
       · exact ⟨c, by simp, by omega⟩
       · rename_i hc2
         rw [if_neg hc2] at h
         exact absurd rfl h
   · intro _ _ _ _ _ h; simp at h
def Jh : List Int → Bool → Nat
 | [], _ => 0
 | c :: r, true => 1 + Jh r (Xe 10 c)
 | c :: r, false => if c = 35 then 1 + Jh r true else if isBl c = true then 1 + Jh r false else 0
theorem gapM_le : ∀ (l : List Int) (b : Bool), Jh l b ≤ l.length
 | [], _ => Nat.le_refl _
 | c :: r, true => by have := gapM_le r (Xe 10 c); simp only [Jh, List.length_cons]; omega
 | c :: r, false => by
   have h1 := gapM_le r true
   have h2 := gapM_le r false
   simp only [Jh, List.length_cons]
   split
   · omega
   · split <;> omega
theorem gapM_true : ∀ l : List Int, Jh l true = tw (Xe 10) l + Jh (l.drop (tw (Xe 10) l)) false
 | [] => rfl
 | c :: r => by
   cases h : Xe 10 c with
   | true =>
     rw [Je r h]
     simp only [Jh, h, List.drop_succ_cons]
     rw [gapM_true r]; omega
   | false =>
     have hc : c = 10 := by
       rcases Decidable.em (c = 10) with e | e
       · exact e
       · rw [(Zan 10 c).2 e] at h; cases h
     subst hc
     rw [tw_stop r h]
     simp only [Jh, h, List.drop_zero]
     rw [if_neg (by decide), if_pos (by decide)]; omega
structure TokV where
 k : Int
 t : ByteArray
 n : Int
 line : Nat
 col : Nat
 p : Nat
def TokV.cells (v : TokV) : List Value := [.int .i64 v.k, .string v.t, .int .i64 v.n, .int .i64 (v.line : Int), .int .i64 (v.col : Int)]
def Zq (s : ByteArray) (a : Nat) : List Int := (bL s).drop a
theorem restL_nil (s : ByteArray) {a : Nat} (h : s.size ≤ a) : Zq s a = [] := bL_drop_nil s a h
theorem Wz (s : ByteArray) {a : Nat} (h : a < s.size) : Zq s a = (gB s a : Int) :: Zq s (a + 1) := bL_drop s a h
theorem Xo (s : ByteArray) (a : Nat) : (Zq s a).length = s.size - a := by unfold Zq; rw [List.length_drop, Wy]
theorem restL_drop (s : ByteArray) (a n : Nat) : (Zq s a).drop n = Zq s (a + n) := by unfold Zq; rw [List.drop_drop]
theorem restL_get (s : ByteArray) (a k : Nat) (h : a + k < s.size) : (Zq s a)[k]? = some (gB s (a + k) : Int) := by
 unfold Zq; rw [List.getElem?_drop, bL_get s _ h]
theorem restL_ne (s : ByteArray) {a : Nat} (h : a < s.size) : Zq s a ≠ [] := by rw [Wz s h]; simp
def endV (s : ByteArray) (a : Nat) : TokV := ⟨0, ⟨#[]⟩, 0, (Zx s (a : Int)).1, (Zx s (a : Int)).2, a⟩
def numOf (k : Int) (l : List Int) : Int := if k = 2 then valL (Xl l) else 0
def tokV (s : ByteArray) (a : Nat) : TokV :=
 ⟨(Yb (Zq s a)).1, s.extract (a + (Yb (Zq s a)).2.1) (a + (Yb (Zq s a)).2.2.1), numOf (Yb (Zq s a)).1 (Zq s a), (Zx s (a : Int)).1, (Zx s (a : Int)).2, a⟩
def errE (k : Int) : Int := if k = -2 then 12 else if k = -3 then 10 else 6
def scanF (s : ByteArray) : Nat → Nat → List TokV → List TokV × Int × Nat
 | 0, _, _ => ([], 0, 0)
 | b + 1, a, acc =>
   if s.size ≤ a then (acc ++ [endV s a], 0, 0)
   else if isBl (gB s a) = true then scanF s b (a + 1) acc
   else if (Yb (Zq s a)).1 < -1 then ([], errE (Yb (Zq s a)).1, a)
   else if (Yb (Zq s a)).1 = -1 then scanF s b (a + (Yb (Zq s a)).2.2.2) acc
   else scanF s b (a + (Yb (Zq s a)).2.2.2) (acc ++ [tokV s a])
theorem Zad (s : ByteArray) {a : Nat} (h : a < s.size) (hk : -1 ≤ (Yb (Zq s a)).1) : 1 ≤ (Yb (Zq s a)).2.2.2 ∧ a + (Yb (Zq s a)).2.2.2 ≤ s.size := by
 have := tokL_bd (Zq s a) (restL_ne s h)
 rw [Xo] at this
 omega
theorem scanF_fuel (s : ByteArray) : ∀ (b c a : Nat) (acc : List TokV), a ≤ s.size → s.size < a + b → s.size < a + c → scanF s b a acc = scanF s c a acc
 | 0, c, a, acc, h1, h, hc => by exfalso; omega
 | b + 1, 0, a, acc, h1, h, hc => by exfalso; omega
 | b + 1, c + 1, a, acc, h1, h, hc => by
   unfold scanF
   by_cases h0 : s.size ≤ a
   · rw [if_pos h0, if_pos h0]
   · rw [if_neg h0, if_neg h0]
     split
     · exact scanF_fuel s b c _ _ (by omega) (by omega) (by omega)
     · split
       · rfl
       · rename_i hk
         have := Zad s (by omega) (by omega : -1 ≤ (Yb (Zq s a)).1)
         split
         · exact scanF_fuel s b c _ _ (by omega) (by omega) (by omega)
         · exact scanF_fuel s b c _ _ (by omega) (by omega) (by omega)
def Ue (s : ByteArray) (a : Nat) (acc : List TokV) : List TokV × Int × Nat := scanF s (s.size + 1) a acc
theorem scanA_eq (s : ByteArray) (a : Nat) (acc : List TokV) : Ue s a acc =
   if s.size ≤ a then (acc ++ [endV s a], 0, 0)
   else if isBl (gB s a) = true then Ue s (a + 1) acc
   else if (Yb (Zq s a)).1 < -1 then ([], errE (Yb (Zq s a)).1, a)
   else if (Yb (Zq s a)).1 = -1 then Ue s (a + (Yb (Zq s a)).2.2.2) acc
   else Ue s (a + (Yb (Zq s a)).2.2.2) (acc ++ [tokV s a]) := by
 unfold Ue
 conv => lhs; unfold scanF
 by_cases h0 : s.size ≤ a
 · rw [if_pos h0, if_pos h0]
 · rw [if_neg h0, if_neg h0]
   split
   · exact scanF_fuel s _ _ _ _ (by omega) (by omega) (by omega)
   · split
     · rfl
     · rename_i hk
       have := Zad s (by omega) (by omega : -1 ≤ (Yb (Zq s a)).1)
       split
       · exact scanF_fuel s _ _ _ _ (by omega) (by omega) (by omega)
       · exact scanF_fuel s _ _ _ _ (by omega) (by omega) (by omega)
theorem scanA_end (s : ByteArray) {a : Nat} (acc : List TokV) (h : s.size ≤ a) : Ue s a acc = (acc ++ [endV s a], 0, 0) := by rw [scanA_eq, if_pos h]
theorem scanA_blank (s : ByteArray) {a : Nat} (acc : List TokV) (h : a < s.size) (hb : isBl (gB s a) = true) : Ue s a acc = Ue s (a + 1) acc := by
 rw [scanA_eq, if_neg (by omega), if_pos hb]
theorem scanA_err (s : ByteArray) {a : Nat} (acc : List TokV) (h : a < s.size) (hb : isBl (gB s a) = false) (hk : (Yb (Zq s a)).1 < -1) : Ue s a acc = ([], errE (Yb (Zq s a)).1, a) := by
 rw [scanA_eq, if_neg (by omega), if_neg (by rw [hb]; simp), if_pos hk]
theorem scanA_rem (s : ByteArray) {a : Nat} (acc : List TokV) (h : a < s.size) (hb : isBl (gB s a) = false) (hk : (Yb (Zq s a)).1 = -1) : Ue s a acc = Ue s (a + (Yb (Zq s a)).2.2.2) acc := by
 rw [scanA_eq, if_neg (by omega), if_neg (by rw [hb]; simp), if_neg (by omega), if_pos hk]
theorem scanA_tok (s : ByteArray) {a : Nat} (acc : List TokV) (h : a < s.size) (hb : isBl (gB s a) = false) (hk : 0 < (Yb (Zq s a)).1) : Ue s a acc = Ue s (a + (Yb (Zq s a)).2.2.2) (acc ++ [tokV s a]) := by
 rw [scanA_eq, if_neg (by omega), if_neg (by rw [hb]; simp), if_neg (by omega), if_neg (by omega)]
theorem tokL_hash (r : List Int) : Yb (35 :: r) = (-1, 0, tw (Xe 10) r + 1, tw (Xe 10) r + 1) := by
 rw [tokL_cons, if_neg (by decide), if_neg (by decide), if_pos rfl, Je r (by decide)]
def gapE (s : ByteArray) (a : Nat) : Nat := a + Jh (Zq s a) false
theorem gapE_le (s : ByteArray) {a : Nat} (h : a ≤ s.size) : a ≤ gapE s a ∧ gapE s a ≤ s.size := by
 have := gapM_le (Zq s a) false
 rw [Xo] at this
 unfold gapE; omega
theorem gap_all (s : ByteArray) : ∀ (b a : Nat), s.size ≤ a + b → a ≤ s.size → Bd s a →
   (∀ acc, Ue s a acc = Ue s (gapE s a) acc) ∧ Bd s (gapE s a) ∧ (gapE s a < s.size → isBl (gB s (gapE s a)) = false ∧ gB s (gapE s a) ≠ 35)
 | 0, a, h, h1, hB => by
   have e : gapE s a = a := by unfold gapE; rw [restL_nil s (by omega)]; rfl
   rw [e]
   exact ⟨fun _ => rfl, hB, fun hh => by omega⟩
 | b + 1, a, h, h1, hB => by
   by_cases ha : a < s.size
   · by_cases h35 : gB s a = 35
     · have hbd : Bd s (a + (tw (Xe 10) (Zq s (a + 1)) + 1)) := by
         have hle := tw_le (Xe 10) (Zq s (a + 1))
         rw [Xo] at hle
         rcases tw_end (Xe 10) (Zq s (a + 1)) with he | ⟨x, hx, hp⟩
         · rw [Xo] at he
           rw [he, show a + (s.size - (a + 1) + 1) = s.size from by omega]
           exact Bd.end_ s
         · have hlt : tw (Xe 10) (Zq s (a + 1)) < (Zq s (a + 1)).length := by
             rcases Nat.lt_or_ge (tw (Xe 10) (Zq s (a + 1))) (Zq s (a + 1)).length with hh | hh
             · exact hh
             · rw [List.getElem?_eq_none hh] at hx; cases hx
           rw [Xo] at hlt
           rw [restL_get s (a + 1) _ (by omega)] at hx
           cases hx
           refine Bd.reach (by omega) (.inr ?_)
           rw [show a + (tw (Xe 10) (Zq s (a + 1)) + 1) = a + 1 + tw (Xe 10) (Zq s (a + 1)) from by omega]
           rcases Decidable.em (gB s (a + 1 + tw (Xe 10) (Zq s (a + 1))) = 10) with e | e
           · omega
           · rw [(Zan 10 _).2 (by omega)] at hp; cases hp
       have hle := hbd.1
       obtain ⟨i1, i2, i3⟩ := gap_all s b (a + (tw (Xe 10) (Zq s (a + 1)) + 1)) (by omega) hle hbd
       have e : gapE s a = gapE s (a + (tw (Xe 10) (Zq s (a + 1)) + 1)) := by
         unfold gapE
         rw [Wz s ha, h35]
         simp only [Jh]
         rw [if_pos (show ((35 : Nat) : Int) = 35 from rfl), gapM_true, restL_drop, show a + 1 + tw (Xe 10) (Zq s (a + 1)) = a + (tw (Xe 10) (Zq s (a + 1)) + 1) from by omega]
         omega
       rw [e]
       refine ⟨fun acc => ?_, i2, i3⟩
       have ht : Yb (Zq s a) = (-1, 0, tw (Xe 10) (Zq s (a + 1)) + 1, tw (Xe 10) (Zq s (a + 1)) + 1) := by rw [Wz s ha, h35]; exact tokL_hash _
       rw [scanA_rem s acc ha (by rw [h35]; decide) (by rw [ht]), ht]
       exact i1 acc
     · cases hbl : isBl (gB s a) with
       | true =>
         have h128 : gB s a < 128 := by rw [isBl_iff] at hbl; omega
         obtain ⟨i1, i2, i3⟩ := gap_all s b (a + 1) (by omega) (by omega) (Bd.behind ha h128)
         have e : gapE s a = gapE s (a + 1) := by
           unfold gapE
           rw [Wz s ha]
           simp only [Jh]
           rw [if_neg (by omega), if_pos hbl]
           omega
         rw [e]
         exact ⟨fun acc => (scanA_blank s acc ha hbl).trans (i1 acc), i2, i3⟩
       | false =>
         have e : gapE s a = a := by
           unfold gapE
           rw [Wz s ha]
           simp only [Jh]
           rw [if_neg (by omega), hbl, if_neg (by simp)]
           omega
         rw [e]
         exact ⟨fun _ => rfl, hB, fun _ => ⟨hbl, h35⟩⟩
   · exact gap_all s 0 a (by omega) h1 hB
theorem tok_bd (s : ByteArray) {a : Nat} (h : a < s.size) (hk : 0 < (Yb (Zq s a)).1) : Bd s (a + (Yb (Zq s a)).2.2.2) := by
 obtain ⟨x, h1, h2⟩ := tokL_last (Zq s a) hk
 have hb := Zad s h (by omega)
 rw [restL_get s a _ (by omega)] at h1
 cases h1
 have := Bd.behind (s := s) (q := a + ((Yb (Zq s a)).2.2.2 - 1)) (by omega) (by omega)
 rwa [show a + ((Yb (Zq s a)).2.2.2 - 1) + 1 = a + (Yb (Zq s a)).2.2.2 from by omega] at this
theorem rem_bd (s : ByteArray) {a : Nat} (h : a < s.size) (hk : (Yb (Zq s a)).1 = -1) : Bd s (a + (Yb (Zq s a)).2.2.2) := by
 have hb := Zad s h (by omega)
 have h35 : gB s a = 35 ∧ (Yb (Zq s a)).2.2.2 = tw (Xe 10) (Zq s a) := by
   rw [Wz s h] at hk ⊢
   revert hk
   refine Ju (gB s a) (Zq s (a + 1)) (fun x => x.1 = -1 → gB s a = 35 ∧ x.2.2.2 = tw (Xe 10) ((gB s a : Int) :: Zq s (a + 1))) ?_ ?_ ?_ ?_ ?_ ?_ ?_ ?_
   · intro _ hh; simp at hh
   · intro _ _ _ hh; simp at hh
   · intro _ _ hh; simp at hh
   · intro hc _; exact ⟨by omega, rfl⟩
   · intro _ _ _ hh; simp at hh
   · intro _ _ hh; simp at hh
   · intro _ _ _ _ _ hh; simp at hh
   · intro _ _ _ _ _ hh; simp at hh
 rw [h35.2] at hb ⊢
 rcases tw_end (Xe 10) (Zq s a) with he | ⟨x, hx, hp⟩
 · rw [Xo] at he
   rw [he, show a + (s.size - a) = s.size from by omega]
   exact Bd.end_ s
 · by_cases hlt : a + tw (Xe 10) (Zq s a) < s.size
   · rw [restL_get s a _ hlt] at hx
     cases hx
     refine Bd.reach hb.2 (.inr ?_)
     rcases Decidable.em (gB s (a + tw (Xe 10) (Zq s a)) = 10) with e | e
     · omega
     · rw [(Zan 10 _).2 (by omega)] at hp; cases hp
   · rw [show a + tw (Xe 10) (Zq s a) = s.size from by omega]
     exact Bd.end_ s
end Go.Proofs.YtljdgdphldckhaaGreat
namespace Go.Proofs.YtljdgdphldckhaaGreat
open Go.Shelf
def indexByteL_ren : Go.Shelf.Ren := ⟨fun | 137 => 264 | 217 => 284 | 266 => 298 | n => n, fun | 9 => 9 | 5 => 5 | 3 => 3 | n => n, fun | n => n⟩
theorem indexByteL : Go.Proofs.Lays.n137 Tryz.prog indexByteL_ren := {
 mixed := by kernel_rfl
 f137 := Tryz.func264.trans (congrArg some (by kernel_rfl))
 f217 := Tryz.func284.trans (congrArg some (by kernel_rfl))
 f266 := Tryz.func298.trans (congrArg some (by kernel_rfl))
 t3 := Tryz.underlying3
 a3 := Tryz.isAgg3
 z3 := Tryz.sizeOf3
 v3 := Tryz.zeroValue3
 t5 := Tryz.underlying5
 a5 := Tryz.isAgg5
 z5 := Tryz.sizeOf5
 v5 := Tryz.zeroValue5
 t9 := Tryz.underlying9
 a9 := Tryz.isAgg9
 z9 := Tryz.sizeOf9
 v9 := Tryz.zeroValue9 }
def hasPrefixL_ren : Go.Shelf.Ren := ⟨fun | 99 => 267 | 206 => 286 | n => n, fun | 9 => 9 | 4 => 4 | 3 => 3 | n => n, fun | n => n⟩
theorem hasPrefixL : Go.Proofs.Lays.n99 Tryz.prog hasPrefixL_ren := {
 mixed := by kernel_rfl
 f99 := Tryz.func267.trans (congrArg some (by kernel_rfl))
 f206 := Tryz.func286.trans (congrArg some (by kernel_rfl))
 t3 := Tryz.underlying3
 a3 := Tryz.isAgg3
 z3 := Tryz.sizeOf3
 v3 := Tryz.zeroValue3
 t4 := Tryz.underlying4
 a4 := Tryz.isAgg4
 z4 := Tryz.sizeOf4
 v4 := Tryz.zeroValue4
 t9 := Tryz.underlying9
 a9 := Tryz.isAgg9
 z9 := Tryz.sizeOf9
 v9 := Tryz.zeroValue9 }
open Go.ChangeShapes Go.WideShapes Go.ChangeAt Go.RowKit
theorem bL_map (s : ByteArray) : bL s = s.data.toList.map fun c : UInt8 => (c.toNat : Int) := by
 apply List.ext_getElem?
 intro i
 by_cases h : i < s.size
 · rw [bL_get s i h, List.getElem?_map, gB_eq s i h]
   have : s.data.toList[i]? = some (s[i]'h) := by
     rw [Array.getElem?_toList]
     exact Array.getElem?_eq_getElem (by simpa using h)
   rw [this]; rfl
 · rw [List.getElem?_eq_none (by rw [Wy]; omega), List.getElem?_eq_none (by rw [List.length_map, Array.length_toList]; exact Nat.le_of_not_lt h)]
def idxOf (c : Int) (l : List Int) : Int := if tw (Xe c) l = l.length then -1 else (tw (Xe c) l : Int)
theorem indexByte_idx (c : UInt8) : ∀ l : List UInt8, Lib.indexByte l c = idxOf (c.toNat : Int) (l.map fun c : UInt8 => (c.toNat : Int))
 | [] => by simp [Lib.indexByte, idxOf, tw]
 | b :: l => by
   have ih := indexByte_idx c l
   unfold Lib.indexByte
   by_cases h : b = c
   · subst h
     rw [if_pos (by simp)]
     unfold idxOf
     rw [List.map_cons, tw_stop _ (by unfold Xe; simp)]
     simp
   · have hn : Xe (c.toNat : Int) (b.toNat : Int) = true := by
       rw [Zan]
       intro e
       exact h (UInt8.toNat_inj.1 (by omega))
     rw [if_neg (by simpa using h), ih]
     unfold idxOf
     rw [List.map_cons, Je _ hn, List.length_cons]
     have := tw_le (Xe (c.toNat : Int)) (l.map fun c : UInt8 => (c.toNat : Int))
     by_cases e : tw (Xe (c.toNat : Int)) (l.map fun c : UInt8 => (c.toNat : Int)) = (l.map fun c : UInt8 => (c.toNat : Int)).length
     · rw [if_pos e, if_pos (by simp), if_pos (by omega)]
     · rw [if_neg e, if_neg (by simp), if_neg (by omega)]; try omega
theorem IndexByte_any (s : ByteArray) (c : Nat) (hc : c < 256) (w : World) : Calls Tryz.prog 264 #[.string s, .int .u8 (c : Int)] w fun e w' => e = .returned (.int .i64 (idxOf (c : Int) (bL s))) ∧ w = w' := by
 refine (Any.strings_IndexByte indexByteL s (c : Int) w).mono ?_
 rintro e w' ⟨rfl, rfl⟩
 refine ⟨?_, rfl⟩
 rw [indexByte_idx, bL_map]
 congr 3
 simp
 omega
theorem prefix_map (p l : List UInt8) : p.isPrefixOf l = (p.map fun c : UInt8 => (c.toNat : Int)).isPrefixOf (l.map fun c : UInt8 => (c.toNat : Int)) := by
 induction p generalizing l with
 | nil => simp
 | cons x p ih =>
   cases l with
   | nil => simp
   | cons y l =>
     simp only [List.map_cons, List.isPrefixOf, ih l]
     congr 1
     rw [Bool.eq_iff_iff]
     simp only [beq_iff_eq]
     constructor
     · rintro rfl; rfl
     · intro h; exact UInt8.toNat_inj.1 (by omega)
theorem HasPrefix_any (s p : ByteArray) (w : World) : Calls Tryz.prog 267 #[.string s, .string p] w fun e w' => e = .returned (.bool ((bL p).isPrefixOf (bL s))) ∧ w = w' := by
 refine (Any.strings_HasPrefix hasPrefixL s p w).mono ?_
 rintro e w' ⟨rfl, rfl⟩
 refine ⟨?_, rfl⟩
 rw [bL_map, bL_map, ← prefix_map]; rfl
def mkL : List (List Int) := [[123], [125], [40], [41], [59], [43], [45], [42], [61], [60], [62], [60, 61], [62, 61], [33, 61]]
def Up (l : List Int) (n : Nat) (m : List Int) : Nat := if n < m.length ∧ m.isPrefixOf l = true then m.length else n
theorem mk_fold (l : List Int) : mkL.foldl (Up l) 0 = Jm l := by
 cases l with
 | nil => simp [mkL, Up, Jm]
 | cons c r =>
   rw [markL_cons]
   have hd : ∀ d : Int, ([d] : List Int).isPrefixOf (c :: r) = decide (c = d) := by
     intro d
     rw [Bool.eq_iff_iff]; simp [List.isPrefixOf]; exact eq_comm
   have he : ∀ d e : Int, ([d, e] : List Int).isPrefixOf (c :: r) = (decide (c = d) && decide (r.head? = some e)) := by
     intro d e
     rw [Bool.eq_iff_iff]
     cases r with
     | nil => simp [List.isPrefixOf]
     | cons y r => simp [List.isPrefixOf]; rw [@eq_comm _ d, @eq_comm _ e]
   simp only [mkL, List.foldl_cons, List.foldl_nil, Up, hd, he, List.length_cons, List.length_nil, decide_eq_true_eq, Bool.and_eq_true]
   by_cases e61 : r.head? = some 61
   all_goals
     by_cases h123 : c = 123
     · subst h123; simp [e61]
     by_cases h125 : c = 125
     · subst h125; simp [e61]
     by_cases h40 : c = 40
     · subst h40; simp [e61]
     by_cases h41 : c = 41
     · subst h41; simp [e61]
     by_cases h59 : c = 59
     · subst h59; simp [e61]
     by_cases h43 : c = 43
     · subst h43; simp [e61]
     by_cases h45 : c = 45
     · subst h45; simp [e61]
     by_cases h42 : c = 42
     · subst h42; simp [e61]
     by_cases h61 : c = 61
     · subst h61; simp [e61]
     by_cases h60 : c = 60
     · subst h60; simp [e61]
     by_cases h62 : c = 62
     · subst h62; simp [e61]
     by_cases h33 : c = 33
     · subst h33; simp [e61]
     simp [h123, h125, h40, h41, h59, h43, h45, h42, h61, h60, h62, h33]
theorem mk_bd (l : List Int) (k : Nat) : (mkL.take k).foldl (Up l) 0 ≤ 2 := by
 have key : ∀ (m : List (List Int)) (n : Nat), n ≤ 2 → (∀ x ∈ m, x.length ≤ 2) → m.foldl (Up l) n ≤ 2 := by
   intro m
   induction m with
   | nil => intro n h _; exact h
   | cons x m ih =>
     intro n h hm
     rw [List.foldl_cons]
     refine ih _ ?_ (fun y hy => hm y (by simp [hy]))
     unfold Up
     split
     · exact hm x (by simp)
     · exact h
 refine key _ 0 (by decide) fun x hx => ?_
 have : ∀ x ∈ mkL, x.length ≤ 2 := by decide
 exact this x (List.mem_of_mem_take hx)
theorem mk_next (l : List Int) (k : Nat) (h : k < 14) : (mkL.take (k + 1)).foldl (Up l) 0 = Up l ((mkL.take k).foldl (Up l) 0) (mkL[k]'h) := by
 rw [List.take_succ_eq_append_getElem h, List.foldl_append]; rfl
def mkS : List ByteArray := mkL.map strOfNums
def mkCs : List Value := mkS.map Value.string
theorem mk_by (k : Nat) (h : k < 14) : ∀ x ∈ mkL[k]'h, 0 ≤ x ∧ x < 256 := by
 have : ∀ y ∈ mkL, ∀ x ∈ y, 0 ≤ x ∧ x < 256 := by decide
 exact this _ (List.getElem_mem _)
theorem mkCs_at (k : Nat) (h : k < 14) : mkCs[k]? = some (.string (strOfNums (mkL[k]'h))) := by
 unfold mkCs mkS
 rw [List.getElem?_map, List.getElem?_map, List.getElem?_eq_getElem h]; rfl
theorem mk_len (k : Nat) (h : k < 14) : 1 ≤ (mkL[k]'h).length ∧ (mkL[k]'h).length ≤ 2 := by
 have : ∀ y ∈ mkL, 1 ≤ y.length ∧ y.length ≤ 2 := by decide
 exact this _ (List.getElem_mem _)
end Go.Proofs.YtljdgdphldckhaaGreat
namespace Go.Proofs.YtljdgdphldckhaaGreat
open Go.ChangeShapes Go.WideShapes Go.ChangeAt Go.RowKit
set_option linter.unusedVariables false
set_option linter.unusedSimpArgs false
theorem Zaj {a b : Bool} (h : a = b) : Ending.returned (.bool a) = .returned (.bool b) := by rw [h]
theorem Small_any (n : Int) (w : World) : Calls Tryz.prog 236 #[.int .i32 n] w fun e w' => e = .returned (.bool (decide (97 ≤ n ∧ n ≤ 122))) ∧ w = w' := by
 go_enter Tryz.func236, Tryz.ntmps236
 go_wp2
 all_goals
   go_ret
   refine ⟨Zaj ?_, rfl⟩
   rw [Bool.eq_iff_iff]; simp; try omega
theorem Letter_any (n : Int) (w : World) : Calls Tryz.prog 299 #[.int .i32 n] w fun e w' => e = .returned (.bool (letterB n)) ∧ w = w' := by
 go_enter Tryz.func299, Tryz.ntmps299
 go_wp2_with (go_at_call 236; refine (Small_any _ _).mono ?_; rintro e w' ⟨rfl, rfl⟩)
 all_goals
   go_ret
   refine ⟨Zaj ?_, rfl⟩
   rw [Bool.eq_iff_iff]; simp [letterB]; try omega
theorem Digit_any (n : Int) (w : World) : Calls Tryz.prog 238 #[.int .i32 n] w fun e w' => e = .returned (.bool (decide (48 ≤ n ∧ n ≤ 57))) ∧ w = w' := by
 go_enter Tryz.func238, Tryz.ntmps238
 go_wp2
 all_goals
   go_ret
   refine ⟨Zaj ?_, rfl⟩
   rw [Bool.eq_iff_iff]; simp; try omega
theorem Blank_any (n : Int) (w : World) : Calls Tryz.prog 234 #[.int .i32 n] w fun e w' => e = .returned (.bool (decide (n = 32 ∨ n = 9 ∨ n = 10))) ∧ w = w' := by
 go_enter Tryz.func234, Tryz.ntmps234
 go_wp2
 all_goals
   go_ret
   refine ⟨Zaj ?_, rfl⟩
   rw [Bool.eq_iff_iff]; simp; try omega
theorem inName_any (n : Int) (w : World) : Calls Tryz.prog 285 #[.int .i32 n] w fun e w' => e = .returned (.bool (inNameB n)) ∧ w = w' := by
 go_enter Tryz.func285, Tryz.ntmps285
 go_wp2_with (first
 | (go_at_call 299; refine (Letter_any _ _).mono ?_; rintro e w' ⟨rfl, rfl⟩)
 | (go_at_call 238; refine (Digit_any _ _).mono ?_; rintro e w' ⟨rfl, rfl⟩))
 all_goals
   go_ret
   refine ⟨Zaj ?_, rfl⟩
   rw [Bool.eq_iff_iff]; simp_all [inNameB]; try omega
theorem Place_any (s : ByteArray) (a : Int) (w : World) (hs : s.size ≤ 140737488355328) : Calls Tryz.prog 233 #[.string s, .int .i64 a] w fun e w' => e = .returned (.tuple #[.int .i64 ((Zx s a).1 : Nat), .int .i64 ((Zx s a).2 : Nat)]) ∧ Below w.heap.size w w' := by
 go_enter Tryz.func233, Tryz.ntmps233
 go_wp2
 go_loopw [4, 5] (fun l c w' => ∃ (pos : Nat) (p : Nat × Nat), w' = w.iter s pos ∧ l = .int .i64 (p.1 : Nat) ∧ c = .int .i64 (p.2 : Nat) ∧ placeL a (Vq s pos) p = Zx s a ∧ p.1 ≤ pos + 1 ∧ p.2 ≤ pos + 1 ∧ pos ≤ s.size) (fun _ _ w' => s.size - w'.iterPos w.heap.size)
 case atStart => exact ⟨0, (1, 1), rfl, rfl, rfl, rfl, by omega, by omega, by omega⟩
 case round =>
   obtain ⟨pos, p, rfl, rfl, rfl, hl, h1, h2, h3⟩ := hrel
   by_cases hp : pos < s.size
   · have hnx : ∀ ty, (Instr.next (.pointer (some ⟨w.heap.size, 0, none⟩)) true ty).run Tryz.prog (w.iter s pos) = _ := fun ty => run_next_any w s pos ty hp
     have hwd := Jw s pos hp
     rw [Wb s pos hp] at hl
     simp only [placeL] at hl
     have HL := Hh hl; clear hl
     obtain ⟨d1, d2, d3, d4⟩ := hwd
     by_cases ha : a ≤ (pos : Int)
     · go_wp2
       go_ret2
       have := HL.out
       rw [if_pos ha] at this
       rw [← this]
       exact ⟨rfl, (Below.refl _ _).alloc (Nat.le_refl _) _⟩
     · have HL2 := HL.out
       rw [if_neg ha] at HL2
       have ha' : ¬ a ≤ (pos : Int) := ha
       have HM := Hh HL2; clear HL2 HL
       by_cases hr : (Utf8.decode s pos).1 = 10
       · have hb : (((Utf8.decode s pos).1 : Int) == 10) = true := by rw [hr]; rfl
         have HR := Hh hr; clear hr
         go_wp2
         go_roundw
         case rel =>
           refine ⟨pos + (Utf8.decode s pos).2, Yw p (Utf8.decode s pos).1, rfl, ?_, ?_, HM.out, ?_⟩
           · simp [Yw, HR.out]
           · simp [Yw, HR.out]
           · simp only [Yw, HR.out, if_pos]; omega
         case measure => simp; omega
       · have hb : (((Utf8.decode s pos).1 : Int) == 10) = false := by simp; omega
         have HR := Hh hr; clear hr
         go_wp2
         go_roundw
         case rel =>
           refine ⟨pos + (Utf8.decode s pos).2, Yw p (Utf8.decode s pos).1, rfl, ?_, ?_, HM.out, ?_⟩
           · simp [Yw, HR.out]
           · simp [Yw, HR.out]
           · simp only [Yw, HR.out, if_false]; omega
         case measure => simp; omega
   · have hnx : ∀ ty, (Instr.next (.pointer (some ⟨w.heap.size, 0, none⟩)) true ty).run Tryz.prog (w.iter s pos) = _ := fun ty => run_next_end w s pos ty hp
     rw [Uf s pos (by omega)] at hl
     have HL := Hh hl; clear hl
     go_wp2
     go_ret2
     rw [← HL.out]
     exact ⟨rfl, (Below.refl _ _).alloc (Nat.le_refl _) _⟩
theorem At_in (s : ByteArray) (i : Nat) (w : World) (hs : s.size ≤ 140737488355328) (h : i < s.size) : Calls Tryz.prog 235 #[.string s, .int .i64 i] w fun e w' => e = .returned (.tuple #[.int .i32 (Utf8.decode s i).1, .int .i64 (Utf8.decode s i).2]) ∧ Below w.heap.size w w' := by
 have hz := size_extract s i s.size (Nat.le_refl _)
 have hd := dec_extract s i (by omega) 0 (by omega)
 have hb := Jw s i h
 rw [Nat.add_zero] at hd
 rw [← hd] at hb ⊢
 generalize hr : s.extract i s.size = rest at *
 have HR := Hh hr
 have HZ := Hh hz
 have h0 : 0 < rest.size := by omega
 have hnx : ∀ ty, (Instr.next (.pointer (some ⟨w.heap.size, 0, none⟩)) true ty).run Tryz.prog (w.iter rest 0) = _ := fun ty => run_next_any w rest 0 ty h0
 rw [Nat.zero_add] at hnx
 clear hz hd
 have hi : (0 : Int) ≤ (i : Int) := by omega
 have hi' : (i : Int) ≤ (s.size : Int) := by omega
 by_cases hp : (Utf8.decode rest 0).2 < rest.size
 · have hnx2 : ∀ ty, (Instr.next (.pointer (some ⟨w.heap.size, 0, none⟩)) true ty).run Tryz.prog (w.iter rest (Utf8.decode rest 0).2) = _ := fun ty => run_next_any w rest _ ty hp
   go_enter Tryz.func235, Tryz.ntmps235
   go_wp2
   refine wp_loop_rounds 2 ?_
   rw [rounds_succ]
   go_wp2
   rw [rounds_succ]
   go_wp2
   go_ret2
   exact ⟨rfl, (Below.refl _ _).alloc (Nat.le_refl _) _⟩
 · have hnx2 : ∀ ty, (Instr.next (.pointer (some ⟨w.heap.size, 0, none⟩)) true ty).run Tryz.prog (w.iter rest (Utf8.decode rest 0).2) = _ := fun ty => run_next_end w rest _ ty hp
   have he : (Utf8.decode rest 0).2 = rest.size := by have := HZ.out; omega
   have HE := Hh he
   clear he
   go_enter Tryz.func235, Tryz.ntmps235
   go_wp2
   refine wp_loop_rounds 2 ?_
   rw [rounds_succ]
   go_wp2
   rw [rounds_succ]
   go_wp2
   go_ret2
   exact ⟨by rw [HE.out]; rfl, (Below.refl _ _).alloc (Nat.le_refl _) _⟩
theorem Name_any (s : ByteArray) (w : World) (hs : s.size ≤ 140737488355328) : Calls Tryz.prog 265 #[.string s] w fun e w' => e = .returned (.bool (nameB s)) ∧ Below w.heap.size w w' := by
 go_enter Tryz.func265, Tryz.ntmps265
 go_wp2
 go_loopw [3] (fun n w' => ∃ (pos : Nat) (done : List (Nat × Nat)), w' = w.iter s pos ∧ n = .int .i64 done.length ∧ Upto s pos done ∧ done.length ≤ 24 ∧ done.all (fun x => inNameB x.1) = true) (fun _ w' => s.size - w'.iterPos w.heap.size)
 case atStart => exact ⟨0, [], rfl, rfl, Upto.zero s, by simp, by simp⟩
 case round =>
   obtain ⟨pos, done, rfl, rfl, hu, h24, hall⟩ := hrel
   have HU := Hh hu
   have HA := Hh hall
   clear hu hall
   by_cases hp : pos < s.size
   · have hnx : ∀ ty, (Instr.next (.pointer (some ⟨w.heap.size, 0, none⟩)) true ty).run Tryz.prog (w.iter s pos) = _ := fun ty => run_next_any w s pos ty hp
     have hwd := Jw s pos hp
     have hl : done.length + 1 ≤ (Vd s).length := by have := HU.out; rw [(this.next hp).all]; simp
     have hlz := runesOf_length s
     obtain ⟨d1, d2, d3, d4⟩ := hwd
     by_cases h25 : 24 < done.length + 1
     · go_wp2_with (go_at_call 285; refine (inName_any _ _).mono ?_; rintro e w' ⟨rfl, rfl⟩)
       go_ret
       refine ⟨Zaj ?_, (Below.refl _ _).alloc (Nat.le_refl _) _⟩
       unfold nameB; simp; omega
     · cases hin : inNameB ((Utf8.decode s pos).1 : Int) with
       | false =>
         go_wp2_with (go_at_call 285; refine (inName_any _ _).mono ?_; rintro e w' ⟨rfl, rfl⟩)
         go_ret
         refine ⟨Zaj ?_, (Below.refl _ _).alloc (Nat.le_refl _) _⟩
         have : (Vd s).all (fun x => inNameB x.1) = false := by
           rw [(HU.out.next hp).all]; simp [hin]
         unfold nameB; rw [this]; simp
       | true =>
         go_wp2_with (go_at_call 285; refine (inName_any _ _).mono ?_; rintro e w' ⟨rfl, rfl⟩)
         go_roundw
         case rel => exact ⟨pos + (Utf8.decode s pos).2, done ++ [((Utf8.decode s pos).1, pos)], rfl, by simp, HU.out.next hp, by simp; omega, by rw [List.all_append, HA.out]; simp [hin]⟩
         case measure => simp; omega
   · have hnx : ∀ ty, (Instr.next (.pointer (some ⟨w.heap.size, 0, none⟩)) true ty).run Tryz.prog (w.iter s pos) = _ := fun ty => run_next_end w s pos ty hp
     have he := HU.out.length_end (by omega)
     have hv : nameB s = (decide (1 ≤ done.length) && decide (((Vd s).map (·.1)).head? ≠ some 32) && decide (((Vd s).map (·.1)).getLast? ≠ some 32)) := by
       unfold nameB; rw [he, HA.out]; simp [h24]
     have HV := Hh hv
     have HE := Hh he
     clear hv he
     by_cases hz : 0 < done.length
     · have hz2 : 0 < s.size := by have := runesOf_length s; rw [HE.out] at this; omega
       have hh := head_space s hz2
       have ht := last_space s hz2
       rw [gB_eq s 0 hz2] at hh
       rw [gB_eq s (s.size - 1) (by omega)] at ht
       have HH := Hh hh
       have HT := Hh ht
       clear hh ht
       go_wp2
       all_goals
         go_ret
         refine ⟨Zaj ?_, (Below.refl _ _).alloc (Nat.le_refl _) _⟩
         have hh := HH.out
         have ht := HT.out
         rw [HV.out, Bool.eq_iff_iff]
         simp only [ne_eq, hh, ht]
         simp
         omega
     · go_wp2
       go_ret
       refine ⟨Zaj ?_, (Below.refl _ _).alloc (Nat.le_refl _) _⟩
       rw [HV.out]
       simp; omega
end Go.Proofs.YtljdgdphldckhaaGreat
namespace Go.Proofs.YtljdgdphldckhaaGreat
open Go
theorem rI {k : IntKind} {a b : Int} (h : a = b) : Ending.returned (.int k a) = .returned (.int k b) := by rw [h]
theorem rV {a b : Value} (h : a = b) : Ending.returned a = .returned b := by rw [h]
theorem vI {k : IntKind} {a b : Int} (h : a = b) : Value.int k a = Value.int k b := by rw [h]
end Go.Proofs.YtljdgdphldckhaaGreat
namespace Go.Proofs.YtljdgdphldckhaaGreat
open Go.ChangeShapes Go.WideShapes Go.ChangeAt Go.RowKit
set_option linter.unusedVariables false
set_option linter.unusedSimpArgs false
theorem digitsEnd_any (s : ByteArray) (a : Nat) (w : World) (hs : s.size ≤ 140737488355328) (ha : a ≤ s.size) : Calls Tryz.prog 283 #[.string s, .int .i64 a] w fun e w' => e = .returned (.int .i64 ((a + (Xl ((bL s).drop a)).length : Nat) : Int)) ∧ w = w' := by
 go_enter Tryz.func283, Tryz.ntmps283
 go_wp2
 go_loop [1] (fun i => ∃ k : Nat, i = .int .i64 k ∧ k ≤ s.size ∧ k + (Xl ((bL s).drop k)).length = a + (Xl ((bL s).drop a)).length) (fun i => s.size - (intOf i).toNat)
 case atStart => exact ⟨a, rfl, ha, rfl⟩
 case round =>
   obtain ⟨k, rfl, hk, he⟩ := hrel
   by_cases h : k < s.size
   · have g := gB_eq s k h
     have hd := bL_drop s k h
     have l1 : (k : Int) < (s.size : Int) := by omega
     have l0 : decide (s.size ≤ k) = false := by simp; omega
     cases hD : isD (gB s k : Int) with
     | true =>
       have hD' := (isD_iff _).1 hD
       rw [hd, firstD_cons _ hD, List.length_cons] at he
       rw [g] at hD'
       have b1 : (48 : Int) ≤ ((s[k]'h).toNat : Int) := hD'.1
       have b2 : ((s[k]'h).toNat : Int) ≤ 57 := hD'.2
       have HE := Hh he
       clear he hd hD hD' g
       go_wp2
       go_round
       case rel => exact ⟨k + 1, by go_num, by omega, by have := HE.out; omega⟩
       case measure => simp [intOf]; omega
     | false =>
       rw [hd, firstD_stop _ hD] at he
       have hE : k = a + (Xl ((bL s).drop a)).length := he
       have hD' : ¬ (48 ≤ (gB s k : Int) ∧ (gB s k : Int) ≤ 57) := fun c => by rw [(isD_iff _).2 c] at hD; cases hD
       rw [g] at hD'
       have HE := Hh hE
       clear he hd hD g hE
       by_cases b1 : (48 : Int) ≤ ((s[k]'h).toNat : Int)
       · have b2 : ¬ ((s[k]'h).toNat : Int) ≤ 57 := fun c => hD' ⟨b1, c⟩
         clear hD'
         go_wp2
         go_ret
         exact ⟨rI (by have := HE.out; omega), rfl⟩
       · clear hD'
         go_wp2
         go_ret
         exact ⟨rI (by have := HE.out; omega), rfl⟩
   · rw [bL_drop_nil s k (by omega)] at he
     have hE : k = a + (Xl ((bL s).drop a)).length := he
     have HE := Hh hE
     clear he hE
     go_wp2
     go_ret
     exact ⟨rI (by have := HE.out; omega), rfl⟩
def takeV (x : Int × Int × Bool) : Value := .tuple #[.int .i64 x.1, .int .i64 x.2.1, .bool x.2.2]
theorem dTake_any (s : ByteArray) (a most : Int) (w : World) (hs : s.size ≤ 140737488355328) (m1 : -9223372036854775808 ≤ most) (m2 : most ≤ 9223372036854775807) (a1 : -9223372036854775808 ≤ a) (a2 : a ≤ 9223372036854775807) :
   Calls Tryz.prog 263 #[.string s, .int .i64 a, .int .i64 most] w fun e w' => e = .returned (takeV (takeOf s a most)) ∧ w = w' := by
 by_cases h0 : a < 0
 · have T := Hh (show takeOf s a most = (0, 0, false) by unfold takeOf; rw [if_pos (.inl h0)])
   go_enter Tryz.func263, Tryz.ntmps263
   go_wp2
   go_ret3
   exact ⟨by rw [T.out]; rfl, rfl⟩
 · by_cases h1 : (s.size : Int) ≤ a
   · have T := Hh (show takeOf s a most = (0, 0, false) by unfold takeOf; rw [if_pos (.inr h1)])
     go_enter Tryz.func263, Tryz.ntmps263
     go_wp2
     go_ret3
     exact ⟨by rw [T.out]; rfl, rfl⟩
   · obtain ⟨i, rfl⟩ : ∃ i : Nat, a = i := ⟨a.toNat, by omega⟩
     have hi : i < s.size := by omega
     obtain ⟨D, hD⟩ : ∃ D, Xl ((bL s).drop i) = D := ⟨_, rfl⟩
     have hend := digitsEnd_any s i
     have htk : takeOf s i most = if D ≠ [] ∧ (D.length : Int) ≤ most ∧ D.length ≤ 9 ∧ plain D = true then (valL D, (i : Int) + (D.length : Int), true) else (0, 0, false) := by
       unfold takeOf
       rw [if_neg (by omega), Int.toNat_natCast, hD]
     rw [hD] at hend
     have hle : D.length ≤ s.size - i := by
       have := firstD_len ((bL s).drop i)
       rw [hD, List.length_drop, Wy] at this
       exact this
     have hdr := firstD_take ((bL s).drop i)
     rw [hD] at hdr
     have l1 : decide ((i : Int) < 0) = false := by simp
     have l2 : decide (s.size ≤ i) = false := by simp; omega
     have l3 : (i : Int) < (s.size : Int) := by omega
     have HDR := Hh hdr
     have hsub : (i : Int) + (D.length : Int) - (i : Int) = (D.length : Int) := by omega
     have hD' : ∀ x ∈ D, 48 ≤ x ∧ x ≤ 57 := fun x hx => firstD_isD _ x (by rw [hD]; exact hx)
     clear hdr hD
     by_cases c0 : D.length = 0
     · rw [if_neg (fun c => c.1 (List.eq_nil_of_length_eq_zero c0))] at htk
       have T := Hh htk
       clear htk
       go_enter Tryz.func263, Tryz.ntmps263
       go_wp2_with (go_at_call 283; refine (hend _ hs (by omega)).mono ?_; rintro e w' ⟨rfl, rfl⟩)
       go_ret3
       exact ⟨by rw [T.out]; rfl, rfl⟩
     · have n0 : ((D.length : Int) == 0) = false := by rw [beq_eq_false_iff_ne]; omega
       by_cases c1 : most < (D.length : Int)
       · rw [if_neg (fun c => by omega)] at htk
         have T := Hh htk
         clear htk
         go_enter Tryz.func263, Tryz.ntmps263
         go_wp2_with (go_at_call 283; refine (hend _ hs (by omega)).mono ?_; rintro e w' ⟨rfl, rfl⟩)
         go_ret3
         exact ⟨by rw [T.out]; rfl, rfl⟩
       · by_cases c2 : 9 < (D.length : Int)
         · rw [if_neg (fun c => by omega)] at htk
           have T := Hh htk
           clear htk
           go_enter Tryz.func263, Tryz.ntmps263
           go_wp2_with (go_at_call 283; refine (hend _ hs (by omega)).mono ?_; rintro e w' ⟨rfl, rfl⟩)
           go_ret3
           exact ⟨by rw [T.out]; rfl, rfl⟩
         · have g0 : D[0]? = some ((s[i]'hi).toNat : Int) := by
             have h := congrArg (fun l : List Int => l[0]?) HDR.out
             rw [List.getElem?_take_of_lt (by omega), List.getElem?_drop, Nat.add_zero, bL_get s i hi, gB_eq s i hi] at h
             exact h.symm
           have hpl : plain D = (!(((s[i]'hi).toNat : Int) == 48) || decide (D.length = 1)) := by
             unfold plain
             rw [g0]
             rw [Bool.eq_iff_iff]; simp
           cases hp : plain D with
           | false =>
             rw [if_neg (fun c => by rw [hp] at c; exact absurd c.2.2.2 (by simp))] at htk
             have T := Hh htk
             rw [hp] at hpl
             have e1 : (((s[i]'hi).toNat : Int) == 48) = true := by
               cases h : (((s[i]'hi).toNat : Int) == 48) with
               | true => rfl
               | false => rw [h] at hpl; simp at hpl
             have e2 : 1 < (D.length : Int) := by
               rw [e1] at hpl
               simp at hpl
               omega
             clear htk hp hpl g0
             go_enter Tryz.func263, Tryz.ntmps263
             go_wp2_with (go_at_call 283; refine (hend _ hs (by omega)).mono ?_; rintro e w' ⟨rfl, rfl⟩)
             go_ret3
             exact ⟨by rw [T.out]; rfl, rfl⟩
           | true =>
             rw [if_pos ⟨fun c => c0 (by rw [c]; rfl), by omega, by omega, hp⟩] at htk
             have T := Hh htk
             rw [hp] at hpl
             have e : (((s[i]'hi).toNat : Int) == 48) = false ∨ (((s[i]'hi).toNat : Int) == 48) = true ∧ (D.length : Int) ≤ 1 := by
               cases h : (((s[i]'hi).toNat : Int) == 48) with
               | false => exact .inl rfl
               | true => rw [h] at hpl; simp at hpl; exact .inr ⟨rfl, by omega⟩
             have hb : ∀ k (hk : k < D.length), ∃ hz : i + k < s.size, D[k] = ((s[i + k]'hz).toNat : Int) := by
               intro k hk
               have hz : i + k < s.size := by omega
               refine ⟨hz, ?_⟩
               have h := congrArg (fun l : List Int => l[k]?) HDR.out
               rw [List.getElem?_take_of_lt (by omega), List.getElem?_drop, bL_get s (i + k) hz, gB_eq s (i + k) hz, List.getElem?_eq_getElem hk] at h
               exact (Option.some.inj h).symm
             have hdd : ∀ x ∈ D, 48 ≤ x ∧ x ≤ 57 := hD'
             clear htk hp hpl g0
             have HBB := Hh hb
             have HDD := Hh hdd
             clear hb hdd
             rcases e with e | ⟨e, e'⟩
             all_goals
               go_enter Tryz.func263, Tryz.ntmps263
               go_wp2_with (go_at_call 283; refine (hend _ hs (by omega)).mono ?_; rintro e w' ⟨rfl, rfl⟩)
               go_loop [6, 10, 45] (fun n _ j => ∃ k : Nat, j = .int .i64 k ∧ k ≤ D.length ∧ n = .int .i64 (valL (D.take k))) (fun _ _ j => D.length - (intOf j).toNat)
               case atStart => exact ⟨0, rfl, by omega, rfl⟩
               case round =>
                 obtain ⟨k, rfl, hk, rfl⟩ := hrel
                 by_cases hkl : k < D.length
                 · obtain ⟨hz, hx⟩ := HBB.out k hkl
                   have hv := valL_nonneg (D.take k) (fun x hx => HDD.out x (List.mem_of_mem_take hx))
                   have hlen : (D.take k).length = k := by rw [List.length_take]; omega
                   rw [hlen] at hv
                   have hv2 : valL (D.take k) < 1000000000 := Int.lt_of_lt_of_le hv.2 (pow10_le (show k ≤ 9 by omega))
                   have hv1 := hv.1
                   have hd := HDD.out _ (List.getElem_mem hkl)
                   rw [hx] at hd
                   obtain ⟨hd1, hd2⟩ := hd
                   have hs2 : valL (D.take (k + 1)) = 10 * valL (D.take k) + (((s[i + k]'hz).toNat : Int) - 48) := by
                     rw [List.take_succ_eq_append_getElem hkl, valL_snoc, hx]
                   have HS := Hh hs2
                   have lk : (k : Int) < (D.length : Int) := by omega
                   have li : (i : Int) + (k : Int) < (s.size : Int) := by omega
                   clear hs2 hv hx hlen
                   generalize valL (D.take k) = V at *
                   go_wp2
                   go_round
                   case rel => exact ⟨k + 1, by go_num, by omega, by rw [HS.out]⟩
                   case measure => simp [intOf]; omega
                 · obtain rfl : k = D.length := by omega
                   have HL := Hh (show valL (D.take D.length) = valL D by rw [List.take_length])
                   clear hk hkl
                   go_wp2
                   go_ret3
                   exact ⟨by rw [T.out]; exact rV (by unfold takeV; rw [← HL.out]; rfl), rfl⟩
def Wp (k : Int) (t : ByteArray) (n : Int) (size e : Int) : Value := .tuple #[.agg #[.int .i64 k, .string t, .int .i64 n, .int .i64 0, .int .i64 0], .int .i64 size, .int .i64 e]
def Wx (t : ByteArray) : Value :=
 if (Yb (bL t)).1 < -1 then Wp 0 ⟨#[]⟩ 0 0 (errE (Yb (bL t)).1)
 else Wp (Yb (bL t)).1 (t.extract (Yb (bL t)).2.1 (Yb (bL t)).2.2.1) (numOf (Yb (bL t)).1 (bL t)) (Yb (bL t)).2.2.2 0
theorem bL_head (t : ByteArray) (h : 0 < t.size) : bL t = (gB t 0 : Int) :: (bL t).drop 1 := by
 have := bL_drop t 0 h
 rwa [List.drop_zero, Nat.zero_add] at this
theorem tkNumber (t : ByteArray) (w : World) (hs : t.size ≤ 140737488355328) (h0 : 0 < t.size) (hd : isD (gB t 0) = true) :
   Calls Tryz.prog 239 #[.string t] w fun e w' => e = .returned (Wx t) ∧ Below w.heap.size w w' := by
 have hsm : isSm (gB t 0 : Int) = false := by rw [isD_iff] at hd; rw [← Bool.not_eq_true, isSm_iff]; omega
 have hb := bL_head t h0
 have hlen := tw_le isD (bL t)
 rw [Wy] at hlen
 have hpos : 0 < tw isD (bL t) := by rw [hb, Je _ hd]; omega
 by_cases hbad : 2 < tw isD (bL t) ∨ (tw isD (bL t) = 2 ∧ gB t 0 = 48)
 · have hT : takeOf t 0 2 = (0, 0, false) := by
     unfold takeOf
     rw [if_neg (by omega), if_neg]
     rw [show (0 : Int).toNat = 0 from rfl, List.drop_zero, tw_firstD]
     rintro ⟨_, h2, _, h4⟩
     rcases hbad with h | ⟨h, h'⟩
     · omega
     · have hx : (Xl (bL t))[0]? = some 48 := by
         rw [hb, firstD_cons _ hd, List.getElem?_cons_zero, h']; rfl
       have hl : (Xl (bL t)).length = 2 := by rw [tw_firstD]; exact h
       unfold plain at h4
       rw [hx, hl] at h4
       simp at h4
   have hv : Wx t = Wp 0 ⟨#[]⟩ 0 0 12 := by
     have hk : Yb (bL t) = (-2, 0, 0, 0) := by
       rw [hb] at hbad ⊢
       rw [tokL_cons, if_neg (by rw [hsm]; simp), if_pos hd, if_pos (by rcases hbad with h | ⟨h, h'⟩; exact .inl h; exact .inr ⟨h, by omega⟩)]
     unfold Wx
     rw [hk]; rfl
   have HV := Hh hv
   have c1 := fun w => dTake_any t 0 2 w hs (by omega) (by omega) (by omega) (by omega)
   rw [hT] at c1
   simp only [takeV] at c1
   clear hT hv hbad hd hsm hb
   go_enter Tryz.func239, Tryz.ntmps239
   go_wp2_with (go_at_call 263; refine (c1 _).mono ?_; rintro e w1 ⟨rfl, rfl⟩)
   refine bodyPost_ret (v := Wp 0 ⟨#[]⟩ 0 0 12) (by simp [results, Tryz.results239, go_sem, Wp]) rfl ⟨by rw [HV.out], ?_⟩
   exact (Below.refl _ _).alloc (Nat.le_refl _) _
 · obtain ⟨n, hn⟩ : ∃ n, tw isD (bL t) = n := ⟨_, rfl⟩
   rw [hn] at hbad hlen hpos
   have hT : takeOf t 0 2 = (valL (Xl (bL t)), (n : Int), true) := by
     unfold takeOf
     rw [if_neg (by omega)]
     rw [show (0 : Int).toNat = 0 from rfl, List.drop_zero, tw_firstD, hn, if_pos]
     · rw [Int.zero_add]
     · refine ⟨?_, by omega, by omega, ?_⟩
       · rw [hb, firstD_cons _ hd]; simp
       · have hx : (Xl (bL t))[0]? = some (gB t 0 : Int) := by rw [hb, firstD_cons _ hd, List.getElem?_cons_zero]
         have hl : (Xl (bL t)).length = n := by rw [tw_firstD]; exact hn
         unfold plain
         rw [hx, hl]
         simp
         omega
   have hv : Wx t = Wp 2 (t.extract 0 n) (valL (Xl (bL t))) n 0 := by
     have hk : Yb (bL t) = (2, 0, n, n) := by
       rw [hb] at hn ⊢
       rw [tokL_cons, if_neg (by rw [hsm]; simp), if_pos hd, if_neg (by rw [hn]; omega), hn]
     unfold Wx
     rw [hk]; rfl
   have HV := Hh hv
   have c1 := fun w => dTake_any t 0 2 w hs (by omega) (by omega) (by omega) (by omega)
   rw [hT] at c1
   simp only [takeV] at c1
   clear hT hv hbad hd hsm hb
   generalize valL (Xl (bL t)) = V at *
   have HN := Hh hn
   clear hn
   have l1 : (n : Int) ≤ (t.size : Int) := by omega
   go_enter Tryz.func239, Tryz.ntmps239
   go_wp2_with (go_at_call 263; refine (c1 _).mono ?_; rintro e w1 ⟨rfl, rfl⟩)
   refine bodyPost_ret (v := Wp 2 (t.extract 0 n) V n 0) (by simp [results, Tryz.results239, go_sem, Wp]) rfl ⟨by rw [HV.out], ?_⟩
   exact (Below.refl _ _).alloc (Nat.le_refl _) _
theorem dec_is (t : ByteArray) (i : Nat) (c : Int) (hc : 0 ≤ c) (hc2 : c < 128) : ((Utf8.decode t i).1 : Int) = c ↔ (gB t i : Int) = c := by
 constructor
 · intro h
   have := dec_ascii t i (by omega)
   omega
 · intro h
   rw [Wl t i (by omega)]; exact h
theorem small_dec (t : ByteArray) (i : Nat) : decide (97 ≤ ((Utf8.decode t i).1 : Int) ∧ ((Utf8.decode t i).1 : Int) ≤ 122) = isSm (gB t i : Int) := by
 rw [Bool.eq_iff_iff, decide_eq_true_iff, isSm_iff]
 constructor
 · intro h
   have := dec_ascii t i (by omega)
   omega
 · intro h
   rw [Wl t i (by omega)]; exact h
theorem digit_dec (t : ByteArray) (i : Nat) : decide (48 ≤ ((Utf8.decode t i).1 : Int) ∧ ((Utf8.decode t i).1 : Int) ≤ 57) = isD (gB t i : Int) := by
 rw [Bool.eq_iff_iff, decide_eq_true_iff, isD_iff]
 constructor
 · intro h
   have := dec_ascii t i (by omega)
   omega
 · intro h
   rw [Wl t i (by omega)]; exact h
theorem blank_dec (t : ByteArray) (i : Nat) : decide (((Utf8.decode t i).1 : Int) = 32 ∨ ((Utf8.decode t i).1 : Int) = 9 ∨ ((Utf8.decode t i).1 : Int) = 10) = isBl (gB t i : Int) := by
 rw [Bool.eq_iff_iff, decide_eq_true_iff, isBl_iff, dec_is t i 32 (by omega) (by omega), dec_is t i 9 (by omega) (by omega), dec_is t i 10 (by omega) (by omega)]
theorem eql_dec (t : ByteArray) (i : Nat) (c : Int) (hc : 0 ≤ c) (hc2 : c < 128) : (((Utf8.decode t i).1 : Int) == c) = ((gB t i : Int) == c) := by
 rw [Bool.eq_iff_iff, beq_iff_eq, beq_iff_eq, dec_is t i c hc hc2]
theorem Jt {w : World} {g : Nat} {t : TypeId} {a b c d e : Value} (h : Zb w g t #[a, b, c, d, e]) : w.cell? ⟨g, 0, none⟩ = some a ∧ w.cell? ⟨g, 1, none⟩ = some b ∧ w.cell? ⟨g, 2, none⟩ = some c ∧ w.cell? ⟨g, 3, none⟩ = some d ∧ w.cell? ⟨g, 4, none⟩ = some e :=
 ⟨h.read 0, h.read 1, h.read 2, h.read 3, h.read 4⟩
theorem whole_extract (t : ByteArray) : t.extract 0 t.size = t := by simp
theorem Ur {w : World} {g : Nat} {t : TypeId} {a b c d e : Value} (h : Zb w g t #[a, b, c, d, e]) :
   w.cell? ⟨g, 0, none⟩ = some a ∧ w.cell? ⟨g, 1, none⟩ = some b ∧ w.cell? ⟨g, 2, none⟩ = some c ∧ w.cell? ⟨g, 3, none⟩ = some d ∧ w.cell? ⟨g, 4, none⟩ = some e ∧
   w.frozen? ⟨g, 0, none⟩ = false ∧ w.frozen? ⟨g, 1, none⟩ = false ∧ w.frozen? ⟨g, 2, none⟩ = false ∧ w.frozen? ⟨g, 3, none⟩ = false ∧ w.frozen? ⟨g, 4, none⟩ = false :=
 ⟨h.read 0, h.read 1, h.read 2, h.read 3, h.read 4, h.thawed 0, h.thawed 1, h.thawed 2, h.thawed 3, h.thawed 4⟩
theorem iter_whole (w : World) (s : ByteArray) (cs : Array Value) (ty : TypeId) (q : Nat) : Zb ((w.alloc (.cells cs ty)).iter s q) w.heap.size ty cs :=
 (Zb.made w ty cs).below (B := (w.alloc (.cells cs ty)).heap.size) ((Below.refl _ _).alloc (Nat.le_refl _) _) (by simp)
theorem Zb.set5 {w : World} {g : Nat} {t : TypeId} {a b c d e : Value} (h : Zb w g t #[a, b, c, d, e]) (x0 x1 x2 x3 x4 : Value) :
   Zb (((((w.setCell ⟨g, 0, none⟩ x0).setCell ⟨g, 1, none⟩ x1).setCell ⟨g, 2, none⟩ x2).setCell ⟨g, 3, none⟩ x3).setCell ⟨g, 4, none⟩ x4) g t #[x0, x1, x2, x3, x4] :=
 ((((h.write 0 x0).write 1 x1).write 2 x2).write 3 x3).write 4 x4
theorem Below.set5 {B g : Nat} {w0 w : World} (h : Below B w0 w) (hg : B ≤ g) (x0 x1 x2 x3 x4 : Value) :
   Below B w0 (((((w.setCell ⟨g, 0, none⟩ x0).setCell ⟨g, 1, none⟩ x1).setCell ⟨g, 2, none⟩ x2).setCell ⟨g, 3, none⟩ x3).setCell ⟨g, 4, none⟩ x4) :=
 ((((h.setCell hg x0).setCell hg x1).setCell hg x2).setCell hg x3).setCell hg x4
theorem tkWord (t : ByteArray) (w : World) (hs : t.size ≤ 140737488355328) (h0 : 0 < t.size) (hd : isSm (gB t 0) = true) :
   Calls Tryz.prog 237 #[.string t] w fun e w' => e = .returned (Wx t) ∧ Below w.heap.size w w' := by
 have hb := bL_head t h0
 have hlen := tw_le isSm (bL t)
 rw [Wy] at hlen
 obtain ⟨n, hn⟩ : ∃ n, tw isSm (bL t) = n := ⟨_, rfl⟩
 have hv : Wx t = Wp 1 (t.extract 0 n) 0 n 0 := by
   have hk : Yb (bL t) = (1, 0, n, n) := by
     rw [hb] at hn ⊢
     rw [tokL_cons, if_pos hd, hn]
   unfold Wx
   rw [hk]; rfl
 rw [hn] at hlen
 have HV := Hh hv
 have HN := Hh hn
 have l1 : (n : Int) ≤ (t.size : Int) := by omega
 clear hv hn hb hd
 go_enter Tryz.func237, Tryz.ntmps237
 go_wp2
 go_loopw [3] (fun c wr => ∃ pos : Nat, c = .int .i64 (t.size : Int) ∧ wr = (w.alloc (.cells #[.int .i64 0, .string ⟨#[]⟩, .int .i64 0, .int .i64 0, .int .i64 0] 85)).iter t pos ∧ pos ≤ t.size ∧ pos + tw isSm ((bL t).drop pos) = n) (fun _ wr => t.size - wr.iterPos (w.heap.size + 1))
 case atStart => exact ⟨0, rfl, rfl, by omega, by rw [List.drop_zero, Nat.zero_add]; exact HN.out⟩
 case round =>
   obtain ⟨pos, rfl, rfl, hps, he⟩ := hrel
   by_cases hp : pos < t.size
   · have hnx := fun ty => run_next_any (P := Tryz.prog) (w.alloc (.cells #[.int .i64 0, .string ⟨#[]⟩, .int .i64 0, .int .i64 0, .int .i64 0] 85)) t pos ty hp
     rw [show (w.alloc (.cells #[.int .i64 0, .string ⟨#[]⟩, .int .i64 0, .int .i64 0, .int .i64 0] 85)).heap.size = w.heap.size + 1 from by simp] at hnx
     have c1 := fun w => Small_any ((Utf8.decode t pos).1 : Int) w
     rw [small_dec] at c1
     rw [bL_drop t pos hp] at he
     cases hsm : isSm (gB t pos : Int) with
     | true =>
       rw [hsm] at c1
       rw [Je _ hsm] at he
       have hw1 : (Utf8.decode t pos).2 = 1 := by rw [isSm_iff] at hsm; rw [Wl t pos (by omega)]
       have HE := Hh he
       have HW := Hh hw1
       clear he hw1 hsm
       go_wp2_with (go_at_call 236; refine (c1 _).mono ?_; rintro e w1 ⟨rfl, rfl⟩)
       go_roundw
       case rel => exact ⟨pos + 1, rfl, by rw [HW.out], by omega, by have := HE.out; omega⟩
       case measure =>
         have := HW.out
         have e : w.heap.size + 1 = (w.alloc (.cells #[.int .i64 0, .string ⟨#[]⟩, .int .i64 0, .int .i64 0, .int .i64 0] 85)).heap.size := by simp
         rw [e, World.iterPos_iter, World.iterPos_iter]; omega
     | false =>
       rw [hsm] at c1
       rw [tw_stop _ hsm] at he
       have he' : pos = n := by omega
       subst he'
       clear he hsm
       obtain ⟨k0, k1, k2, k3, k4, f0, f1, f2, f3, f4⟩ := Ur (iter_whole w t #[.int .i64 0, .string ⟨#[]⟩, .int .i64 0, .int .i64 0, .int .i64 0] 85 (pos + (Utf8.decode t pos).2))
       go_wp2_with (go_at_call 236; refine (c1 _).mono ?_; rintro e w1 ⟨rfl, rfl⟩)
       have hF := Jt (Zb.set5 (iter_whole w t #[.int .i64 0, .string ⟨#[]⟩, .int .i64 0, .int .i64 0, .int .i64 0] 85 (pos + (Utf8.decode t pos).2)) (.int .i64 1) (.string (t.extract 0 pos)) (.int .i64 0) (.int .i64 0) (.int .i64 0))
       refine bodyPost_ret (v := Wp 1 (t.extract 0 pos) 0 pos 0) (by simp [results, Tryz.results237, go_sem, Wp, hF]) rfl ⟨by rw [HV.out], ?_⟩
       exact Below.set5 (((Below.refl _ _).alloc (Nat.le_refl _) _).alloc (by simp) _) (Nat.le_refl _) _ _ _ _ _
   · rw [bL_drop_nil t pos (by omega), tw_nil] at he
     have he' : t.size = n := by omega
     have HE := Hh he'
     have hnx := fun ty => run_next_end (P := Tryz.prog) (w.alloc (.cells #[.int .i64 0, .string ⟨#[]⟩, .int .i64 0, .int .i64 0, .int .i64 0] 85)) t pos ty hp
     rw [show (w.alloc (.cells #[.int .i64 0, .string ⟨#[]⟩, .int .i64 0, .int .i64 0, .int .i64 0] 85)).heap.size = w.heap.size + 1 from by simp] at hnx
     clear he he'
     obtain ⟨k0, k1, k2, k3, k4, f0, f1, f2, f3, f4⟩ := Ur (iter_whole w t #[.int .i64 0, .string ⟨#[]⟩, .int .i64 0, .int .i64 0, .int .i64 0] 85 pos)
     go_wp2
     have hF := Jt (Zb.set5 (iter_whole w t #[.int .i64 0, .string ⟨#[]⟩, .int .i64 0, .int .i64 0, .int .i64 0] 85 pos) (.int .i64 1) (.string t) (.int .i64 0) (.int .i64 0) (.int .i64 0))
     refine bodyPost_ret (v := Wp 1 t 0 t.size 0) (by simp [results, Tryz.results237, go_sem, Wp, hF]) rfl ⟨by rw [HV.out, ← HE.out, whole_extract], ?_⟩
     exact Below.set5 (((Below.refl _ _).alloc (Nat.le_refl _) _).alloc (by simp) _) (Nat.le_refl _) _ _ _ _ _
def MarksPost (w : World) (e : Ending) (w' : World) : Prop := ∃ g, e = .returned (.slice (some ⟨g, 0, none⟩) 14 14) ∧ w.heap.size ≤ g ∧ Zb w' g 9 mkCs.toArray ∧ Below w.heap.size w w'
theorem mkCs_eq : mkCs.toArray = #[.string ⟨#[123]⟩, .string ⟨#[125]⟩, .string ⟨#[40]⟩, .string ⟨#[41]⟩, .string ⟨#[59]⟩, .string ⟨#[43]⟩, .string ⟨#[45]⟩, .string ⟨#[42]⟩, .string ⟨#[61]⟩, .string ⟨#[60]⟩, .string ⟨#[62]⟩, .string ⟨#[60, 61]⟩, .string ⟨#[62, 61]⟩, .string ⟨#[33, 61]⟩] := by kernel_rfl
theorem tkMarks (w : World) : Calls Tryz.prog 266 #[] w (MarksPost w) := by
 have hE := Hh mkCs_eq
 go_enter Tryz.func266, Tryz.ntmps266
 go_wp2
 go_ret
 refine ⟨w.heap.size, rfl, Nat.le_refl _, ?_, (Below.refl _ _).alloc (Nat.le_refl _) _⟩
 rw [hE.out]
 exact Zb.made _ _ _
theorem tkMark (t : ByteArray) (w : World) (hs : t.size ≤ 140737488355328) (h0 : 0 < t.size) (h1 : isSm (gB t 0) = false) (h2 : isD (gB t 0) = false) (h3 : gB t 0 ≠ 35) (h4 : gB t 0 ≠ 34) :
   Calls Tryz.prog 241 #[.string t] w fun e w' => e = .returned (Wx t) ∧ Below w.heap.size w w' := by
 have hb := bL_head t h0
 have hk : Yb (bL t) = if Jm (bL t) = 0 then (-4, 0, 0, 0) else (4, 0, Jm (bL t), Jm (bL t)) := by
   rw [hb, tokL_cons, if_neg (by rw [h1]; simp), if_neg (by rw [h2]; simp), if_neg (by omega), if_neg (by omega)]
 have HK := Hh hk
 have hle := markL_le (bL t)
 rw [Wy] at hle
 have HL := Hh hle
 clear hk hb h1 h2 h3 h4 hle
 go_enter Tryz.func241, Tryz.ntmps241
 go_wp2_with (go_at_call 266; refine (tkMarks _).mono ?_; rintro e w1 ⟨g, rfl, hg1, hW1, b1⟩)
 go_loop [3, 9] (fun n i => ∃ k : Nat, k ≤ 14 ∧ i = .int .i64 (k : Int) ∧ n = .int .i64 (((mkL.take k).foldl (Up (bL t)) 0 : Nat) : Int)) (fun _ i => 14 - (intOf i).toNat)
 case atStart => exact ⟨0, by omega, rfl, rfl⟩
 case round =>
   obtain ⟨k, hk, rfl, rfl⟩ := hrel
   have hbd := mk_bd (bL t) k
   by_cases hkl : k < 14
   · have hst := mk_next (bL t) k hkl
     have hce : w1.cell? ⟨g, k, none⟩ = some (.string (strOfNums (mkL[k]'hkl))) := by
       rw [hW1.read k]
       have := mkCs_at k hkl
       rw [← this]; simp
     have hby := mk_by k hkl
     have hml := mk_len k hkl
     generalize mkL[k]'hkl = m at *
     generalize hn : (mkL.take k).foldl (Up (bL t)) 0 = n at *
     have hpre := HasPrefix_any t (strOfNums m)
     rw [bL_str m hby] at hpre
     have hsz : (strOfNums m).size = m.length := strOfNums_size m
     have HST := Hh hst
     have HSZ := Hh hsz
     have HNN := Hh hn
     have HBY := Hh hby
     have hs1 : 1 ≤ (strOfNums m).size ∧ (strOfNums m).size ≤ 2 := by omega
     generalize strOfNums m = ms at *
     clear hst hsz hn hby hW1
     obtain ⟨s1, s2⟩ := hs1
     have lk : (k : Int) < 14 := by omega
     by_cases hlt : (n : Int) < (ms.size : Int)
     · cases hp : m.isPrefixOf (bL t) with
       | true =>
         rw [hp] at hpre
         have hv : Up (bL t) n m = ms.size := by unfold Up; rw [if_pos ⟨by have := HSZ.out; omega, hp⟩, HSZ.out]
         have HV := Hh hv
         clear hv hp
         go_wp2_with (go_at_call 267; refine (hpre _).mono ?_; rintro e w2 ⟨rfl, rfl⟩)
         go_round
         case rel => exact ⟨k + 1, by omega, by go_num, by rw [HST.out, HV.out]⟩
         case measure => simp [intOf]; omega
       | false =>
         rw [hp] at hpre
         have hv : Up (bL t) n m = n := by unfold Up; rw [if_neg (by rw [hp]; simp)]
         have HV := Hh hv
         clear hv hp
         go_wp2_with (go_at_call 267; refine (hpre _).mono ?_; rintro e w2 ⟨rfl, rfl⟩)
         go_round
         case rel => exact ⟨k + 1, by omega, by go_num, by rw [HST.out, HV.out]⟩
         case measure => simp [intOf]; omega
     · have hv : Up (bL t) n m = n := by unfold Up; rw [if_neg (by have := HSZ.out; omega)]
       have HV := Hh hv
       clear hv
       go_wp2_with (go_at_call 267; refine (hpre _).mono ?_; rintro e w2 ⟨rfl, rfl⟩)
       go_round
       case rel => exact ⟨k + 1, by omega, by go_num, by rw [HST.out, HV.out]⟩
       case measure => simp [intOf]; omega
   · obtain rfl : k = 14 := by omega
     have hfold : (mkL.take 14).foldl (Up (bL t)) 0 = Jm (bL t) := by rw [← mk_fold]; rfl
     rw [hfold]
     generalize hm : Jm (bL t) = n at *
     have HM := Hh hm
     obtain ⟨l1, l2⟩ := HL.out
     have hW : Zb w1 w.heap.size 85 #[.int .i64 0, .string ⟨#[]⟩, .int .i64 0, .int .i64 0, .int .i64 0] := (Zb.made w 85 #[.int .i64 0, .string ⟨#[]⟩, .int .i64 0, .int .i64 0, .int .i64 0]).below b1 (by simp)
     obtain ⟨k0, k1, k2, k3, k4, f0, f1, f2, f3, f4⟩ := Ur hW
     have hB : Below w.heap.size w w1 := ((Below.refl _ _).alloc (Nat.le_refl _) _).trans (b1.mono (by simp))
     have HB := Hh hB
     clear hfold hm hbd hkl hB
     by_cases hz : n = 0
     · subst hz
       have hv : Wx t = Wp 0 ⟨#[]⟩ 0 0 6 := by unfold Wx; rw [HK.out, if_pos rfl]; rfl
       have HV := Hh hv
       clear hv
       go_wp2
       have hF := Jt (Zb.set5 hW (.int .i64 0) (.string ⟨#[]⟩) (.int .i64 0) (.int .i64 0) (.int .i64 0))
       refine bodyPost_ret (v := Wp 0 ⟨#[]⟩ 0 0 6) (by simp [results, Tryz.results241, go_sem, Wp, hF]) rfl ⟨by rw [HV.out], ?_⟩
       exact Below.set5 HB.out (Nat.le_refl _) _ _ _ _ _
     · have hv : Wx t = Wp 4 (t.extract 0 n) 0 n 0 := by unfold Wx; rw [HK.out, if_neg hz]; rfl
       have HV := Hh hv
       clear hv
       have hz2 : ((n : Int) == 0) = false := by simpa using hz
       have l3 : (n : Int) ≤ (t.size : Int) := by omega
       go_wp2
       have hF := Jt (Zb.set5 hW (.int .i64 4) (.string (t.extract 0 n)) (.int .i64 0) (.int .i64 0) (.int .i64 0))
       refine bodyPost_ret (v := Wp 4 (t.extract 0 n) 0 n 0) (by simp [results, Tryz.results241, go_sem, Wp, hF]) rfl ⟨by rw [HV.out], ?_⟩
       exact Below.set5 HB.out (Nat.le_refl _) _ _ _ _ _
theorem bL_rest (t : ByteArray) (a : Nat) (h : a ≤ t.size) : bL (t.extract a t.size) = (bL t).drop a := by
 have e := bL_extract t a (t.size - a) (by omega)
 rw [show a + (t.size - a) = t.size from by omega] at e
 rw [e, List.take_of_length_le (by rw [List.length_drop, Wy]; omega)]
theorem extract_str (t : ByteArray) (a n : Nat) (h : a + n ≤ t.size) : t.extract a (a + n) = strOfNums (((bL t).drop a).take n) := by
 rw [← bL_extract t a n h, str_bL]
theorem tkName (t : ByteArray) (w : World) (hs : t.size ≤ 140737488355328) (h0 : 0 < t.size) (hd : gB t 0 = 34) :
   Calls Tryz.prog 240 #[.string t] w fun e w' => e = .returned (Wx t) ∧ Below w.heap.size w w' := by
 have hb := bL_head t h0
 have hk : Yb (bL t) = if tw (Xe 34) ((bL t).drop 1) = ((bL t).drop 1).length ∨ nameB (strOfNums (((bL t).drop 1).take (tw (Xe 34) ((bL t).drop 1)))) = false then (-3, 0, 0, 0) else (3, 1, tw (Xe 34) ((bL t).drop 1) + 1, tw (Xe 34) ((bL t).drop 1) + 2) := by
   conv => lhs; rw [hb]
   rw [tokL_cons, hd, if_neg (by decide), if_neg (by decide), if_neg (by decide), if_pos (show ((34 : Nat) : Int) = 34 from rfl)]
 have hr := bL_rest t 1 h0
 have hz : (t.extract 1 t.size).size = t.size - 1 := size_extract t 1 t.size (Nat.le_refl _)
 have hrl : ((bL t).drop 1).length = t.size - 1 := by rw [List.length_drop, Wy]
 have hle := tw_le (Xe 34) ((bL t).drop 1)
 have hstr := fun n h => extract_str t 1 n h
 have c1 : ∀ w : World, Calls Tryz.prog 264 #[.string (t.extract 1 t.size), .int .u8 34] w fun e w' => e = .returned (.int .i64 (if tw (Xe 34) ((bL t).drop 1) = ((bL t).drop 1).length then -1 else (tw (Xe 34) ((bL t).drop 1) : Int))) ∧ w = w' := fun w => by
   have h := IndexByte_any (t.extract 1 t.size) 34 (by decide) w
   rw [hr] at h
   exact h
 have hcut : ∀ n, 1 + n ≤ t.size → (t.extract 1 t.size).extract 0 n = t.extract 1 (1 + n) := by
   intro n hn
   have := extract_extract' t 1 (1 + n) (by omega) hn
   rw [this]; congr 1; omega
 obtain ⟨n, hn⟩ : ∃ n, tw (Xe 34) ((bL t).drop 1) = n := ⟨_, rfl⟩
 rw [hn] at hk hle c1
 rw [hrl] at hk hle c1
 have l1 : (1 : Int) ≤ (t.size : Int) := by omega
 by_cases he : n = t.size - 1
 · rw [if_pos he] at c1
   have hv : Wx t = Wp 0 ⟨#[]⟩ 0 0 10 := by
     have hk' : Yb (bL t) = (-3, 0, 0, 0) := by rw [hk, if_pos (Or.inl he)]
     unfold Wx; rw [hk']; rfl
   have HV := Hh hv
   clear hv hk he hn hle hrl hstr hcut hr hb hd
   have HZ := Hh hz
   clear hz
   go_enter Tryz.func240, Tryz.ntmps240
   go_wp2_with (go_at_call 264; refine (c1 _).mono ?_; rintro e w2 ⟨rfl, rfl⟩)
   refine bodyPost_ret (v := Wp 0 ⟨#[]⟩ 0 0 10) (by simp [results, Tryz.results240, go_sem, Wp]) rfl ⟨by rw [HV.out], ?_⟩
   exact (Below.refl _ _).alloc (Nat.le_refl _) _
 · rw [if_neg he] at c1
   have hlt : 1 + n < t.size := by omega
   have hx := hcut n (by omega)
   have c2 := fun w => Name_any ((t.extract 1 t.size).extract 0 n) w (by rw [hx, size_extract t 1 (1 + n) (by omega)]; omega)
   have hx2 := hstr n (by omega)
   cases hnm : nameB ((t.extract 1 t.size).extract 0 n) with
   | false =>
     rw [hnm] at c2
     have hv : Wx t = Wp 0 ⟨#[]⟩ 0 0 10 := by
       have hk' : Yb (bL t) = (-3, 0, 0, 0) := by rw [hk, if_pos (Or.inr (by rw [← hx2, ← hx]; exact hnm))]
       unfold Wx; rw [hk']; rfl
     have HV := Hh hv
     have HZ := Hh hz
     have l2 : (n : Int) ≤ (t.size : Int) - 1 := by omega
     have l4 : n ≤ (t.extract 1 t.size).size := by omega
     clear hv hk he hn hle hrl hstr hcut hr hb hd hx hx2 hnm hz
     go_enter Tryz.func240, Tryz.ntmps240
     go_wp2_with (first
 | (go_at_call 264; refine (c1 _).mono ?_; rintro e w2 ⟨rfl, rfl⟩)
 | (go_at_call 265; refine (c2 _).mono ?_; rintro e w2 ⟨rfl, b2⟩; have hW := (Zb.made w 85 #[.int .i64 0, .string ⟨#[]⟩, .int .i64 0, .int .i64 0, .int .i64 0]).below b2 (by simp); obtain ⟨k0, k1, k2, k3, k4, f0, f1, f2, f3, f4⟩ := Ur hW; have HW := Hh hW; have HB := Hh (Xr ((Below.refl w.heap.size w).alloc (Nat.le_refl _) _) b2); clear hW b2))
     have hF := Jt (Zb.set5 HW.out (.int .i64 0) (.string ⟨#[]⟩) (.int .i64 0) (.int .i64 0) (.int .i64 0))
     refine bodyPost_ret (v := Wp 0 ⟨#[]⟩ 0 0 10) (by simp [results, Tryz.results240, go_sem, Wp, hF]) rfl ⟨by rw [HV.out], ?_⟩
     exact Below.set5 HB.out (Nat.le_refl _) _ _ _ _ _
   | true =>
     rw [hnm] at c2
     have hv : Wx t = Wp 3 ((t.extract 1 t.size).extract 0 n) 0 (n + 2) 0 := by
       have hk' : Yb (bL t) = (3, 1, n + 1, n + 2) := by rw [hk, if_neg (by rw [← hx2, ← hx, hnm]; simp; omega)]
       unfold Wx; rw [hk', hx]
       show Wp 3 (t.extract 1 (n + 1)) 0 _ 0 = _
       rw [Nat.add_comm n 1]; rfl
     have HV := Hh hv
     have HZ := Hh hz
     have l2 : (n : Int) ≤ (t.size : Int) - 1 := by omega
     have l4 : n ≤ (t.extract 1 t.size).size := by omega
     clear hv hk he hn hle hrl hstr hcut hr hb hd hx hx2 hnm hz
     go_enter Tryz.func240, Tryz.ntmps240
     go_wp2_with (first
 | (go_at_call 264; refine (c1 _).mono ?_; rintro e w2 ⟨rfl, rfl⟩)
 | (go_at_call 265; refine (c2 _).mono ?_; rintro e w2 ⟨rfl, b2⟩; have hW := (Zb.made w 85 #[.int .i64 0, .string ⟨#[]⟩, .int .i64 0, .int .i64 0, .int .i64 0]).below b2 (by simp); obtain ⟨k0, k1, k2, k3, k4, f0, f1, f2, f3, f4⟩ := Ur hW; have HW := Hh hW; have HB := Hh (Xr ((Below.refl w.heap.size w).alloc (Nat.le_refl _) _) b2); clear hW b2))
     have hF := Jt (Zb.set5 HW.out (.int .i64 3) (.string ((t.extract 1 t.size).extract 0 n)) (.int .i64 0) (.int .i64 0) (.int .i64 0))
     refine bodyPost_ret (v := Wp 3 ((t.extract 1 t.size).extract 0 n) 0 (n + 2) 0) (by simp [results, Tryz.results240, go_sem, Wp, hF]) rfl ⟨by rw [HV.out], ?_⟩
     exact Below.set5 HB.out (Nat.le_refl _) _ _ _ _ _
theorem firstV_form (t : ByteArray) : ∃ k x n z e, Wx t = Wp k x n z e := by
 unfold Wx; split
 · exact ⟨_, _, _, _, _, rfl⟩
 · exact ⟨_, _, _, _, _, rfl⟩
theorem tkFirst (t : ByteArray) (w : World) (hs : t.size ≤ 140737488355328) (h35 : 0 < t.size → gB t 0 ≠ 35) :
   Calls Tryz.prog 208 #[.string t] w fun e w' => e = .returned (Wx t) ∧ Below w.heap.size w w' := by
 by_cases h0 : 0 < t.size
 · have hne : t.toList.isEmpty = false := by
     rw [ByteArray.toList_eq, List.isEmpty_eq_false_iff, ne_eq, ← List.length_eq_zero_iff]
     show ¬ t.data.size = 0
     exact Nat.ne_of_gt h0
   have hne2 : (!t.toList.isEmpty) = true := by rw [hne]; rfl
   have c0 : ∀ w, Calls Tryz.prog 235 #[.string t, .int .i64 0] w fun e w' => e = .returned (.tuple #[.int .i32 (Utf8.decode t 0).1, .int .i64 (Utf8.decode t 0).2]) ∧ Below w.heap.size w w' := fun w => At_in t 0 w hs h0
   have c1 := fun w => Small_any ((Utf8.decode t 0).1 : Int) w
   have c2 := fun w => Digit_any ((Utf8.decode t 0).1 : Int) w
   have c3 := eql_dec t 0 34 (by omega) (by omega)
   rw [small_dec] at c1
   rw [digit_dec] at c2
   obtain ⟨k, x, n, z, e, hv⟩ := firstV_form t
   have h35' := h35 h0
   cases hsm : isSm (gB t 0 : Int) with
   | true =>
     have d1 := fun w => tkWord t w hs h0 hsm
     rw [hsm] at c1
     rw [hv] at d1 ⊢
     have HV := Hh hv
     simp only [Wp] at d1
     clear hv hsm c3
     go_enter Tryz.func208, Tryz.ntmps208
     go_wp2_with (first
 | (go_at_call 235; refine (c0 _).mono ?_; rintro e w1 ⟨rfl, b1⟩; have b1' := Xr ((Below.refl w.heap.size w).alloc (Nat.le_refl _) _) b1; have W1 := Hh ((Zb.made w 85 #[.int .i64 0, .string ⟨#[]⟩, .int .i64 0, .int .i64 0, .int .i64 0]).below b1 (by simp)); clear b1)
 | (go_at_call 236; refine (c1 _).mono ?_; rintro e w2 ⟨rfl, rfl⟩)
 | (go_at_call 238; refine (c2 _).mono ?_; rintro e w2 ⟨rfl, rfl⟩)
 | (go_at_call 237; refine (d1 _).mono ?_; rintro e w2 ⟨rfl, b2⟩; have HB := Hh (Xr b1' b2); have HW := Hh (W1.out.below b2 W1.out.inside); obtain ⟨k0, k1, k2, k3, k4, f0, f1, f2, f3, f4⟩ := Ur HW.out; clear b2 b1'))
     have hF := Jt (Zb.set5 HW.out (.int .i64 k) (.string x) (.int .i64 n) (.int .i64 0) (.int .i64 0))
     refine bodyPost_ret (v := Wp k x n z e) (by simp [results, Tryz.results208, go_sem, Wp, hF]) rfl ⟨rfl, ?_⟩
     exact Below.set5 HB.out (Nat.le_refl _) _ _ _ _ _
   | false =>
     cases hdg : isD (gB t 0 : Int) with
     | true =>
       have d1 := fun w => tkNumber t w hs h0 hdg
       rw [hsm] at c1
       rw [hdg] at c2
       rw [hv] at d1 ⊢
       have HV := Hh hv
       simp only [Wp] at d1
       clear hv hsm hdg c3
       go_enter Tryz.func208, Tryz.ntmps208
       go_wp2_with (first
 | (go_at_call 235; refine (c0 _).mono ?_; rintro e w1 ⟨rfl, b1⟩; have b1' := Xr ((Below.refl w.heap.size w).alloc (Nat.le_refl _) _) b1; have W1 := Hh ((Zb.made w 85 #[.int .i64 0, .string ⟨#[]⟩, .int .i64 0, .int .i64 0, .int .i64 0]).below b1 (by simp)); clear b1)
 | (go_at_call 236; refine (c1 _).mono ?_; rintro e w2 ⟨rfl, rfl⟩)
 | (go_at_call 238; refine (c2 _).mono ?_; rintro e w2 ⟨rfl, rfl⟩)
 | (go_at_call 239; refine (d1 _).mono ?_; rintro e w2 ⟨rfl, b2⟩; have HB := Hh (Xr b1' b2); have HW := Hh (W1.out.below b2 W1.out.inside); obtain ⟨k0, k1, k2, k3, k4, f0, f1, f2, f3, f4⟩ := Ur HW.out; clear b2 b1'))
       have hF := Jt (Zb.set5 HW.out (.int .i64 k) (.string x) (.int .i64 n) (.int .i64 0) (.int .i64 0))
       refine bodyPost_ret (v := Wp k x n z e) (by simp [results, Tryz.results208, go_sem, Wp, hF]) rfl ⟨rfl, ?_⟩
       exact Below.set5 HB.out (Nat.le_refl _) _ _ _ _ _
     | false =>
       by_cases hq : gB t 0 = 34
       · have q1 : (((Utf8.decode t 0).1 : Int) == 34) = true := by rw [c3]; simp [hq]
         have d1 := fun w => tkName t w hs h0 hq
         rw [hsm] at c1
         rw [hdg] at c2
         rw [hv] at d1 ⊢
         have HV := Hh hv
         simp only [Wp] at d1
         clear hv hsm hdg c3 hq
         go_enter Tryz.func208, Tryz.ntmps208
         go_wp2_with (first
 | (go_at_call 235; refine (c0 _).mono ?_; rintro e w1 ⟨rfl, b1⟩; have b1' := Xr ((Below.refl w.heap.size w).alloc (Nat.le_refl _) _) b1; have W1 := Hh ((Zb.made w 85 #[.int .i64 0, .string ⟨#[]⟩, .int .i64 0, .int .i64 0, .int .i64 0]).below b1 (by simp)); clear b1)
 | (go_at_call 236; refine (c1 _).mono ?_; rintro e w2 ⟨rfl, rfl⟩)
 | (go_at_call 238; refine (c2 _).mono ?_; rintro e w2 ⟨rfl, rfl⟩)
 | (go_at_call 240; refine (d1 _).mono ?_; rintro e w2 ⟨rfl, b2⟩; have HB := Hh (Xr b1' b2); have HW := Hh (W1.out.below b2 W1.out.inside); obtain ⟨k0, k1, k2, k3, k4, f0, f1, f2, f3, f4⟩ := Ur HW.out; clear b2 b1'))
         have hF := Jt (Zb.set5 HW.out (.int .i64 k) (.string x) (.int .i64 n) (.int .i64 0) (.int .i64 0))
         refine bodyPost_ret (v := Wp k x n z e) (by simp [results, Tryz.results208, go_sem, Wp, hF]) rfl ⟨rfl, ?_⟩
         exact Below.set5 HB.out (Nat.le_refl _) _ _ _ _ _
       · have q1 : (((Utf8.decode t 0).1 : Int) == 34) = false := by rw [c3]; simp; omega
         have d1 := fun w => tkMark t w hs h0 hsm hdg h35' hq
         rw [hsm] at c1
         rw [hdg] at c2
         rw [hv] at d1 ⊢
         have HV := Hh hv
         simp only [Wp] at d1
         clear hv hsm hdg c3 hq
         go_enter Tryz.func208, Tryz.ntmps208
         go_wp2_with (first
 | (go_at_call 235; refine (c0 _).mono ?_; rintro e w1 ⟨rfl, b1⟩; have b1' := Xr ((Below.refl w.heap.size w).alloc (Nat.le_refl _) _) b1; have W1 := Hh ((Zb.made w 85 #[.int .i64 0, .string ⟨#[]⟩, .int .i64 0, .int .i64 0, .int .i64 0]).below b1 (by simp)); clear b1)
 | (go_at_call 236; refine (c1 _).mono ?_; rintro e w2 ⟨rfl, rfl⟩)
 | (go_at_call 238; refine (c2 _).mono ?_; rintro e w2 ⟨rfl, rfl⟩)
 | (go_at_call 241; refine (d1 _).mono ?_; rintro e w2 ⟨rfl, b2⟩; have HB := Hh (Xr b1' b2); have HW := Hh (W1.out.below b2 W1.out.inside); obtain ⟨k0, k1, k2, k3, k4, f0, f1, f2, f3, f4⟩ := Ur HW.out; clear b2 b1'))
         have hF := Jt (Zb.set5 HW.out (.int .i64 k) (.string x) (.int .i64 n) (.int .i64 0) (.int .i64 0))
         refine bodyPost_ret (v := Wp k x n z e) (by simp [results, Tryz.results208, go_sem, Wp, hF]) rfl ⟨rfl, ?_⟩
         exact Below.set5 HB.out (Nat.le_refl _) _ _ _ _ _
 · have he : t = ⟨#[]⟩ := by
     apply ByteArray.ext
     apply Array.eq_empty_of_size_eq_zero
     have : t.data.size = t.size := rfl
     omega
   subst he
   have hv : Wx ⟨#[]⟩ = Wp 0 ⟨#[]⟩ 0 0 0 := by kernel_rfl
   have HV := Hh hv
   clear hv h35
   go_enter Tryz.func208, Tryz.ntmps208
   go_wp2
   refine bodyPost_ret (v := Wp 0 ⟨#[]⟩ 0 0 0) (by simp [results, Tryz.results208, go_sem, Wp]) rfl ⟨by rw [HV.out], ?_⟩
   exact (Below.refl _ _).alloc (Nat.le_refl _) _
theorem gap_skip (t : ByteArray) : ∀ (k pos : Nat), pos + k ≤ t.size → (∀ j, j < k → gB t (pos + j) ≠ 10) → Jh (Zq t pos) true = k + Jh (Zq t (pos + k)) true
 | 0, pos, _, _ => by simp
 | k + 1, pos, h, hb => by
   have h0 := hb 0 (by omega)
   rw [Nat.add_zero] at h0
   rw [Wz t (show pos < t.size by omega)]
   simp only [Jh]
   rw [(Zan 10 _).2 (by omega), gap_skip t k (pos + 1) (by omega) (fun j hj => by have := hb (j + 1) (by omega); rwa [show pos + 1 + j = pos + (j + 1) from by omega]), show pos + 1 + k = pos + (k + 1) from by omega]
   omega
theorem gap_in (t : ByteArray) (pos : Nat) (h : pos < t.size) : Jh (Zq t pos) true = (Utf8.decode t pos).2 + Jh (Zq t (pos + (Utf8.decode t pos).2)) (((Utf8.decode t pos).1 : Int) != 10) := by
 have hd := Jw t pos h
 by_cases h1 : (Utf8.decode t pos).2 = 1
 · have e : (((Utf8.decode t pos).1 : Int) != 10) = Xe 10 (gB t pos : Int) := by
     unfold bne
     rw [eql_dec t pos 10 (by omega) (by omega)]
     unfold Xe
     congr 1
   rw [e, h1, Wz t h]
   rfl
 · have hall : ∀ j, j < (Utf8.decode t pos).2 → gB t (pos + j) ≠ 10 := by
     intro j hj
     by_cases hj0 : j = 0
     · subst hj0
       rw [Nat.add_zero]
       intro hc
       rw [Wl t pos (by omega)] at h1
       exact h1 rfl
     · have := dec_cont t pos j h (by omega) hj
       omega
   have e : (((Utf8.decode t pos).1 : Int) != 10) = true := by
     unfold bne
     rw [eql_dec t pos 10 (by omega) (by omega)]
     have := hall 0 (by omega)
     rw [Nat.add_zero] at this
     simp
     omega
   rw [e]
   exact gap_skip t _ pos hd.2.1 hall
theorem gap_hash (t : ByteArray) (pos : Nat) (h : pos < t.size) (h35 : gB t pos = 35) : Jh (Zq t pos) false = (Utf8.decode t pos).2 + Jh (Zq t (pos + (Utf8.decode t pos).2)) true := by
 rw [Wl t pos (by omega), Wz t h, h35]
 simp only [Jh]
 rw [if_pos (show ((35 : Nat) : Int) = 35 from rfl)]
theorem gap_blank (t : ByteArray) (pos : Nat) (h : pos < t.size) (h35 : gB t pos ≠ 35) (hb : isBl (gB t pos : Int) = true) : Jh (Zq t pos) false = (Utf8.decode t pos).2 + Jh (Zq t (pos + (Utf8.decode t pos).2)) false := by
 have : gB t pos < 128 := by rw [isBl_iff] at hb; omega
 rw [Wl t pos this, Wz t h]
 simp only [Jh]
 rw [if_neg (by omega), if_pos hb]
theorem gap_stop (t : ByteArray) (pos : Nat) (h : pos < t.size) (h35 : gB t pos ≠ 35) (hb : isBl (gB t pos : Int) = false) : Jh (Zq t pos) false = 0 := by
 rw [Wz t h]
 simp only [Jh]
 rw [if_neg (by omega), if_neg (by rw [hb]; simp)]
theorem tkGap (t : ByteArray) (w : World) (hs : t.size ≤ 140737488355328) : Calls Tryz.prog 207 #[.string t] w fun e w' => e = .returned (.int .i64 (Jh (Zq t 0) false : Nat)) ∧ Below w.heap.size w w' := by
 generalize hG : Jh (Zq t 0) false = G
 have HG := Hh hG
 clear hG
 go_enter Tryz.func207, Tryz.ntmps207
 go_wp2
 go_loopw [3] (fun c wr => ∃ (pos : Nat) (b : Bool), c = .bool b ∧ wr = w.iter t pos ∧ pos ≤ t.size ∧ pos + Jh (Zq t pos) b = G) (fun _ wr => t.size - wr.iterPos w.heap.size)
 case atStart => exact ⟨0, false, rfl, rfl, by omega, by rw [Nat.zero_add]; exact HG.out⟩
 case round =>
   obtain ⟨pos, b, rfl, rfl, hps, he⟩ := hrel
   have HE := Hh he
   clear he
   by_cases hp : pos < t.size
   · have hnx : ∀ ty, (Instr.next (.pointer (some ⟨w.heap.size, 0, none⟩)) true ty).run Tryz.prog (w.iter t pos) = _ := fun ty => run_next_any w t pos ty hp
     have hd := Jw t pos hp
     obtain ⟨d1, d2, d3, d4⟩ := hd
     have c1 := fun w => Blank_any ((Utf8.decode t pos).1 : Int) w
     rw [blank_dec] at c1
     have q35 := eql_dec t pos 35 (by omega) (by omega)
     cases b with
     | true =>
       have hg := gap_in t pos hp
       have HX := Hh hg
       clear hg q35 c1
       go_wp2
       go_roundw
       case rel => exact ⟨pos + (Utf8.decode t pos).2, _, rfl, rfl, d2, by have := HX.out; have := HE.out; omega⟩
       case measure => simp; omega
     | false =>
       by_cases h35 : gB t pos = 35
       · have hq : (((Utf8.decode t pos).1 : Int) == 35) = true := by rw [q35]; simp [h35]
         have hg := gap_hash t pos hp h35
         have HX := Hh hg
         clear hg q35 h35
         go_wp2_with (go_at_call 234; refine (c1 _).mono ?_; rintro e w1 ⟨rfl, rfl⟩)
         go_roundw
         case rel => exact ⟨pos + (Utf8.decode t pos).2, true, rfl, rfl, d2, by have := HX.out; have := HE.out; omega⟩
         case measure => simp; omega
       · have hq : (((Utf8.decode t pos).1 : Int) == 35) = false := by rw [q35]; simp; omega
         cases hbl : isBl (gB t pos : Int) with
         | true =>
           have hg := gap_blank t pos hp h35 hbl
           have HX := Hh hg
           rw [hbl] at c1
           clear hg q35 h35 hbl
           go_wp2_with (go_at_call 234; refine (c1 _).mono ?_; rintro e w1 ⟨rfl, rfl⟩)
           go_roundw
           case rel => exact ⟨pos + (Utf8.decode t pos).2, false, rfl, rfl, d2, by have := HX.out; have := HE.out; omega⟩
           case measure => simp; omega
         | false =>
           have hg := gap_stop t pos hp h35 hbl
           have HX := Hh hg
           rw [hbl] at c1
           clear hg q35 h35 hbl
           go_wp2_with (go_at_call 234; refine (c1 _).mono ?_; rintro e w1 ⟨rfl, rfl⟩)
           go_ret
           exact ⟨rI (by have := HX.out; have := HE.out; omega), (Below.refl _ _).alloc (Nat.le_refl _) _⟩
   · have hnx : ∀ ty, (Instr.next (.pointer (some ⟨w.heap.size, 0, none⟩)) true ty).run Tryz.prog (w.iter t pos) = _ := fun ty => run_next_end w t pos ty hp
     have hz : t.size = G := by
       have := HE.out
       rw [restL_nil t (by omega)] at this
       cases b <;> (simp only [Jh] at this; omega)
     have HZ := Hh hz
     clear hz
     go_wp2
     go_ret
     exact ⟨rI (by have := HZ.out; omega), (Below.refl _ _).alloc (Nat.le_refl _) _⟩
def PassPost (X : Nat) (r : ByteArray) (p : Nat × Nat) (n : Nat) (w : World) (e : Ending) (w' : World) : Prop :=
 e = .returned (.tuple #[]) ∧ Zb w' X 260 #[.string (r.extract n r.size), .int .i64 ((adv p (Zx (r.extract 0 n) n)).1 : Nat), .int .i64 ((adv p (Zx (r.extract 0 n) n)).2 : Nat)] ∧ Zo (fun b => b = X) w w'
theorem tkPass (X : Nat) (r : ByteArray) (p : Nat × Nat) (n : Nat) (w : World) (hr : r.size ≤ 140737488355328) (hn : n ≤ r.size) (p1 : p.1 ≤ 140737488355328) (p2 : p.2 ≤ 140737488355328)
   (hW : Zb w X 260 #[.string r, .int .i64 (p.1 : Nat), .int .i64 (p.2 : Nat)]) :
   Calls Tryz.prog 206 #[.pointer (some ⟨X, 0, none⟩), .int .i64 (n : Int)] w (PassPost X r p n w) := by
 have hz := size_extract r 0 n hn
 have hpb := placeOf_bd (r.extract 0 n) n
 have c1 := fun w => Place_any (r.extract 0 n) (n : Int) w (by omega)
 have hq3 : 1 ≤ ((Zx (r.extract 0 n) (n : Int)).2 : Int) := by
   have e := (place_pos (r.extract 0 n) (Bd.end_ _)).2
   rw [hz, Nat.sub_zero] at e
   omega
 generalize hq : Zx (r.extract 0 n) (n : Int) = q at *
 have HQ := Hh hq
 rw [hz] at hpb
 obtain ⟨hq1, hq2⟩ := hpb
 have l1 : (n : Int) ≤ (r.size : Int) := by omega
 have k0 : w.cell? ⟨X, 0, none⟩ = some (.string r) := hW.read 0
 have HW := Hh hW
 clear hq hz hW
 have hXi := HW.out.inside
 by_cases hl : 1 < (q.1 : Int)
 · have ha : adv p q = (p.1 + q.1 - 1, q.2) := by unfold adv; rw [if_pos (by omega)]
   have HA := Hh ha
   clear ha
   go_enter Tryz.func206, Tryz.ntmps206
   go_wp2_with (go_at_call 233; refine (c1 _).mono ?_; rintro e w1 ⟨rfl, b1⟩; have W1 := Hh (HW.out.below b1 hXi); have B1 := Hh b1; have k0 := W1.out.read 0; have k1 := W1.out.read 1; have k2 := W1.out.read 2; have f0 := W1.out.thawed 0; have f1 := W1.out.thawed 1; have f2 := W1.out.thawed 2; clear b1)
   go_end0
   refine ⟨rfl, ?_, ?_⟩
   · rw [HQ.out, HA.out]
     dsimp only
     rw [show ((p.1 + q.1 - 1 : Nat) : Int) = (p.1 : Int) + ((q.1 : Int) - 1) from by omega]
     exact ((W1.out.write 1 _).write 2 _).write 0 _
   · refine Zo.setCell (Zo.setCell (Zo.setCell (Zo.of_below B1.out) ?_ _) ?_ _) ?_ _ <;> rfl
 · have ha : adv p q = (p.1, p.2 + q.2 - 1) := by unfold adv; rw [if_neg (by omega)]
   have HA := Hh ha
   have hq2' : 1 ≤ (q.2 : Int) := hq3
   clear ha
   go_enter Tryz.func206, Tryz.ntmps206
   go_wp2_with (go_at_call 233; refine (c1 _).mono ?_; rintro e w1 ⟨rfl, b1⟩; have W1 := Hh (HW.out.below b1 hXi); have B1 := Hh b1; have k0 := W1.out.read 0; have k1 := W1.out.read 1; have k2 := W1.out.read 2; have f0 := W1.out.thawed 0; have f1 := W1.out.thawed 1; have f2 := W1.out.thawed 2; clear b1)
   go_end0
   refine ⟨rfl, ?_, ?_⟩
   · rw [HQ.out, HA.out]
     dsimp only
     rw [show ((p.2 + q.2 - 1 : Nat) : Int) = (p.2 : Int) + ((q.2 : Int) - 1) from by omega]
     exact (W1.out.write 2 _).write 0 _
   · refine Zo.setCell (Zo.setCell (Zo.of_below B1.out) ?_ _) ?_ _ <;> rfl
theorem und_toks : Tryz.prog.underlying 78 = some (.slice 85) := by kernel_rfl
theorem info_tok : (Tryz.prog.info? 85).map (fun i => (i.zero, i.size, i.bytes)) = some (some (.agg #[.int .i64 0, .string ⟨#[]⟩, .int .i64 0, .int .i64 0, .int .i64 0]), 5, 48) := by kernel_rfl
theorem wpList_push5 {P : Program} {w Y : World} {ops : Array Oper} {rest : List Oper} {o : Oper} {a : Act} {Q : Exit → Act → World → Prop} (s x : Operand) (t e : TypeId) (bytes : Nat) (z : Value)
   (ht : P.underlying t = some (.slice e)) (hinfo : (P.info? e).map (fun i => (i.zero, i.size, i.bytes)) = some (some z, 5, bytes)) (hzs : z.cells.size = 5) (hby : bytes ≤ 64)
   (hgd : o.guard = none) (ho : o.op = .call { callee := .builtin .append, args := #[s, x], argTypes := #[t, t] })
   (base : Nat) (v : Value) (n : Nat) (xs : List Value) (c0 c1 c2 c3 c4 : Value) (hs : a.eval s = v) (hown : w.ownsRow base e 5 v n xs) (g : Nat) (hgz : g = w.heap.size) (hx : a.eval x = .slice (some ⟨g, 0, none⟩) 1 1) (h1 : ∀ u ∈ [c0, c1, c2, c3, c4], u.oneCell' = true)
   (hn : n ≤ 1099511627776) (hbase : base ≤ w.heap.size) (l : Zat Y w (.cells #[c0, c1, c2, c3, c4] e))
   (h : ∀ v' w', w'.ownsRow base e 5 v' (n + 1) (xs ++ [c0, c1, c2, c3, c4]) → w.grownBy w' v.ownBlock → (v'.ownBlock = v.ownBlock ∨ v'.ownBlock = some (w.heap.size + 1)) → wpList P ops Q rest (a.put o.dst v') w') :
   wpList P ops Q (o :: rest) a Y := by
 subst hgz
 obtain ⟨i, hi, hz, hsize, hbytes⟩ := info_parts hinfo
 have hwl : Zb Y w.heap.size e #[c0, c1, c2, c3, c4] := by unfold Zb; rw [l.heap]; exact Zb.made w e _
 refine wpList_append_own_at Y hgd s x t ho base e i z 5 bytes ht hi hz hsize hbytes hzs (by decide) v n xs hs (l.own hown) ⟨w.heap.size, 0, none⟩ 1 1 [c0, c1, c2, c3, c4] hx rfl ?_ h1 (by unfold maxLen; omega) ?_ (by rw [l.size]; omega) ?_
 · intro j u hj
   have hr := hwl.read j
   have ha : (⟨w.heap.size, 0, none⟩ : Addr).add j = ⟨w.heap.size, j, none⟩ := by simp [Addr.add]; omega
   rw [ha, hr, ← hj]; simp
 · have : (n + 1) * bytes ≤ (n + 1) * 64 := Nat.mul_le_mul_left _ hby
   omega
 · intro v' w' ho' hg _ hat
   refine h v' w' ho' (l.grown hg) ?_
   rcases hat with e | e
   · exact .inl e
   · refine .inr (by rw [l.size] at e; exact e)
def Ux (L : List TokV) : List Value := L.flatMap TokV.cells
theorem tokCs_snoc (L : List TokV) (v : TokV) : Ux (L ++ [v]) = Ux L ++ v.cells := by unfold Ux; simp
theorem tokCs_len (L : List TokV) : (Ux L).length = L.length * 5 := by
 induction L with
 | nil => rfl
 | cons v L ih =>
   have : Ux (v :: L) = v.cells ++ Ux L := rfl
   rw [this, List.length_append, ih, List.length_cons]
   have : v.cells.length = 5 := rfl
   omega
def scanV (s : ByteArray) : List TokV × Int × Nat × Nat :=
 if 65536 < s.size then ([], 3, 1, 1)
 else if (Ue s 0 []).2.1 = 0 then ((Ue s 0 []).1, 0, 0, 0) else ([], (Ue s 0 []).2.1, (Zx s ((Ue s 0 []).2.2 : Nat)).1, (Zx s ((Ue s 0 []).2.2 : Nat)).2)
def Zr (x : Int × Nat × Nat) : Value := .agg #[.int .i64 x.1, .int .i64 (x.2.1 : Int), .int .i64 (x.2.2 : Int)]
def ScanPost (s : ByteArray) (w : World) (e : Ending) (w' : World) : Prop :=
 ∃ v, e = .returned (.tuple #[v, Zr (scanV s).2]) ∧ w'.ownsRow w.heap.size 85 5 v (scanV s).1.length (Ux (scanV s).1) ∧ Below w.heap.size w w'
structure ScW (s : ByteArray) (w : World) (a : Nat) (acc : List TokV) (v : Value) (wr : World) : Prop where
 two : Two w 29 #[.int .i64 0, .int .i64 0, .int .i64 0] 260 #[.string (s.extract a s.size), .int .i64 ((Zx s (a : Int)).1 : Nat), .int .i64 ((Zx s (a : Int)).2 : Nat)] wr
 row : wr.ownsRow (w.heap.size + 2) 85 5 v acc.length (Ux acc)
theorem ScW.lo {s : ByteArray} {w wr : World} {a : Nat} {acc : List TokV} {v : Value} (h : ScW s w a acc v wr) : w.heap.size + 2 ≤ wr.heap.size := h.two.k1.inside
theorem ScW.next {s : ByteArray} {w wr w' : World} {a : Nat} {acc : List TokV} {v : Value} (h : ScW s w a acc v wr) (hb : Below wr.heap.size wr w') : ScW s w a acc v w' :=
 ⟨h.two.next hb, Un h.row hb⟩
theorem adv_place (s : ByteArray) {a b : Nat} (ha : Bd s a) (hb : Bd s b) (hab : a ≤ b) :
   adv (Zx s (a : Int)) (Zx ((s.extract a s.size).extract 0 (b - a)) ((b - a : Nat) : Int)) = Zx s (b : Int) := by
 have e : (s.extract a s.size).extract 0 (b - a) = s.extract a b := (extract_extract' s a b hab hb.1).symm
 rw [e]
 exact (place_pass ha hb hab).symm
theorem rest_rest (s : ByteArray) {a b : Nat} (hab : a ≤ b) (hb : b ≤ s.size) : (s.extract a s.size).extract (b - a) (s.extract a s.size).size = s.extract b s.size := by
 rw [size_extract s a s.size (Nat.le_refl _), ByteArray.extract_extract]
 congr 1 <;> omega
theorem ScW.passed {s : ByteArray} {w wr w' : World} {a b : Nat} {acc : List TokV} {v : Value} {e : Ending} (h : ScW s w a acc v wr) (ha : Bd s a) (hb : Bd s b) (hab : a ≤ b)
   (hp : PassPost (w.heap.size + 1) (s.extract a s.size) (Zx s (a : Int)) (b - a) wr e w') : ScW s w b acc v w' := by
 obtain ⟨_, hW, hk⟩ := hp
 rw [adv_place s ha hb hab, rest_rest s hab hb.1] at hW
 refine ⟨⟨hk.whole h.two.k0 (by omega), hW, h.two.below.trans ?_⟩, hk.owns h.row fun k hkk => ?_⟩
 · exact hk.below (Nat.le_trans (Nat.le_add_right _ 2) h.lo) (fun k hk => by omega)
 · have := (h.row.lt k hkk).1
   omega
theorem ScW.push {s : ByteArray} {w wr W w' : World} {a : Nat} {acc : List TokV} {v v' : Value} (h : ScW s w a acc v wr) (hb : Below wr.heap.size wr W) (t : TokV)
   (ho : w'.ownsRow (w.heap.size + 2) 85 5 v' (acc.length + 1) (Ux acc ++ t.cells)) (hg : W.grownBy w' v.ownBlock) : ScW s w a (acc ++ [t]) v' w' := by
 have hW := h.next hb
 refine ⟨⟨Vr hg hW.two.k0 ?_, Vr hg hW.two.k1 ?_, ?_⟩, ?_⟩
 · intro c
   have := (hW.row.lt _ c).1
   omega
 · intro c
   have := (hW.row.lt _ c).1
   omega
 · exact below_push hW.two.below hW.row hg (by omega) (Nat.le_trans (Nat.le_add_right _ 2) hW.lo)
 · rw [tokCs_snoc, List.length_append]
   exact ho
def lenV : Value → Nat
 | .slice _ n _ => n
 | _ => 0
theorem scanV_of (s : ByteArray) {L : List TokV} {e : Int} {p : Nat} (h64 : s.size ≤ 65536) (h : Ue s 0 [] = (L, e, p)) : scanV s = if e = 0 then (L, 0, 0, 0) else ([], e, (Zx s (p : Nat)).1, (Zx s (p : Nat)).2) := by
 unfold scanV
 rw [if_neg (by omega), h]
theorem first_at (s : ByteArray) {a : Nat} (ha : a ≤ s.size) : Wx (s.extract a s.size) =
   if (Yb (Zq s a)).1 < -1 then Wp 0 ⟨#[]⟩ 0 0 (errE (Yb (Zq s a)).1)
   else Wp (Yb (Zq s a)).1 (s.extract (a + (Yb (Zq s a)).2.1) (a + (Yb (Zq s a)).2.2.1)) (numOf (Yb (Zq s a)).1 (Zq s a)) (Yb (Zq s a)).2.2.2 0 := by
 unfold Wx
 rw [bL_rest s a ha]
 have hb : (Yb (Zq s a)).2.2.1 ≤ s.size - a := by
   by_cases hlt : a < s.size
   · have := tokL_bd (Zq s a) (restL_ne s hlt)
     rw [Xo] at this
     omega
   · rw [restL_nil s (by omega)]; simp [Yb]
 have e : (s.extract a s.size).extract (Yb (Zq s a)).2.1 (Yb (Zq s a)).2.2.1 = s.extract (a + (Yb (Zq s a)).2.1) (a + (Yb (Zq s a)).2.2.1) := by
   rw [ByteArray.extract_extract]
   congr 1
   omega
 show (if (Yb (Zq s a)).1 < -1 then _ else Wp (Yb (Zq s a)).1 ((s.extract a s.size).extract (Yb (Zq s a)).2.1 (Yb (Zq s a)).2.2.1) _ _ 0) = _
 rw [e]; rfl
theorem tok_rem (s : ByteArray) {a : Nat} (h : a < s.size) : (Yb (Zq s a)).1 = -1 → gB s a = 35 := by
 rw [Wz s h]
 refine Ju (gB s a) (Zq s (a + 1)) (fun x => x.1 = -1 → gB s a = 35) ?_ ?_ ?_ ?_ ?_ ?_ ?_ ?_
 · intro _ hh; simp at hh
 · intro _ _ _ hh; simp at hh
 · intro _ _ hh; simp at hh
 · intro hc _; omega
 · intro _ _ _ hh; simp at hh
 · intro _ _ hh; simp at hh
 · intro _ _ _ _ _ hh; simp at hh
 · intro _ _ _ _ _ hh; simp at hh
theorem errE_is (k : Int) : errE k = 12 ∨ errE k = 10 ∨ errE k = 6 := by
 unfold errE
 split
 · exact .inl rfl
 · split
   · exact .inr (.inl rfl)
   · exact .inr (.inr rfl)
theorem place_zero (s : ByteArray) : Zx s ((0 : Nat) : Int) = (1, 1) := by rw [place_fld (Upto.zero s)]; rfl
theorem gB_rest (s : ByteArray) {a : Nat} (ha : a < s.size) : gB (s.extract a s.size) 0 = gB s a := by
 have := gB_extract s a s.size 0 (by omega) (Nat.le_refl _)
 rwa [Nat.add_zero] at this
theorem rest_zero (s : ByteArray) (a : Nat) (ha : a ≤ s.size) : Zq (s.extract a s.size) 0 = Zq s a := by
 unfold Zq
 rw [bL_rest s a ha, List.drop_zero]
theorem tkScan (s : ByteArray) (w : World) (hs : s.size ≤ 140737488355328) : Calls Tryz.prog 171 #[.string s] w (ScanPost s w) := by
 by_cases h64 : 65536 < s.size
 · have hv : scanV s = ([], 3, 1, 1) := by unfold scanV; rw [if_pos h64]
   have HV := Hh hv
   clear hv
   have l1 : 65536 < (s.size : Int) := by omega
   go_enter Tryz.func171, Tryz.ntmps171
   go_wp2
   refine bodyPost_ret (v := .tuple #[.slice none 0 0, .agg #[.int .i64 3, .int .i64 1, .int .i64 1]]) (by simp [results, Tryz.results171, go_sem]) rfl ⟨.slice none 0 0, by rw [HV.out]; rfl, by rw [HV.out]; exact ⟨rfl, .inl ⟨rfl, rfl⟩⟩, ?_⟩
   exact (Below.refl _ _).alloc (Nat.le_refl _) _
 · have l1 : (s.size : Int) ≤ 65536 := by omega
   go_enter Tryz.func171, Tryz.ntmps171
   go_wp2
   go_loopw [4] (fun v wr => ∃ (a : Nat) (acc : List TokV), ScW s w a acc v wr ∧ Bd s a ∧ acc.length ≤ a ∧ Ue s a acc = Ue s 0 []) (fun v _ => s.size + 1 - lenV v)
   case atStart =>
     refine ⟨0, [], ⟨?_, ⟨rfl, .inl ⟨rfl, rfl⟩⟩⟩, Bd.zero s, Nat.le_refl _, rfl⟩
     have e : s.extract 0 s.size = s := by simp
     rw [e, place_zero]
     exact Two.start w _ _ _ _
   case round =>
     obtain ⟨a, acc, hst, hbd, hac, hsc⟩ := hrel
     obtain ⟨A, cp, rfl, hnc, hcm, _⟩ := Xx hst.row
     have hle := gapE_le s hbd.1
     obtain ⟨hg1, hg2, hg3⟩ := gap_all s s.size a (by omega) hbd.1 hbd
     have hgv : gapE s a = a + Jh (Zq s a) false := rfl
     have c1 : ∀ w, Calls Tryz.prog 207 #[.string (s.extract a s.size)] w fun e w' => e = .returned (.int .i64 ((gapE s a - a : Nat) : Int)) ∧ Below w.heap.size w w' := fun w => by
       have h := tkGap (s.extract a s.size) w (by rw [size_extract _ _ _ (Nat.le_refl _)]; omega)
       rw [rest_zero s a hbd.1, show Jh (Zq s a) false = gapE s a - a from by omega] at h
       exact h
     have hgs := hg1 acc
     rw [hsc] at hgs
     generalize gapE s a = b at *
     have c2 := fun w => tkFirst (s.extract b s.size) w (by rw [size_extract _ _ _ (Nat.le_refl _)]; omega) (fun h => by
       rw [size_extract _ _ _ (Nat.le_refl _)] at h
       rw [gB_rest s (by omega)]; exact (hg3 (by omega)).2)
     rw [first_at s hle.2] at c2
     have p1 := placeOf_bd s (a : Int)
     have p2 := placeOf_bd s (b : Int)
     obtain ⟨hle1, hle2⟩ := hle
     obtain ⟨p3, p4⟩ := p1
     obtain ⟨p5, p6⟩ := p2
     have k0 : wr.cell? ⟨w.heap.size + 1, 0, none⟩ = some (.string (s.extract a s.size)) := hst.two.k1.read 0
     have hrz := size_extract s a s.size (Nat.le_refl _)
     have HP := Hh (And.intro hbd (And.intro hg2 (And.intro hg3 hrz)))
     have HST := Hh hst
     have HGS := Hh hgs
     have HL := Hh (And.intro hac hnc)
     clear hst hgs hsc hg1 hgv hbd hg2 hg3 hrz hac hnc
     by_cases hend : b = s.size
     · have hx : s.extract b b = ⟨#[]⟩ := by
         apply ByteArray.ext
         apply Array.eq_empty_of_size_eq_zero
         show (s.extract b b).size = 0
         rw [size_extract _ _ _ hle2]; omega
       have hnil := restL_nil s (show s.size ≤ b by omega)
       have hv : scanV s = (acc ++ [endV s b], 0, 0, 0) := by
         rw [scanV_of s (by omega) (HGS.out.trans (scanA_end s acc (by omega))), if_pos rfl]
       have htc : (endV s b).cells = [.int .i64 0, .string ⟨#[]⟩, .int .i64 0, .int .i64 ((Zx s (b : Int)).1 : Nat), .int .i64 ((Zx s (b : Int)).2 : Nat)] := rfl
       have c3 : ∀ w, Calls Tryz.prog 208 #[.string (s.extract b s.size)] w fun e w' => e = .returned (Wp 0 ⟨#[]⟩ 0 0 0) ∧ Below w.heap.size w w' := fun w => by
         have h := c2 w
         rw [hnil] at h
         have e : (if (Yb []).1 < -1 then Wp 0 ⟨#[]⟩ 0 0 (errE (Yb []).1) else Wp (Yb []).1 (s.extract (b + (Yb []).2.1) (b + (Yb []).2.2.1)) (numOf (Yb []).1 []) (Yb []).2.2.2 0) = Wp 0 (s.extract b b) 0 0 0 := rfl
         rw [e, hx] at h
         exact h
       simp only [Wp] at c3
       have HV := Hh hv
       have HTC := Hh htc
       clear hx hnil hv htc c2 hend
       go_wp2_with (first
 | (go_at_call 207; refine (c1 _).mono ?_; rintro e w1 ⟨rfl, b1⟩; have S1 := Hh (HST.out.next b1); clear b1)
 | (go_at_call 206; refine (tkPass (w.heap.size + 1) (s.extract a s.size) (Zx s (a : Int)) (b - a) _ (by rw [HP.out.2.2.2]; omega) (by rw [HP.out.2.2.2]; omega) (by omega) (by omega) S1.out.two.k1).mono ?_; rintro e w2 q2; obtain rfl := q2.1; have S2 := Hh (S1.out.passed HP.out.1 HP.out.2.1 hle1 q2); have k2 : w2.cell? ⟨w.heap.size + 1, 0, none⟩ = some (.string (s.extract b s.size)) := S2.out.two.k1.read 0; clear q2)
 | (go_at_call 208; refine (c3 _).mono ?_; rintro e w3 ⟨rfl, b3⟩; have S3 := Hh (S2.out.next b3); clear b3
    have x1 : w3.cell? ⟨w.heap.size + 1, 1, none⟩ = some (.int .i64 ((Zx s (b : Int)).1 : Nat)) := S3.out.two.k1.read 1
    have x2 : w3.cell? ⟨w.heap.size + 1, 2, none⟩ = some (.int .i64 ((Zx s (b : Int)).2 : Nat)) := S3.out.two.k1.read 2
    have y0 : w3.cell? ⟨w.heap.size, 0, none⟩ = some (.int .i64 0) := S3.out.two.k0.read 0
    have y1 : w3.cell? ⟨w.heap.size, 1, none⟩ = some (.int .i64 0) := S3.out.two.k0.read 1
    have y2 : w3.cell? ⟨w.heap.size, 2, none⟩ = some (.int .i64 0) := S3.out.two.k0.read 2
    have z0 := S3.out.two.k0.thawed 0
    have z1 := S3.out.two.k0.thawed 1
    have z2 := S3.out.two.k0.thawed 2
    have hlo : w.heap.size + 1 < w3.heap.size := S3.out.lo
    have hlo0 : w.heap.size < w3.heap.size := Nat.lt_of_succ_lt hlo))
       go_region
       go_wp2_with (first
 | (at_builtin; refine wpList_push5 (w := w3.alloc (.cells #[.int .i64 0, .string ⟨#[]⟩, .int .i64 0, .int .i64 ((Zx s (b : Int)).1 : Nat), .int .i64 ((Zx s (b : Int)).2 : Nat)] 85)) (.tmp 40) (.tmp 42) 78 85 48 _ und_toks info_tok (by rfl) (by decide) rfl rfl (w.heap.size + 2) (.slice A acc.length cp) acc.length (Ux acc) _ _ _ _ _ rfl (S3.out.row.alloc _) (w3.heap.size + 1) (by simp) rfl (by simp [Value.oneCell']) (by have := HL.out; omega) (by simp; omega) ⟨rfl, rfl, rfl, rfl⟩ ?_
    intro v5 w5 o5 g5 at5
    obtain ⟨A5, cp5, rfl, _⟩ := Xx o5
    have S5 := Hh (S3.out.push ((Below.refl _ _).alloc (Nat.le_refl _) _) (endV s b) (by rw [HTC.out]; exact o5) g5)
    have T5 := Hh (Vr g5 (Zb.made w3 85 #[.int .i64 0, .string ⟨#[]⟩, .int .i64 0, .int .i64 ((Zx s (b : Int)).1 : Nat), .int .i64 ((Zx s (b : Int)).2 : Nat)]) (fun c => by have := (S3.out.row.lt _ c).2; omega))
    have t0 : w5.cell? ⟨w3.heap.size, 0, none⟩ = some (.int .i64 0) := T5.out.read 0
    have y0 : w5.cell? ⟨w.heap.size, 0, none⟩ = some (.int .i64 0) := S5.out.two.k0.read 0
    have y1 : w5.cell? ⟨w.heap.size, 1, none⟩ = some (.int .i64 0) := S5.out.two.k0.read 1
    have y2 : w5.cell? ⟨w.heap.size, 2, none⟩ = some (.int .i64 0) := S5.out.two.k0.read 2
    have z0 := S5.out.two.k0.thawed 0
    have z1 := S5.out.two.k0.thawed 1
    have z2 := S5.out.two.k0.thawed 2
    clear o5 g5 at5))
       have hF := ((S5.out.two.k0.write 0 (.int .i64 0)).write 1 (.int .i64 0)).write 2 (.int .i64 0)
       have hF3 := Zu hF
       have hrow := own_mono S5.out.row (show w.heap.size ≤ w.heap.size + 2 by omega)
       rw [List.length_append] at hrow
       refine bodyPost_ret (v := .tuple #[.slice A5 (acc.length + 1) cp5, .agg #[.int .i64 0, .int .i64 0, .int .i64 0]]) (by simp [results, Tryz.results171, go_sem, hF3]) rfl ⟨.slice A5 (acc.length + 1) cp5, by rw [HV.out]; rfl, ?_, ?_⟩
       · rw [HV.out]
         have hn : ∀ k, (Value.slice A5 (acc.length + 1) cp5).ownBlock = some k → k ≠ w.heap.size := fun k hk c => by have := (S5.out.row.lt k hk).1; omega
         have hn0 : (Value.slice A5 (acc.length + 1) cp5).ownBlock ≠ some w.heap.size := fun c => hn _ c rfl
         exact Vx (Vx (Vx (by rw [List.length_append]; exact hrow) hn0 _) hn0 _) hn0 _
       · exact ((S5.out.two.below.setCell (Nat.le_refl _) _).setCell (Nat.le_refl _) _).setCell (Nat.le_refl _) _
     · have hbl := (HP.out.2.2.1 (by omega)).1
       have hkk : (Yb (Zq s b)).1 < -1 ∨ 0 < (Yb (Zq s b)).1 := by
         have h1 := tokL_bd (Zq s b) (restL_ne s (by omega))
         have h2 := tok_rem s (show b < s.size by omega)
         have h3 := (HP.out.2.2.1 (by omega)).2
         omega
       rcases hkk with hk | hk
       · simp only [if_pos hk, Wp] at c2
         have hE : errE (Yb (Zq s b)).1 = 12 ∨ errE (Yb (Zq s b)).1 = 10 ∨ errE (Yb (Zq s b)).1 = 6 := errE_is _
         have hv : scanV s = ([], errE (Yb (Zq s b)).1, (Zx s (b : Nat)).1, (Zx s (b : Nat)).2) := by
           rw [scanV_of s (by omega) (HGS.out.trans (scanA_err s acc (by omega) hbl hk)), if_neg (by omega)]
         generalize errE (Yb (Zq s b)).1 = E at *
         have hE0 : (E == 0) = false := by rw [beq_eq_false_iff_ne]; omega
         have hE1 : (E != 0) = true := by simp; omega
         have HV := Hh hv
         clear hk hv hbl
         go_wp2_with (first
 | (go_at_call 207; refine (c1 _).mono ?_; rintro e w1 ⟨rfl, b1⟩; have S1 := Hh (HST.out.next b1); clear b1)
 | (go_at_call 206; refine (tkPass (w.heap.size + 1) (s.extract a s.size) (Zx s (a : Int)) (b - a) _ (by rw [HP.out.2.2.2]; omega) (by rw [HP.out.2.2.2]; omega) (by omega) (by omega) S1.out.two.k1).mono ?_; rintro e w2 q2; obtain rfl := q2.1; have S2 := Hh (S1.out.passed HP.out.1 HP.out.2.1 hle1 q2); have k2 : w2.cell? ⟨w.heap.size + 1, 0, none⟩ = some (.string (s.extract b s.size)) := S2.out.two.k1.read 0; clear q2)
 | (go_at_call 208; refine (c2 _).mono ?_; rintro e w3 ⟨rfl, b3⟩; have S3 := Hh (S2.out.next b3); clear b3
    have x1 : w3.cell? ⟨w.heap.size + 1, 1, none⟩ = some (.int .i64 ((Zx s (b : Int)).1 : Nat)) := S3.out.two.k1.read 1
    have x2 : w3.cell? ⟨w.heap.size + 1, 2, none⟩ = some (.int .i64 ((Zx s (b : Int)).2 : Nat)) := S3.out.two.k1.read 2
    have y0 : w3.cell? ⟨w.heap.size, 0, none⟩ = some (.int .i64 0) := S3.out.two.k0.read 0
    have y1 : w3.cell? ⟨w.heap.size, 1, none⟩ = some (.int .i64 0) := S3.out.two.k0.read 1
    have y2 : w3.cell? ⟨w.heap.size, 2, none⟩ = some (.int .i64 0) := S3.out.two.k0.read 2
    have z0 := S3.out.two.k0.thawed 0
    have z1 := S3.out.two.k0.thawed 1
    have z2 := S3.out.two.k0.thawed 2
    have hlo : w.heap.size + 1 < w3.heap.size := S3.out.lo
    have hlo0 : w.heap.size < w3.heap.size := Nat.lt_of_succ_lt hlo))
         go_region
         go_wp2
         have hF := ((((S3.out.two.k0.write 0 (.int .i64 E)).write 1 (.int .i64 ((Zx s (b : Int)).1 : Nat))).write 2 (.int .i64 ((Zx s (b : Int)).2 : Nat))).alloc (.cells #[.int .i64 0, .string ⟨#[]⟩, .int .i64 0, .int .i64 0, .int .i64 0] 85)).drew
         have hF3 := Zu hF
         refine bodyPost_ret (v := .tuple #[.slice none 0 0, .agg #[.int .i64 E, .int .i64 ((Zx s (b : Int)).1 : Nat), .int .i64 ((Zx s (b : Int)).2 : Nat)]]) (by simp [results, Tryz.results171, go_sem, hF3]) rfl ⟨.slice none 0 0, by rw [HV.out]; rfl, by rw [HV.out]; exact ⟨rfl, .inl ⟨rfl, rfl⟩⟩, ?_⟩
         exact below_drew1 ((((S3.out.two.below.setCell (Nat.le_refl _) _).setCell (Nat.le_refl _) _).setCell (Nat.le_refl _) _).alloc (by simp [World.setCell]; omega) _)
       · have hk1 : ¬ (Yb (Zq s b)).1 < -1 := by omega
         simp only [if_neg hk1, Wp] at c2
         have hsc := HGS.out.trans (scanA_tok s acc (by omega) hbl hk)
         have hadv := Zad s (show b < s.size by omega) (by omega : -1 ≤ (Yb (Zq s b)).1)
         have hbd2 := tok_bd s (show b < s.size by omega) hk
         have htc : (tokV s b).cells = [.int .i64 (Yb (Zq s b)).1, .string (s.extract (b + (Yb (Zq s b)).2.1) (b + (Yb (Zq s b)).2.2.1)), .int .i64 (numOf (Yb (Zq s b)).1 (Zq s b)), .int .i64 ((Zx s (b : Int)).1 : Nat), .int .i64 ((Zx s (b : Int)).2 : Nat)] := rfl
         generalize s.extract (b + (Yb (Zq s b)).2.1) (b + (Yb (Zq s b)).2.2.1) = X at *
         generalize numOf (Yb (Zq s b)).1 (Zq s b) = N at *
         generalize (Yb (Zq s b)).2.2.2 = Z at *
         generalize (Yb (Zq s b)).1 = K at *
         have HSC := Hh (And.intro hsc (And.intro hbd2 htc))
         obtain ⟨hz1, hz2⟩ := hadv
         have hK0 : (K == 0) = false := by rw [beq_eq_false_iff_ne]; omega
         clear hsc hbd2 htc hbl hk hk1
         go_wp2_with (first
 | (go_at_call 207; refine (c1 _).mono ?_; rintro e w1 ⟨rfl, b1⟩; have S1 := Hh (HST.out.next b1); clear b1)
 | (go_at_call 206; refine (tkPass (w.heap.size + 1) (s.extract a s.size) (Zx s (a : Int)) (b - a) _ (by rw [HP.out.2.2.2]; omega) (by rw [HP.out.2.2.2]; omega) (by omega) (by omega) S1.out.two.k1).mono ?_; rintro e w2 q2; obtain rfl := q2.1; have S2 := Hh (S1.out.passed HP.out.1 HP.out.2.1 hle1 q2); have k2 : w2.cell? ⟨w.heap.size + 1, 0, none⟩ = some (.string (s.extract b s.size)) := S2.out.two.k1.read 0; clear q2)
 | (go_at_call 208; refine (c2 _).mono ?_; rintro e w3 ⟨rfl, b3⟩; have S3 := Hh (S2.out.next b3); clear b3
    have x1 : w3.cell? ⟨w.heap.size + 1, 1, none⟩ = some (.int .i64 ((Zx s (b : Int)).1 : Nat)) := S3.out.two.k1.read 1
    have x2 : w3.cell? ⟨w.heap.size + 1, 2, none⟩ = some (.int .i64 ((Zx s (b : Int)).2 : Nat)) := S3.out.two.k1.read 2
    have y0 : w3.cell? ⟨w.heap.size, 0, none⟩ = some (.int .i64 0) := S3.out.two.k0.read 0
    have y1 : w3.cell? ⟨w.heap.size, 1, none⟩ = some (.int .i64 0) := S3.out.two.k0.read 1
    have y2 : w3.cell? ⟨w.heap.size, 2, none⟩ = some (.int .i64 0) := S3.out.two.k0.read 2
    have z0 := S3.out.two.k0.thawed 0
    have z1 := S3.out.two.k0.thawed 1
    have z2 := S3.out.two.k0.thawed 2
    have hlo : w.heap.size + 1 < w3.heap.size := S3.out.lo
    have hlo0 : w.heap.size < w3.heap.size := Nat.lt_of_succ_lt hlo))
         go_region
         go_wp2_with (first
 | (at_builtin; refine wpList_push5 (w := w3.alloc (.cells #[.int .i64 K, .string X, .int .i64 N, .int .i64 ((Zx s (b : Int)).1 : Nat), .int .i64 ((Zx s (b : Int)).2 : Nat)] 85)) (.tmp 40) (.tmp 42) 78 85 48 _ und_toks info_tok (by rfl) (by decide) rfl rfl (w.heap.size + 2) (.slice A acc.length cp) acc.length (Ux acc) _ _ _ _ _ rfl (S3.out.row.alloc _) (w3.heap.size + 1) (by simp) rfl (by simp [Value.oneCell']) (by have := HL.out; omega) (by simp; omega) ⟨rfl, rfl, rfl, rfl⟩ ?_
    intro v5 w5 o5 g5 at5
    obtain ⟨A5, cp5, rfl, _⟩ := Xx o5
    have S5 := Hh (S3.out.push ((Below.refl _ _).alloc (Nat.le_refl _) _) (tokV s b) (by rw [HSC.out.2.2]; exact o5) g5)
    have T5 := Hh (Vr g5 (Zb.made w3 85 #[.int .i64 K, .string X, .int .i64 N, .int .i64 ((Zx s (b : Int)).1 : Nat), .int .i64 ((Zx s (b : Int)).2 : Nat)]) (fun c => by have := (S3.out.row.lt _ c).2; omega))
    have t0 : w5.cell? ⟨w3.heap.size, 0, none⟩ = some (.int .i64 K) := T5.out.read 0
    have y0 : w5.cell? ⟨w.heap.size, 0, none⟩ = some (.int .i64 0) := S5.out.two.k0.read 0
    have y1 : w5.cell? ⟨w.heap.size, 1, none⟩ = some (.int .i64 0) := S5.out.two.k0.read 1
    have y2 : w5.cell? ⟨w.heap.size, 2, none⟩ = some (.int .i64 0) := S5.out.two.k0.read 2
    have z0 := S5.out.two.k0.thawed 0
    have z1 := S5.out.two.k0.thawed 1
    have z2 := S5.out.two.k0.thawed 2
    clear o5 g5 at5)
 | (go_at_call 206; refine (tkPass (w.heap.size + 1) (s.extract b s.size) (Zx s (b : Int)) Z _ (by rw [size_extract _ _ _ (Nat.le_refl _)]; omega) (by rw [size_extract _ _ _ (Nat.le_refl _)]; omega) (by omega) (by omega) S5.out.two.k1).mono ?_; rintro e w6 q6; obtain rfl := q6.1; have S6 := Hh (S5.out.passed (b := b + Z) HP.out.2.1 HSC.out.2.1 (by omega) (by rw [show b + Z - b = Z from by omega]; exact q6)); clear q6))
         go_roundw
         case rel => exact ⟨b + Z, acc ++ [tokV s b], S6.out, HSC.out.2.1, by have := HL.out; simp; omega, HSC.out.1.symm⟩
         case measure => have := HL.out; simp [lenV]; omega
end Go.Proofs.YtljdgdphldckhaaGreat
namespace Go.Proofs.YtljdgdphldckhaaGreat
open Go
inductive Tr (s : ByteArray) : Nat → List TokV → Prop
 | fin : ∀ a, a = s.size → Tr s a [endV s a]
 | skip : ∀ a b L, a < b → Tr s b L → Tr s a L
 | tok : ∀ a L, a < s.size → 0 < (Yb (Zq s a)).1 → Bd s a → Tr s (a + (Yb (Zq s a)).2.2.2) L → Tr s a (tokV s a :: L)
theorem scan_tr (s : ByteArray) : ∀ (b a : Nat) (acc L : List TokV) (E : Int) (p : Nat), s.size ≤ a + b → a ≤ s.size → Bd s a → Ue s a acc = (L, E, p) →
   (E = 0 → ∃ L', L = acc ++ L' ∧ Tr s a L') ∧ (E ≠ 0 → L = [] ∧ Bd s p)
 | 0, a, acc, L, E, p, h, h1, hB, hs => by
   rw [scanA_end s acc (by omega)] at hs
   injection hs with e1 e2
   injection e2 with e2 e3
   exact ⟨fun _ => ⟨_, e1.symm, Tr.fin a (by omega)⟩, fun c => absurd e2.symm c⟩
 | b + 1, a, acc, L, E, p, h, h1, hB, hs => by
   by_cases ha : a < s.size
   · cases hbl : isBl (gB s a : Int) with
     | true =>
       rw [scanA_blank s acc ha hbl] at hs
       obtain ⟨i1, i2⟩ := scan_tr s b (a + 1) acc L E p (by omega) (by omega) (Bd.behind ha (by rw [isBl_iff] at hbl; omega)) hs
       refine ⟨fun e => ?_, i2⟩
       obtain ⟨L', hL, ht⟩ := i1 e
       exact ⟨L', hL, Tr.skip a (a + 1) L' (by omega) ht⟩
     | false =>
       by_cases hk : (Yb (Zq s a)).1 < -1
       · rw [scanA_err s acc ha hbl hk] at hs
         injection hs with e1 e2
         injection e2 with e2 e3
         refine ⟨fun c => ?_, fun _ => ⟨e1.symm, e3 ▸ hB⟩⟩
         have := errE_is (Yb (Zq s a)).1
         omega
       · have hadv := Zad s ha (by omega)
         by_cases hr : (Yb (Zq s a)).1 = -1
         · rw [scanA_rem s acc ha hbl hr] at hs
           obtain ⟨i1, i2⟩ := scan_tr s b _ acc L E p (by omega) hadv.2 (rem_bd s ha hr) hs
           refine ⟨fun e => ?_, i2⟩
           obtain ⟨L', hL, ht⟩ := i1 e
           exact ⟨L', hL, Tr.skip a _ L' (by omega) ht⟩
         · have hpos : 0 < (Yb (Zq s a)).1 := by
             have := (tokL_bd (Zq s a) (restL_ne s ha)).2.2.2.2.1
             omega
           rw [scanA_tok s acc ha hbl hpos] at hs
           obtain ⟨i1, i2⟩ := scan_tr s b _ (acc ++ [tokV s a]) L E p (by omega) hadv.2 (tok_bd s ha hpos) hs
           refine ⟨fun e => ?_, i2⟩
           obtain ⟨L', hL, ht⟩ := i1 e
           exact ⟨tokV s a :: L', by rw [hL]; simp, Tr.tok a L' ha hpos hB ht⟩
   · exact scan_tr s 0 a acc L E p (by omega) h1 hB hs
theorem Tr.up {s : ByteArray} {a : Nat} {L : List TokV} (h : Tr s a L) :
   (∀ v ∈ L, a ≤ v.p ∧ Bd s v.p ∧ v.line = (Zx s (v.p : Int)).1 ∧ v.col = (Zx s (v.p : Int)).2) ∧ L.Pairwise (fun u v => u.p < v.p) := by
 induction h with
 | fin a ha =>
   subst ha
   refine ⟨fun v hv => ?_, by simp⟩
   simp at hv
   subst hv
   exact ⟨Nat.le_refl _, Bd.end_ s, rfl, rfl⟩
 | skip a b L hab _ ih => exact ⟨fun v hv => ⟨by have := (ih.1 v hv).1; omega, (ih.1 v hv).2⟩, ih.2⟩
 | tok a L ha hk hB _ ih =>
   have hadv := Zad s ha (by omega)
   refine ⟨fun v hv => ?_, ?_⟩
   · rcases List.mem_cons.1 hv with rfl | hv
     · exact ⟨Nat.le_refl _, hB, rfl, rfl⟩
     · exact ⟨by have := (ih.1 v hv).1; omega, (ih.1 v hv).2⟩
   · rw [List.pairwise_cons]
     refine ⟨fun v hv => ?_, ih.2⟩
     have := (ih.1 v hv).1
     show a < v.p
     omega
theorem Tr.before {s : ByteArray} {a : Nat} {L : List TokV} (h : Tr s a L) {m : Nat} (hm : m + 1 < L.length) :
   (L[m]'(by omega)).line < (L[m + 1]'hm).line ∨ (L[m]'(by omega)).line = (L[m + 1]'hm).line ∧ (L[m]'(by omega)).col < (L[m + 1]'hm).col := by
 obtain ⟨h1, h2⟩ := h.up
 have hp := List.pairwise_iff_getElem.1 h2 m (m + 1) (by omega) hm (by omega)
 have u := h1 _ (List.getElem_mem (show m < L.length by omega))
 have v := h1 _ (List.getElem_mem hm)
 have := place_lt u.2.1 v.2.1 hp
 rw [u.2.2.1, u.2.2.2, v.2.2.1, v.2.2.2]
 exact this
def txt (v : TokV) : List Int := if v.k = 3 then 34 :: (bL v.t ++ [34]) else bL v.t
def wrL (L : List TokV) : List Int := L.flatMap fun v => txt v ++ [32]
theorem wrL_cons (v : TokV) (L : List TokV) : wrL (v :: L) = txt v ++ 32 :: wrL L := by unfold wrL; simp
theorem name_no10 (X : List Int) (hX : ∀ x ∈ X, 0 ≤ x ∧ x < 256) (h : nameB (strOfNums X) = true) : ∀ x ∈ X, x ≠ 10 := by
 intro x hx h10
 subst h10
 obtain ⟨i, hi, he⟩ := List.mem_iff_getElem.1 hx
 have hz : (strOfNums X).size = X.length := strOfNums_size X
 have hb : bL (strOfNums X) = X := bL_str X hX
 have hg := bL_get (strOfNums X) i (by omega)
 rw [hb, List.getElem?_eq_getElem hi, he] at hg
 have hg10 : gB (strOfNums X) i = 10 := by
   have := Option.some.inj hg
   omega
 have hm := ascii_rune (strOfNums X) i (by omega) (by omega)
 rw [hg10] at hm
 unfold nameB at h
 simp only [Bool.and_eq_true] at h
 have hin := List.all_eq_true.1 h.1.1.2 _ hm
 simp [inNameB, letterB] at hin
def GoodT (v : TokV) : Prop := ∃ l : List Int, 0 < (Yb l).1 ∧ v.k = (Yb l).1 ∧ txt v = l.take (Yb l).2.2.2 ∧ v.t = strOfNums ((l.take (Yb l).2.2.1).drop (Yb l).2.1) ∧ v.n = numOf (Yb l).1 l ∧ (∀ x ∈ txt v, 0 ≤ x ∧ x < 256 ∧ x ≠ 10) ∧ (txt v).length = (Yb l).2.2.2
theorem tok_parts (l : List Int) (h : 0 < (Yb l).1) (hl : ∀ x ∈ l, 0 ≤ x ∧ x < 256) : (if (Yb l).1 = 3 then 34 :: ((l.take (Yb l).2.2.1).drop (Yb l).2.1 ++ [34]) else (l.take (Yb l).2.2.1).drop (Yb l).2.1) = l.take (Yb l).2.2.2 ∧ ∀ x ∈ l.take (Yb l).2.2.2, x ≠ 10 := by
 cases l with
 | nil => simp [Yb] at h
 | cons c m =>
   revert h
   refine Ju c m (fun x => 0 < x.1 → (if x.1 = 3 then 34 :: (((c :: m).take x.2.2.1).drop x.2.1 ++ [34]) else ((c :: m).take x.2.2.1).drop x.2.1) = (c :: m).take x.2.2.2 ∧ ∀ y ∈ (c :: m).take x.2.2.2, y ≠ 10) ?_ ?_ ?_ ?_ ?_ ?_ ?_ ?_
   · intro hs _
     refine ⟨by rw [if_neg (by simp)]; rfl, fun y hy => ?_⟩
     have := tw_take isSm (c :: m) y hy
     rw [isSm_iff] at this; omega
   · intro hs h2 h3 _
     refine ⟨by rw [if_neg (by simp)]; rfl, fun y hy => ?_⟩
     have := tw_take isD (c :: m) y hy
     rw [isD_iff] at this; omega
   · intro _ _ h; simp at h
   · intro _ h; simp at h
   · intro hc hlt hnm _
     subst hc
     dsimp only
     rcases tw_end (Xe 34) m with he | ⟨x, hx, hxp⟩
     · omega
     · have hx34 : x = 34 := by
         rcases Decidable.em (x = 34) with e | e
         · exact e
         · rw [(Zan 34 x).2 e] at hxp; cases hxp
       subst hx34
       have hn10 := name_no10 _ (fun y hy => hl y (List.mem_cons_of_mem _ (List.mem_of_mem_take hy))) hnm
       generalize tw (Xe 34) m = n at *
       have hm1 : m.take (n + 1) = m.take n ++ [34] := by rw [List.take_add_one, hx]; rfl
       refine ⟨?_, ?_⟩
       · rw [if_pos rfl, List.take_succ_cons, List.take_succ_cons, List.drop_succ_cons, List.drop_zero, hm1]
       · intro y hy
         rw [List.take_succ_cons, hm1] at hy
         rcases List.mem_cons.1 hy with rfl | hy
         · decide
         · rcases List.mem_append.1 hy with hy | hy
           · exact hn10 y hy
           · simp at hy; omega
   · intro _ _ h; simp at h
   · intro h1 h2 h3 h4 h5 _
     refine ⟨by rw [if_neg (by simp)]; rfl, fun y hy => ?_⟩
     dsimp only at hy
     have hc : c ≠ 10 := by
       rintro rfl
       rw [markL_cons, if_neg (by simp), if_neg (by decide)] at h5
       exact h5 rfl
     rw [markL_cons] at hy
     split at hy
     · rename_i e1
       cases m with
       | nil => simp at e1
       | cons d m' =>
         have hd : d = 61 := by simpa using e1.2
         rcases List.mem_cons.1 hy with rfl | hy
         · exact hc
         · simp at hy; omega
     · split at hy
       · simp at hy; omega
       · simp at hy
   · intro _ _ _ _ _ h; simp at h
theorem good_tok (s : ByteArray) {a : Nat} (ha : a < s.size) (hk : 0 < (Yb (Zq s a)).1) : GoodT (tokV s a) := by
 have hb := tokL_bd (Zq s a) (restL_ne s ha)
 rw [Xo] at hb
 have hrange : ∀ x ∈ Zq s a, 0 ≤ x ∧ x < 256 := fun x hx => bL_bd s x (List.mem_of_mem_drop hx)
 obtain ⟨p1, p2⟩ := tok_parts (Zq s a) hk hrange
 have ht : (tokV s a).t = strOfNums (((Zq s a).take (Yb (Zq s a)).2.2.1).drop (Yb (Zq s a)).2.1) := by
   have e := extract_str s (a + (Yb (Zq s a)).2.1) ((Yb (Zq s a)).2.2.1 - (Yb (Zq s a)).2.1) (by omega)
   rw [show a + (Yb (Zq s a)).2.1 + ((Yb (Zq s a)).2.2.1 - (Yb (Zq s a)).2.1) = a + (Yb (Zq s a)).2.2.1 from by omega] at e
   show s.extract _ _ = _
   rw [e, List.drop_take]
   unfold Zq
   rw [List.drop_drop]
 have hx : txt (tokV s a) = (Zq s a).take (Yb (Zq s a)).2.2.2 := by
   have hbl : bL (tokV s a).t = ((Zq s a).take (Yb (Zq s a)).2.2.1).drop (Yb (Zq s a)).2.1 := by
     rw [ht, bL_str _ (fun x hx => hrange x (List.mem_of_mem_take (List.mem_of_mem_drop hx)))]
   unfold txt
   rw [hbl, ← p1]; rfl
 refine ⟨Zq s a, hk, rfl, hx, ht, rfl, fun x hxx => ?_, ?_⟩
 · rw [hx] at hxx
   have := hrange x (List.mem_of_mem_take hxx)
   exact ⟨this.1, this.2, p2 x hxx⟩
 · rw [hx, List.length_take, Xo]; omega
inductive Sh : List TokV → Prop
 | fin : ∀ v : TokV, v.k = 0 → v.t = ⟨#[]⟩ → v.n = 0 → Sh [v]
 | tok : ∀ v L, GoodT v → Sh L → Sh (v :: L)
theorem Tr.sh {s : ByteArray} {a : Nat} {L : List TokV} (h : Tr s a L) : Sh L := by
 induction h with
 | fin a ha => exact Sh.fin _ rfl rfl rfl
 | skip _ _ _ _ _ ih => exact ih
 | tok a L ha hk _ _ ih => exact Sh.tok _ _ (good_tok s ha hk) ih
theorem Tr.size {s : ByteArray} {a : Nat} {L : List TokV} (h : Tr s a L) : (wrL L).length + 2 * a ≤ 2 * s.size + 1 := by
 induction h with
 | fin a ha =>
   subst ha
   have : wrL [endV s s.size] = [32] := by
     unfold wrL txt endV
     rfl
   rw [this]; simp; omega
 | skip a b L hab _ ih => omega
 | tok a L ha hk _ _ ih =>
   have hadv := Zad s ha (by omega)
   have hlen : (txt (tokV s a)).length = (Yb (Zq s a)).2.2.2 := by
     obtain ⟨l, g1, g2, g3, g4, g5, g6, g7⟩ := good_tok s ha hk
     have hrange : ∀ x ∈ Zq s a, 0 ≤ x ∧ x < 256 := fun x hx => bL_bd s x (List.mem_of_mem_drop hx)
     obtain ⟨p1, _⟩ := tok_parts (Zq s a) hk hrange
     have hb := tokL_bd (Zq s a) (restL_ne s ha)
     rw [Xo] at hb
     have e := congrArg List.length p1
     rw [List.length_take, Xo, Nat.min_eq_left (by omega)] at e
     have hbl : (bL (tokV s a).t).length = (Yb (Zq s a)).2.2.1 - (Yb (Zq s a)).2.1 := by
       rw [Wy]
       show (s.extract _ _).size = _
       rw [size_extract _ _ _ (by omega)]; omega
     rw [← e]
     unfold txt
     show (if (Yb (Zq s a)).1 = 3 then _ else _ : List Int).length = _
     split
     · simp [hbl, Xo]; omega
     · simp [hbl, Xo]; omega
   rw [wrL_cons, List.length_append, List.length_cons, hlen]
   omega
def SimT (L M : List TokV) : Prop := L.length = M.length ∧ ∀ (i : Nat) (h : i < L.length) (h' : i < M.length), (M[i]'h').k = (L[i]'h).k ∧ (M[i]'h').t = (L[i]'h).t ∧ (M[i]'h').n = (L[i]'h).n ∧ (M[i]'h').line = 1
theorem SimT.cons {u v : TokV} {L M : List TokV} (h : SimT L M) (h1 : v.k = u.k) (h2 : v.t = u.t) (h3 : v.n = u.n) (h4 : v.line = 1) : SimT (u :: L) (v :: M) := by
 refine ⟨by simp [h.1], fun i hi hi' => ?_⟩
 cases i with
 | zero => exact ⟨h1, h2, h3, h4⟩
 | succ i => exact h.2 i (by simpa using hi) (by simpa using hi')
end Go.Proofs.YtljdgdphldckhaaGreat
