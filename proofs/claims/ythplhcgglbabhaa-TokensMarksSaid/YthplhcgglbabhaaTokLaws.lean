/-
  The laws of layer 9: rows of tokens read, the example, TokensScan, TokensMarks. No conditions.
-/
import Derived.Test.YthplhcgglbabhaaTokRScan
import Derived.Deep.QuietTactic
import Derived.BigQuiet
namespace Go.Proofs.Ythplhcgglbabhaa
open Go.ChangeShapes Go.WideShapes Go.ChangeAt Go.RowKit
set_option linter.unusedVariables false
set_option linter.unusedSimpArgs false
theorem add_block' (x : Addr) (n : Nat) : (x.add n).block = x.block := by unfold Addr.add; split <;> rfl
theorem add_add' (x : Addr) (n m : Nat) : (x.add n).add m = x.add (n + m) := by
  unfold Addr.add
  by_cases h : n = 0
  · subst h; simp
  · by_cases h2 : m = 0
    · subst h2; simp
    · simp [h, h2, Nat.add_assoc]
theorem tokCs_at (L : List TokV) : ∀ (i j : Nat) (h : i < L.length), j < 5 → (tokCs L)[i * 5 + j]? = (L[i]'h).cells[j]? := by
  induction L with
  | nil => intro i j h; simp at h
  | cons v L ih =>
    intro i j h hj
    have e : tokCs (v :: L) = v.cells ++ tokCs L := rfl
    have hl : v.cells.length = 5 := rfl
    rw [e]
    cases i with
    | zero => rw [Nat.zero_mul, Nat.zero_add, List.getElem?_append_left (by omega)]; rfl
    | succ i =>
      rw [List.getElem?_append_right (by omega), hl, show (i + 1) * 5 + j - 5 = i * 5 + j from by omega]
      exact ih i j (by simpa using h) hj
/-- A row of tokens, read at one place. -/
theorem Reads.tok {w : World} {A : Option Addr} {L : List TokV} (h : Reads w A (tokCs L)) {i : Nat} (hi : i < L.length) :
    ∃ x, A = some x ∧ x.block < w.heap.size ∧ w.cell? (x.add (i * 5)) = some (.int .i64 (L[i]'hi).k) ∧ w.cell? ⟨(x.add (i * 5)).block, (x.add (i * 5)).off + 1, none⟩ = some (.string (L[i]'hi).t) ∧
      w.cell? ⟨(x.add (i * 5)).block, (x.add (i * 5)).off + 2, none⟩ = some (.int .i64 (L[i]'hi).n) ∧ w.cell? ⟨(x.add (i * 5)).block, (x.add (i * 5)).off + 3, none⟩ = some (.int .i64 ((L[i]'hi).line : Int)) ∧
      w.cell? ⟨(x.add (i * 5)).block, (x.add (i * 5)).off + 4, none⟩ = some (.int .i64 ((L[i]'hi).col : Int)) := by
  have hl := tokCs_len L
  obtain ⟨x, hA, hx, hc⟩ := h.at_ (by omega)
  have key : ∀ j, j < 5 → w.cell? ((x.add (i * 5)).add j) = (L[i]'hi).cells[j]? := fun j hj => by
    rw [add_add', hc _ (by omega), tokCs_at L i j hi hj]
  exact ⟨x, hA, hx, key 0 (by omega), key 1 (by omega), key 2 (by omega), key 3 (by omega), key 4 (by omega)⟩
theorem own5_reads {w : World} {base : Nat} {e : TypeId} {v : Value} {xs : List Value} {n : Nat} (h : w.ownsRow base e 5 v n xs) : ∃ A c, v = .slice A n c ∧ n ≤ 9223372036854775807 ∧ Reads w A xs := by
  obtain ⟨A, c, hv, hn, hm, hc⟩ := own_form h
  exact ⟨A, c, hv, by unfold maxLen at hm; omega, hc.reads⟩
theorem rtSame (L : List TokV) (n : Nat) (A B : Option Addr) (c d : Nat) (w : World) (hx : Reads w A (tokCs L)) (hy : Reads w B (tokCs L)) (hn : L.length = n) (hl : n ≤ 9223372036854775807) :
    Calls Try.prog 9 #[.slice A n c, .slice B n d] w fun e w' => e = .returned (.bool true) ∧ Below w.heap.size w w' := by
  have HN := Lib.hid hn
  clear hn
  go_enter Try.func9, Try.ntmps9
  go_wp2
  go_loopw [5] (fun i wr => ∃ k q : Nat, i = .int .i64 k ∧ k ≤ n ∧ wr = w.drewN q) (fun i _ => n - (intOf i).toNat)
  case atStart => exact ⟨0, 0, rfl, by omega, rfl⟩
  case round =>
    obtain ⟨k, q, rfl, hk, rfl⟩ := hrel
    by_cases hkl : k < n
    · have hk1 : k < L.length := by rw [HN.out]; exact hkl
      obtain ⟨x, rfl, hx1, a0, a1, a2, a3, a4⟩ := hx.tok hk1
      obtain ⟨y, rfl, hy1, b0, b1, b2, b3, b4⟩ := hy.tok hk1
      generalize L[k] = t at *
      have lk : (k : Int) < (n : Int) := by omega
      have lk0 : (0 : Int) ≤ (k : Int) := by omega
      have hkn : ((k : Int)).toNat = k := by omega
      clear hk1 hx hy
      go_wp2_with fail
      go_quiet (fail)
      go_wp2
      go_roundw
      case rel => exact ⟨k + 1, _, by go_num, by omega, rfl⟩
      case measure => simp [intOf]; omega
    · go_wp2
      go_ret
      exact ⟨rfl, below_drewN (Below.refl _ _) q⟩
theorem own5_at {w : World} {base : Nat} {e : TypeId} {v : Value} {xs : List Value} {n : Nat} (h : w.ownsRow base e 5 v n xs) (hn : 0 < n) : ∃ g c, v = .slice (some ⟨g, 0, none⟩) n c ∧ g < w.heap.size ∧ ∀ j, j < xs.length → w.cell? ⟨g, j, none⟩ = xs[j]? := by
  obtain ⟨hl, h0 | ⟨g, cap, cur, rfl, hb, hg, h1, h2, h3, h4⟩⟩ := h
  · omega
  · have hw : Whole w g e cur := hg
    refine ⟨g, cap, rfl, hw.inside, fun j hj => ?_⟩
    rw [hw.read j, ← h4, List.getElem?_take_of_lt (by omega), Array.getElem?_toList]
/-- The chapter's example. -/
def egS : ByteArray := ⟨#[108, 97, 110, 101, 32, 50, 59, 32, 35, 32, 115, 111]⟩
theorem eg_scan : scanV egS = ([⟨1, ⟨#[108, 97, 110, 101]⟩, 0, 1, 1, 0⟩, ⟨2, ⟨#[50]⟩, 2, 1, 6, 5⟩, ⟨4, ⟨#[59]⟩, 0, 1, 7, 6⟩, ⟨0, ⟨#[]⟩, 0, 1, 13, 12⟩], 0, 0, 0) := by kernel_rfl
theorem lives09 (w : World) : Calls Try.prog 6 #[] w fun e w' => e = .returned (.bool true) ∧ Below w.heap.size w w' := by
  have E := Lib.hid eg_scan
  go_enter Try.func6, Try.ntmps6
  go_wp2_with (go_at_call 7; refine (tkScan egS _ (by decide)).mono ?_; rintro e w1 ⟨v, rfl, o1, b1⟩; rw [E.out] at o1 ⊢; obtain ⟨g, c1, rfl, hg, hc⟩ := own5_at o1 (by decide)
               have k1 : w1.cell? ⟨g, 7, none⟩ = some (.int .i64 2) := hc 7 (by decide)
               have k2 : w1.cell? ⟨g, 15, none⟩ = some (.int .i64 0) := hc 15 (by decide)
               have k3 : w1.cell? ⟨g, 16, none⟩ = some (.string ⟨#[]⟩) := hc 16 (by decide)
               have k4 : w1.cell? ⟨g, 17, none⟩ = some (.int .i64 0) := hc 17 (by decide)
               have k5 : w1.cell? ⟨g, 18, none⟩ = some (.int .i64 1) := hc 18 (by decide)
               have k6 : w1.cell? ⟨g, 19, none⟩ = some (.int .i64 13) := hc 19 (by decide)
               clear hc o1; simp only [faultV])
  go_ret
  exact ⟨rfl, b1.alloc b1.size _⟩
end Go.Proofs.Ythplhcgglbabhaa
