/-
  Layer 21: the example, and a copy of a list that came in. No conditions but that the list can be read.
-/
import Derived.Test.YticbnanfijkodaaShufP
import Derived.Test.YticbnanfijkodaaShufQ
import Derived.Laws.AppendOwnNone
namespace Go.Proofs.Yticbnanfijkodaa
open Go.ChangeShapes Go.WideShapes Go.ChangeAt Go.RowKit
set_option linter.unusedVariables false
set_option linter.unusedSimpArgs false
set_option maxRecDepth 20000
set_option maxHeartbeats 3200000
theorem isRow_cap {k : IntKind} {w : World} {a : Option Addr} {len cap : Nat} {z : List Int} (h : IsRow k w a len cap z) : len ≤ cap ∧ (a = none → len = 0 ∧ cap = 0) := by
  rcases h with ⟨rfl, rfl, rfl, rfl⟩ | ⟨x, rfl, h1, _⟩
  · exact ⟨Nat.le_refl _, fun _ => ⟨rfl, rfl⟩⟩
  · exact ⟨h1, fun e => by cases e⟩
theorem wpList_copy {ops : Array Oper} {rest : List Oper} {o : Oper} {act : Act} {Q : Exit → Act → World → Prop} (w : World) (s t : Operand) (A : Option Addr) (n c : Nat) (x : List Int) (hx : Reads w A (ints x)) (hn : x.length = n) (hl : n ≤ 1000000) (hA : A = none → n = 0 ∧ c = 0)
    (hgd : o.guard = none) (ho : o.op = .call { callee := .builtin .append, args := #[s, t], argTypes := #[22, 22] }) (hs : act.eval s = .slice (some ⟨w.heap.size, 0, none⟩) 0 0) (ht : act.eval t = .slice A n c)
    (h : ∀ v w', w'.ownsRow w.heap.size 3 1 v n (ints x) → Below w.heap.size w w' → wpList Try.prog ops Q rest (act.put o.dst v) w') :
    wpList Try.prog ops Q (o :: rest) act (w.alloc (.cells #[] 3)) := by
  obtain ⟨i0, hi, hz0, hz1, hz2⟩ := info_parts info_int3
  cases A with
  | none =>
    obtain ⟨rfl, rfl⟩ := hA rfl
    obtain rfl : x = [] := List.length_eq_zero_iff.1 hn
    refine wpList_append_own_none hgd s t 22 ho w.heap.size 3 i0 1 und_ints3 hi _ 0 [] hs (own_none (Nat.le_refl _)) ht ?_
    exact h _ _ (own_none (Nat.le_refl _)) ((Below.refl _ _).alloc (Nat.le_refl _) _)
  | some p =>
    have hnews : ∀ j u, (ints x)[j]? = some u → (w.alloc (.cells #[] 3)).cell? (p.add j) = some u := by
      intro j u hu
      obtain ⟨hj, e⟩ := List.getElem?_eq_some_iff.1 hu
      rcases hx.alloc (.cells #[] 3) with q | ⟨y, hy, _, hc⟩
      · rw [q] at hj; cases hj
      · injection hy with hy
        subst hy
        rw [hc j hj, List.getElem?_eq_getElem hj, e]
    refine wpList_append_own_at _ hgd s t 22 ho w.heap.size 3 i0 _ 1 8 und_ints3 hi hz0 hz1 hz2 rfl (by decide) _ 0 [] hs (own_none (Nat.le_refl _)) p n c (ints x) ht (by rw [Nat.mul_one]; simp [ints, hn]) hnews (ints_one x) (by unfold maxLen; omega) (by omega) (by simp) ?_
    intro v w' o1 g1 _ _
    refine h v w' (by simpa using o1) ?_
    have k1 := ((Keeps.refl (fun k => w.heap.size ≤ k) w).alloc (.cells #[] 3)).grown g1 (fun k hk => by injection hk with hk; exact Nat.le_of_eq hk)
    exact k1.below (Nat.le_refl _) (fun k h => h)
theorem lives21 (w : World) : Calls Try.prog 6 #[] w fun e w' => e = .returned (.bool true) ∧ Below w.heap.size w w' := by
  obtain ⟨wa, ha⟩ : ∃ wa, w.alloc (.cells #[.int .i64 1, .int .i64 2, .int .i64 3] 3) = wa := ⟨_, rfl⟩
  have hs : shufL [1, 2, 3] [0, 0] = [2, 3, 1] := by decide +kernel
  have r1 : Reads wa (some ⟨w.heap.size, 0, none⟩) (ints [1, 2, 3]) := by rw [← ha]; exact Reads.made w #[.int .i64 1, .int .i64 2, .int .i64 3] 3
  have k1 := pShuffle [1, 2, 3] [0, 0] 3 2 3 2 (some ⟨w.heap.size, 0, none⟩) (some ⟨wa.heap.size, 0, none⟩) (wa.alloc (.cells #[.int .i64 0, .int .i64 0] 3)) (r1.alloc _) (Reads.made wa #[.int .i64 0, .int .i64 0] 3) rfl rfl (by decide) (by decide) (by decide) (by decide)
  rw [hs] at k1
  have hsz : wa.heap.size = w.heap.size + 1 := by rw [← ha]; exact World.size_alloc _ _
  rw [show (some ⟨wa.heap.size, 0, none⟩ : Option Addr) = some ⟨w.heap.size + 1, 0, none⟩ by rw [hsz]] at k1
  have b0 : Below w.heap.size w (wa.alloc (.cells #[.int .i64 0, .int .i64 0] 3)) := by
    rw [← ha]
    exact ((Below.refl _ _).alloc (Nat.le_refl _) _).alloc (by simp) _
  have k2 : ∀ (v : Value) (z : World) (b : Nat), z.ownsRow b 3 1 v 3 (ints [2, 3, 1]) → Calls Try.prog 8 #[v, .slice (some ⟨z.heap.size, 0, none⟩) 3 3] (z.alloc (.cells #[.int .i64 2, .int .i64 3, .int .i64 1] 3)) fun e w' => e = .returned (.bool true) ∧ Below (z.alloc (.cells #[.int .i64 2, .int .i64 3, .int .i64 1] 3)).heap.size (z.alloc (.cells #[.int .i64 2, .int .i64 3, .int .i64 1] 3)) w' := by
    intro v z b ho
    obtain ⟨A, c, rfl, _, r⟩ := own_reads ho
    have h := Same_any [2, 3, 1] [2, 3, 1] 3 3 A (some ⟨z.heap.size, 0, none⟩) c 3 _ (r.alloc _) (Reads.made z #[.int .i64 2, .int .i64 3, .int .i64 1] 3) rfl rfl (by decide) (by decide)
    rw [decide_eq_true rfl] at h
    exact h
  have k3 : ∀ z, Calls Try.prog 10 #[.int .i64 (-1), .int .i64 5] z fun e w' => e = .returned (.int .i64 4) ∧ w' = z := fun z => by
    have h := pAround_any (-1) 5 z (by decide) (by decide) (by decide)
    rw [show aroundZ (-1) 5 = 4 by decide] at h
    exact h
  have HA := Lib.hid ha
  have K1 := Lib.hid k1
  have K2 := Lib.hid k2
  have K3 := Lib.hid k3
  have B0 := Lib.hid b0
  clear k1 k2 k3 b0 r1 hs ha hsz
  rw [← HA.out] at K1 B0
  go_enter Try.func6, Try.ntmps6
  go_wp2_with (first
    | (go_at_call 7; (with_reducible refine K1.out.mono ?_); rintro e w1 ⟨v1, rfl, o1, b1⟩; have O1 := Lib.hid o1; have B1 := Lib.hid (bthen B0.out b1); clear o1 b1)
    | (go_at_call 8; (with_reducible refine (K2.out _ _ _ O1.out).mono ?_); rintro e w2 ⟨rfl, b2⟩; have B2 := Lib.hid (bthen (B1.out.alloc B1.out.size _) b2); clear b2)
    | (go_at_call 10; (with_reducible refine (K3.out _).mono ?_); rintro e w3 ⟨rfl, rfl⟩))
  go_ret
  exact ⟨rfl, B2.out⟩
end Go.Proofs.Yticbnanfijkodaa
