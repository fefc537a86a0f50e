/-
  The function that the sort is handed, and what it leaves of the world. No statement.
-/
import Derived.Test.YtjioemjgndnofaaNamesCmp
import Derived.Test.YtjioemjgndnofaaReads
import Derived.Below
import Derived.Outline
namespace Go.Proofs.Ytjioemjgndnofaa
open Go Go.RowKit Go.Lib Go.Sort
set_option linter.unusedVariables false
/-- Some draws on, some blocks more. -/
def Grown (W w : World) : Prop := ∃ q os, w = grow (W.drewN q) os
theorem Grown.refl (W : World) : Grown W W := ⟨0, #[], by rw [grow_empty]; rfl⟩
theorem Grown.drew {W w : World} (h : Grown W w) : Grown W w.drew := by
  obtain ⟨q, os, rfl⟩ := h
  exact ⟨q + 1, os, rfl⟩
theorem Grown.alloc {W w : World} (h : Grown W w) (o : Obj) : Grown W (w.alloc o) := by
  obtain ⟨q, os, rfl⟩ := h
  exact ⟨q, os.push o, by unfold World.alloc grow; simp⟩
theorem add_lt {x : Addr} {n : Nat} (h : x.block < n) (i : Nat) : (x.add i).block < n := by unfold Addr.add; split <;> exact h
theorem kept3 {W : World} {p : Addr} {v : Value} {o : Obj} (h : p.block < W.heap.size) (hc : W.cell? p = some v) : (W.alloc o).drew.cell? p = some v :=
  (((Below.refl W.heap.size W).alloc (Nat.le_refl _) o).cell (p := p) h).trans hc
theorem new0 (W : World) (a b : Value) (t : TypeId) : (W.alloc (.cells #[a, b] t)).drew.cell? ⟨W.heap.size, 0, none⟩ = some a := by simp
theorem new1 (W : World) (a b : Value) (t : TypeId) : (W.alloc (.cells #[a, b] t)).drew.cell? ⟨W.heap.size, 1, none⟩ = some b := by simp
def cmpP (a b : ByteArray) (i j : Nat) : Int := if Lib.compareBytes a.toList b.toList = 0 then Lib.compareInt i j else Lib.compareBytes a.toList b.toList
set_option maxHeartbeats 2000000 in
theorem closure_any (c : Nat) (x : Addr) (n cap : Nat) (a b : ByteArray) (i j : Nat) (W : World) (hi : i < n) (hj : j < n) (hx : x.block < W.heap.size) (hcb : c < W.heap.size) (hn : n ≤ maxLen)
    (hc : W.cell? ⟨c, 0, none⟩ = some (.slice (some x) n cap)) (hli : W.cell? (x.add i) = some (.string a)) (hlj : W.cell? (x.add j) = some (.string b)) :
    Calls Try.prog 21 #[.int .i64 i, .int .i64 j, .pointer (some ⟨c, 0, none⟩)] W fun e w' => e = .returned (.int .i64 (cmpP a b i j)) ∧ Grown W w' := by
  unfold cmpP maxLen at *
  obtain ⟨r, hr⟩ : ∃ r, Lib.compareBytes a.toList b.toList = r := ⟨_, rfl⟩
  obtain ⟨u, hu⟩ : ∃ u, Lib.compareInt i j = u := ⟨_, rfl⟩
  have k1 := fun w => sCompare_any a b w
  have k2 := fun w => cCompare_any i j w
  rw [hr] at k1 ⊢
  rw [hu] at k2 ⊢
  have k3 := fun g w h0 h1 => cOr_any g r u w h0 h1
  obtain ⟨v, hv⟩ : ∃ v, (if r = 0 then u else r) = v := ⟨_, rfl⟩
  simp only [hv] at k3 ⊢
  clear hr hu hv
  go_enter Try.func21, Try.ntmps21
  go_wp2_with fail
  go_region_held3 (fun w => w.cell? ⟨c, 0, none⟩ = some (.slice (some x) n cap) ∧ w.cell? (x.add i) = some (.string a) ∧ w.cell? (x.add j) = some (.string b) ∧ Grown W w) (first
    | exact ⟨hc, hli, hlj, Grown.refl _⟩
    | exact ⟨hc, hli, hlj, Grown.drew (Grown.refl _)⟩
    | exact ⟨kept3 hcb hc, kept3 (add_lt hx i) hli, kept3 (add_lt hx j) hlj, Grown.drew (Grown.alloc (Grown.refl _) _)⟩) (first
    | (go_at_call 23; (with_reducible refine (k1 _).mono ?_); rintro e w1 ⟨rfl, rfl⟩)
    | (go_at_call 24; (with_reducible refine (k2 _).mono ?_); rintro e w1 ⟨rfl, rfl⟩)
    | (go_at_call 22; (with_reducible refine (k3 _ _ (new0 _ _ _ _) (new1 _ _ _ _)).mono ?_); rintro e w1 ⟨rfl, rfl⟩))
  go_wp2
  go_ret
  exact ⟨rfl, Grown.drew (Grown.alloc (Grown.refl _) _)⟩
end Go.Proofs.Ytjioemjgndnofaa
