/-
  Layer 21: the document's answer: swap, Alike. Conditions: lists that can be read, at most 1000000 numbers.
-/
import Derived.Test.YticbnanfijkodaaShufR
import Derived.Test.YticbnanfijkodaaShufB
namespace Go.Proofs.Yticbnanfijkodaa
open Go.ChangeShapes Go.WideShapes Go.ChangeAt Go.RowKit
set_option linter.unusedVariables false
set_option linter.unusedSimpArgs false
set_option maxRecDepth 20000
set_option maxHeartbeats 3200000
theorem own_none {w : World} {base : Nat} {T : TypeId} (h : base ≤ w.heap.size) : (w.alloc (.cells #[] T)).ownsRow base T 1 (.slice (some ⟨w.heap.size, 0, none⟩) 0 0) 0 [] :=
  ⟨rfl, .inr ⟨w.heap.size, 0, #[], rfl, h, heap_alloc_new w _, Nat.le_refl _, by unfold maxLen; omega, rfl, rfl⟩⟩
theorem ints_one (x : List Int) : ∀ u ∈ ints x, u.oneCell' = true := by
  intro u hu
  obtain ⟨y, _, rfl⟩ := List.mem_map.1 hu
  rfl
theorem lit_news {w : World} {g off : Nat} {x : List Int} (h : ∀ j, j < x.length → w.cell? ⟨g, off + j, none⟩ = some (.int .i64 (x.getD j 0))) : ∀ j u, (ints x)[j]? = some u → w.cell? ((⟨g, off, none⟩ : Addr).add j) = some u := by
  intro j u hu
  obtain ⟨hj, e⟩ := List.getElem?_eq_some_iff.1 hu
  have hj' : j < x.length := by simpa [ints] using hj
  rw [Addr.add_lit, h j hj', ← e]
  simp [ints, hj']
/-- A row of the call's own that is not empty: where it lies. -/
theorem own_some {w : World} {base n : Nat} {T : TypeId} {v : Value} {xs : List Value} (h : w.ownsRow base T 1 v n xs) (h0 : 0 < n) : ∃ g c, v = .slice (some ⟨g, 0, none⟩) n c ∧ base ≤ g ∧ g < w.heap.size := by
  rcases h.2 with ⟨_, e⟩ | ⟨g, c, cur, rfl, hb, hw, _⟩
  · omega
  · exact ⟨g, c, rfl, hb, (show Whole w g T cur from hw).inside⟩
theorem rSwap_any (x : List Int) (n c a b : Nat) (A : Option Addr) (w : World) (hx : Reads w A (ints x)) (hn : x.length = n) (hl : n ≤ 1000000) (ha : a < n) (hb : b < n) :
    Calls Try.prog 18 #[.slice A n c, .int .i64 a, .int .i64 b] w fun e w' => ∃ v, e = .returned v ∧ w'.ownsRow w.heap.size 3 1 v n (ints (swp x a b)) ∧ Below w.heap.size w w' := by
  obtain ⟨g0, off, rfl, hg, hc⟩ := reads_lit hx (by omega)
  obtain ⟨i0, hi, hz0, hz1, hz2⟩ := info_parts info_int3
  have HI := Lib.hid hi
  have c1 := hc b (by omega)
  have c2 := hc a (by omega)
  have key : ∀ w1 : World, ∀ g c', w1.ownsRow w.heap.size 3 1 (.slice (some ⟨g, 0, none⟩) n c') n (ints x) → Below w.heap.size w w1 → w.heap.size ≤ g →
      w1.cell? ⟨g0, off + b, none⟩ = some (.int .i64 (x.getD b 0)) ∧ w1.cell? ⟨g, a, none⟩ = some (.int .i64 (x.getD a 0)) ∧ w1.frozen? ⟨g, a, none⟩ = false ∧
      (w1.setCell ⟨g, a, none⟩ (.int .i64 (x.getD b 0))).cell? ⟨g0, off + a, none⟩ = some (.int .i64 (x.getD a 0)) ∧
      (w1.setCell ⟨g, a, none⟩ (.int .i64 (x.getD b 0))).cell? ⟨g, b, none⟩ = some (.int .i64 (x.getD b 0)) ∧ (w1.setCell ⟨g, a, none⟩ (.int .i64 (x.getD b 0))).frozen? ⟨g, b, none⟩ = false ∧
      ((w1.setCell ⟨g, a, none⟩ (.int .i64 (x.getD b 0))).setCell ⟨g, b, none⟩ (.int .i64 (x.getD a 0))).ownsRow w.heap.size 3 1 (.slice (some ⟨g, 0, none⟩) n c') n (ints (swp x a b)) ∧
      Below w.heap.size w ((w1.setCell ⟨g, a, none⟩ (.int .i64 (x.getD b 0))).setCell ⟨g, b, none⟩ (.int .i64 (x.getD a 0))) := by
    intro w1 g c' h hB hgb
    have q1 := own_at h ha
    have h2 := own_write h ha (.int .i64 (x.getD b 0))
    rw [ints_set] at h2
    have q2 := own_at h2 hb
    have h3 := own_write h2 hb (.int .i64 (x.getD a 0))
    rw [ints_set] at h3
    have e2 : (x.set a (x.getD b 0)).getD b 0 = x.getD b 0 := by
      rw [List.getD_eq_getElem?_getD, List.getElem?_set]
      by_cases e : a = b
      · subst e
        have : a < x.length := by omega
        simp [this]
      · simp [e]
    rw [e2] at q2
    have hne : g ≠ g0 := by omega
    have b1 : Below w.heap.size w (w1.setCell ⟨g, a, none⟩ (.int .i64 (x.getD b 0))) := hB.setCell hgb _
    refine ⟨by rw [hB.cell hg]; exact c1, q1.1, q1.2, by rw [b1.cell hg]; exact c2, q2.1, q2.2, h3, b1.setCell hgb _⟩
  obtain ⟨xa, hxa⟩ : ∃ v, x.getD a 0 = v := ⟨_, rfl⟩
  obtain ⟨xb, hxb⟩ : ∃ v, x.getD b 0 = v := ⟨_, rfl⟩
  simp only [hxa, hxb] at key
  have HK := Lib.hid key
  have HL : Hid ((ints x).length = n * 1) := Lib.hid (by simp [ints, hn])
  have HC2 : Hid (∀ j, j < x.length → (w.alloc (.cells #[] 3)).cell? ⟨g0, off + j, none⟩ = some (.int .i64 (x.getD j 0))) := Lib.hid (fun j hj => by rw [World.cell?_alloc_old _ _ _ (Nat.ne_of_lt hg)]; exact hc j hj)
  clear key c1 c2 hc hx hxa hxb hn
  have ia : (a : Int) < (n : Int) := by omega
  have ib : (b : Int) < (n : Int) := by omega
  have ia0 : (0 : Int) ≤ (a : Int) := by omega
  have ib0 : (0 : Int) ≤ (b : Int) := by omega
  go_enter Try.func18, Try.ntmps18
  go_wp2_with (first
    | (at_builtin; ((refine wpList_append_own_at _ rfl (.tmp 8) (.tmp 9) 22 rfl w.heap.size 3 i0 _ 1 8 und_ints3 HI.out hz0 hz1 hz2 rfl (by decide) _ 0 [] rfl (own_none (Nat.le_refl _)) ⟨g0, off, none⟩ n c (ints x) rfl HL.out (lit_news HC2.out) (ints_one x) (by unfold maxLen; omega) (by omega) (by simp) ?_); (intro v1 w1 o1 g1 _ _); have o2 : w1.ownsRow w.heap.size 3 1 v1 n (ints x) := (by simpa using o1); have B1 := ((Keeps.refl (fun k => w.heap.size ≤ k) w).alloc _).grown g1 (fun k hk => by injection hk with hk; exact Nat.le_of_eq hk) |>.below (Nat.le_refl _) (fun k h => h); obtain ⟨g, c', rfl, hgb, hgl⟩ := own_some o2 (by omega); obtain ⟨k1, k2, k3, k4, k5, k6, k7, k8⟩ := HK.out w1 g c' o2 B1 hgb; have K7 := Lib.hid k7; have K8 := Lib.hid k8; clear o1 g1 o2 B1 k7 k8)))
  go_ret
  exact ⟨_, rfl, K7.out, K8.out⟩
end Go.Proofs.Yticbnanfijkodaa
