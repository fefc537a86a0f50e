/-
  An argument []int. No conditions.
-/
import Derived.Test.YticbnanfijkodaaSame
import Derived.Laws.BytesArg
namespace Go.Proofs.Yticbnanfijkodaa
open Go.ChangeShapes Go.WideShapes Go.ChangeAt Go.RowKit
theorem isRow_reads {w : World} {a : Option Addr} {len cap : Nat} {z : List Int} (h : IsRow .i64 w a len cap z) : Reads w a (ints (z.take len)) ∧ (z.take len).length = len ∧ ∀ n ∈ z.take len, -9223372036854775808 ≤ n ∧ n ≤ 9223372036854775807 := by
  rcases h with ⟨rfl, rfl, rfl, rfl⟩ | ⟨x, rfl, h1, h2, h3, h4, h5⟩
  · exact ⟨.inl rfl, rfl, fun n hn => by simp at hn⟩
  · have hl : (z.take len).length = len := by rw [List.length_take]; omega
    refine ⟨?_, hl, fun n hn => bounds_i64 (h5 n (List.mem_of_mem_take hn))⟩
    by_cases h0 : len = 0
    · exact .inl (by rw [h0]; rfl)
    · have hg : ∀ j, j < len → w.cell? (x.add j) = (ints (z.take len))[j]? := by
        intro j hj
        have hz : j < z.length := by omega
        rw [h4 j hz]
        unfold ints
        rw [List.getElem?_map, List.getElem?_take_of_lt hj, List.getElem?_eq_getElem hz, List.getD, List.getElem?_eq_getElem hz]
        rfl
      refine .inr ⟨x, rfl, ?_, fun j hj => hg j (by rw [ints, List.length_map, hl] at hj; exact hj)⟩
      have h := h4 0 (by omega)
      have hb : (x.add 0).block = x.block := rfl
      apply Nat.lt_of_not_le
      intro c
      rw [Addr.add_zero'] at h
      have hn : w.heap[x.block]? = none := Array.getElem?_eq_none c
      unfold World.cell? at h
      rw [hn] at h
      simp at h
end Go.Proofs.Yticbnanfijkodaa
