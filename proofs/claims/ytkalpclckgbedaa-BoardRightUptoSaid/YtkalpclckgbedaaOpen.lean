/-
  What comes in as an array: its parts, each as it is read. No program, no conditions.
-/
import Derived.Test.YtkalpclckgbedaaRows
import Derived.WalkKit
import Derived.OpenShut
import Derived.ShutString
import Derived.Deep.Slices
import Derived.ProofKit
import Derived.ChangeOld
import Derived.WideShapes
namespace Go.Proofs.Ytkalpclckgbedaa
open Go Go.ChangeShapes Go.WideShapes Go.ChangeAt Go.RowKit Go.Deep
theorem mapM_each {α β : Type} {f : α → Option β} : ∀ {l : List α} {ys : List β}, l.mapM f = some ys → ∀ a ∈ l, ∃ y, f a = some y
  | [], _, _, a, ha => by cases ha
  | x :: l, ys, h, a, ha => by
    rw [List.mapM_cons] at h
    simp only [bind, Option.bind_eq_some_iff, pure, Option.some.injEq] at h
    obtain ⟨y, hy, zs, hz, _⟩ := h
    rcases List.mem_cons.1 ha with rfl | ha
    · exact ⟨y, hy⟩
    · exact mapM_each hz a ha
section
variable {H : Type} {enc : TypeId × Value → H} {P : Program} {w : World} {base : Nat} {spare : Nat → Bool} {held : Bool}
theorem trod_array {n : Nat} {e t : TypeId} {fuel : Nat} {cs : List Value} {x : DataW H × List MemPlace} (ht : P.underlying t = some (.array n e)) (h : DataW.trod enc P w base spare held fuel t cs = some x) :
    cs.length = P.cellsOf t ∧ ∃ m, ∀ i, i < n → ∃ y, DataW.trod enc P w base spare held m e ((cs.drop (i * P.cellsOf e)).take (P.cellsOf e)) = some y := by
  cases fuel with
  | zero => simp [DataW.trod] at h
  | succ m =>
    rw [DataW.trod_step] at h
    unfold DataW.trodStep at h
    rw [ht] at h
    simp only at h
    split at h
    · rename_i hl
      rw [Option.map_eq_some_iff] at h
      obtain ⟨ys, hy, _⟩ := h
      exact ⟨hl, m, fun i hi => mapM_each hy i (List.mem_range.2 hi)⟩
    · cases h
theorem okWide_array {W : World} {n : Nat} {e t : TypeId} {r : Reach} {b0 : Nat} {v : Value} (ht : P.underlying t = some (.array n e)) (h : Value.okWide P W r b0 t v) : ∃ xs : Array Value, v = .agg xs ∧ xs.size = P.cellsOf t := by
  simp only [Value.okWide, ht] at h
  obtain ⟨cs, h1, h2, _⟩ := h
  exact ⟨cs, h1, h2⟩
/-- Two strings. -/
theorem open_str2 {W : World} {e t : TypeId} {r : Reach} {b0 : Nat} {v : Value} {d : DataW H} {p : List MemPlace} (ht : P.underlying t = some (.array 2 e)) (he : P.underlying e = some .string) (hc : P.cellsOf e = 1) (hC : P.cellsOf t = 2)
    (h : Value.okWide P W r b0 t v) (hd : DataW.Trod enc P w base spare held t v d p) : ∃ a b : ByteArray, v = .agg #[.string a, .string b] ∧ a.size ≤ maxLen ∧ b.size ≤ maxLen := by
  obtain ⟨xs, rfl, hx⟩ := okWide_array ht h
  obtain ⟨fuel, hf⟩ := hd
  obtain ⟨hl, m, he2⟩ := trod_array ht hf
  obtain ⟨y0, h0⟩ := he2 0 (by omega)
  obtain ⟨y1, h1⟩ := he2 1 (by omega)
  rw [hc] at h0 h1
  obtain ⟨a, ha, _, ka⟩ := DataW.trod_string he h0
  obtain ⟨b, hb, _, kb⟩ := DataW.trod_string he h1
  refine ⟨a, b, ?_, ka, kb⟩
  have hlen : xs.size = 2 := by omega
  congr 1
  apply Array.ext'
  simp only [Value.cells] at ha hb
  have e0 : xs.toList = (xs.toList.drop (0 * 1)).take 1 ++ (xs.toList.drop (1 * 1)).take 1 := by
    have h2 : xs.toList.length = 2 := by simpa using hlen
    match xs.toList, h2 with
    | [p, q], _ => rfl
  rw [e0, ha, hb]
  rfl
end
end Go.Proofs.Ytkalpclckgbedaa
