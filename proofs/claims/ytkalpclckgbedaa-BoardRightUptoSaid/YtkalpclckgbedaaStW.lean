/-
  What the laws of layer 22 ask for: arguments that come in, the bound on the number of cards. No conditions.
-/
import Derived.Test.YtkalpclckgbedaaStB
import Derived.Test.YtkalpclckgbedaaStCount
import Derived.Test.YtkalpclckgbedaaStSpoil
import Derived.Test.YtkalpclckgbedaaBrdJ
import Derived.BigFrame
namespace Go.Proofs.Ytkalpclckgbedaa
open Go.ChangeShapes Go.WideShapes Go.ChangeAt Go.RowKit Go.Deep
set_option linter.unusedVariables false
set_option linter.unusedSimpArgs false
set_option maxRecDepth 20000
theorem bulk_first {H : Type} {d : DataW H} {l g : List (DataW H)} (h : Rows.uptoSmall H ((d :: l) ++ g) = true) : Rows.uptoBulk d ≤ 1048576 := by
  have h2 := of_decide_eq_true h
  rw [List.cons_append] at h2
  simp only [Rows.uptoBulkAll] at h2
  omega
theorem pil_le {L : Nat → List Ins} {N : Nat} (h : ∀ q, q < 12 → (L q).length ≤ N) : (pilesL L 2).length ≤ 12 * N := by
  have h0 := h 0 (by omega); have h1 := h 1 (by omega); have h2 := h 2 (by omega); have h3 := h 3 (by omega); have h4 := h 4 (by omega); have h5 := h 5 (by omega)
  have h6 := h 6 (by omega); have h7 := h 7 (by omega); have h8 := h 8 (by omega); have h9 := h 9 (by omega); have h10 := h 10 (by omega); have h11 := h 11 (by omega)
  simp only [pilesL, mineL, handL, sideL, List.length_append, List.length_nil, Nat.reduceMul, Nat.reduceAdd]
  omega
theorem pil_ge {L : Nat → List Ins} {q : Nat} (hq : q < 12) : (L q).length ≤ (pilesL L 2).length := by
  simp only [pilesL, mineL, handL, sideL, List.length_append, List.length_nil, Nat.reduceMul, Nat.reduceAdd]
  match q, hq with
  | 0, _ => omega
  | 1, _ => omega
  | 2, _ => omega
  | 3, _ => omega
  | 4, _ => omega
  | 5, _ => omega
  | 6, _ => omega
  | 7, _ => omega
  | 8, _ => omega
  | 9, _ => omega
  | 10, _ => omega
  | 11, _ => omega
theorem put_new {w w' : World} {T : TypeId} {old : Array Value} {vs : List Value} (h : Put (w.alloc (.cells old T)) w' w.heap.size T vs) : Below w.heap.size w w' :=
  ((Below.refl _ _).alloc (Nat.le_refl _) _).trans (h.keeps.below (by simp) (fun k h => by have h3 : k = w.heap.size := h; omega))
theorem wpList_loadWG {P : Program} {ops : Array Oper} {rest : List Oper} {o : Oper} {a : Act} {w : World} {Q : Exit → Act → World → Prop} (T : TypeId) (x : Operand) (t : TypeId) (g : Nat) (vs : List Value) (hW : Whole w g t vs.toArray)
    (hu : (P.underlying T).map TypeDesc.isRow = some true) (hi : (P.info? T).map (·.size) = some vs.length)
    (hgd : Region.wanted o (yielded ops a.tmps) = true) (ho : o.op = .load T x) (hx : a.eval x = .pointer (some ⟨g, 0, none⟩))
    (h : wpList P ops Q rest (a.put o.dst (.agg vs.toArray)) w) : wpList P ops Q (o :: rest) a w := by
  obtain ⟨d, hu, hr⟩ := Option.map_eq_some_iff.1 hu
  exact BigFrame.wpList_want hgd fun K hK => wp_load_mid T x ho g 0 hx vs d (whole_range0 hW) hu hr hi (hK _ _ h)
theorem rows_below {w w' : World} {r : Nat → Value} {L : Nat → List Ins} (h : Rows12 w r L) (hb : Below w.heap.size w w') : Rows12 w' r L := fun q hq => (h q hq).below hb
theorem rows_own {w : World} {B : Nat} {r : Nat → Value} {L : Nat → List Ins} (h : ∀ q, q < 12 → OwnI w B (r q) (L q)) : Rows12 w r L := fun q hq => (h q hq).row
section
variable {H : Type} {enc : TypeId × Value → H} {w : World} {base : Nat} {spare : Nat → Bool} {held : Bool}
theorem open_int2 {P : Program} {e t : TypeId} {r : Reach} {b0 : Nat} {v : Value} {d : DataW H} {p : List MemPlace} (ht : P.underlying t = some (.array 2 e)) (he : P.underlying e = some (.int .i64)) (hc : P.cellsOf e = 1) (hC : P.cellsOf t = 2)
    (h : Value.okWide P w r b0 t v) (hd : DataW.Trod enc P w base spare held t v d p) : ∃ a b : Int, v = .agg #[.int .i64 a, .int .i64 b] ∧ I64 a ∧ I64 b := by
  obtain ⟨xs, rfl, hx⟩ := okWide_array ht h
  obtain ⟨fuel, hf⟩ := hd
  obtain ⟨hl, m, he2⟩ := trod_array ht hf
  obtain ⟨y0, h0⟩ := he2 0 (by omega)
  obtain ⟨y1, h1⟩ := he2 1 (by omega)
  rw [hc] at h0 h1
  obtain ⟨a, ha, _, ka⟩ := DataW.trod_int he h0
  obtain ⟨b, hb, _, kb⟩ := DataW.trod_int he h1
  refine ⟨a, b, ?_, i64_of ka, i64_of kb⟩
  have hlen : xs.size = 2 := by omega
  congr 1
  apply Array.ext'
  simp only [Value.cells] at ha hb
  have e0 : xs.toList = (xs.toList.drop (0 * 1)).take 1 ++ (xs.toList.drop (1 * 1)).take 1 := by
    have h2 : xs.toList.length = 2 := by simpa using hlen
    match xs.toList, h2 with
    | [p, q], _ => rfl
  rw [e0, ha, hb]
  rfl
theorem open_inst {r : Reach} {b0 : Nat} {v : Value} {d : DataW H} {p : List MemPlace} (h : Value.okWide Try.prog w r b0 50 v) (hd : DataW.Trod enc Try.prog w base spare held 50 v d p) : ∃ x : Ins, v = .agg x.cells.toArray ∧ x.wf := by
  obtain ⟨cs, rfl, hsz⟩ := okWide_struct Try.underlying50 h
  obtain ⟨fuel, hf⟩ := hd
  obtain ⟨x, hx, hw⟩ := open_ins hf
  simp only [Value.cells] at hx
  exact ⟨x, by rw [← hx], hw⟩
end
end Go.Proofs.Ytkalpclckgbedaa
