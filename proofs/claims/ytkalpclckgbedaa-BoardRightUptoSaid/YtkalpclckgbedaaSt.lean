/-
  A game's state in memory: cards in rows, thirty cells; what comes in as a state. No conditions.
-/
import Derived.Test.YtkalpclckgbedaaOpen
import Derived.Test.YtkalpclckgbedaaReads
import Derived.Test.YtkalpclckgbedaaBase
namespace Go.Proofs.Ytkalpclckgbedaa
open Go.ChangeShapes Go.WideShapes Go.ChangeAt Go.RowKit Go.Deep
set_option linter.unusedVariables false
set_option linter.unusedSimpArgs false
set_option maxRecDepth 20000
set_option maxHeartbeats 1600000
/-- A card in the game. -/
structure Ins where
  id : Int
  card : Int
  name : ByteArray
  cost : Int
  power : Int
  plus : Int
  owner : Int
instance : Inhabited Ins := ⟨⟨0, 0, ByteArray.empty, 0, 0, 0, 0⟩⟩
def Ins.cells (x : Ins) : List Value := [.int .i64 x.id, .int .i64 x.card, .string x.name, .int .i64 x.cost, .int .i64 x.power, .int .i64 x.plus, .int .i64 x.owner]
def I64 (n : Int) : Prop := -9223372036854775808 ≤ n ∧ n ≤ 9223372036854775807
def Ins.wf (x : Ins) : Prop := I64 x.id ∧ I64 x.card ∧ x.name.size ≤ maxLen ∧ I64 x.cost ∧ I64 x.power ∧ I64 x.plus ∧ I64 x.owner
def insC (l : List Ins) : List Value := l.flatMap Ins.cells
theorem insC_len (l : List Ins) : (insC l).length = l.length * 7 := by
  induction l with
  | nil => rfl
  | cons x l ih => unfold insC at *; rw [List.flatMap_cons, List.length_append, ih]; simp [Ins.cells]; omega
theorem insC_at (l : List Ins) (i : Nat) (h : i < l.length) (j : Nat) (hj : j < 7) : (insC l)[i * 7 + j]? = (l[i]).cells[j]? := by
  induction l generalizing i with
  | nil => simp at h
  | cons x l ih =>
    unfold insC at *
    rw [List.flatMap_cons]
    cases i with
    | zero => rw [List.getElem?_append_left (by simp [Ins.cells]; omega)]; simp
    | succ i =>
      rw [List.getElem?_append_right (by simp [Ins.cells]; omega)]
      have e : (i + 1) * 7 + j - x.cells.length = i * 7 + j := by simp [Ins.cells]; omega
      rw [e, ih i (by simpa using h)]
      simp
/-- The slice v reads as the cards l. -/
def RowR (w : World) (v : Value) (l : List Ins) : Prop := ∃ A c, v = .slice A l.length c ∧ Reads w A (insC l) ∧ l.length ≤ c ∧ (A = none → c = 0) ∧ l.length ≤ maxLen
theorem RowR.below {w w' : World} {v : Value} {l : List Ins} (h : RowR w v l) (hb : Below w.heap.size w w') : RowR w' v l := by
  obtain ⟨A, c, h1, h2, h3⟩ := h
  exact ⟨A, c, h1, h2.below hb, h3⟩
theorem i64_of {n : Int} (h : (Lit.int .i64 n).wf = true) : I64 n := bounds_i64 h
section
variable {H : Type} {enc : TypeId × Value → H} {w : World} {base : Nat} {spare : Nat → Bool} {held : Bool}
theorem open_ins {fuel : Nat} {cs : List Value} {x : DataW H × List MemPlace} (h : DataW.trod enc Try.prog w base spare held fuel 50 cs = some x) : ∃ x : Ins, cs = x.cells ∧ x.wf := by
  obtain ⟨xs, n', _, _, hlen, hxl, hfld⟩ := DataW.trod_struct Try.underlying50 h
  have e5 : xs.length = 7 := hxl
  rw [show Try.prog.cellsOf 50 = 7 by kernel_rfl] at hlen
  match cs, hlen with
  | [v0, v1, v2, v3, v4, v5, v6], _ =>
    have f0 := (hfld 0 _ rfl).trans (List.getElem?_eq_getElem (by omega : 0 < xs.length))
    change DataW.trod enc Try.prog w base spare held n' 3 (List.take (Try.prog.cellsOf 3) (List.drop 0 _)) = _ at f0
    rw [show Try.prog.cellsOf 3 = 1 by kernel_rfl] at f0
    simp only [List.drop_zero, List.drop_succ_cons, List.take_succ_cons, List.take_zero] at f0
    obtain ⟨a0, q0, _, w0⟩ := DataW.trod_int Try.underlying3 f0
    obtain rfl : v0 = .int .i64 a0 := by injection q0
    have f1 := (hfld 1 _ rfl).trans (List.getElem?_eq_getElem (by omega : 1 < xs.length))
    change DataW.trod enc Try.prog w base spare held n' 3 (List.take (Try.prog.cellsOf 3) (List.drop 1 _)) = _ at f1
    rw [show Try.prog.cellsOf 3 = 1 by kernel_rfl] at f1
    simp only [List.drop_zero, List.drop_succ_cons, List.take_succ_cons, List.take_zero] at f1
    obtain ⟨a1, q1, _, w1⟩ := DataW.trod_int Try.underlying3 f1
    obtain rfl : v1 = .int .i64 a1 := by injection q1
    have f2 := (hfld 2 _ rfl).trans (List.getElem?_eq_getElem (by omega : 2 < xs.length))
    change DataW.trod enc Try.prog w base spare held n' 9 (List.take (Try.prog.cellsOf 9) (List.drop 2 _)) = _ at f2
    rw [show Try.prog.cellsOf 9 = 1 by kernel_rfl] at f2
    simp only [List.drop_zero, List.drop_succ_cons, List.take_succ_cons, List.take_zero] at f2
    obtain ⟨a2, q2, _, w2⟩ := DataW.trod_string Try.underlying9 f2
    obtain rfl : v2 = .string a2 := by injection q2
    have f3 := (hfld 3 _ rfl).trans (List.getElem?_eq_getElem (by omega : 3 < xs.length))
    change DataW.trod enc Try.prog w base spare held n' 3 (List.take (Try.prog.cellsOf 3) (List.drop 3 _)) = _ at f3
    rw [show Try.prog.cellsOf 3 = 1 by kernel_rfl] at f3
    simp only [List.drop_zero, List.drop_succ_cons, List.take_succ_cons, List.take_zero] at f3
    obtain ⟨a3, q3, _, w3⟩ := DataW.trod_int Try.underlying3 f3
    obtain rfl : v3 = .int .i64 a3 := by injection q3
    have f4 := (hfld 4 _ rfl).trans (List.getElem?_eq_getElem (by omega : 4 < xs.length))
    change DataW.trod enc Try.prog w base spare held n' 3 (List.take (Try.prog.cellsOf 3) (List.drop 4 _)) = _ at f4
    rw [show Try.prog.cellsOf 3 = 1 by kernel_rfl] at f4
    simp only [List.drop_zero, List.drop_succ_cons, List.take_succ_cons, List.take_zero] at f4
    obtain ⟨a4, q4, _, w4⟩ := DataW.trod_int Try.underlying3 f4
    obtain rfl : v4 = .int .i64 a4 := by injection q4
    have f5 := (hfld 5 _ rfl).trans (List.getElem?_eq_getElem (by omega : 5 < xs.length))
    change DataW.trod enc Try.prog w base spare held n' 3 (List.take (Try.prog.cellsOf 3) (List.drop 5 _)) = _ at f5
    rw [show Try.prog.cellsOf 3 = 1 by kernel_rfl] at f5
    simp only [List.drop_zero, List.drop_succ_cons, List.take_succ_cons, List.take_zero] at f5
    obtain ⟨a5, q5, _, w5⟩ := DataW.trod_int Try.underlying3 f5
    obtain rfl : v5 = .int .i64 a5 := by injection q5
    have f6 := (hfld 6 _ rfl).trans (List.getElem?_eq_getElem (by omega : 6 < xs.length))
    change DataW.trod enc Try.prog w base spare held n' 3 (List.take (Try.prog.cellsOf 3) (List.drop 6 _)) = _ at f6
    rw [show Try.prog.cellsOf 3 = 1 by kernel_rfl] at f6
    simp only [List.drop_zero, List.drop_succ_cons, List.take_succ_cons, List.take_zero] at f6
    obtain ⟨a6, q6, _, w6⟩ := DataW.trod_int Try.underlying3 f6
    obtain rfl : v6 = .int .i64 a6 := by injection q6
    exact ⟨⟨a0, a1, a2, a3, a4, a5, a6⟩, rfl, i64_of w0, i64_of w1, w2, i64_of w3, i64_of w4, i64_of w5, i64_of w6⟩
theorem choose_ins {n : Nat} {p : Nat → Ins → Prop} (h : ∀ i, i < n → ∃ x, p i x) : ∃ l : List Ins, l.length = n ∧ ∀ i (hi : i < l.length), p i l[i] := by
  induction n with
  | zero => exact ⟨[], rfl, fun i hi => by simp at hi⟩
  | succ n ih =>
    obtain ⟨l, h1, h2⟩ := ih (fun i hi => h i (by omega))
    obtain ⟨x, hx⟩ := h n (by omega)
    refine ⟨l ++ [x], by simp [h1], fun i hi => ?_⟩
    rcases Nat.lt_or_ge i l.length with q | q
    · rw [List.getElem_append_left q]; exact h2 i q
    · have e : i = l.length := by simp at hi; omega
      subst e
      simp only [List.getElem_concat_length]
      rw [h1]
      exact hx
theorem open_row {fuel : Nat} {cs : List Value} {x : DataW H × List MemPlace} (h : DataW.trod enc Try.prog w base spare held fuel 22 cs = some x) : ∃ v l, cs = [v] ∧ RowR w v l ∧ ∀ x ∈ l, x.wf := by
  have c7 : Try.prog.cellsOf 50 = 7 := by kernel_rfl
  rcases open_slice Try.underlying22 h with ⟨hcs, _⟩ | ⟨a, len, cap, m, n, D, Pl, hcs, _, hl, hm, hmm, _, hx⟩
  · exact ⟨_, [], hcs, ⟨none, 0, rfl, .inl rfl, Nat.le_refl _, fun _ => rfl, Nat.zero_le _⟩, fun x hx => by cases hx⟩
  · obtain ⟨l, h1, h2⟩ := choose_ins (n := len) (p := fun i y => a.block < w.heap.size ∧ (∀ j, j < 7 → w.cell? (a.add (i * 7 + j)) = y.cells[j]?) ∧ y.wf) (by
      intro i hi
      obtain ⟨cs', q1, q2⟩ := hx i (by rw [hmm]; split <;> omega)
      rw [c7] at q1
      obtain ⟨_, hlen, hcell⟩ := World.cells?_some q1
      obtain ⟨y, rfl, hy⟩ := open_ins q2
      have e : ∀ j, (a.add (i * 7)).add j = a.add (i * 7 + j) := fun j => by unfold Addr.add; split <;> (try split) <;> simp_all <;> omega
      refine ⟨y, ?_, fun j hj => ?_, hy⟩
      · have := World.block_lt_of_cell? w ((a.add (i * 7)).add 0) (hcell 0 (by omega))
        unfold Addr.add at this
        split at this <;> (try split at this) <;> exact this
      · rw [← e]; exact hcell j hj)
    refine ⟨_, l, hcs, ⟨some a, cap, by rw [h1], ?_, by omega, (fun e => by cases e), by omega⟩, fun x hx => ?_⟩
    · by_cases h0 : l.length = 0
      · exact .inl (by rw [List.length_eq_zero_iff.1 h0]; rfl)
      · refine .inr ⟨a, rfl, (h2 0 (by omega)).1, fun j hj => ?_⟩
        rw [insC_len] at hj
        have hj2 : j / 7 < l.length := by omega
        have e : j / 7 * 7 + j % 7 = j := by omega
        rw [← e, insC_at l (j / 7) hj2 (j % 7) (by omega)]
        exact (h2 (j / 7) hj2).2.1 (j % 7) (by omega)
    · obtain ⟨i, hi, rfl⟩ := List.mem_iff_getElem.1 hx
      exact (h2 i hi).2.2
theorem open_lane {fuel : Nat} {cs : List Value} {x : DataW H × List MemPlace} (h : DataW.trod enc Try.prog w base spare held fuel 25 cs = some x) : ∃ (p : Int) (o : Bool) (a b : Value) (k l : List Ins), cs = [.int .i64 p, .bool o, a, b] ∧ I64 p ∧ (RowR w a k ∧ ∀ x ∈ k, x.wf) ∧ (RowR w b l ∧ ∀ x ∈ l, x.wf) := by
  obtain ⟨xs, n', _, _, hlen, hxl, hfld⟩ := DataW.trod_struct Try.underlying25 h
  have e5 : xs.length = 3 := hxl
  rw [show Try.prog.cellsOf 25 = 4 by kernel_rfl] at hlen
  match cs, hlen with
  | [v0, v1, v2, v3], _ =>
    have f0 := (hfld 0 _ rfl).trans (List.getElem?_eq_getElem (by omega : 0 < xs.length))
    change DataW.trod enc Try.prog w base spare held n' 3 (List.take (Try.prog.cellsOf 3) (List.drop 0 _)) = _ at f0
    rw [show Try.prog.cellsOf 3 = 1 by kernel_rfl] at f0
    simp only [List.drop_zero, List.drop_succ_cons, List.take_succ_cons, List.take_zero] at f0
    obtain ⟨a0, q0, _, w0⟩ := DataW.trod_int Try.underlying3 f0
    obtain rfl : v0 = .int .i64 a0 := by injection q0
    have f1 := (hfld 1 _ rfl).trans (List.getElem?_eq_getElem (by omega : 1 < xs.length))
    change DataW.trod enc Try.prog w base spare held n' 4 (List.take (Try.prog.cellsOf 4) (List.drop 1 _)) = _ at f1
    rw [show Try.prog.cellsOf 4 = 1 by kernel_rfl] at f1
    simp only [List.drop_zero, List.drop_succ_cons, List.take_succ_cons, List.take_zero] at f1
    obtain ⟨a1, q1, _⟩ := DataW.trod_bool Try.underlying4 f1
    obtain rfl : v1 = .bool a1 := by injection q1
    have f2 := (hfld 2 _ rfl).trans (List.getElem?_eq_getElem (by omega : 2 < xs.length))
    change DataW.trod enc Try.prog w base spare held n' 23 (List.take (Try.prog.cellsOf 23) (List.drop 2 _)) = _ at f2
    rw [show Try.prog.cellsOf 23 = 2 by kernel_rfl] at f2
    simp only [List.drop_zero, List.drop_succ_cons, List.take_succ_cons, List.take_zero] at f2
    obtain ⟨_, m, hm⟩ := trod_array Try.underlying23 f2
    obtain ⟨y0, g0⟩ := hm 0 (by omega)
    obtain ⟨y1, g1⟩ := hm 1 (by omega)
    rw [show Try.prog.cellsOf 22 = 1 by kernel_rfl] at g0 g1
    obtain ⟨a, k, e0, r0⟩ := open_row g0
    obtain ⟨b, l, e1, r1⟩ := open_row g1
    simp only [Nat.zero_mul, Nat.one_mul, List.drop_zero, List.drop_succ_cons, List.take_succ_cons, List.take_zero, List.cons.injEq, and_true] at e0 e1
    subst e0 e1
    exact ⟨a0, a1, v2, v3, k, l, rfl, i64_of w0, r0, r1⟩
theorem open_player {fuel : Nat} {cs : List Value} {x : DataW H × List MemPlace} (h : DataW.trod enc Try.prog w base spare held fuel 28 cs = some x) : ∃ (a b c : Value) (j k l : List Ins) (e f : Int) (o : Bool), cs = [a, b, c, .int .i64 e, .int .i64 f, .bool o] ∧ I64 e ∧ I64 f ∧ (RowR w a j ∧ ∀ x ∈ j, x.wf) ∧ (RowR w b k ∧ ∀ x ∈ k, x.wf) ∧ (RowR w c l ∧ ∀ x ∈ l, x.wf) := by
  obtain ⟨xs, n', _, _, hlen, hxl, hfld⟩ := DataW.trod_struct Try.underlying28 h
  have e5 : xs.length = 6 := hxl
  rw [show Try.prog.cellsOf 28 = 6 by kernel_rfl] at hlen
  match cs, hlen with
  | [v0, v1, v2, v3, v4, v5], _ =>
    have f0 := (hfld 0 _ rfl).trans (List.getElem?_eq_getElem (by omega : 0 < xs.length))
    change DataW.trod enc Try.prog w base spare held n' 22 (List.take (Try.prog.cellsOf 22) (List.drop 0 _)) = _ at f0
    rw [show Try.prog.cellsOf 22 = 1 by kernel_rfl] at f0
    simp only [List.drop_zero, List.drop_succ_cons, List.take_succ_cons, List.take_zero] at f0
    have f1 := (hfld 1 _ rfl).trans (List.getElem?_eq_getElem (by omega : 1 < xs.length))
    change DataW.trod enc Try.prog w base spare held n' 22 (List.take (Try.prog.cellsOf 22) (List.drop 1 _)) = _ at f1
    rw [show Try.prog.cellsOf 22 = 1 by kernel_rfl] at f1
    simp only [List.drop_zero, List.drop_succ_cons, List.take_succ_cons, List.take_zero] at f1
    have f2 := (hfld 2 _ rfl).trans (List.getElem?_eq_getElem (by omega : 2 < xs.length))
    change DataW.trod enc Try.prog w base spare held n' 22 (List.take (Try.prog.cellsOf 22) (List.drop 2 _)) = _ at f2
    rw [show Try.prog.cellsOf 22 = 1 by kernel_rfl] at f2
    simp only [List.drop_zero, List.drop_succ_cons, List.take_succ_cons, List.take_zero] at f2
    have f3 := (hfld 3 _ rfl).trans (List.getElem?_eq_getElem (by omega : 3 < xs.length))
    change DataW.trod enc Try.prog w base spare held n' 3 (List.take (Try.prog.cellsOf 3) (List.drop 3 _)) = _ at f3
    rw [show Try.prog.cellsOf 3 = 1 by kernel_rfl] at f3
    simp only [List.drop_zero, List.drop_succ_cons, List.take_succ_cons, List.take_zero] at f3
    obtain ⟨a3, q3, _, w3⟩ := DataW.trod_int Try.underlying3 f3
    obtain rfl : v3 = .int .i64 a3 := by injection q3
    have f4 := (hfld 4 _ rfl).trans (List.getElem?_eq_getElem (by omega : 4 < xs.length))
    change DataW.trod enc Try.prog w base spare held n' 3 (List.take (Try.prog.cellsOf 3) (List.drop 4 _)) = _ at f4
    rw [show Try.prog.cellsOf 3 = 1 by kernel_rfl] at f4
    simp only [List.drop_zero, List.drop_succ_cons, List.take_succ_cons, List.take_zero] at f4
    obtain ⟨a4, q4, _, w4⟩ := DataW.trod_int Try.underlying3 f4
    obtain rfl : v4 = .int .i64 a4 := by injection q4
    have f5 := (hfld 5 _ rfl).trans (List.getElem?_eq_getElem (by omega : 5 < xs.length))
    change DataW.trod enc Try.prog w base spare held n' 4 (List.take (Try.prog.cellsOf 4) (List.drop 5 _)) = _ at f5
    rw [show Try.prog.cellsOf 4 = 1 by kernel_rfl] at f5
    simp only [List.drop_zero, List.drop_succ_cons, List.take_succ_cons, List.take_zero] at f5
    obtain ⟨a5, q5, _⟩ := DataW.trod_bool Try.underlying4 f5
    obtain rfl : v5 = .bool a5 := by injection q5
    obtain ⟨a, j, e0, r0⟩ := open_row f0
    obtain ⟨b, k, e1, r1⟩ := open_row f1
    obtain ⟨c, l, e2, r2⟩ := open_row f2
    simp only [List.cons.injEq, and_true] at e0 e1 e2
    subst e0 e1 e2
    exact ⟨v0, v1, v2, j, k, l, a3, a4, a5, rfl, i64_of w3, i64_of w4, r0, r1, r2⟩
theorem open_result {fuel : Nat} {cs : List Value} {x : DataW H × List MemPlace} (h : DataW.trod enc Try.prog w base spare held fuel 31 cs = some x) : ∃ a b c : Int, cs = [.int .i64 a, .int .i64 b, .int .i64 c] ∧ I64 a ∧ I64 b ∧ I64 c := by
  obtain ⟨xs, n', _, _, hlen, hxl, hfld⟩ := DataW.trod_struct Try.underlying31 h
  have e5 : xs.length = 3 := hxl
  rw [show Try.prog.cellsOf 31 = 3 by kernel_rfl] at hlen
  match cs, hlen with
  | [v0, v1, v2], _ =>
    have f0 := (hfld 0 _ rfl).trans (List.getElem?_eq_getElem (by omega : 0 < xs.length))
    change DataW.trod enc Try.prog w base spare held n' 3 (List.take (Try.prog.cellsOf 3) (List.drop 0 _)) = _ at f0
    rw [show Try.prog.cellsOf 3 = 1 by kernel_rfl] at f0
    simp only [List.drop_zero, List.drop_succ_cons, List.take_succ_cons, List.take_zero] at f0
    obtain ⟨a0, q0, _, w0⟩ := DataW.trod_int Try.underlying3 f0
    obtain rfl : v0 = .int .i64 a0 := by injection q0
    have f1 := (hfld 1 _ rfl).trans (List.getElem?_eq_getElem (by omega : 1 < xs.length))
    change DataW.trod enc Try.prog w base spare held n' 3 (List.take (Try.prog.cellsOf 3) (List.drop 1 _)) = _ at f1
    rw [show Try.prog.cellsOf 3 = 1 by kernel_rfl] at f1
    simp only [List.drop_zero, List.drop_succ_cons, List.take_succ_cons, List.take_zero] at f1
    obtain ⟨a1, q1, _, w1⟩ := DataW.trod_int Try.underlying3 f1
    obtain rfl : v1 = .int .i64 a1 := by injection q1
    have f2 := (hfld 2 _ rfl).trans (List.getElem?_eq_getElem (by omega : 2 < xs.length))
    change DataW.trod enc Try.prog w base spare held n' 3 (List.take (Try.prog.cellsOf 3) (List.drop 2 _)) = _ at f2
    rw [show Try.prog.cellsOf 3 = 1 by kernel_rfl] at f2
    simp only [List.drop_zero, List.drop_succ_cons, List.take_succ_cons, List.take_zero] at f2
    obtain ⟨a2, q2, _, w2⟩ := DataW.trod_int Try.underlying3 f2
    obtain rfl : v2 = .int .i64 a2 := by injection q2
    exact ⟨a0, a1, a2, rfl, i64_of w0, i64_of w1, i64_of w2⟩
end
/-- The numbers of a state. -/
structure Sc where
  round : Int
  stake : Int
  next : Int
  kind : Int
  winner : Int
  rstake : Int
  place : Nat → Int
  opn : Nat → Bool
  energy : Nat → Int
  bonus : Nat → Int
  raised : Nat → Bool
def Sc.wf (c : Sc) : Prop := I64 c.round ∧ I64 c.stake ∧ I64 c.next ∧ I64 c.kind ∧ I64 c.winner ∧ I64 c.rstake ∧ (∀ i, i < 3 → I64 (c.place i)) ∧ ∀ k, k < 2 → I64 (c.energy k) ∧ I64 (c.bonus k)
/-- The rows' places: 0 to 5 the lanes' sides, 6 to 11 the players' decks, hands and what is gone. -/
def stC (c : Sc) (r : Nat → Value) : List Value :=
  [.int .i64 c.round, .int .i64 (c.place 0), .bool (c.opn 0), r 0, r 1, .int .i64 (c.place 1), .bool (c.opn 1), r 2, r 3, .int .i64 (c.place 2), .bool (c.opn 2), r 4, r 5,
   r 6, r 7, r 8, .int .i64 (c.energy 0), .int .i64 (c.bonus 0), .bool (c.raised 0), r 9, r 10, r 11, .int .i64 (c.energy 1), .int .i64 (c.bonus 1), .bool (c.raised 1),
   .int .i64 c.stake, .int .i64 c.next, .int .i64 c.kind, .int .i64 c.winner, .int .i64 c.rstake]
def stV (c : Sc) (r : Nat → Value) : Value := .agg (stC c r).toArray
def Rows12 (w : World) (r : Nat → Value) (L : Nat → List Ins) : Prop := ∀ i, i < 12 → RowR w (r i) (L i)
def pick12 {α : Type} (d : α) (a0 a1 a2 a3 a4 a5 a6 a7 a8 a9 a10 a11 : α) (i : Nat) : α :=
  match i with | 0 => a0 | 1 => a1 | 2 => a2 | 3 => a3 | 4 => a4 | 5 => a5 | 6 => a6 | 7 => a7 | 8 => a8 | 9 => a9 | 10 => a10 | 11 => a11 | _ => d
def pick3 {α : Type} (a0 a1 a2 : α) (i : Nat) : α := match i with | 0 => a0 | 1 => a1 | _ => a2
theorem open_state {H : Type} {enc : TypeId × Value → H} {w : World} {base r0 : Nat} {spare : Nat → Bool} {held : Bool} {r : Reach} {v : Value} {d : DataW H} {p : List MemPlace} (ok : Value.okWide Try.prog w r r0 33 v)
    (hd : DataW.Trod enc Try.prog w base spare held 33 v d p) : ∃ c r L, v = stV c r ∧ c.wf ∧ Rows12 w r L ∧ ∀ i, i < 12 → ∀ x ∈ L i, x.wf := by
  obtain ⟨cs, rfl, hsz⟩ := okWide_struct Try.underlying33 ok
  rw [show Try.prog.cellsOf 33 = 30 by kernel_rfl] at hsz
  obtain ⟨fuel, h⟩ := hd
  obtain ⟨xs, n', _, _, _, hxl, hfld⟩ := DataW.trod_struct Try.underlying33 h
  have e5 : xs.length = 6 := hxl
  obtain ⟨cl, rfl⟩ : ∃ cl : List Value, cs = cl.toArray := ⟨cs.toList, by simp⟩
  have hlen : cl.length = 30 := by simpa using hsz
  simp only [Value.cells, List.toList_toArray] at hfld
  match cl, hlen with
  | [v0, v1, v2, v3, v4, v5, v6, v7, v8, v9, v10, v11, v12, v13, v14, v15, v16, v17, v18, v19, v20, v21, v22, v23, v24, v25, v26, v27, v28, v29], _ =>
    have f0 := (hfld 0 _ rfl).trans (List.getElem?_eq_getElem (by omega : 0 < xs.length))
    change DataW.trod enc Try.prog w base spare held n' 3 (List.take (Try.prog.cellsOf 3) (List.drop 0 _)) = _ at f0
    rw [show Try.prog.cellsOf 3 = 1 by kernel_rfl] at f0
    simp only [List.drop_zero, List.drop_succ_cons, List.take_succ_cons, List.take_zero] at f0
    obtain ⟨a0, q0, _, w0⟩ := DataW.trod_int Try.underlying3 f0
    obtain rfl : v0 = .int .i64 a0 := by injection q0
    have f1 := (hfld 1 _ rfl).trans (List.getElem?_eq_getElem (by omega : 1 < xs.length))
    change DataW.trod enc Try.prog w base spare held n' 26 (List.take (Try.prog.cellsOf 26) (List.drop 1 _)) = _ at f1
    rw [show Try.prog.cellsOf 26 = 12 by kernel_rfl] at f1
    simp only [List.drop_zero, List.drop_succ_cons, List.take_succ_cons, List.take_zero] at f1
    have f2 := (hfld 2 _ rfl).trans (List.getElem?_eq_getElem (by omega : 2 < xs.length))
    change DataW.trod enc Try.prog w base spare held n' 29 (List.take (Try.prog.cellsOf 29) (List.drop 13 _)) = _ at f2
    rw [show Try.prog.cellsOf 29 = 12 by kernel_rfl] at f2
    simp only [List.drop_zero, List.drop_succ_cons, List.take_succ_cons, List.take_zero] at f2
    have f3 := (hfld 3 _ rfl).trans (List.getElem?_eq_getElem (by omega : 3 < xs.length))
    change DataW.trod enc Try.prog w base spare held n' 3 (List.take (Try.prog.cellsOf 3) (List.drop 25 _)) = _ at f3
    rw [show Try.prog.cellsOf 3 = 1 by kernel_rfl] at f3
    simp only [List.drop_zero, List.drop_succ_cons, List.take_succ_cons, List.take_zero] at f3
    obtain ⟨a3, q3, _, w3⟩ := DataW.trod_int Try.underlying3 f3
    obtain rfl : v25 = .int .i64 a3 := by injection q3
    have f4 := (hfld 4 _ rfl).trans (List.getElem?_eq_getElem (by omega : 4 < xs.length))
    change DataW.trod enc Try.prog w base spare held n' 3 (List.take (Try.prog.cellsOf 3) (List.drop 26 _)) = _ at f4
    rw [show Try.prog.cellsOf 3 = 1 by kernel_rfl] at f4
    simp only [List.drop_zero, List.drop_succ_cons, List.take_succ_cons, List.take_zero] at f4
    obtain ⟨a4, q4, _, w4⟩ := DataW.trod_int Try.underlying3 f4
    obtain rfl : v26 = .int .i64 a4 := by injection q4
    have f5 := (hfld 5 _ rfl).trans (List.getElem?_eq_getElem (by omega : 5 < xs.length))
    change DataW.trod enc Try.prog w base spare held n' 31 (List.take (Try.prog.cellsOf 31) (List.drop 27 _)) = _ at f5
    rw [show Try.prog.cellsOf 31 = 3 by kernel_rfl] at f5
    simp only [List.drop_zero, List.drop_succ_cons, List.take_succ_cons, List.take_zero] at f5
    obtain ⟨_, m1, hm1⟩ := trod_array Try.underlying26 f1
    rw [show Try.prog.cellsOf 25 = 4 by kernel_rfl] at hm1
    obtain ⟨_, m2, hm2⟩ := trod_array Try.underlying29 f2
    rw [show Try.prog.cellsOf 28 = 6 by kernel_rfl] at hm2
    obtain ⟨y0, g0⟩ := hm1 0 (by omega)
    simp only [Nat.reduceMul, Nat.zero_mul, List.drop_zero, List.drop_succ_cons, List.take_succ_cons, List.take_zero] at g0
    obtain ⟨p0, o0, sa0, sb0, ka0, kb0, l0, wl0, ra0, rb0⟩ := open_lane g0
    simp only [List.cons.injEq, and_true] at l0
    obtain ⟨rfl, rfl, rfl, rfl⟩ := l0
    obtain ⟨y1, g1⟩ := hm1 1 (by omega)
    simp only [Nat.reduceMul, Nat.zero_mul, List.drop_zero, List.drop_succ_cons, List.take_succ_cons, List.take_zero] at g1
    obtain ⟨p1, o1, sa1, sb1, ka1, kb1, l1, wl1, ra1, rb1⟩ := open_lane g1
    simp only [List.cons.injEq, and_true] at l1
    obtain ⟨rfl, rfl, rfl, rfl⟩ := l1
    obtain ⟨y2, g2⟩ := hm1 2 (by omega)
    simp only [Nat.reduceMul, Nat.zero_mul, List.drop_zero, List.drop_succ_cons, List.take_succ_cons, List.take_zero] at g2
    obtain ⟨p2, o2, sa2, sb2, ka2, kb2, l2, wl2, ra2, rb2⟩ := open_lane g2
    simp only [List.cons.injEq, and_true] at l2
    obtain ⟨rfl, rfl, rfl, rfl⟩ := l2
    obtain ⟨z0, h0⟩ := hm2 0 (by omega)
    simp only [Nat.reduceMul, Nat.zero_mul, Nat.one_mul, List.drop_zero, List.drop_succ_cons, List.take_succ_cons, List.take_zero] at h0
    obtain ⟨ta0, tb0, tc0, ma0, mb0, mc0, en0, bo0, rs0, l0, we0, wb0, da0, db0, dc0⟩ := open_player h0
    simp only [List.cons.injEq, and_true] at l0
    obtain ⟨rfl, rfl, rfl, rfl, rfl, rfl⟩ := l0
    obtain ⟨z1, h1⟩ := hm2 1 (by omega)
    simp only [Nat.reduceMul, Nat.zero_mul, Nat.one_mul, List.drop_zero, List.drop_succ_cons, List.take_succ_cons, List.take_zero] at h1
    obtain ⟨ta1, tb1, tc1, ma1, mb1, mc1, en1, bo1, rs1, l1, we1, wb1, da1, db1, dc1⟩ := open_player h1
    simp only [List.cons.injEq, and_true] at l1
    obtain ⟨rfl, rfl, rfl, rfl, rfl, rfl⟩ := l1
    obtain ⟨ki, wi, st, l5, wk, ww, ws⟩ := open_result f5
    simp only [List.cons.injEq, and_true] at l5
    obtain ⟨rfl, rfl, rfl⟩ := l5
    refine ⟨⟨a0, a3, a4, ki, wi, st, pick3 p0 p1 p2, pick3 o0 o1 o2, pick3 en0 en1 en1, pick3 bo0 bo1 bo1, pick3 rs0 rs1 rs1⟩, pick12 (.bool false) v3 v4 v7 v8 v11 v12 v13 v14 v15 v19 v20 v21, pick12 [] ka0 kb0 ka1 kb1 ka2 kb2 ma0 mb0 mc0 ma1 mb1 mc1, rfl, ⟨i64_of w0, i64_of w3, i64_of w4, wk, ww, ws, fun i hi => ?_, fun k hk => ?_⟩, fun i hi => ?_, fun i hi => ?_⟩
    · match i, hi with
      | 0, _ => exact wl0
      | 1, _ => exact wl1
      | 2, _ => exact wl2
    · match k, hk with
      | 0, _ => exact ⟨we0, wb0⟩
      | 1, _ => exact ⟨we1, wb1⟩
    · match i, hi with
      | 0, _ => exact ra0.1
      | 1, _ => exact rb0.1
      | 2, _ => exact ra1.1
      | 3, _ => exact rb1.1
      | 4, _ => exact ra2.1
      | 5, _ => exact rb2.1
      | 6, _ => exact da0.1
      | 7, _ => exact db0.1
      | 8, _ => exact dc0.1
      | 9, _ => exact da1.1
      | 10, _ => exact db1.1
      | 11, _ => exact dc1.1
    · match i, hi with
      | 0, _ => exact ra0.2
      | 1, _ => exact rb0.2
      | 2, _ => exact ra1.2
      | 3, _ => exact rb1.2
      | 4, _ => exact ra2.2
      | 5, _ => exact rb2.2
      | 6, _ => exact da0.2
      | 7, _ => exact db0.2
      | 8, _ => exact dc0.2
      | 9, _ => exact da1.2
      | 10, _ => exact db1.2
      | 11, _ => exact dc1.2
end Go.Proofs.Ytkalpclckgbedaa
