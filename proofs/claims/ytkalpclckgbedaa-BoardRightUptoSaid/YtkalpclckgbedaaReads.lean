/-
  A slice that a call was handed or made, as it is read: and rows of bytes as strings. No program, no conditions.
-/
import Derived.Test.YtkalpclckgbedaaOwn
import Derived.Test.YtkalpclckgbedaaDigitsMath
import Derived.Test.YtkalpclckgbedaaBlk
import Derived.Laws.BytesArg
import Derived.Lib.AppendStr
namespace Go.Proofs.Ytkalpclckgbedaa
open Go Go.RowKit
/-- The slice at A reads as the cells cs. -/
def Reads (w : World) (A : Option Addr) (cs : List Value) : Prop :=
  cs = [] ∨ ∃ x, A = some x ∧ x.block < w.heap.size ∧ ∀ j, j < cs.length → w.cell? (x.add j) = cs[j]?
theorem Reads.below {w w' : World} {A : Option Addr} {cs : List Value} (h : Reads w A cs) (hb : Below w.heap.size w w') : Reads w' A cs := by
  rcases h with h | ⟨x, rfl, hx, hc⟩
  · exact .inl h
  · refine .inr ⟨x, rfl, Nat.lt_of_lt_of_le hx hb.size, fun j hj => ?_⟩
    rw [hb.cell (p := x.add j) (by unfold Addr.add; split <;> exact hx)]
    exact hc j hj
theorem Reads.alloc {w : World} {A : Option Addr} {cs : List Value} (h : Reads w A cs) (o : Obj) : Reads (w.alloc o) A cs := h.below ((Below.refl _ _).alloc (Nat.le_refl _) o)
theorem Reads.at_ {w : World} {A : Option Addr} {cs : List Value} (h : Reads w A cs) (hn : 0 < cs.length) : ∃ x, A = some x ∧ x.block < w.heap.size ∧ ∀ j, j < cs.length → w.cell? (x.add j) = cs[j]? := by
  rcases h with h | h
  · rw [h] at hn; simp at hn
  · exact h
theorem Cells.reads {w : World} {A : Option Addr} {cs : List Value} (h : Cells w w.heap.size A cs) : Reads w A cs := by
  rcases h with h | ⟨g, off, rfl, hg, hc⟩
  · exact .inl h
  · exact .inr ⟨⟨g, off, none⟩, rfl, hg, fun j hj => by rw [Addr.add_lit]; exact hc j hj⟩
/-- A row just laid. -/
theorem Reads.made (w : World) (cs : Array Value) (t : TypeId) : Reads (w.alloc (.cells cs t)) (some ⟨w.heap.size, 0, none⟩) cs.toList := by
  refine .inr ⟨_, rfl, by simp, fun j hj => ?_⟩
  rw [Addr.add_lit, (Whole.made w t cs).read, Nat.zero_add]
  simp
/-- What a program's 'append(text, s...)' lays: the bytes of s. -/
theorem strCells_str (l : List Int) (hl : ∀ x ∈ l, 0 ≤ x ∧ x < 256) : Lib.strCells (strOfNums l) = l.map (Value.int .u8) := by
  have e : (strOfNums l).data.toList.map (fun c : UInt8 => (c.toNat : Int)) = l := by
    rw [strOfNums_data, List.map_map]
    conv => rhs; rw [← List.map_id l]
    apply List.map_congr_left
    intro x hx
    have := hl x hx
    simp
    omega
  unfold Lib.strCells
  conv => rhs; rw [← e, List.map_map]
  rfl
/-- A row of bytes of the call's own, made a string. -/
theorem conv_own {P : Program} {w : World} {base : Nat} {src e t : TypeId} {size n : Nat} {v : Value} {l : List Int} (hs : P.underlying src = some (.slice e)) (he : P.underlying e = some (.int .u8)) (h : w.ownsRow base t size v n (l.map (Value.int .u8))) (hn : n = l.length) :
    ∀ dst, P.underlying dst = some .string → (convert src dst v).run P w = .ok (.string (strOfNums l)) w := by
  obtain ⟨A, c, rfl, h1, h2, h3⟩ := own_form h
  rcases h3 with h3 | ⟨g, off, rfl, hg, hc⟩
  · have hl : l = [] := by simpa using h3
    subst hl
    subst hn
    obtain ⟨_, h4⟩ := h
    rcases h4 with ⟨h4, _⟩ | ⟨g, cap, cur, h4, _⟩
    · injection h4 with e1 e2 e3
      subst e1; subst e3
      exact run_convert_bytes_nil (P := P) w src e hs he 0 0
    · injection h4 with e1 e2 e3
      subst e1
      exact run_convert_bytes_arg w src e hs he g 0 0 c [] rfl (fun i hi => by omega)
  · refine run_convert_bytes_arg w src e hs he g off n c l hn.symm (fun i hi => ?_)
    rw [hc i (by rw [List.length_map]; omega), List.getElem?_map, List.getElem?_eq_getElem (by omega)]
    simp [List.getD, List.getElem?_eq_getElem (show i < l.length by omega)]
/-- append(text, s...) of a string's bytes at the end of a row of the call's own. -/
theorem wpList_pushS {P : Program} {w : World} {ops : Array Oper} {rest : List Oper} {o : Oper} {a : Act} {Q : Exit → Act → World → Prop} (sl x : Operand) (t u e : TypeId)
    (ht : P.underlying t = some (.slice e)) (hu : P.underlying u = some .string) (hinfo : (P.info? e).map (fun i => (i.zero, i.size, i.bytes)) = some (some (.int .u8 0), 1, 1))
    (hgd : o.guard = none) (ho : o.op = .call { callee := .builtin .append, args := #[sl, x], argTypes := #[t, u] })
    (base : Nat) (v : Value) (n : Nat) (l m : List Int) (hs : a.eval sl = v) (hown : w.ownsRow base e 1 v n (l.map (Value.int .u8))) (hx : a.eval x = .string (strOfNums m)) (hm : ∀ x ∈ m, 0 ≤ x ∧ x < 256)
    (hn : n + m.length ≤ 1099511627776) (hbase : base ≤ w.heap.size)
    (h : ∀ v' w', w'.ownsRow base e 1 v' (n + m.length) ((l ++ m).map (Value.int .u8)) → w.grownBy w' v.ownBlock → wpList P ops Q rest (a.put o.dst v') w') : wpList P ops Q (o :: rest) a w := by
  obtain ⟨i, hi, hz, hsize, hbytes⟩ := info_parts hinfo
  have hsz : (strOfNums m).size = m.length := strOfNums_size m
  refine Lib.wpList_append_own_string w hgd sl x t u ho base e i ht hu hi hz hsize hbytes v n _ hs hown (strOfNums m) hx (by rw [hsz]; unfold maxLen; omega) (by rw [hsz]; omega) hbase ?_
  intro v' w' h1 h2 _
  rw [hsz, strCells_str m hm, ← List.map_append] at h1
  exact h v' w' h1 h2
end Go.Proofs.Ytkalpclckgbedaa
