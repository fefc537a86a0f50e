/-
  A state that comes in, and how many cards it can hold: no more than its bulk. No conditions.
-/
import Derived.Test.YtkalpclckgbedaaSt
import Derived.Test.YtkalpclckgbedaaRows
namespace Go.Proofs.Ytkalpclckgbedaa
open Go.ChangeShapes Go.WideShapes Go.ChangeAt Go.RowKit Go.Deep
set_option linter.unusedVariables false
set_option linter.unusedSimpArgs false
set_option maxRecDepth 20000
set_option maxHeartbeats 3200000
theorem bulk_one {H : Type} (d : DataW H) : 1 ≤ Rows.uptoBulk d := by
  cases d with
  | lit l => cases l <;> simp [Rows.uptoBulk]
  | nil => simp [Rows.uptoBulk]
  | ptr d => simp [Rows.uptoBulk]
  | slice elems spare => simp [Rows.uptoBulk]
  | agg parts => simp [Rows.uptoBulk]
  | iface t d => simp [Rows.uptoBulk]
  | map entries => simp [Rows.uptoBulk]
  | held h => simp [Rows.uptoBulk]
theorem bulk_len {H : Type} : ∀ l : List (DataW H), l.length ≤ Rows.uptoBulkAll l
  | [] => Nat.zero_le _
  | d :: l => by
    have h1 := bulk_len l
    have h2 := bulk_one d
    simp only [Rows.uptoBulkAll, List.length_cons]
    omega
theorem bulk_mem {H : Type} {d : DataW H} : ∀ {l : List (DataW H)}, d ∈ l → Rows.uptoBulk d ≤ Rows.uptoBulkAll l
  | e :: l, h => by
    simp only [Rows.uptoBulkAll]
    rcases List.mem_cons.1 h with h | h
    · rw [h]; omega
    · have := bulk_mem h; omega
theorem bulk_at {H : Type} (xs : List (DataW H × List MemPlace)) (i : Nat) (hi : i < xs.length) : Rows.uptoBulk (xs[i]).1 ≤ Rows.uptoBulk (.agg (xs.map (·.1))) := by
  have h : (xs[i]).1 ∈ xs.map (·.1) := List.mem_map.2 ⟨xs[i], List.getElem_mem hi, rfl⟩
  have h2 := bulk_mem h
  have e : Rows.uptoBulk (DataW.agg (xs.map (·.1))) = Rows.uptoBulkAll (xs.map (·.1)) + 1 := by simp only [Rows.uptoBulk]
  rw [e]; omega
section
variable {H : Type} {enc : TypeId × Value → H} {w : World} {base : Nat} {spare : Nat → Bool} {held : Bool}
theorem trod_arrayB {P : Program} {n : Nat} {e t : TypeId} {fuel : Nat} {cs : List Value} {x : DataW H × List MemPlace} (ht : P.underlying t = some (.array n e)) (h : DataW.trod enc P w base spare held fuel t cs = some x) :
    ∃ (ys : List (DataW H × List MemPlace)) (m : Nat), ys.length = n ∧ x.1 = .agg (ys.map (·.1)) ∧ ∀ i (hi : i < ys.length), DataW.trod enc P w base spare held m e ((cs.drop (i * P.cellsOf e)).take (P.cellsOf e)) = some ys[i] := by
  cases fuel with
  | zero => simp [DataW.trod] at h
  | succ m =>
    rw [DataW.trod_step] at h
    unfold DataW.trodStep at h
    rw [ht] at h
    simp only at h
    split at h
    · rename_i hl
      rw [Option.map_eq_some_iff] at h
      obtain ⟨ys, hy, he⟩ := h
      have hyl : ys.length = n := by simpa using mapM_some_length hy
      refine ⟨ys, m, hyl, by rw [← he], fun i hi => ?_⟩
      have h2 := mapM_some_get hy i i (by rw [List.getElem?_range (by omega)])
      rw [h2, List.getElem?_eq_getElem hi]
    · cases h
theorem open_rowB {fuel : Nat} {cs : List Value} {x : DataW H × List MemPlace} (h : DataW.trod enc Try.prog w base spare held fuel 22 cs = some x) : ∃ v l, cs = [v] ∧ (RowR w v l ∧ ∀ x ∈ l, x.wf) ∧ l.length ≤ Rows.uptoBulk x.1 := by
  have c7 : Try.prog.cellsOf 50 = 7 := by kernel_rfl
  rcases open_slice Try.underlying22 h with ⟨hcs, _⟩ | ⟨a, len, cap, m, n, D, Pl, hcs, _, hl, hm, hmm, hxe, hx⟩
  · exact ⟨_, [], hcs, ⟨⟨none, 0, rfl, .inl rfl, Nat.le_refl _, fun _ => rfl, Nat.zero_le _⟩, fun x hx => by cases hx⟩, Nat.zero_le _⟩
  · obtain ⟨l, h1, h2⟩ := choose_ins (n := len) (p := fun i y => a.block < w.heap.size ∧ (∀ j, j < 7 → w.cell? (a.add (i * 7 + j)) = y.cells[j]?) ∧ y.wf) (by
      intro i hi
      obtain ⟨cs', q1, q2⟩ := hx i (by rw [hmm]; split <;> omega)
      rw [c7] at q1
      obtain ⟨_, hlen, hcell⟩ := World.cells?_some q1
      obtain ⟨y, rfl, hy⟩ := open_ins q2
      have e : ∀ j, (a.add (i * 7)).add j = a.add (i * 7 + j) := fun j => by unfold Addr.add; split <;> (try split) <;> simp_all <;> omega
      refine ⟨y, ?_, fun j hj => ?_, hy⟩
      · have := World.block_lt_of_cell? w ((a.add (i * 7)).add 0) (hcell 0 (by omega))
        unfold Addr.add at this
        split at this <;> (try split at this) <;> exact this
      · rw [← e]; exact hcell j hj)
    refine ⟨_, l, hcs, ⟨⟨some a, cap, by rw [h1], ?_, by omega, (fun e => by cases e), by omega⟩, fun x hx => ?_⟩, ?_⟩
    · by_cases h0 : l.length = 0
      · exact .inl (by rw [List.length_eq_zero_iff.1 h0]; rfl)
      · refine .inr ⟨a, rfl, (h2 0 (by omega)).1, fun j hj => ?_⟩
        rw [insC_len] at hj
        have hj2 : j / 7 < l.length := by omega
        have e : j / 7 * 7 + j % 7 = j := by omega
        rw [← e, insC_at l (j / 7) hj2 (j % 7) (by omega)]
        exact (h2 (j / 7) hj2).2.1 (j % 7) (by omega)
    · obtain ⟨i, hi, rfl⟩ := List.mem_iff_getElem.1 hx
      exact (h2 i hi).2.2
    · rw [hxe, h1]
      have h := bulk_len ((List.range len).map D)
      simp only [Rows.uptoBulk]
      simp only [List.length_map, List.length_range] at h
      omega
theorem open_laneB {fuel : Nat} {cs : List Value} {x : DataW H × List MemPlace} (h : DataW.trod enc Try.prog w base spare held fuel 25 cs = some x) : ∃ (p : Int) (o : Bool) (a b : Value) (k l : List Ins), cs = [.int .i64 p, .bool o, a, b] ∧ I64 p ∧ ((RowR w a k ∧ ∀ x ∈ k, x.wf) ∧ k.length ≤ Rows.uptoBulk x.1) ∧ ((RowR w b l ∧ ∀ x ∈ l, x.wf) ∧ l.length ≤ Rows.uptoBulk x.1) := by
  obtain ⟨xs, n', _, hxe, hlen, hxl, hfld⟩ := DataW.trod_struct Try.underlying25 h
  have e5 : xs.length = 3 := hxl
  rw [show Try.prog.cellsOf 25 = 4 by kernel_rfl] at hlen
  match cs, hlen with
  | [v0, v1, v2, v3], _ =>
    have f0 := (hfld 0 _ rfl).trans (List.getElem?_eq_getElem (by omega : 0 < xs.length))
    change DataW.trod enc Try.prog w base spare held n' 3 (List.take (Try.prog.cellsOf 3) (List.drop 0 _)) = _ at f0
    rw [show Try.prog.cellsOf 3 = 1 by kernel_rfl] at f0
    simp only [List.drop_zero, List.drop_succ_cons, List.take_succ_cons, List.take_zero] at f0
    obtain ⟨a0, q0, _, w0⟩ := DataW.trod_int Try.underlying3 f0
    obtain rfl : v0 = .int .i64 a0 := by injection q0
    have f1 := (hfld 1 _ rfl).trans (List.getElem?_eq_getElem (by omega : 1 < xs.length))
    change DataW.trod enc Try.prog w base spare held n' 4 (List.take (Try.prog.cellsOf 4) (List.drop 1 _)) = _ at f1
    rw [show Try.prog.cellsOf 4 = 1 by kernel_rfl] at f1
    simp only [List.drop_zero, List.drop_succ_cons, List.take_succ_cons, List.take_zero] at f1
    obtain ⟨a1, q1, _⟩ := DataW.trod_bool Try.underlying4 f1
    obtain rfl : v1 = .bool a1 := by injection q1
    have f2 := (hfld 2 _ rfl).trans (List.getElem?_eq_getElem (by omega : 2 < xs.length))
    change DataW.trod enc Try.prog w base spare held n' 23 (List.take (Try.prog.cellsOf 23) (List.drop 2 _)) = _ at f2
    rw [show Try.prog.cellsOf 23 = 2 by kernel_rfl] at f2
    simp only [List.drop_zero, List.drop_succ_cons, List.take_succ_cons, List.take_zero] at f2
    obtain ⟨ys, m, hyl, hye, hm⟩ := trod_arrayB Try.underlying23 f2
    have g0 := hm 0 (by omega)
    have g1 := hm 1 (by omega)
    rw [show Try.prog.cellsOf 22 = 1 by kernel_rfl] at g0 g1
    obtain ⟨a, k, e0, r0, s0⟩ := open_rowB g0
    obtain ⟨b, l, e1, r1, s1⟩ := open_rowB g1
    simp only [Nat.zero_mul, Nat.one_mul, List.drop_zero, List.drop_succ_cons, List.take_succ_cons, List.take_zero, List.cons.injEq, and_true] at e0 e1
    subst e0 e1
    have t2 := bulk_at xs 2 (by omega)
    rw [hye] at t2
    have t0 := bulk_at ys 0 (by omega)
    have t1 := bulk_at ys 1 (by omega)
    refine ⟨a0, a1, v2, v3, k, l, rfl, i64_of w0, ⟨r0, ?_⟩, r1, ?_⟩
    · rw [hxe]; exact Nat.le_trans s0 (Nat.le_trans t0 t2)
    · rw [hxe]; exact Nat.le_trans s1 (Nat.le_trans t1 t2)
theorem open_playerB {fuel : Nat} {cs : List Value} {x : DataW H × List MemPlace} (h : DataW.trod enc Try.prog w base spare held fuel 28 cs = some x) : ∃ (a b c : Value) (j k l : List Ins) (e f : Int) (o : Bool), cs = [a, b, c, .int .i64 e, .int .i64 f, .bool o] ∧ I64 e ∧ I64 f ∧ ((RowR w a j ∧ ∀ x ∈ j, x.wf) ∧ j.length ≤ Rows.uptoBulk x.1) ∧ ((RowR w b k ∧ ∀ x ∈ k, x.wf) ∧ k.length ≤ Rows.uptoBulk x.1) ∧ ((RowR w c l ∧ ∀ x ∈ l, x.wf) ∧ l.length ≤ Rows.uptoBulk x.1) := by
  obtain ⟨xs, n', _, hxe, hlen, hxl, hfld⟩ := DataW.trod_struct Try.underlying28 h
  have e5 : xs.length = 6 := hxl
  rw [show Try.prog.cellsOf 28 = 6 by kernel_rfl] at hlen
  match cs, hlen with
  | [v0, v1, v2, v3, v4, v5], _ =>
    have f0 := (hfld 0 _ rfl).trans (List.getElem?_eq_getElem (by omega : 0 < xs.length))
    change DataW.trod enc Try.prog w base spare held n' 22 (List.take (Try.prog.cellsOf 22) (List.drop 0 _)) = _ at f0
    rw [show Try.prog.cellsOf 22 = 1 by kernel_rfl] at f0
    simp only [List.drop_zero, List.drop_succ_cons, List.take_succ_cons, List.take_zero] at f0
    have f1 := (hfld 1 _ rfl).trans (List.getElem?_eq_getElem (by omega : 1 < xs.length))
    change DataW.trod enc Try.prog w base spare held n' 22 (List.take (Try.prog.cellsOf 22) (List.drop 1 _)) = _ at f1
    rw [show Try.prog.cellsOf 22 = 1 by kernel_rfl] at f1
    simp only [List.drop_zero, List.drop_succ_cons, List.take_succ_cons, List.take_zero] at f1
    have f2 := (hfld 2 _ rfl).trans (List.getElem?_eq_getElem (by omega : 2 < xs.length))
    change DataW.trod enc Try.prog w base spare held n' 22 (List.take (Try.prog.cellsOf 22) (List.drop 2 _)) = _ at f2
    rw [show Try.prog.cellsOf 22 = 1 by kernel_rfl] at f2
    simp only [List.drop_zero, List.drop_succ_cons, List.take_succ_cons, List.take_zero] at f2
    have f3 := (hfld 3 _ rfl).trans (List.getElem?_eq_getElem (by omega : 3 < xs.length))
    change DataW.trod enc Try.prog w base spare held n' 3 (List.take (Try.prog.cellsOf 3) (List.drop 3 _)) = _ at f3
    rw [show Try.prog.cellsOf 3 = 1 by kernel_rfl] at f3
    simp only [List.drop_zero, List.drop_succ_cons, List.take_succ_cons, List.take_zero] at f3
    obtain ⟨a3, q3, _, w3⟩ := DataW.trod_int Try.underlying3 f3
    obtain rfl : v3 = .int .i64 a3 := by injection q3
    have f4 := (hfld 4 _ rfl).trans (List.getElem?_eq_getElem (by omega : 4 < xs.length))
    change DataW.trod enc Try.prog w base spare held n' 3 (List.take (Try.prog.cellsOf 3) (List.drop 4 _)) = _ at f4
    rw [show Try.prog.cellsOf 3 = 1 by kernel_rfl] at f4
    simp only [List.drop_zero, List.drop_succ_cons, List.take_succ_cons, List.take_zero] at f4
    obtain ⟨a4, q4, _, w4⟩ := DataW.trod_int Try.underlying3 f4
    obtain rfl : v4 = .int .i64 a4 := by injection q4
    have f5 := (hfld 5 _ rfl).trans (List.getElem?_eq_getElem (by omega : 5 < xs.length))
    change DataW.trod enc Try.prog w base spare held n' 4 (List.take (Try.prog.cellsOf 4) (List.drop 5 _)) = _ at f5
    rw [show Try.prog.cellsOf 4 = 1 by kernel_rfl] at f5
    simp only [List.drop_zero, List.drop_succ_cons, List.take_succ_cons, List.take_zero] at f5
    obtain ⟨a5, q5, _⟩ := DataW.trod_bool Try.underlying4 f5
    obtain rfl : v5 = .bool a5 := by injection q5
    obtain ⟨a, j, e0, r0, s0⟩ := open_rowB f0
    obtain ⟨b, k, e1, r1, s1⟩ := open_rowB f1
    obtain ⟨c, l, e2, r2, s2⟩ := open_rowB f2
    simp only [List.cons.injEq, and_true] at e0 e1 e2
    subst e0 e1 e2
    rw [hxe]
    exact ⟨v0, v1, v2, j, k, l, a3, a4, a5, rfl, i64_of w3, i64_of w4, ⟨r0, Nat.le_trans s0 (bulk_at xs 0 (by omega))⟩, ⟨r1, Nat.le_trans s1 (bulk_at xs 1 (by omega))⟩, r2, Nat.le_trans s2 (bulk_at xs 2 (by omega))⟩
end
theorem open_stateB {H : Type} {enc : TypeId × Value → H} {w : World} {base r0 : Nat} {spare : Nat → Bool} {held : Bool} {r : Reach} {v : Value} {d : DataW H} {p : List MemPlace} (ok : Value.okWide Try.prog w r r0 33 v)
    (hd : DataW.Trod enc Try.prog w base spare held 33 v d p) : ∃ c r L, v = stV c r ∧ c.wf ∧ Rows12 w r L ∧ (∀ i, i < 12 → ∀ x ∈ L i, x.wf) ∧ ∀ i, i < 12 → (L i).length ≤ Rows.uptoBulk d := by
  obtain ⟨cs, rfl, hsz⟩ := okWide_struct Try.underlying33 ok
  rw [show Try.prog.cellsOf 33 = 30 by kernel_rfl] at hsz
  obtain ⟨fuel, h⟩ := hd
  obtain ⟨xs, n', _, hxe, _, hxl, hfld⟩ := DataW.trod_struct Try.underlying33 h
  have e5 : xs.length = 6 := hxl
  obtain ⟨cl, rfl⟩ : ∃ cl : List Value, cs = cl.toArray := ⟨cs.toList, by simp⟩
  have hlen : cl.length = 30 := by simpa using hsz
  simp only [Value.cells, List.toList_toArray] at hfld
  match cl, hlen with
  | [v0, v1, v2, v3, v4, v5, v6, v7, v8, v9, v10, v11, v12, v13, v14, v15, v16, v17, v18, v19, v20, v21, v22, v23, v24, v25, v26, v27, v28, v29], _ =>
    have f0 := (hfld 0 _ rfl).trans (List.getElem?_eq_getElem (by omega : 0 < xs.length))
    change DataW.trod enc Try.prog w base spare held n' 3 (List.take (Try.prog.cellsOf 3) (List.drop 0 _)) = _ at f0
    rw [show Try.prog.cellsOf 3 = 1 by kernel_rfl] at f0
    simp only [List.drop_zero, List.drop_succ_cons, List.take_succ_cons, List.take_zero] at f0
    obtain ⟨a0, q0, _, w0⟩ := DataW.trod_int Try.underlying3 f0
    obtain rfl : v0 = .int .i64 a0 := by injection q0
    have f1 := (hfld 1 _ rfl).trans (List.getElem?_eq_getElem (by omega : 1 < xs.length))
    change DataW.trod enc Try.prog w base spare held n' 26 (List.take (Try.prog.cellsOf 26) (List.drop 1 _)) = _ at f1
    rw [show Try.prog.cellsOf 26 = 12 by kernel_rfl] at f1
    simp only [List.drop_zero, List.drop_succ_cons, List.take_succ_cons, List.take_zero] at f1
    have f2 := (hfld 2 _ rfl).trans (List.getElem?_eq_getElem (by omega : 2 < xs.length))
    change DataW.trod enc Try.prog w base spare held n' 29 (List.take (Try.prog.cellsOf 29) (List.drop 13 _)) = _ at f2
    rw [show Try.prog.cellsOf 29 = 12 by kernel_rfl] at f2
    simp only [List.drop_zero, List.drop_succ_cons, List.take_succ_cons, List.take_zero] at f2
    have f3 := (hfld 3 _ rfl).trans (List.getElem?_eq_getElem (by omega : 3 < xs.length))
    change DataW.trod enc Try.prog w base spare held n' 3 (List.take (Try.prog.cellsOf 3) (List.drop 25 _)) = _ at f3
    rw [show Try.prog.cellsOf 3 = 1 by kernel_rfl] at f3
    simp only [List.drop_zero, List.drop_succ_cons, List.take_succ_cons, List.take_zero] at f3
    obtain ⟨a3, q3, _, w3⟩ := DataW.trod_int Try.underlying3 f3
    obtain rfl : v25 = .int .i64 a3 := by injection q3
    have f4 := (hfld 4 _ rfl).trans (List.getElem?_eq_getElem (by omega : 4 < xs.length))
    change DataW.trod enc Try.prog w base spare held n' 3 (List.take (Try.prog.cellsOf 3) (List.drop 26 _)) = _ at f4
    rw [show Try.prog.cellsOf 3 = 1 by kernel_rfl] at f4
    simp only [List.drop_zero, List.drop_succ_cons, List.take_succ_cons, List.take_zero] at f4
    obtain ⟨a4, q4, _, w4⟩ := DataW.trod_int Try.underlying3 f4
    obtain rfl : v26 = .int .i64 a4 := by injection q4
    have f5 := (hfld 5 _ rfl).trans (List.getElem?_eq_getElem (by omega : 5 < xs.length))
    change DataW.trod enc Try.prog w base spare held n' 31 (List.take (Try.prog.cellsOf 31) (List.drop 27 _)) = _ at f5
    rw [show Try.prog.cellsOf 31 = 3 by kernel_rfl] at f5
    simp only [List.drop_zero, List.drop_succ_cons, List.take_succ_cons, List.take_zero] at f5
    obtain ⟨ys, m1, hyl, hye, hm1⟩ := trod_arrayB Try.underlying26 f1
    rw [show Try.prog.cellsOf 25 = 4 by kernel_rfl] at hm1
    obtain ⟨zs, m2, hzl, hze, hm2⟩ := trod_arrayB Try.underlying29 f2
    rw [show Try.prog.cellsOf 28 = 6 by kernel_rfl] at hm2
    have g0 := hm1 0 (by omega)
    simp only [Nat.reduceMul, Nat.zero_mul, List.drop_zero, List.drop_succ_cons, List.take_succ_cons, List.take_zero] at g0
    obtain ⟨p0, o0, sa0, sb0, ka0, kb0, l0, wl0, ra0, rb0⟩ := open_laneB g0
    simp only [List.cons.injEq, and_true] at l0
    obtain ⟨rfl, rfl, rfl, rfl⟩ := l0
    have g1 := hm1 1 (by omega)
    simp only [Nat.reduceMul, Nat.zero_mul, List.drop_zero, List.drop_succ_cons, List.take_succ_cons, List.take_zero] at g1
    obtain ⟨p1, o1, sa1, sb1, ka1, kb1, l1, wl1, ra1, rb1⟩ := open_laneB g1
    simp only [List.cons.injEq, and_true] at l1
    obtain ⟨rfl, rfl, rfl, rfl⟩ := l1
    have g2 := hm1 2 (by omega)
    simp only [Nat.reduceMul, Nat.zero_mul, List.drop_zero, List.drop_succ_cons, List.take_succ_cons, List.take_zero] at g2
    obtain ⟨p2, o2, sa2, sb2, ka2, kb2, l2, wl2, ra2, rb2⟩ := open_laneB g2
    simp only [List.cons.injEq, and_true] at l2
    obtain ⟨rfl, rfl, rfl, rfl⟩ := l2
    have h0 := hm2 0 (by omega)
    simp only [Nat.reduceMul, Nat.zero_mul, Nat.one_mul, List.drop_zero, List.drop_succ_cons, List.take_succ_cons, List.take_zero] at h0
    obtain ⟨ta0, tb0, tc0, ma0, mb0, mc0, en0, bo0, rs0, l0, we0, wb0, da0, db0, dc0⟩ := open_playerB h0
    simp only [List.cons.injEq, and_true] at l0
    obtain ⟨rfl, rfl, rfl, rfl, rfl, rfl⟩ := l0
    have h1 := hm2 1 (by omega)
    simp only [Nat.reduceMul, Nat.zero_mul, Nat.one_mul, List.drop_zero, List.drop_succ_cons, List.take_succ_cons, List.take_zero] at h1
    obtain ⟨ta1, tb1, tc1, ma1, mb1, mc1, en1, bo1, rs1, l1, we1, wb1, da1, db1, dc1⟩ := open_playerB h1
    simp only [List.cons.injEq, and_true] at l1
    obtain ⟨rfl, rfl, rfl, rfl, rfl, rfl⟩ := l1
    obtain ⟨ki, wi, st, l5, wk, ww, ws⟩ := open_result f5
    simp only [List.cons.injEq, and_true] at l5
    obtain ⟨rfl, rfl, rfl⟩ := l5
    refine ⟨⟨a0, a3, a4, ki, wi, st, pick3 p0 p1 p2, pick3 o0 o1 o2, pick3 en0 en1 en1, pick3 bo0 bo1 bo1, pick3 rs0 rs1 rs1⟩, pick12 (.bool false) v3 v4 v7 v8 v11 v12 v13 v14 v15 v19 v20 v21, pick12 [] ka0 kb0 ka1 kb1 ka2 kb2 ma0 mb0 mc0 ma1 mb1 mc1, rfl, ⟨i64_of w0, i64_of w3, i64_of w4, wk, ww, ws, fun i hi => ?_, fun k hk => ?_⟩, fun i hi => ?_, fun i hi => ?_, fun i hi => ?_⟩
    · match i, hi with
      | 0, _ => exact wl0
      | 1, _ => exact wl1
      | 2, _ => exact wl2
    · match k, hk with
      | 0, _ => exact ⟨we0, wb0⟩
      | 1, _ => exact ⟨we1, wb1⟩
    · match i, hi with
      | 0, _ => exact ra0.1.1
      | 1, _ => exact rb0.1.1
      | 2, _ => exact ra1.1.1
      | 3, _ => exact rb1.1.1
      | 4, _ => exact ra2.1.1
      | 5, _ => exact rb2.1.1
      | 6, _ => exact da0.1.1
      | 7, _ => exact db0.1.1
      | 8, _ => exact dc0.1.1
      | 9, _ => exact da1.1.1
      | 10, _ => exact db1.1.1
      | 11, _ => exact dc1.1.1
    · match i, hi with
      | 0, _ => exact ra0.1.2
      | 1, _ => exact rb0.1.2
      | 2, _ => exact ra1.1.2
      | 3, _ => exact rb1.1.2
      | 4, _ => exact ra2.1.2
      | 5, _ => exact rb2.1.2
      | 6, _ => exact da0.1.2
      | 7, _ => exact db0.1.2
      | 8, _ => exact dc0.1.2
      | 9, _ => exact da1.1.2
      | 10, _ => exact db1.1.2
      | 11, _ => exact dc1.1.2
    · have t1 := bulk_at xs 1 (by omega)
      have t2 := bulk_at xs 2 (by omega)
      have ed : d = .agg (xs.map (·.1)) := congrArg Prod.fst hxe
      rw [hye] at t1
      rw [hze] at t2
      rw [ed]
      match i, hi with
      | 0, _ => exact Nat.le_trans ra0.2 (Nat.le_trans (bulk_at ys 0 (by omega)) t1)
      | 1, _ => exact Nat.le_trans rb0.2 (Nat.le_trans (bulk_at ys 0 (by omega)) t1)
      | 2, _ => exact Nat.le_trans ra1.2 (Nat.le_trans (bulk_at ys 1 (by omega)) t1)
      | 3, _ => exact Nat.le_trans rb1.2 (Nat.le_trans (bulk_at ys 1 (by omega)) t1)
      | 4, _ => exact Nat.le_trans ra2.2 (Nat.le_trans (bulk_at ys 2 (by omega)) t1)
      | 5, _ => exact Nat.le_trans rb2.2 (Nat.le_trans (bulk_at ys 2 (by omega)) t1)
      | 6, _ => exact Nat.le_trans da0.2 (Nat.le_trans (bulk_at zs 0 (by omega)) t2)
      | 7, _ => exact Nat.le_trans db0.2 (Nat.le_trans (bulk_at zs 0 (by omega)) t2)
      | 8, _ => exact Nat.le_trans dc0.2 (Nat.le_trans (bulk_at zs 0 (by omega)) t2)
      | 9, _ => exact Nat.le_trans da1.2 (Nat.le_trans (bulk_at zs 1 (by omega)) t2)
      | 10, _ => exact Nat.le_trans db1.2 (Nat.le_trans (bulk_at zs 1 (by omega)) t2)
      | 11, _ => exact Nat.le_trans dc1.2 (Nat.le_trans (bulk_at zs 1 (by omega)) t2)
end Go.Proofs.Ytkalpclckgbedaa
