/-
  Package board: the closure that looks all cards of a row over. Conditions: at most 1000 cards a row.
-/
import Derived.Test.YtkalpclckgbedaaRgtB
import Derived.Test.YtkalpclckgbedaaBwI
import Derived.Test.YtkalpclckgbedaaDigList
import Derived.Test.YtkalpclckgbedaaStW
namespace Go.Proofs.Ytkalpclckgbedaa
open Go.ChangeShapes Go.WideShapes Go.ChangeAt Go.RowKit
set_option linter.unusedVariables false
set_option linter.unusedSimpArgs false
set_option maxRecDepth 20000
set_option maxHeartbeats 3200000
/-- What the closure reads and writes: the state at b, whether all is right at b + 1, the Ids at b + 2. -/
structure RcAt (w : World) (b : Nat) (c : Sc) (r : Nat → Value) (P : Prop) (ids : List Int) (x : World) : Prop where
  whole : Whole x b 33 (stC c r).toArray
  right : ∃ bb, Whole x (b + 1) 4 #[.bool bb] ∧ (bb = true ↔ P)
  ids : ∃ v, Whole x (b + 2) 62 #[v] ∧ x.ownsRow (b + 3) 3 1 v ids.length (ints ids)
  below : Below w.heap.size w x
  size : b + 3 ≤ x.heap.size
theorem RcAt.ext {w : World} {b : Nat} {c : Sc} {r : Nat → Value} {P : Prop} {ids : List Int} {x y : World} (h : RcAt w b c r P ids x) (e : Below x.heap.size x y) : RcAt w b c r P ids y := by
  obtain ⟨bb, h1, h2⟩ := h.right
  obtain ⟨v, h3, h4⟩ := h.ids
  exact ⟨h.whole.below e h.whole.inside, ⟨bb, h1.below e h1.inside, h2⟩, ⟨v, h3.below e h3.inside, own_below h4 e⟩, bthen h.below e, Nat.le_trans h.size e.size⟩
theorem RcAt.set {w : World} {b : Nat} {c : Sc} {r : Nat → Value} {P P' : Prop} {ids : List Int} {x : World} (h : RcAt w b c r P ids x) (hw : w.heap.size ≤ b) (bb : Bool) (hb : bb = true ↔ P') : RcAt w b c r P' ids (x.setCell ⟨b + 1, 0, none⟩ (.bool bb)) := by
  obtain ⟨b0, h1, h2⟩ := h.right
  obtain ⟨v, h3, h4⟩ := h.ids
  have k : Keeps (fun k => k = b + 1) x (x.setCell ⟨b + 1, 0, none⟩ (.bool bb)) := Keeps.setCell (S := fun k => k = b + 1) (Keeps.refl _ x) (p := ⟨b + 1, 0, none⟩) rfl _
  exact ⟨k.whole h.whole (fun e => by have e2 : b = b + 1 := e; omega), ⟨bb, h1.write 0 _, hb⟩, ⟨v, k.whole h3 (fun e => by have e2 : b + 2 = b + 1 := e; omega), k.owns h4 (fun j h5 h6 => by have := (World.ownsRow.lt h4 j h5).1; have e2 : j = b + 1 := h6; omega)⟩,
    h.below.trans (k.below (Nat.le_trans h.below.size (Nat.le_refl _)) (fun j hj => by have e2 : j = b + 1 := hj; omega)), by have := k.size; exact Nat.le_trans h.size this⟩
theorem RcAt.push {w : World} {b : Nat} {c : Sc} {r : Nat → Value} {P : Prop} {ids : List Int} {x y : World} {v v' : Value} {z : Int} (h : RcAt w b c r P ids x) (hw : w.heap.size ≤ b) (hv : Whole x (b + 2) 62 #[v]) (ho : x.ownsRow (b + 3) 3 1 v ids.length (ints ids))
    (ho' : y.ownsRow (b + 3) 3 1 v' (ids.length + 1) (ints ids ++ [.int .i64 z])) (hg : x.grownBy y v.ownBlock) :
    Whole y (b + 2) 62 #[v] ∧ RcAt w b c r P (ids ++ [z]) (y.setCell ⟨b + 2, 0, none⟩ v') := by
  obtain ⟨b0, h1, h2⟩ := h.right
  have k1 : Keeps (fun k => b + 3 ≤ k) x y := (Keeps.refl _ x).grown hg (fun k hk => (World.ownsRow.lt ho k hk).1)
  have k : Keeps (fun k => k = b + 2) y (y.setCell ⟨b + 2, 0, none⟩ v') := Keeps.setCell (S := fun k => k = b + 2) (Keeps.refl _ y) (p := ⟨b + 2, 0, none⟩) rfl _
  have hvy := k1.whole hv (by omega)
  have e : ints (ids ++ [z]) = ints ids ++ [.int .i64 z] := by simp [ints]
  refine ⟨hvy, k.whole (k1.whole h.whole (by omega)) (fun e => by have e2 : b = b + 2 := e; omega), ⟨b0, k.whole (k1.whole h1 (by omega)) (fun e => by have e2 : b + 1 = b + 2 := e; omega), h2⟩, ⟨v', hvy.write 0 v', ?_⟩, ?_, Nat.le_trans h.size (Nat.le_trans k1.size k.size)⟩
  · rw [List.length_append, List.length_singleton, e]
    exact k.owns ho' (fun j h5 h6 => by have := (World.ownsRow.lt ho' j h5).1; have e2 : j = b + 2 := h6; omega)
  · have hb1 := h.below.trans (k1.below h.below.size (fun j hj => by have e2 : b + 3 ≤ j := hj; omega))
    exact hb1.trans (k.below hb1.size (fun j hj => by have e2 : j = b + 2 := hj; omega))
theorem und_ints4 : Try.prog.underlying 62 = some (.slice 3) := by kernel_rfl
theorem info_int4 : (Try.prog.info? 3).map (fun i => (i.zero, i.size, i.bytes)) = some (some (.int .i64 0), 1, 8) := by kernel_rfl
theorem pRc1 (w : World) (b a : Nat) (c : Sc) (r : Nat → Value) (l : List Ins) (seat : Int) (P : Prop) (ids : List Int) (x : World) (v : Value) (hw : w.heap.size ≤ b) (h : RcAt w b c r P ids x) (hc : x.cell? ⟨b, a, none⟩ = some v) (hv : ∀ y, Below w.heap.size w y → RowR y v l) (hl : l.length ≤ 1000) (hi : ids.length ≤ 1000000) :
    Calls Try.prog 48 #[.int .i64 seat, .pointer (some ⟨b, a, none⟩), .pointer (some ⟨b + 1, 0, none⟩), .pointer (some ⟨b, 0, none⟩), .pointer (some ⟨b + 2, 0, none⟩)] x
      fun e y => e = .returned (.tuple #[]) ∧ RcAt w b c r (P ∧ ∀ z ∈ l, CardOK c.next seat z) (ids ++ l.map (·.id)) y := by
  obtain ⟨A, cp, rfl, _, _, _, _⟩ := hv x h.below
  obtain ⟨m, hm⟩ : ∃ m, l.length = m := ⟨_, rfl⟩
  have HM := Lib.hid hm
  have H0 : Hid (RcAt w b c r (P ∧ ∀ z ∈ l.take 0, CardOK c.next seat z) (ids ++ (l.take 0).map (·.id)) x) := Lib.hid (by simpa using h)
  have HV : Hid (∀ y, Below w.heap.size w y → Reads y A (insC l)) := Lib.hid fun y hy => by
    obtain ⟨A', cp', e, hr, _⟩ := hv y hy
    injection e with e1 _ _
    rw [e1]; exact hr
  have HCN : Hid (∀ y, Whole y b 33 (stC c r).toArray → y.cell? ⟨b, 26, none⟩ = some (.int .i64 c.next)) := Lib.hid fun y hy => by rw [hy.read]; rfl
  have KC := Lib.hid (fun z y => pCardOK z y)
  have HI := Lib.hid hi
  have HWB := Lib.hid hw
  rw [hm] at hc hl
  clear h hv hi hm hw
  go_enter Try.func48, Try.ntmps48
  go_wp2
  go_loopw [13] (fun I wr => ∃ n : Nat, I = .int .i64 n ∧ n ≤ m ∧ RcAt w b c r (P ∧ ∀ z ∈ l.take n, CardOK c.next seat z) (ids ++ (l.take n).map (·.id)) wr) (fun I _ => m - (intOf I).toNat)
  case atStart => exact ⟨0, rfl, by omega, H0.out⟩
  case round =>
    obtain ⟨n, rfl, hn, hat⟩ := hrel
    have HA := Lib.hid hat
    clear hat hc
    by_cases hnm : n < m
    · have ln : (n : Int) < (m : Int) := by omega
      have hnl : n < l.length := by rw [HM.out]; exact hnm
      obtain ⟨g, off, rfl, hg, hcl⟩ := row_lit (HV.out _ HA.out.below) (by omega)
      obtain ⟨p0, p1, p2, p3, p4, p5, p6⟩ := hcl n hnl
      have HT : Hid (l.take (n + 1) = l.take n ++ [l[n]]) := Lib.hid (List.take_succ_eq_append_getElem hnl)
      generalize l[n] = X at *
      obtain ⟨bb, hb1, hb2⟩ := HA.out.right
      have HB2 := Lib.hid hb2
      have hfin : ∀ nb : Bool, (nb = true ↔ bb = true ∧ CardOK c.next seat X) → (nb = true ↔ (P ∧ ∀ z ∈ l.take (n + 1), CardOK c.next seat z)) := fun nb h => by
        rw [h, HB2.out, HT.out]
        constructor
        · rintro ⟨⟨h1, h2⟩, h3⟩
          exact ⟨h1, fun z hz => by
            rcases List.mem_append.1 hz with hz | hz
            · exact h2 z hz
            · rw [List.mem_singleton.1 hz]; exact h3⟩
        · rintro ⟨h1, h2⟩
          exact ⟨⟨h1, fun z hz => h2 z (List.mem_append_left _ hz)⟩, h2 X (List.mem_append_right _ (List.mem_singleton.2 rfl))⟩
      have ways : (bb = false ∧ (false = true ↔ bb = true ∧ CardOK c.next seat X)) ∨ (bb = true ∧ (X.owner == seat) = false ∧ ¬ X.owner = seat ∧ (false = true ↔ bb = true ∧ CardOK c.next seat X)) ∨ (bb = true ∧ (X.owner == seat) = true ∧ X.owner = seat ∧ ¬ X.id < c.next ∧ (false = true ↔ bb = true ∧ CardOK c.next seat X)) ∨ (bb = true ∧ (X.owner == seat) = true ∧ X.owner = seat ∧ X.id < c.next ∧ (numB X = true ↔ bb = true ∧ CardOK c.next seat X)) := by
        unfold CardOK
        cases bb
        · left; simp
        · by_cases h1 : X.owner = seat
          · by_cases h2 : X.id < c.next
            · right; right; right; simp [h1, h2]
            · right; right; left; simp [h1, h2]
          · right; left; simp [h1]
      have HF := Lib.hid hfin
      clear hcl hfin hb2
      generalize c.next = nx at *
      have lb : b + 3 ≤ wr.heap.size := HA.out.size
      have ne1 : ¬ wr.heap.size = b + 1 := by omega
      have lt1 : b + 1 < wr.heap.size := by omega
      have ARM : Hid (∀ w9, Put (wr.alloc (.cells zeroIns.cells.toArray 50)) w9 wr.heap.size 50 X.cells → Below wr.heap.size wr w9 ∧ w9.cell? ⟨wr.heap.size, 0, none⟩ = some (.int .i64 X.id) ∧ w9.cell? ⟨wr.heap.size, 6, none⟩ = some (.int .i64 X.owner) ∧ w9.cell? ⟨b + 1, 0, none⟩ = some (.bool bb) ∧ w9.cell? ⟨b, 26, none⟩ = some (.int .i64 nx) ∧ w9.frozen? ⟨b + 1, 0, none⟩ = false ∧ b + 1 < w9.heap.size) := Lib.hid fun w9 p9 => by
        have b9 := put_over p9
        have h1 := hb1.below b9 lt1
        have h2 := HA.out.whole.below b9 HA.out.whole.inside
        exact ⟨b9, by rw [p9.whole.read]; rfl, by rw [p9.whole.read]; rfl, by rw [h1.read]; rfl, HCN.out _ h2, h1.thawed 0, h1.inside⟩
      have HB1 := Lib.hid hb1
      clear hb1 ne1
      rcases ways with ⟨rfl, hy⟩ | ⟨rfl, h1, h1', hy⟩ | ⟨rfl, h1, h1', h2, hy⟩ | ⟨rfl, h1, h1', h2, hy⟩
      all_goals
        have HY := Lib.hid hy
        clear hy
        (try clear h1')
        go_upto_region 4 with (first
          | ((with_reducible refine at_st 8 16 ?_); refine wpList_storeW 50 (.tmp 8) (.tmp 16) 50 wr.heap.size zeroIns.cells X.cells (Whole.made wr _ _) rfl (by kernel_rfl) (ins_one X) rfl rfl rfl rfl rfl ?_; intro w9 p9; obtain ⟨b9, x0, x6, c1, cn, f1, l9⟩ := ARM.out _ p9; have P9 := Lib.hid p9.whole; have S9 := Lib.hid (HA.out.ext b9); clear p9 b9)
          | ((with_reducible refine at_ld 32 ?_); refine wpList_loadWG 50 (.tmp 8) 50 wr.heap.size X.cells P9.out (by kernel_rfl) (by kernel_rfl) (by rfl) rfl rfl ?_)
          | (go_at_call 49; (with_reducible refine (KC.out _ _).mono ?_); rintro e w10 ⟨rfl, bx⟩; have x0 := (bx.cell (p := ⟨wr.heap.size, 0, none⟩) P9.out.inside).trans x0; have c1 := (bx.cell (p := ⟨b + 1, 0, none⟩) l9).trans c1; have f1 := (bx.frozen (p := ⟨b + 1, 0, none⟩) l9).trans f1; have l9 := Nat.lt_of_lt_of_le l9 bx.size; have P9 := Lib.hid (P9.out.below bx P9.out.inside); have S9 := Lib.hid (S9.out.ext bx); clear bx))
      · have N0 := S9.out.set HWB.out false (HF.out _ HY.out)
        have P0 : Whole (w9.setCell ⟨b + 1, 0, none⟩ (.bool false)) wr.heap.size 50 X.cells.toArray := P9.out.aside (p := ⟨b + 1, 0, none⟩) (by simp; omega) _
        generalize w9.setCell ⟨b + 1, 0, none⟩ (.bool false) = W1 at *
        clear x0 c1 f1 l9
        (try clear x6)
        (try clear cn)
        obtain ⟨vi, hv1, hv2⟩ := N0.ids
        have ci : W1.cell? ⟨b + 2, 0, none⟩ = some vi := by rw [hv1.read]; rfl
        have y0 : W1.cell? ⟨wr.heap.size, 0, none⟩ = some (.int .i64 X.id) := by rw [P0.read]; rfl
        have hlen : (ids ++ (l.take n).map (·.id)).length ≤ 2199023255552 := by
          rw [List.length_append, List.length_map, List.length_take]
          have := HI.out
          omega
        have N1 := Lib.hid N0
        have V1 := Lib.hid hv1
        have V2 := Lib.hid hv2
        have HLEN := Lib.hid hlen
        have HE : Hid (ids ++ (l.take n).map (·.id) ++ [X.id] = ids ++ (l.take (n + 1)).map (·.id)) := Lib.hid (by rw [HT.out, List.map_append, List.append_assoc]; rfl)
        clear N0 hv1 hv2 hlen P0
        go_wp2_with (at_builtin; refine wpList_push8 (.tmp 35) (.tmp 38) 62 3 8 (.int .i64 0) und_ints4 info_int4 rfl rfl rfl rfl (b + 3) _ _ _ _ rfl V2.out rfl rfl HLEN.out N1.out.size ?_; intro v4 w4 o4 g4 _; obtain ⟨q1, q2⟩ := N1.out.push HWB.out V1.out V2.out o4 g4; rw [HE.out] at q2; have d0 : w4.cell? ⟨b + 2, 0, none⟩ = some vi := (by rw [q1.read]; rfl); have f0 := q1.thawed 0; have l0 := q1.inside; obtain ⟨A4, n4, c4, rfl⟩ : ∃ A n c, v4 = Value.slice A n c := (by obtain ⟨A, c, e, _⟩ := own_form o4; exact ⟨A, _, c, e⟩); have N2 := Lib.hid q2; clear o4 g4 q1 q2)
        go_roundw
        case rel => exact ⟨n + 1, by go_num, by omega, N2.out⟩
        case measure => simp [intOf]; omega
      · have N0 := S9.out.set HWB.out false (HF.out _ HY.out)
        have P0 : Whole (w9.setCell ⟨b + 1, 0, none⟩ (.bool false)) wr.heap.size 50 X.cells.toArray := P9.out.aside (p := ⟨b + 1, 0, none⟩) (by simp; omega) _
        generalize w9.setCell ⟨b + 1, 0, none⟩ (.bool false) = W1 at *
        clear x0 c1 f1 l9
        (try clear x6)
        (try clear cn)
        obtain ⟨vi, hv1, hv2⟩ := N0.ids
        have ci : W1.cell? ⟨b + 2, 0, none⟩ = some vi := by rw [hv1.read]; rfl
        have y0 : W1.cell? ⟨wr.heap.size, 0, none⟩ = some (.int .i64 X.id) := by rw [P0.read]; rfl
        have hlen : (ids ++ (l.take n).map (·.id)).length ≤ 2199023255552 := by
          rw [List.length_append, List.length_map, List.length_take]
          have := HI.out
          omega
        have N1 := Lib.hid N0
        have V1 := Lib.hid hv1
        have V2 := Lib.hid hv2
        have HLEN := Lib.hid hlen
        have HE : Hid (ids ++ (l.take n).map (·.id) ++ [X.id] = ids ++ (l.take (n + 1)).map (·.id)) := Lib.hid (by rw [HT.out, List.map_append, List.append_assoc]; rfl)
        clear N0 hv1 hv2 hlen P0
        go_wp2_with (at_builtin; refine wpList_push8 (.tmp 35) (.tmp 38) 62 3 8 (.int .i64 0) und_ints4 info_int4 rfl rfl rfl rfl (b + 3) _ _ _ _ rfl V2.out rfl rfl HLEN.out N1.out.size ?_; intro v4 w4 o4 g4 _; obtain ⟨q1, q2⟩ := N1.out.push HWB.out V1.out V2.out o4 g4; rw [HE.out] at q2; have d0 : w4.cell? ⟨b + 2, 0, none⟩ = some vi := (by rw [q1.read]; rfl); have f0 := q1.thawed 0; have l0 := q1.inside; obtain ⟨A4, n4, c4, rfl⟩ : ∃ A n c, v4 = Value.slice A n c := (by obtain ⟨A, c, e, _⟩ := own_form o4; exact ⟨A, _, c, e⟩); have N2 := Lib.hid q2; clear o4 g4 q1 q2)
        go_roundw
        case rel => exact ⟨n + 1, by go_num, by omega, N2.out⟩
        case measure => simp [intOf]; omega
      · have N0 := S9.out.set HWB.out false (HF.out _ HY.out)
        have P0 : Whole (w9.setCell ⟨b + 1, 0, none⟩ (.bool false)) wr.heap.size 50 X.cells.toArray := P9.out.aside (p := ⟨b + 1, 0, none⟩) (by simp; omega) _
        generalize w9.setCell ⟨b + 1, 0, none⟩ (.bool false) = W1 at *
        clear x0 c1 f1 l9
        (try clear x6)
        (try clear cn)
        obtain ⟨vi, hv1, hv2⟩ := N0.ids
        have ci : W1.cell? ⟨b + 2, 0, none⟩ = some vi := by rw [hv1.read]; rfl
        have y0 : W1.cell? ⟨wr.heap.size, 0, none⟩ = some (.int .i64 X.id) := by rw [P0.read]; rfl
        have hlen : (ids ++ (l.take n).map (·.id)).length ≤ 2199023255552 := by
          rw [List.length_append, List.length_map, List.length_take]
          have := HI.out
          omega
        have N1 := Lib.hid N0
        have V1 := Lib.hid hv1
        have V2 := Lib.hid hv2
        have HLEN := Lib.hid hlen
        have HE : Hid (ids ++ (l.take n).map (·.id) ++ [X.id] = ids ++ (l.take (n + 1)).map (·.id)) := Lib.hid (by rw [HT.out, List.map_append, List.append_assoc]; rfl)
        clear N0 hv1 hv2 hlen P0
        go_wp2_with (at_builtin; refine wpList_push8 (.tmp 35) (.tmp 38) 62 3 8 (.int .i64 0) und_ints4 info_int4 rfl rfl rfl rfl (b + 3) _ _ _ _ rfl V2.out rfl rfl HLEN.out N1.out.size ?_; intro v4 w4 o4 g4 _; obtain ⟨q1, q2⟩ := N1.out.push HWB.out V1.out V2.out o4 g4; rw [HE.out] at q2; have d0 : w4.cell? ⟨b + 2, 0, none⟩ = some vi := (by rw [q1.read]; rfl); have f0 := q1.thawed 0; have l0 := q1.inside; obtain ⟨A4, n4, c4, rfl⟩ : ∃ A n c, v4 = Value.slice A n c := (by obtain ⟨A, c, e, _⟩ := own_form o4; exact ⟨A, _, c, e⟩); have N2 := Lib.hid q2; clear o4 g4 q1 q2)
        go_roundw
        case rel => exact ⟨n + 1, by go_num, by omega, N2.out⟩
        case measure => simp [intOf]; omega
      · have N0 := S9.out.set HWB.out (numB X) (HF.out _ HY.out)
        have P0 : Whole (w10.setCell ⟨b + 1, 0, none⟩ (.bool (numB X))) wr.heap.size 50 X.cells.toArray := P9.out.aside (p := ⟨b + 1, 0, none⟩) (by simp; omega) _
        generalize w10.setCell ⟨b + 1, 0, none⟩ (.bool (numB X)) = W1 at *
        clear x0 c1 f1 l9
        (try clear x6)
        (try clear cn)
        obtain ⟨vi, hv1, hv2⟩ := N0.ids
        have ci : W1.cell? ⟨b + 2, 0, none⟩ = some vi := by rw [hv1.read]; rfl
        have y0 : W1.cell? ⟨wr.heap.size, 0, none⟩ = some (.int .i64 X.id) := by rw [P0.read]; rfl
        have hlen : (ids ++ (l.take n).map (·.id)).length ≤ 2199023255552 := by
          rw [List.length_append, List.length_map, List.length_take]
          have := HI.out
          omega
        have N1 := Lib.hid N0
        have V1 := Lib.hid hv1
        have V2 := Lib.hid hv2
        have HLEN := Lib.hid hlen
        have HE : Hid (ids ++ (l.take n).map (·.id) ++ [X.id] = ids ++ (l.take (n + 1)).map (·.id)) := Lib.hid (by rw [HT.out, List.map_append, List.append_assoc]; rfl)
        clear N0 hv1 hv2 hlen P0
        go_wp2_with (at_builtin; refine wpList_push8 (.tmp 35) (.tmp 38) 62 3 8 (.int .i64 0) und_ints4 info_int4 rfl rfl rfl rfl (b + 3) _ _ _ _ rfl V2.out rfl rfl HLEN.out N1.out.size ?_; intro v4 w4 o4 g4 _; obtain ⟨q1, q2⟩ := N1.out.push HWB.out V1.out V2.out o4 g4; rw [HE.out] at q2; have d0 : w4.cell? ⟨b + 2, 0, none⟩ = some vi := (by rw [q1.read]; rfl); have f0 := q1.thawed 0; have l0 := q1.inside; obtain ⟨A4, n4, c4, rfl⟩ : ∃ A n c, v4 = Value.slice A n c := (by obtain ⟨A, c, e, _⟩ := own_form o4; exact ⟨A, _, c, e⟩); have N2 := Lib.hid q2; clear o4 g4 q1 q2)
        go_roundw
        case rel => exact ⟨n + 1, by go_num, by omega, N2.out⟩
        case measure => simp [intOf]; omega
    · have e : n = m := by omega
      subst e
      have ln : ¬ (n : Int) < (n : Int) := by omega
      have HE : Hid (l.take n = l) := Lib.hid (List.take_of_length_le (by rw [HM.out]; exact Nat.le_refl _))
      go_wp2
      go_end0
      have h := HA.out
      rw [HE.out] at h
      exact ⟨rfl, h⟩
end Go.Proofs.Ytkalpclckgbedaa
