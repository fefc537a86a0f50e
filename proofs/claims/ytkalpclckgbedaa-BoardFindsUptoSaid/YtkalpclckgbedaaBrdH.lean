/-
  Package board: List. Conditions: at most 1000 cards a row.
-/
import Derived.Test.YtkalpclckgbedaaBrdG
import Derived.Test.YtkalpclckgbedaaStPiles
namespace Go.Proofs.Ytkalpclckgbedaa
open Go.ChangeShapes Go.WideShapes Go.ChangeAt Go.RowKit
set_option linter.unusedVariables false
set_option linter.unusedSimpArgs false
set_option maxRecDepth 20000
set_option maxHeartbeats 3200000
theorem pList1 (b : Nat) (k i n : Int) (X : Ins) (l : List Ins) (v : Value) (x : World) (hW : Whole x (b + 1) 22 #[v]) (ho : OwnI x (b + 2) v l) (hb : b + 2 ≤ x.heap.size) (hl : l.length ≤ 12000) :
    Calls Try.prog 37 #[.int .i64 k, .int .i64 i, .int .i64 n, X.vals, .pointer (some ⟨b + 1, 0, none⟩)] x
      fun e y => e = .returned (.bool false) ∧ Below (b + 1) x y ∧ ∃ v', Whole y (b + 1) 22 #[v'] ∧ OwnI y (b + 2) v' (l ++ [X]) := by
  have hv : X.vals = .agg X.cells.toArray := rfl
  obtain ⟨A, cp, rfl⟩ := own_len ho
  obtain ⟨W1, hW1⟩ : ∃ W1, x.alloc (.cells X.cells.toArray 50) = W1 := ⟨_, rfl⟩
  obtain ⟨W2, hW2⟩ : ∃ W2, W1.alloc (.cells X.cells.toArray 50) = W2 := ⟨_, rfl⟩
  have x1 : Whole W1 x.heap.size 50 X.cells.toArray := by rw [← hW1]; exact Whole.made x _ _
  have s1 : W1.heap.size = x.heap.size + 1 := by rw [← hW1]; simp
  have b2 : Below x.heap.size x W2 := by rw [← hW2, ← hW1]; exact ((Below.refl _ _).alloc (Nat.le_refl _) _).alloc (by simp) _
  have c1 : W1.cell? ⟨b + 1, 0, none⟩ = some (.slice A l.length cp) := by
    have h := hW.below (w' := W1) (by rw [← hW1]; exact (Below.refl _ _).alloc (Nat.le_refl _) _) (by omega)
    rw [h.read]; rfl
  have O2 : Hid (OwnI W2 (b + 2) (.slice A l.length cp) l) := Lib.hid (ho.below b2)
  have R2 : Hid (RowR W2 (.slice (some ⟨x.heap.size + 1, 0, none⟩) 1 1) [X]) := Lib.hid (by
    have h := rowR_one W1 X
    rw [s1] at h
    rw [← hW2]; exact h)
  have HB : Hid (b + 2 ≤ W2.heap.size) := Lib.hid (Nat.le_trans hb b2.size)
  have HZ : Hid (l.length + [X].length ≤ 2199023255552) := Lib.hid (by simp; omega)
  have HN : Hid (∀ (y : World) (v' : Value), W2.grownBy y (Value.ownBlock (.slice A l.length cp)) → y.ownsRow (b + 2) 50 7 v' (l.length + [X].length) (insC l ++ insC [X]) →
      y.frozen? ⟨b + 1, 0, none⟩ = false ∧ b + 1 < y.heap.size ∧ y.cell? ⟨b + 1, 0, none⟩ = some (.slice A l.length cp) ∧ (∃ A' c', v' = .slice A' (l.length + 1) c') ∧ Below (b + 1) x (y.setCell ⟨b + 1, 0, none⟩ v') ∧ ∃ v'', Whole (y.setCell ⟨b + 1, 0, none⟩ v') (b + 1) 22 #[v''] ∧ OwnI (y.setCell ⟨b + 1, 0, none⟩ v') (b + 2) v'' (l ++ [X])) := Lib.hid fun y v' g o => by
    have kk : Keeps (fun k => b + 2 ≤ k) W2 y := (Keeps.refl _ _).grown g (fun j hj => (World.ownsRow.lt O2.out j hj).1)
    have hWy : Whole y (b + 1) 22 #[.slice A l.length cp] := kk.whole (hW.below b2 (by omega)) (by omega)
    have o2 : OwnI y (b + 2) v' (l ++ [X]) := by unfold OwnI; rw [insC_app, List.length_append]; exact o
    obtain ⟨A', c', e⟩ := own_len o2
    rw [List.length_append] at e
    have ks : Keeps (fun k => k = b + 1) y (y.setCell ⟨b + 1, 0, none⟩ v') := Keeps.setCell (S := fun k => k = b + 1) (Keeps.refl _ y) (p := ⟨b + 1, 0, none⟩) rfl v'
    refine ⟨hWy.thawed _, hWy.inside, by rw [hWy.read]; rfl, ⟨A', c', e⟩, ?_, v', hWy.write 0 v', ks.owns o2 (fun k h c => by have := (World.ownsRow.lt o2 k h).1; have e3 : k = b + 1 := c; omega)⟩
    exact ((b2.mono (by omega)).trans (kk.below (Nat.le_trans (by omega) HB.out) (fun k h => by have h3 : b + 2 ≤ k := h; omega))).trans (ks.below (Nat.le_of_lt hWy.inside) (fun k h => Nat.le_of_eq (Eq.symm h)))
  obtain ⟨y0, y1, y2, y3, y4, y5, y6⟩ : W1.cell? ⟨x.heap.size, 0, none⟩ = some (.int .i64 X.id) ∧ W1.cell? ⟨x.heap.size, 1, none⟩ = some (.int .i64 X.card) ∧ W1.cell? ⟨x.heap.size, 2, none⟩ = some (.string X.name) ∧ W1.cell? ⟨x.heap.size, 3, none⟩ = some (.int .i64 X.cost) ∧ W1.cell? ⟨x.heap.size, 4, none⟩ = some (.int .i64 X.power) ∧ W1.cell? ⟨x.heap.size, 5, none⟩ = some (.int .i64 X.plus) ∧ W1.cell? ⟨x.heap.size, 6, none⟩ = some (.int .i64 X.owner) :=
    ⟨by rw [x1.read]; rfl, by rw [x1.read]; rfl, by rw [x1.read]; rfl, by rw [x1.read]; rfl, by rw [x1.read]; rfl, by rw [x1.read]; rfl, by rw [x1.read]; rfl⟩
  have hc : W1.alloc (.cells #[.int .i64 X.id, .int .i64 X.card, .string X.name, .int .i64 X.cost, .int .i64 X.power, .int .i64 X.plus, .int .i64 X.owner] 50) = W2 := hW2
  clear hW2
  rw [hv]
  clear hv hW ho b2 x1 hl
  go_enter Try.func37, Try.ntmps37
  go_wp2_with (at_builtin; (try rw [hc]); (try rw [s1]); refine wpList_cat W2 (.tmp 10) (.tmp 12) (b + 2) _ _ l.length (insC l) [X] O2.out R2.out HZ.out HB.out rfl rfl rfl rfl ?_; intro v3 w3 o3 g3 _; obtain ⟨hf3, hl3, hc3, ⟨A3, c3, rfl⟩, hb3, hn3⟩ := HN.out _ _ g3 o3; have B3 := Lib.hid hb3; have N3 := Lib.hid hn3; clear o3 g3 hb3 hn3)
  go_ret
  exact ⟨rfl, B3.out, N3.out⟩
theorem pList (c : Sc) (r : Nat → Value) (L : Nat → List Ins) (w : World) (hR : Rows12 w r L) (hsz : ∀ q, q < 12 → (L q).length ≤ 1000) :
    Calls Try.prog 16 #[stV c r] w fun e w' => ∃ v, e = .returned v ∧ OwnI w' w.heap.size v (catL L 6) ∧ Below w.heap.size w w' := by
  have hv : stV c r = .agg (stC c r).toArray := rfl
  obtain ⟨W2, hW2⟩ : ∃ W2, (w.alloc (.cells (stC c r).toArray 33)).alloc (.cells #[.slice none 0 0] 22) = W2 := ⟨_, rfl⟩
  have B2 : Below w.heap.size w W2 := by rw [← hW2]; exact ((Below.refl _ _).alloc (Nat.le_refl _) _).alloc (by simp) _
  have X1 : Whole W2 w.heap.size 33 (stC c r).toArray := by rw [← hW2]; exact (Whole.made w _ _).alloc _
  have V1 : Whole W2 (w.heap.size + 1) 22 #[.slice none 0 0] := by
    have h := Whole.made (w.alloc (.cells (stC c r).toArray 33)) 22 #[.slice none 0 0]
    rw [World.size_alloc, hW2] at h
    exact h
  have S2 : W2.heap.size = w.heap.size + 2 := by rw [← hW2]; simp
  have hcat : ∀ q, q < 6 → (catL L q).length ≤ 6000 := fun q hq => by have := catL_len hsz q (by omega); omega
  have KE : Hid (Calls Try.prog 33 #[stV c r, .func (.func 37) #[] #[.pointer (some ⟨w.heap.size + 1, 0, none⟩)]] W2 fun e y => e = .returned (.tuple #[]) ∧ Below w.heap.size w y ∧ ∃ A n cp, Whole y (w.heap.size + 1) 22 #[.slice A n cp] ∧ OwnI y (w.heap.size + 2) (.slice A n cp) (catL L 6)) := Lib.hid (by
    refine (pEach c r L 37 _ (w.heap.size + 1)
      (fun q n x => w.heap.size + 2 ≤ x.heap.size ∧ ∃ v, Whole x (w.heap.size + 1) 22 #[v] ∧ OwnI x (w.heap.size + 2) v (catL L q ++ (L q).take n))
      (fun x => False) W2 (fun args w => by kernel_rfl)
      (fun x hx q hq => (hR q hq).below (B2.trans (hx.mono (by omega)))) (fun q hq => Nat.le_trans (hsz q hq) (by decide))
      (fun q n x y h hb => ?_) (fun q x hq h => ?_) (fun i k n x hi hk hn hb h => ?_) ⟨by rw [S2]; exact Nat.le_refl _, _, V1, own_nil _ _⟩ (by rw [S2]; omega)).mono ?_
    · obtain ⟨h0, v, h1, h2⟩ := h
      exact ⟨Nat.le_trans h0 hb.size, v, h1.below hb (by omega), h2.below hb⟩
    · obtain ⟨h0, v, h1, h2⟩ := h
      refine ⟨h0, v, h1, ?_⟩
      rw [List.take_length] at h2
      simpa [catL] using h2
    · obtain ⟨h0, v, h1, h2⟩ := h
      have h5 := hcat (2 * i + k) (by omega)
      have h6 := hsz (2 * i + k) (by omega)
      refine (pList1 w.heap.size k i n _ _ v x h1 h2 h0 (by rw [List.length_append, List.length_take]; omega)).mono ?_
      rintro e y ⟨rfl, hby, v', h3, h4⟩
      refine ⟨false, rfl, hb.trans hby, fun _ => ⟨Nat.le_trans h0 hby.size, v', h3, ?_⟩, fun h => by cases h⟩
      rw [List.append_assoc, ← List.take_succ_eq_append_getElem hn] at h4
      exact h4
    · rintro e y ⟨rfl, hby, h⟩
      refine ⟨rfl, B2.trans (hby.mono (by omega)), ?_⟩
      rcases h with ⟨_, v, h1, h2⟩ | h
      · rw [List.take_zero, List.append_nil] at h2
        obtain ⟨A, cp, rfl⟩ := own_len h2
        exact ⟨A, _, cp, h1, h2⟩
      · exact h.elim)
  have X1 := Lib.hid X1
  have HSI : Hid ((Try.prog.info? 33).map (·.size) = some (stC c r).length) := Lib.hid (by kernel_rfl)
  clear hsz hR B2 V1 S2 hcat
  subst hW2
  rw [hv] at KE ⊢
  clear hv
  generalize stC c r = cs at *
  go_enter Try.func16, Try.ntmps16
  go_wp2_with (first
    | ((with_reducible refine at_ld 4 ?_); refine wpList_loadW 33 (.tmp 1) 33 w.heap.size cs X1.out (by kernel_rfl) HSI.out rfl rfl rfl ?_)
    | (go_at_call 33; refine KE.out.mono ?_; rintro e w3 ⟨rfl, b3, A3, n3, cp3, h3, o3⟩; have c3 : w3.cell? ⟨w.heap.size + 1, 0, none⟩ = some (.slice A3 n3 cp3) := (by rw [h3.read]; rfl); have B3 := Lib.hid b3; have O3 := Lib.hid o3; clear b3 h3 o3))
  go_ret
  exact ⟨_, rfl, own_mono O3.out (by omega), B3.out⟩
end Go.Proofs.Ytkalpclckgbedaa
