/-
  Package board: all cards of a state, where they are and with each other. Conditions: at most 1000 cards a row.
-/
import Derived.Test.YtkalpclckgbedaaRgtD
import Derived.Test.YtkalpclckgbedaaRgtC
import Derived.Test.YtkalpclckgbedaaRgtS
import Derived.Test.YtkalpclckgbedaaBt
namespace Go.Proofs.Ytkalpclckgbedaa
open Go.ChangeShapes Go.WideShapes Go.ChangeAt Go.RowKit
set_option linter.unusedVariables false
set_option linter.unusedSimpArgs false
set_option maxRecDepth 20000
set_option maxHeartbeats 3200000
theorem callOp {P : Program} {ops : Array Oper} {Q : Exit → Act → World → Prop} {i k : Nat} {oi : Oper} {l : List Value} {d : List Deferred} {w : World} {K : Act → World → Prop} {f : FuncId} {args : Array Value} (hi : ops[i]? = some oi) (hg : Region.wanted oi (yielded ops (⟨l.toArray, d⟩ : Act).tmps) = true) (hd : oi.dst = some k)
    (he : (execOp (⟨l.toArray, d⟩ : Act).eval oi).run P w = .ok (.enter f args) w) (hc : Calls P f args w fun e w' => ∃ v, e = .returned v ∧ K ⟨(l.set k v).toArray, d⟩ w') : wpOp P ops Q i K ⟨l.toArray, d⟩ w := by
  unfold wpOp
  rw [hi]
  simp only [hg, if_true]
  refine .inl ?_
  unfold Oper.wp
  rw [he, Oper.upon_enter]
  refine hc.mono ?_
  rintro e w' ⟨v, rfl, h⟩
  rw [hd]
  simpa [Act.put] using h
theorem RcAt.iff {w : World} {b : Nat} {c : Sc} {r : Nat → Value} {P P' : Prop} {ids ids' : List Int} {x : World} (h : RcAt w b c r P ids x) (hp : P ↔ P') (hi : ids = ids') : RcAt w b c r P' ids' x := by
  subst hi
  obtain ⟨bb, h1, h2⟩ := h.right
  exact ⟨h.whole, ⟨bb, h1, h2.trans hp⟩, h.ids, h.below, h.size⟩
def CardsTo (c : Sc) (L : Nat → List Ins) (m : Nat) : Prop := ∀ q, q < m → ∀ x ∈ L q, CardOK c.next (seatOf q : Nat) x
theorem cards_step (c : Sc) (L : Nat → List Ins) (m k : Nat) (hk : seatOf m = k) : (CardsTo c L m ∧ ∀ z ∈ L m, CardOK c.next (k : Int) z) ↔ CardsTo c L (m + 1) := by
  subst hk
  unfold CardsTo
  constructor
  · rintro ⟨h1, h2⟩ q hq
    by_cases e : q = m
    · subst e; exact h2
    · exact h1 q (by omega)
  · intro h
    exact ⟨fun q hq => h q (by omega), h m (by omega)⟩
theorem pCards (c : Sc) (r : Nat → Value) (L : Nat → List Ins) (w : World) (hR : Rows12 w r L) (hsz : ∀ q, q < 12 → (L q).length ≤ 1000) :
    Calls Try.prog 44 #[stV c r] w (Ans (CardsTo c L 12 ∧ ((catL L 12).map (·.id)).Nodup) w) := by
  have hv : stV c r = .agg (stC c r).toArray := rfl
  have R0 : Hid (RcAt w w.heap.size c r (CardsTo c L 0) ((catL L 0).map (·.id)) (((w.alloc (.cells (stC c r).toArray 33)).alloc (.cells #[.bool true] 4)).alloc (.cells #[.slice none 0 0] 62))) := Lib.hid (by
    have h1 := (Whole.made w 33 (stC c r).toArray).alloc (.cells #[.bool true] 4)
    have h2 := Whole.made (w.alloc (.cells (stC c r).toArray 33)) 4 #[.bool true]
    rw [World.size_alloc] at h2
    obtain ⟨W2, hW2⟩ : ∃ W2, (w.alloc (.cells (stC c r).toArray 33)).alloc (.cells #[.bool true] 4) = W2 := ⟨_, rfl⟩
    have s2 : W2.heap.size = w.heap.size + 2 := by rw [← hW2]; simp
    have b2 : Below w.heap.size w W2 := by rw [← hW2]; exact ((Below.refl _ _).alloc (Nat.le_refl _) _).alloc (by simp) _
    rw [hW2] at h1 h2 ⊢
    have h5 := Whole.made W2 62 #[.slice none 0 0]
    rw [s2] at h5
    exact ⟨h1.alloc _, ⟨true, h2.alloc _, by simp [CardsTo]⟩, ⟨.slice none 0 0, h5, World.ownsRow_nil _ _ _ _⟩, b2.alloc b2.size _, by rw [World.size_alloc, s2]; exact Nat.le_refl _⟩)
  have hcat : ∀ m, m ≤ 12 → ((catL L m).map (·.id)).length ≤ 1000000 := fun m hm => by
    rw [List.length_map]
    have := catL_len hsz m hm
    omega
  have KE : Hid (∀ x, RcAt w w.heap.size c r (CardsTo c L 0) ((catL L 0).map (·.id)) x → Calls Try.prog 35 #[.pointer (some ⟨w.heap.size, 0, none⟩), .func (.func 48) #[] #[.pointer (some ⟨w.heap.size + 1, 0, none⟩), .pointer (some ⟨w.heap.size, 0, none⟩), .pointer (some ⟨w.heap.size + 2, 0, none⟩)]] x fun e y => e = .returned (.tuple #[]) ∧ RcAt w w.heap.size c r (CardsTo c L 12) ((catL L 12).map (·.id)) y) := Lib.hid fun x hx => by
    refine pEachList w.heap.size 48 _ (fun m y => RcAt w w.heap.size c r (CardsTo c L m) ((catL L m).map (·.id)) y) (fun args w => by kernel_rfl) (fun i k x hi hk h => ?_) (fun k j x hk hj h => ?_) x hx
    · refine (pRc1 w w.heap.size (1 + i * 4 + 2 + k) c r (L (2 * i + k)) (k : Int) _ _ x _ (Nat.le_refl _) h (st_side h.whole i k hi hk) (fun y hy => (hR _ (by omega)).below hy) (hsz _ (by omega)) (hcat _ (by omega))).mono ?_
      rintro e y ⟨rfl, h2⟩
      exact ⟨rfl, h2.iff (cards_step c L (2 * i + k) k (by unfold seatOf; rw [if_pos (by omega)]; omega)) (by simp only [catL]; rw [List.map_append])⟩
    · refine (pRc1 w w.heap.size (13 + k * 6 + j) c r (L (6 + 3 * k + j)) (k : Int) _ _ x _ (Nat.le_refl _) h (st_pile h.whole k j hk hj) (fun y hy => (hR _ (by omega)).below hy) (hsz _ (by omega)) (hcat _ (by omega))).mono ?_
      rintro e y ⟨rfl, h2⟩
      exact ⟨rfl, h2.iff (cards_step c L (6 + 3 * k + j) k (by unfold seatOf; rw [if_neg (by omega)]; omega)) (by simp only [catL]; rw [List.map_append])⟩
  have HCL := Lib.hid (hcat 12 (Nat.le_refl _))
  rw [hv]
  clear hv hR hsz hcat
  generalize (catL L 12).map (·.id) = ids at *
  generalize CardsTo c L 12 = PC at *
  generalize (stC c r).toArray = arr at R0 ⊢
  go_enter Try.func44, Try.ntmps44
  go_upto_region 4 with (go_at_call 35; refine (KE.out _ R0.out).mono ?_; rintro e w3 ⟨rfl, h3⟩; have H3 := Lib.hid h3; clear h3)
  obtain ⟨bb, hb1, hb2⟩ := H3.out.right
  obtain ⟨v, hv1, hv2⟩ := H3.out.ids
  obtain ⟨A, cp, rfl, _, _, _⟩ := own_form hv2
  have c2 : w3.cell? ⟨w.heap.size + 2, 0, none⟩ = some (.slice A ids.length cp) := by rw [hv1.read]; rfl
  have KS := Lib.hid (sortI ids ids.length (w.heap.size + 3) _ w3 hv2 HCL.out)
  have V1 := Lib.hid hv1
  have V2 := Lib.hid hv2
  have U1 := Lib.hid hb1
  have HB2 := Lib.hid hb2
  obtain ⟨n, hn⟩ : ∃ n, ids.length = n := ⟨_, rfl⟩
  have HN := Lib.hid hn
  rw [hn] at KS V1 V2 c2
  clear hb1 hb2 hv1 hv2 hn KE R0
  have LOW : Hid (∀ k, (Value.slice A n cp).ownBlock = some k → w.heap.size + 3 ≤ k) := Lib.hid fun k h => (World.ownsRow.lt V2.out k h).1
  go_upto_region 5 with (go_at_call 50; (with_reducible refine KS.out.mono ?_); rintro e w4 ⟨rfl, o4, k4⟩; have K4 := Lib.hid k4; have O4 := Lib.hid o4; clear k4 o4)
  have x1 := K4.out.whole U1.out (fun h => by have := LOW.out _ h; omega)
  have x2 := K4.out.whole V1.out (fun h => by have := LOW.out _ h; omega)
  have x3 := H3.out.below.trans (K4.out.below H3.out.below.size (fun k h => by have := LOW.out _ h; omega))
  have CN := Lib.hid (compact_nodup ids)
  have KC := Lib.hid (fun y hy => compactI (ids.mergeSort fun a b => decide (a ≤ b)) n (w.heap.size + 3) (.slice A n cp) y hy (by rw [← HN.out]; exact HCL.out))
  rw [HN.out] at CN
  generalize (ids.mergeSort fun a b => decide (a ≤ b)) = srt at *
  generalize (Lib.compact srt).length = cl at *
  clear c2 KS
  cases bb
  · have hst : Stab (fun y => Whole y (w.heap.size + 1) 4 #[.bool false] ∧ Whole y (w.heap.size + 2) 62 #[.slice A n cp] ∧ Below w.heap.size w y) := fun y z h e => ⟨h.1.below e h.1.inside, h.2.1.below e h.2.1.inside, bthen h.2.2 e⟩
    refine wp_region_bt (fun _ => false) (fun y => Whole y (w.heap.size + 1) 4 #[.bool false] ∧ Whole y (w.heap.size + 2) 62 #[.slice A n cp] ∧ Below w.heap.size w y) (fun y => Whole y (w.heap.size + 1) 4 #[.bool false] ∧ Whole y (w.heap.size + 2) 62 #[.slice A n cp] ∧ Below w.heap.size w y) (by kernel_rfl) (hst _ _ ⟨x1, x2, x3⟩ (below_drew1 (Below.refl _ _))) ?_
    refine BT.take (i := 0) (v := .bool false) rfl rfl (by kernel_rfl) (by kernel_rfl) (by kernel_rfl) (by kernel_rfl) (fun _ _ _ h => h) hst (fun _ h => h) (gives_cell (b := w.heap.size + 1) (k := 0) rfl rfl rfl (fun y hy => by rw [hy.1.read]; rfl) (by kernel_rfl)) ?_
    simp only [List.set_cons_zero, List.set_cons_succ]
    refine BT.take (i := 1) (v := .bool false) rfl rfl (by kernel_rfl) (by kernel_rfl) (by kernel_rfl) (by kernel_rfl) (fun _ _ _ h => h) hst (fun _ h => h) (gives_move rfl rfl rfl) ?_
    simp only [List.set_cons_zero, List.set_cons_succ]
    refine BT.take (i := 2) (v := undef) rfl rfl (by kernel_rfl) (by kernel_rfl) (by kernel_rfl) (by kernel_rfl) (fun _ _ _ h => h) hst (fun _ h => h) (gives_not (by rfl)) ?_
    simp only [List.set_cons_zero, List.set_cons_succ]
    refine BT.take (i := 3) (v := undef) rfl rfl (by kernel_rfl) (by kernel_rfl) (by kernel_rfl) (by kernel_rfl) (fun _ _ _ h => h) hst (fun _ h => h) (gives_not (by rfl)) ?_
    simp only [List.set_cons_zero, List.set_cons_succ]
    refine BT.take (i := 4) (v := undef) rfl rfl (by kernel_rfl) (by kernel_rfl) (by kernel_rfl) (by kernel_rfl) (fun _ _ _ h => h) hst (fun _ h => h) (gives_not (by rfl)) ?_
    simp only [List.set_cons_zero, List.set_cons_succ]
    refine BT.take (i := 5) (v := undef) rfl rfl (by kernel_rfl) (by kernel_rfl) (by kernel_rfl) (by kernel_rfl) (fun _ _ _ h => h) hst (fun _ h => h) (gives_not (by rfl)) ?_
    simp only [List.set_cons_zero, List.set_cons_succ]
    refine BT.take (i := 6) (v := undef) rfl rfl (by kernel_rfl) (by kernel_rfl) (by kernel_rfl) (by kernel_rfl) (fun _ _ _ h => h) hst (fun _ h => h) (gives_not (by rfl)) ?_
    simp only [List.set_cons_zero, List.set_cons_succ]
    refine BT.take (i := 7) (v := undef) rfl rfl (by kernel_rfl) (by kernel_rfl) (by kernel_rfl) (by kernel_rfl) (fun _ _ _ h => h) hst (fun _ h => h) (gives_not (by rfl)) ?_
    simp only [List.set_cons_zero, List.set_cons_succ]
    refine BT.take (i := 8) (v := .bool false) rfl rfl (by kernel_rfl) (by kernel_rfl) (by kernel_rfl) (by kernel_rfl) (fun _ _ _ h => h) hst (fun _ h => h) (gives_ok rfl (fun y hy => by clear hy; go_simp)) ?_
    simp only [List.set_cons_zero, List.set_cons_succ]
    refine BT.take (i := 9) (v := .bool false) rfl rfl (by kernel_rfl) (by kernel_rfl) (by kernel_rfl) (by kernel_rfl) (fun _ _ _ h => h) hst (fun _ h => h) (gives_ok rfl (fun y hy => by clear hy; go_simp)) ?_
    simp only [List.set_cons_zero, List.set_cons_succ]
    refine BT.done (by kernel_rfl) (fun wn hS => ?_)
    have BN := hS.2.2
    clear hS hst
    go_wp2
    go_ret
    exact Ans.no (fun h => by have := HB2.out.2 h.1; cases this) BN
  · have hst : Stab (fun y => (Whole y (w.heap.size + 1) 4 #[.bool true] ∧ Whole y (w.heap.size + 2) 62 #[.slice A n cp] ∧ Below w.heap.size w y) ∧ y.ownsRow (w.heap.size + 3) 3 1 (.slice A n cp) n (ints srt)) := fun y z h e => ⟨⟨h.1.1.below e h.1.1.inside, h.1.2.1.below e h.1.2.1.inside, bthen h.1.2.2 e⟩, own_below h.2 e⟩
    have hst1 : Stab (fun y => Whole y (w.heap.size + 1) 4 #[.bool true] ∧ Whole y (w.heap.size + 2) 62 #[.slice A n cp] ∧ Below w.heap.size w y) := fun y z h e => ⟨h.1.below e h.1.inside, h.2.1.below e h.2.1.inside, bthen h.2.2 e⟩
    refine wp_region_bt (fun _ => false) (fun y => Whole y (w.heap.size + 1) 4 #[.bool true] ∧ Whole y (w.heap.size + 2) 62 #[.slice A n cp] ∧ Below w.heap.size w y) (fun y => (Whole y (w.heap.size + 1) 4 #[.bool true] ∧ Whole y (w.heap.size + 2) 62 #[.slice A n cp] ∧ Below w.heap.size w y) ∧ y.ownsRow (w.heap.size + 3) 3 1 (.slice A n cp) n (ints srt)) (by kernel_rfl) (hst _ _ ⟨⟨x1, x2, x3⟩, O4.out⟩ (below_drew1 (Below.refl _ _))) ?_
    refine BT.take (i := 0) (v := .bool true) rfl rfl (by kernel_rfl) (by kernel_rfl) (by kernel_rfl) (by kernel_rfl) (fun _ _ _ h => h) hst (fun _ h => h.1) (gives_cell (b := w.heap.size + 1) (k := 0) rfl rfl rfl (fun y hy => by rw [hy.1.read]; rfl) (by kernel_rfl)) ?_
    simp only [List.set_cons_zero, List.set_cons_succ]
    refine BT.take (i := 1) (v := .bool true) rfl rfl (by kernel_rfl) (by kernel_rfl) (by kernel_rfl) (by kernel_rfl) (fun _ _ _ h => h) hst (fun _ h => h.1) (gives_move rfl rfl rfl) ?_
    simp only [List.set_cons_zero, List.set_cons_succ]
    refine BT.take (i := 2) (v := .slice A n cp) rfl rfl (by kernel_rfl) (by kernel_rfl) (by kernel_rfl) (by kernel_rfl) (fun _ _ _ h => h) hst (fun _ h => h.1) (gives_cellG (b := w.heap.size + 2) (k := 0) (by rfl) rfl rfl (fun y hy => by rw [hy.2.1.read]; rfl) (by kernel_rfl)) ?_
    simp only [List.set_cons_zero, List.set_cons_succ]
    refine BT.take (i := 5) (v := .slice A n cp) rfl rfl (by kernel_rfl) (by kernel_rfl) (by kernel_rfl) (by kernel_rfl) (fun _ _ _ h => h) hst (fun _ h => h.1) (gives_cellG (b := w.heap.size + 2) (k := 0) (by rfl) rfl rfl (fun y hy => by rw [hy.2.1.read]; rfl) (by kernel_rfl)) ?_
    simp only [List.set_cons_zero, List.set_cons_succ]
    refine BT.take (i := 6) (v := .int .i64 (n : Int)) rfl rfl (by kernel_rfl) (by kernel_rfl) (by kernel_rfl) (by kernel_rfl) (fun _ _ _ h => h) hst (fun _ h => h.1) (gives_okG (by rfl) (fun y hy => by clear hy; go_simp)) ?_
    simp only [List.set_cons_zero, List.set_cons_succ]
    refine BT.one (i := 3) (by kernel_rfl) (fun y hy => callOp rfl (by rfl) rfl (by clear hy; kernel_rfl) ((KC.out y hy.2).mono ?_))
    rintro e z ⟨A2, c2, rfl, kz⟩
    refine ⟨_, rfl, (fun y => Whole y (w.heap.size + 1) 4 #[.bool true] ∧ Whole y (w.heap.size + 2) 62 #[.slice A n cp] ∧ Below w.heap.size w y), ⟨kz.whole hy.1.1 (fun h => by have := LOW.out _ h; omega), kz.whole hy.1.2.1 (fun h => by have := LOW.out _ h; omega), hy.1.2.2.trans (kz.below hy.1.2.2.size (fun k h => by have := LOW.out _ h; omega))⟩, hst1, (fun _ _ h => h), ?_⟩
    simp only [List.set_cons_zero, List.set_cons_succ]
    clear hy kz
    refine BT.take (i := 4) (v := .int .i64 (cl : Int)) rfl rfl (by kernel_rfl) (by kernel_rfl) (by kernel_rfl) (by kernel_rfl) (fun _ _ _ h => h) hst1 (fun _ h => h) (gives_okG (by rfl) (fun y hy => by clear hy; go_simp)) ?_
    simp only [List.set_cons_zero, List.set_cons_succ]
    refine BT.take (i := 7) (v := .bool ((cl : Int) == (n : Int))) rfl rfl (by kernel_rfl) (by kernel_rfl) (by kernel_rfl) (by kernel_rfl) (fun _ _ _ h => h) hst1 (fun _ h => h) (gives_okG (by rfl) (fun y hy => by clear hy; go_simp)) ?_
    simp only [List.set_cons_zero, List.set_cons_succ]
    refine BT.take (i := 8) (v := .bool ((cl : Int) == (n : Int))) rfl rfl (by kernel_rfl) (by kernel_rfl) (by kernel_rfl) (by kernel_rfl) (fun _ _ _ h => h) hst1 (fun _ h => h) (gives_ok rfl (fun y hy => by clear hy; go_simp)) ?_
    simp only [List.set_cons_zero, List.set_cons_succ]
    refine BT.take (i := 9) (v := .bool ((cl : Int) == (n : Int))) rfl rfl (by kernel_rfl) (by kernel_rfl) (by kernel_rfl) (by kernel_rfl) (fun _ _ _ h => h) hst1 (fun _ h => h) (gives_ok rfl (fun y hy => by clear hy; go_simp)) ?_
    simp only [List.set_cons_zero, List.set_cons_succ]
    refine BT.done (by kernel_rfl) (fun wn hS => ?_)
    have BN := hS.2.2
    clear hS hst hst1
    go_wp2
    go_ret
    refine ⟨_, rfl, ?_, BN⟩
    rw [beq_iff_eq]
    constructor
    · intro h
      exact ⟨HB2.out.1 (by first | rfl | trivial), CN.out.1 (by omega)⟩
    · intro h
      have := CN.out.2 h.2
      omega
end Go.Proofs.Ytkalpclckgbedaa
