/-
  The document's answer: a card taken away. Conditions: at most 1000 cards a row.
-/
import Derived.Test.YtkalpclckgbedaaStSet
import Derived.Test.YtkalpclckgbedaaStPiles
namespace Go.Proofs.Ytkalpclckgbedaa
open Go.ChangeShapes Go.WideShapes Go.ChangeAt Go.RowKit
set_option linter.unusedVariables false
set_option linter.unusedSimpArgs false
set_option maxRecDepth 20000
set_option maxHeartbeats 3200000
theorem cutI_hi (g off len cp n : Nat) (hn : n ≤ cp) (h0 : 0 < cp) (w : World) : (Instr.slice 22 (.slice (some ⟨g, off, none⟩) len cp) none (some (.int .i64 (n : Int))) none).run Try.prog w = .ok (.slice (some ⟨g, off, none⟩) n cp) w := by
  have hs : ∀ w, (Go.sizeOf (Try.prog.elem 22)).run Try.prog w = .ok 7 w := fun w => by kernel_rfl
  rw [run_slice_h w 22 (some ⟨g, off, none⟩) len cp (by kernel_rfl) .i64 (n : Int) (by omega) (by omega), hs]
  simp only [Result.andThen, sliced]
  have h : ¬ cp = 0 := by omega
  simp [h, Addr.add]
theorem cutI_lo (g off len cp n : Nat) (hn : n + 1 ≤ len) (w : World) : (Instr.slice 22 (.slice (some ⟨g, off, none⟩) len cp) (some (.int .i64 ((n : Int) + 1))) none none).run Try.prog w = .ok (.slice (some (if cp = n + 1 then ⟨g, off, none⟩ else ⟨g, off + (n + 1) * 7, none⟩)) (len - (n + 1)) (cp - (n + 1))) w := by
  have hs : ∀ w, (Go.sizeOf (Try.prog.elem 22)).run Try.prog w = .ok 7 w := fun w => by kernel_rfl
  rw [run_slice_l w 22 (some ⟨g, off, none⟩) len cp (by kernel_rfl) .i64 ((n : Int) + 1) (by omega) (by omega), hs]
  simp only [Result.andThen, sliced]
  have e : ((n : Int) + 1).toNat = n + 1 := by omega
  rw [e]
  by_cases h : cp = n + 1
  · simp [h]
  · have h0 : ¬ (n + 1) * 7 = 0 := by omega
    simp [h, Addr.add, h0]
theorem rowR_hi {w : World} {g off cp n : Nat} {l : List Ins} (h : RowR w (.slice (some ⟨g, off, none⟩) l.length cp) l) (hn : n ≤ l.length) : RowR w (.slice (some ⟨g, off, none⟩) n cp) (l.take n) := by
  obtain ⟨A, c, e, hr, hc, _, hm⟩ := h
  injection e with e1 _ e3
  subst e1 e3
  have hl : (l.take n).length = n := by rw [List.length_take]; omega
  refine ⟨_, cp, by rw [hl], ?_, by omega, (fun e => by cases e), by omega⟩
  rcases hr with q | ⟨p, hp, hb, hcl⟩
  · have : l = [] := by
      have := congrArg List.length q
      rw [insC_len] at this
      exact List.length_eq_zero_iff.1 (by simp at this; omega)
    subst this
    exact .inl (by simp [insC])
  · injection hp with hp
    subst hp
    refine .inr ⟨_, rfl, hb, fun j hj => ?_⟩
    have hj2 : j < (insC l).length := by rw [insC_len] at hj ⊢; rw [hl] at hj; omega
    rw [hcl j hj2]
    have e : insC l = insC (l.take n) ++ insC (l.drop n) := by rw [← insC_app, List.take_append_drop]
    rw [e, List.getElem?_append_left hj]
theorem rowR_lo {w : World} {g off cp n : Nat} {l : List Ins} (h : RowR w (.slice (some ⟨g, off, none⟩) l.length cp) l) (hn : n + 1 ≤ l.length) : RowR w (.slice (some (if cp = n + 1 then ⟨g, off, none⟩ else ⟨g, off + (n + 1) * 7, none⟩)) (l.length - (n + 1)) (cp - (n + 1))) (l.drop (n + 1)) := by
  obtain ⟨A, c, e, hr, hc, _, hm⟩ := h
  injection e with e1 _ e3
  subst e1 e3
  have hl : (l.drop (n + 1)).length = l.length - (n + 1) := by rw [List.length_drop]
  refine ⟨_, cp - (n + 1), by rw [hl], ?_, by omega, (fun e => by cases e), by omega⟩
  by_cases hcp : cp = n + 1
  · have : l.drop (n + 1) = [] := List.drop_eq_nil_of_le (by omega)
    rw [this]
    exact .inl rfl
  · rw [if_neg hcp]
    rcases hr with q | ⟨p, hp, hb, hcl⟩
    · have := congrArg List.length q
      rw [insC_len] at this
      simp only [List.length_nil] at this
      omega
    · injection hp with hp
      subst hp
      refine .inr ⟨_, rfl, hb, fun j hj => ?_⟩
      have lt : (insC (l.take (n + 1))).length = (n + 1) * 7 := by rw [insC_len, List.length_take]; omega
      have e : insC l = insC (l.take (n + 1)) ++ insC (l.drop (n + 1)) := by rw [← insC_app, List.take_append_drop]
      have := hcl ((n + 1) * 7 + j) (by rw [e, List.length_append, lt]; omega)
      rw [Addr.add_lit] at this ⊢
      rw [show off + (n + 1) * 7 + j = off + ((n + 1) * 7 + j) by omega, this, e, List.getElem?_append_right (by omega), lt, Nat.add_sub_cancel_left]
def takeL (L : Nat → List Ins) (id : Int) : Nat → List Ins := match placeO L id with
  | some (q, n) => setRow L q ((L q).take n ++ (L q).drop (n + 1))
  | none => L
theorem rTake (c : Sc) (r : Nat → Value) (L : Nat → List Ins) (id : Int) (w : World) (hR : Rows12 w r L) (hsz : ∀ q, q < 12 → (L q).length ≤ 1000) :
    Calls Try.prog 28 #[stV c r, .int .i64 id] w fun e w' => ∃ r', e = .returned (.tuple #[stV c r', .bool (placeO L id).isSome]) ∧ Rows12 w' r' (takeL L id) ∧ Below w.heap.size w w' := by
  obtain ⟨W3, hW3⟩ : ∃ W3, (w.alloc (.cells (stC c r).toArray 33)).alloc (.cells zeroSt.toArray 33) = W3 := ⟨_, rfl⟩
  have x1 : Whole W3 w.heap.size 33 (stC c r).toArray := by rw [← hW3]; exact (Whole.made w _ _).alloc _
  have x3 : Whole W3 (w.heap.size + 1) 33 zeroSt.toArray := by
    have h2 := Whole.made (w.alloc (.cells (stC c r).toArray 33)) 33 zeroSt.toArray
    rw [World.size_alloc, hW3] at h2
    exact h2
  have xb : Below w.heap.size w W3 := by rw [← hW3]; exact ((Below.refl _ _).alloc (Nat.le_refl _) _).alloc (by simp) _
  have KP := rPlace c r L id W3 (fun q hq => (hR q hq).below xb)
  have hv : stV c r = .agg (stC c r).toArray := rfl
  rw [hv] at KP
  have X1 := Lib.hid x1
  have X3 := Lib.hid x3
  have XB := Lib.hid xb
  have HR := Lib.hid hR
  have hlen : (stC c r).length = 30 := rfl
  have HSI : Hid ((Try.prog.info? 33).map (·.size) = some 30) := Lib.hid (by kernel_rfl)
  have HL : Hid ((stC c r).length = 30) := Lib.hid hlen
  have HO : Hid (∀ v ∈ stC c r, v.oneCell' = true) := Lib.hid (stC_one hR.one)
  unfold takeL
  rw [hv]
  cases hp : placeO L id with
  | none =>
    rw [hp] at KP
    have KP := Lib.hid KP
    have HST : Hid (stV c r = .agg (stC c r).toArray) := Lib.hid rfl
    clear hR hv x1 x3 xb hp hlen
    subst hW3
    generalize stC c r = S at *
    go_enter Try.func28, Try.ntmps28
    go_wp2_with (first
      | ((with_reducible refine at_ld 11 ?_); refine wpList_loadW 33 (.tmp 2) 33 w.heap.size S X1.out (by kernel_rfl) (by rw [HL.out]; exact HSI.out) rfl rfl rfl ?_)
      | (go_at_call 11; refine KP.out.mono ?_; rintro e w3 ⟨rfl, b3⟩; have Y1 := Lib.hid (X1.out.below b3 X1.out.inside); have Y3 := Lib.hid (X3.out.below b3 X3.out.inside); have B3 := Lib.hid (bthen XB.out b3); unfold placeV; clear b3)
      | ((with_reducible refine at_ld 19 ?_); refine wpList_loadW 33 (.tmp 2) 33 w.heap.size S Y1.out (by kernel_rfl) (by rw [HL.out]; exact HSI.out) rfl rfl rfl ?_)
      | ((with_reducible refine at_st 4 19 ?_); refine wpList_storeW 33 (.tmp 4) (.tmp 19) 33 (w.heap.size + 1) zeroSt S Y3.out HL.out (by rw [HL.out]; exact HSI.out) HO.out rfl rfl rfl rfl rfl ?_; intro w9 p9; have P9 := Lib.hid p9; clear p9))
    refine bodyPost_ret (results_ct Try.results28 _ _ (w.heap.size + 1) 33 S.toArray _ (.bool false) rfl rfl P9.out.whole Try.underlying33 rfl (by rw [List.size_toArray, HL.out]; exact HSI.out)) rfl ?_
    have bb := B3.out.trans (P9.out.keeps.below B3.out.size (fun k h => by have h3 : k = w.heap.size + 1 := h; omega))
    exact ⟨r, by rw [HST.out]; rfl, fun q hq => (HR.out q hq).below bb, bb⟩
  | some p =>
    obtain ⟨q, n⟩ := p
    rw [hp] at KP
    obtain ⟨hq6, hnl, hid⟩ := placeO_some hp
    rw [placeV_at n (k := q % 2) (i := q / 2) rfl rfl] at KP
    obtain ⟨k, hk⟩ : ∃ k, q % 2 = k := ⟨_, rfl⟩
    obtain ⟨i, hi⟩ : ∃ i, q / 2 = i := ⟨_, rfl⟩
    rw [hk, hi] at KP
    have hqe : q = 2 * i + k := by omega
    have hi3 : i < 3 := by omega
    have hk2 : k < 2 := by omega
    have KP := Lib.hid KP
    have hbn : (L q).length ≤ 1000 := hsz q (by omega)
    have HSD : Hid (∀ y, Whole y w.heap.size 33 (stC c r).toArray → y.cell? ⟨w.heap.size, 1 + i * 4 + 2 + k, none⟩ = some (r q)) := Lib.hid fun y hy => by rw [st_side hy i k hi3 hk2, ← hqe]
    have HST : Hid (∀ v, (stC c r).toArray.setIfInBounds (1 + i * 4 + 2 + k) v = (stC c (upd r q v)).toArray) := Lib.hid fun v => by rw [hqe]; exact stC_side c r i k hi3 hk2 v
    have hrow := hR q (by omega)
    obtain ⟨A, cp, e, hrd, hcp, _, hml⟩ := _root_.id hrow
    obtain ⟨g, off, rfl, hg, _⟩ := row_lit hrd (by omega)
    rw [e] at hrow
    have HE := Lib.hid e
    have RH : Hid (∀ y, Below w.heap.size w y → RowR y (.slice (some ⟨g, off, none⟩) n cp) ((L q).take n)) := Lib.hid fun y hy => rowR_hi (hrow.below hy) (by omega)
    have RL : Hid (∀ y, Below w.heap.size w y → RowR y (.slice (some (if cp = n + 1 then ⟨g, off, none⟩ else ⟨g, off + (n + 1) * 7, none⟩)) ((L q).length - (n + 1)) (cp - (n + 1))) ((L q).drop (n + 1))) := Lib.hid fun y hy => rowR_lo (hrow.below hy) (by omega)
    have KH := fun w => cutI_hi g off (L q).length cp n (by omega) (by omega) w
    have KLo := fun w => cutI_lo g off (L q).length cp n (by omega) w
    have ln : (n : Int) < ((L q).length : Int) := by omega
    have lk : (k : Int) < 2 := by omega
    have li : (i : Int) < 3 := by omega
    have lk0 : ¬ (k : Int) < 0 := by omega
    have hw1 : IntKind.i64.wrap ((n : Int) + 1) = (n : Int) + 1 := IntWalk.i64_in _ (by omega)
    have HZ1 : Hid (0 + ((L q).take n).length ≤ 2199023255552) := Lib.hid (by rw [List.length_take]; omega)
    have HZ2 : Hid (0 + ((L q).take n).length + ((L q).drop (n + 1)).length ≤ 2199023255552) := Lib.hid (by rw [List.length_take, List.length_drop]; omega)
    obtain ⟨a, ha⟩ : ∃ a, (if cp = n + 1 then (⟨g, off, none⟩ : Addr) else ⟨g, off + (n + 1) * 7, none⟩) = a := ⟨_, rfl⟩
    rw [ha] at RL
    simp only [ha] at KLo
    clear hR hv x1 x3 xb hp hlen e hid hk hi hqe hsz hml hrow hrd ha hg hcp
    subst hW3
    obtain ⟨nq, hnq⟩ : ∃ m, (L q).length = m := ⟨_, rfl⟩
    rw [hnq] at ln hbn HE RL
    simp only [hnq] at KH KLo
    clear hnq hnl
    have KB : Hid (∀ (x y : World) (o : Obj), (x.drew.alloc o).grownBy y (some x.heap.size) → Below x.heap.size x y) := Lib.hid fun x y o g =>
      (((Keeps.refl (fun k => x.heap.size ≤ k) x).drew.alloc o).grown g (fun k hk => by injection hk with hk; exact Nat.le_of_eq hk)).below (Nat.le_refl _) (fun k h => h)
    go_enter Try.func28, Try.ntmps28
    go_wp2_with (first
      | ((with_reducible refine at_ld 11 ?_); refine wpList_loadW 33 (.tmp 2) 33 w.heap.size (stC c r) X1.out (by kernel_rfl) (by rw [HL.out]; exact HSI.out) rfl rfl rfl ?_)
      | (go_at_call 11; refine KP.out.mono ?_; rintro e w3 ⟨rfl, b3⟩; have Y1 := Lib.hid (X1.out.below b3 X1.out.inside); have Y3 := Lib.hid (X3.out.below b3 X3.out.inside); have B3 := Lib.hid (bthen XB.out b3); have sd := HSD.out w3 Y1.out; rw [HE.out] at sd; have lt3 : w.heap.size + 1 < w3.heap.size := Y3.out.inside; have lt1 : w.heap.size < w3.heap.size := (by omega); clear b3))
    have BD : Hid (∀ o, Below w.heap.size w (w3.drew.alloc o)) := Lib.hid fun o => (below_drew1 B3.out).alloc (by show w.heap.size ≤ w3.heap.size; omega) o
    go_region_law (first
      | (refine step_cat _ (.tmp 29) (.tmp 32) (w.heap.size + 2) _ (.slice (some ⟨g, off, none⟩) n cp) 0 [] ((L q).take n) (ownI_at (show w.heap.size + 2 ≤ w3.heap.size by omega) rfl) (RH.out _ (BD.out _)) HZ1.out (by show w.heap.size + 2 ≤ (World.alloc w3 _).heap.size; rw [World.size_alloc]; omega) rfl rfl rfl rfl ?_; intro v4 w4 o4 g4 _; have b4 := KB.out _ _ _ g4; have O4 := Lib.hid o4; have B4 := Lib.hid (bthen B3.out b4); have Z4 := Lib.hid b4; clear o4 g4 b4)
      | (refine step_cat _ (.tmp 33) (.tmp 37) (w.heap.size + 2) _ (.slice (some a) (nq - (n + 1)) (cp - (n + 1))) _ _ ((L q).drop (n + 1)) O4.out (RL.out _ B4.out) HZ2.out (by have h := Z4.out.size; omega) rfl rfl rfl rfl ?_; intro v5 w5 o5 g5 _
         have h5 := ((Keeps.refl (fun j => w.heap.size + 2 ≤ j) w4).grown g5 (fun j hj => (World.ownsRow.lt O4.out j hj).1)).below (B := w.heap.size + 2) (by have h := Z4.out.size; omega) (fun j h => h)
         have U1 := Lib.hid ((Y1.out.below Z4.out Y1.out.inside).below h5 (by omega))
         have U3 := Lib.hid ((Y3.out.below Z4.out Y3.out.inside).below h5 (by omega))
         have B5 := Lib.hid (B4.out.trans (h5.mono (by omega)))
         have O5 : Hid (OwnI w5 (w.heap.size + 2) v5 ((L q).take n ++ (L q).drop (n + 1))) := Lib.hid (by unfold OwnI; rw [insC_app, List.length_append]; simpa using o5)
         obtain ⟨A5, c5, rfl⟩ := own_len O5.out
         have sd := HSD.out w5 U1.out
         rw [HE.out] at sd
         have fd : w5.frozen? ⟨w.heap.size, 1 + i * 4 + 2 + k, none⟩ = false := U1.out.thawed _
         obtain ⟨mm, hmm⟩ : ∃ m, ((L q).take n ++ (L q).drop (n + 1)).length = m := ⟨_, rfl⟩
         rw [hmm] at O5 ⊢
         clear hmm o5 g5 h5))
    all_goals
      go_wp2_with (first
        | ((with_reducible refine at_ld 43 ?_); refine wpList_loadW 33 (.tmp 2) 33 w.heap.size (stC c (upd r q (.slice A5 mm c5))) (by rw [← HST.out]; exact U1.out.write _ _) (by kernel_rfl) (by rw [show (stC c (upd r q (.slice A5 mm c5))).length = 30 from rfl]; exact HSI.out) rfl rfl rfl ?_)
        | ((with_reducible refine at_st 4 43 ?_); refine wpList_storeW 33 (.tmp 4) (.tmp 43) 33 (w.heap.size + 1) zeroSt (stC c (upd r q (.slice A5 mm c5))) ((Keeps.setCell (S := fun k => k = w.heap.size) (Keeps.refl _ w5) (p := ⟨w.heap.size, 1 + i * 4 + 2 + k, none⟩) rfl _).whole U3.out (fun e => by have e2 : w.heap.size + 1 = w.heap.size := e; omega)) rfl (by rw [show (stC c (upd r q (.slice A5 mm c5))).length = 30 from rfl]; exact HSI.out) (stC_one fun j hj => by unfold upd; split; rfl; exact HR.out.one j hj) rfl rfl rfl rfl rfl ?_; intro w9 p9; have P9 := Lib.hid p9; clear p9))
      refine bodyPost_ret (results_ct Try.results28 _ _ (w.heap.size + 1) 33 (stC c (upd r q (.slice A5 mm c5))).toArray _ (.bool true) rfl rfl P9.out.whole Try.underlying33 rfl (by kernel_rfl)) rfl ?_
      have k1 : Keeps (fun k => k = w.heap.size) w5 (w5.setCell ⟨w.heap.size, 1 + i * 4 + 2 + k, none⟩ (.slice A5 mm c5)) := Keeps.setCell (S := fun k => k = w.heap.size) (Keeps.refl _ w5) (p := ⟨w.heap.size, 1 + i * 4 + 2 + k, none⟩) rfl _
      have b6 := B5.out.trans (k1.below B5.out.size (fun k h => Nat.le_of_eq (Eq.symm h)))
      have bb := b6.trans (P9.out.keeps.below b6.size (fun k h => by have h3 : k = w.heap.size + 1 := h; omega))
      have o6 := P9.out.keeps.owns (k1.owns O5.out (fun j h1 h2 => by have := (World.ownsRow.lt O5.out j h1).1; have e2 : j = w.heap.size := h2; omega)) (fun j h1 h2 => by have := (World.ownsRow.lt O5.out j h1).1; have e2 : j = w.heap.size + 1 := h2; omega)
      exact ⟨upd r q _, rfl, rows_upd HR.out bb (OwnI.row o6), bb⟩
end Go.Proofs.Ytkalpclckgbedaa
