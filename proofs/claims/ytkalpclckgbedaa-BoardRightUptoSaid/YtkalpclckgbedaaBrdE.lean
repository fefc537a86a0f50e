/-
  Package board: all lists of cards of a state are handed to a closure; Clone. Conditions: at most 1000 cards a row.
-/
import Derived.Test.YtkalpclckgbedaaStFresh
namespace Go.Proofs.Ytkalpclckgbedaa
open Go.ChangeShapes Go.WideShapes Go.ChangeAt Go.RowKit
set_option linter.unusedVariables false
set_option linter.unusedSimpArgs false
set_option maxRecDepth 20000
set_option maxHeartbeats 3200000
theorem pEachList (b : Nat) (F : FuncId) (caps : Array Value) (I : Nat → World → Prop) (hF : ∀ (args : Array Value) (w : World), (callFunc F args).run Try.prog w = .ok (.enter F args) w)
    (hside : ∀ i k x, i < 3 → k < 2 → I (2 * i + k) x → Calls Try.prog F (#[.int .i64 k, .pointer (some ⟨b, 1 + i * 4 + 2 + k, none⟩)] ++ caps) x fun e y => e = .returned (.tuple #[]) ∧ I (2 * i + k + 1) y)
    (hpile : ∀ k j x, k < 2 → j < 3 → I (6 + 3 * k + j) x → Calls Try.prog F (#[.int .i64 k, .pointer (some ⟨b, 13 + k * 6 + j, none⟩)] ++ caps) x fun e y => e = .returned (.tuple #[]) ∧ I (6 + 3 * k + j + 1) y)
    (w : World) (h0 : I 0 w) :
    Calls Try.prog 35 #[.pointer (some ⟨b, 0, none⟩), .func (.func F) #[] caps] w fun e y => e = .returned (.tuple #[]) ∧ I 12 y := by
  have HS := Lib.hid hside
  have HFN := Lib.hid hF
  have HP := Lib.hid hpile
  have H0 := Lib.hid h0
  clear hside hpile h0 hF
  go_enter Try.func35, Try.ntmps35
  go_wp2
  go_loopw [8] (fun v wr => ∃ i : Nat, v = .int .i64 i ∧ i ≤ 3 ∧ I (2 * i) wr) (fun v _ => 3 - (intOf v).toNat)
  case atStart => exact ⟨0, rfl, by omega, H0.out⟩
  case round =>
    obtain ⟨i, rfl, hi, hF⟩ := hrel
    have HF := Lib.hid hF
    clear hF
    by_cases hi3 : i < 3
    · have li : (i : Int) < 3 := by omega
      go_wp2
      go_loopw [11] (fun v wr => ∃ k : Nat, v = .int .i64 k ∧ k ≤ 2 ∧ I (2 * i + k) wr) (fun v _ => 2 - (intOf v).toNat)
      case atStart => exact ⟨0, rfl, by omega, HF.out⟩
      case round =>
        obtain ⟨k, rfl, hk, hF⟩ := hrel
        have HF := Lib.hid hF
        clear hF
        by_cases hk2 : k < 2
        · have lk : (k : Int) < 2 := by omega
          have KS := Lib.hid (HS.out i k _ hi3 hk2 HF.out)
          go_wp2_with (rw [HFN.out, Oper.upon_enter]; (with_reducible refine KS.out.mono ?_); rintro e w3 ⟨rfl, hf⟩; have N3 := Lib.hid hf; clear hf)
          go_roundw
          case rel => exact ⟨k + 1, by go_num, by omega, N3.out⟩
          case measure => simp [intOf]; omega
        · have e6 : 2 * i + k = 2 * (i + 1) := by omega
          have lk : ¬ (k : Int) < 2 := by omega
          rw [e6] at HF
          clear e6
          go_wp2
          go_roundw
          case rel => exact ⟨i + 1, by go_num, by omega, HF.out⟩
          case measure => simp [intOf]; omega
    · have e6 : 2 * i = 6 := by omega
      have li : ¬ (i : Int) < 3 := by omega
      rw [e6] at HF
      clear e6
      go_wp2
      go_loopw [27] (fun v wr => ∃ k : Nat, v = .int .i64 k ∧ k ≤ 2 ∧ I (6 + 3 * k) wr) (fun v _ => 2 - (intOf v).toNat)
      case atStart => exact ⟨0, rfl, by omega, HF.out⟩
      case round =>
        obtain ⟨k, rfl, hk, hF⟩ := hrel
        have HF := Lib.hid hF
        clear hF
        by_cases hk2 : k < 2
        · have lk : (k : Int) < 2 := by omega
          have K0 := HP.out k 0 _ hk2 (by omega) HF.out
          rw [Nat.add_zero] at K0
          have K0 := Lib.hid K0
          have K1 := Lib.hid fun y hy => HP.out k 1 y hk2 (by omega) hy
          have K2 := Lib.hid fun y hy => HP.out k 2 y hk2 (by omega) hy
          go_wp2_with (first
            | (rw [HFN.out, Oper.upon_enter]; (with_reducible refine K0.out.mono ?_); rintro e w3 ⟨rfl, hf⟩; have N3 := Lib.hid hf; clear hf)
            | (rw [HFN.out, Oper.upon_enter]; (with_reducible refine (K1.out _ N3.out).mono ?_); rintro e w4 ⟨rfl, hf⟩; have N4 := Lib.hid hf; clear hf)
            | (rw [HFN.out, Oper.upon_enter]; (with_reducible refine (K2.out _ N4.out).mono ?_); rintro e w5 ⟨rfl, hf⟩; have N5 := Lib.hid hf; clear hf))
          go_roundw
          case rel => exact ⟨k + 1, by go_num, by omega, N5.out⟩
          case measure => simp [intOf]; omega
        · have e6 : 6 + 3 * k = 12 := by omega
          have lk : ¬ (k : Int) < 2 := by omega
          rw [e6] at HF
          clear e6
          go_wp2
          go_end0
          exact ⟨rfl, HF.out⟩
/-- While a state is cloned: the rows before m are the call's own, each in a block of its own. -/
structure ClAt (w : World) (c : Sc) (L : Nat → List Ins) (z : List Value) (m : Nat) (x : World) (r : Nat → Value) : Prop where
  fr : FrAt w c L z m x r
  apart : ∀ p q, p < m → q < m → p ≠ q → ∀ g, (r p).ownBlock = some g → (r q).ownBlock ≠ some g
  low : ∀ p, p < m → ∀ g, (r p).ownBlock = some g → g < x.heap.size
theorem own_nil (w : World) (B : Nat) : w.ownsRow B 50 7 (.slice none 0 0) 0 [] := ⟨rfl, .inl ⟨rfl, rfl⟩⟩
theorem ClAt.next {w : World} {c : Sc} {L : Nat → List Ins} {z : List Value} {m a : Nat} {x y : World} {r : Nat → Value} {v : Value} (h : ClAt w c L z m x r) (hm : m < 12) (hk : Below x.heap.size x y) (ho : y.ownsRow (w.heap.size + 2) 50 7 v (0 + (L m).length) ([] ++ insC (L m)))
    (hb : v.ownBlock = none ∨ v.ownBlock = some x.heap.size) (ha : ∀ u, (stC c r).toArray.setIfInBounds a u = (stC c (upd r m u)).toArray) : ClAt w c L z (m + 1) (y.setCell ⟨w.heap.size, a, none⟩ v) (upd r m v) := by
  have u1 : upd r m v m = v := by unfold upd; rw [if_pos rfl]
  have u2 : ∀ p, p ≠ m → upd r m v p = r p := fun p hp => by unfold upd; rw [if_neg hp]
  refine ⟨h.fr.next hm hk ho ha, fun p q hp hq hpq g hg e => ?_, fun p hp g hg => ?_⟩
  · by_cases e1 : p = m
    · subst e1
      rw [u1] at hg
      rw [u2 q (fun e => hpq e.symm)] at e
      have h1 := h.low q (by omega) g e
      rcases hb with hb | hb
      · rw [hb] at hg; cases hg
      · rw [hb] at hg; injection hg with hg; omega
    · rw [u2 p e1] at hg
      by_cases e2 : q = m
      · subst e2
        rw [u1] at e
        have h1 := h.low p (by omega) g hg
        rcases hb with hb | hb
        · rw [hb] at e; cases e
        · rw [hb] at e; injection e with e; omega
      · rw [u2 q e2] at e
        exact h.apart p q (by omega) (by omega) hpq g hg e
  · have hs := hk.size
    have hsz : (y.setCell ⟨w.heap.size, a, none⟩ v).heap.size = y.heap.size := by simp [World.setCell]
    rw [hsz]
    by_cases e1 : p = m
    · subst e1
      rw [u1] at hg
      exact (World.ownsRow.lt ho g hg).2
    · rw [u2 p e1] at hg
      have := h.low p (by omega) g hg
      omega
theorem pClone1 {w : World} {c : Sc} {L : Nat → List Ins} {z : List Value} {m a : Nat} {x : World} {r : Nat → Value} (k : Int) (h : ClAt w c L z m x r) (hm : m < 12) (hl : (L m).length ≤ 1000)
    (hc : x.cell? ⟨w.heap.size, a, none⟩ = some (r m)) (ha : ∀ u, (stC c r).toArray.setIfInBounds a u = (stC c (upd r m u)).toArray) :
    Calls Try.prog 36 #[.int .i64 k, .pointer (some ⟨w.heap.size, a, none⟩)] x fun e y => e = .returned (.tuple #[]) ∧ ∃ r', ClAt w c L z (m + 1) y r' := by
  have hrow := h.fr.old m hm (Nat.le_refl _)
  have hlt : w.heap.size < x.heap.size := by have := h.fr.size; omega
  obtain ⟨A, cp, e, _, _, _, _⟩ := id hrow
  rw [e] at hc hrow
  have HROW := Lib.hid (hrow.below h.fr.below)
  have HZ : Hid (0 + (L m).length ≤ 2199023255552) := Lib.hid (by omega)
  have HB : Hid (w.heap.size + 2 ≤ x.heap.size) := Lib.hid h.fr.size
  have HN : Hid (∀ (y : World) (v : Value), x.grownBy y none → y.ownsRow (w.heap.size + 2) 50 7 v (0 + (L m).length) ([] ++ insC (L m)) → (v.ownBlock = none ∨ v.ownBlock = some x.heap.size) → y.frozen? ⟨w.heap.size, a, none⟩ = false ∧ w.heap.size < y.heap.size ∧ y.cell? ⟨w.heap.size, a, none⟩ = some (.slice A (L m).length cp) ∧ ∃ r', ClAt w c L z (m + 1) (y.setCell ⟨w.heap.size, a, none⟩ v) r') := Lib.hid fun y v g o hb => by
    have hk : Below x.heap.size x y := ((Keeps.refl (fun k => x.heap.size ≤ k) x).grown g (fun j hj => by cases hj)).below (Nat.le_refl _) (fun j h => h)
    exact ⟨(h.fr.whole.below hk hlt).thawed _, by have := hk.size; omega, (hk.cell hlt).trans hc, _, h.next hm hk o hb ha⟩
  have HL : Hid (∀ (y : World) (v : Value), y.ownsRow (w.heap.size + 2) 50 7 v (0 + (L m).length) ([] ++ insC (L m)) → ∃ A' c', v = .slice A' (L m).length c') := Lib.hid fun y v o => by
    have o2 : OwnI y (w.heap.size + 2) v (L m) := by unfold OwnI; simpa using o
    obtain ⟨A', c', e, _⟩ := o2.row
    exact ⟨A', c', e⟩
  have HX := Lib.hid hc
  clear h hl ha hrow e
  go_enter Try.func36, Try.ntmps36
  go_wp2_with (at_builtin; refine wpList_cat x (.const (.slice none 0 0)) (.tmp 7) (w.heap.size + 2) _ _ 0 [] (L m) (own_nil _ _) HROW.out HZ.out HB.out rfl rfl rfl rfl ?_; intro v3 w3 o3 g3 hb3; obtain ⟨A3, c3, rfl⟩ := HL.out _ _ o3; obtain ⟨hf3, hl3, hc3, hn3⟩ := HN.out _ _ g3 o3 hb3; have N3 := Lib.hid hn3; clear o3 g3 hb3 hn3 hc)
  go_end0
  exact ⟨rfl, N3.out⟩
/-- A state in rows of the call's own, each in a block of its own. -/
structure OwnSt (w : World) (B : Nat) (r : Nat → Value) (L : Nat → List Ins) : Prop where
  own : ∀ q, q < 12 → OwnI w B (r q) (L q)
  apart : ∀ p q, p < 12 → q < 12 → p ≠ q → ∀ g, (r p).ownBlock = some g → (r q).ownBlock ≠ some g
theorem pClone (c : Sc) (r : Nat → Value) (L : Nat → List Ins) (w : World) (hR : Rows12 w r L) (hsz : ∀ q, q < 12 → (L q).length ≤ 1000) :
    Calls Try.prog 13 #[stV c r] w fun e w' => ∃ r', e = .returned (stV c r') ∧ OwnSt w' w.heap.size r' L ∧ Below w.heap.size w w' := by
  have hv : stV c r = .agg (stC c r).toArray := rfl
  have F0 : Hid (∀ z : List Value, ClAt w c L z 0 ((w.alloc (.cells (stC c r).toArray 33)).alloc (.cells z.toArray 33)) r) := Lib.hid fun z => by
    have h2 := Whole.made (w.alloc (.cells (stC c r).toArray 33)) 33 z.toArray
    rw [World.size_alloc] at h2
    exact ⟨⟨(Whole.made w _ _).alloc _, h2, fun q hq hm => by omega, fun q hq _ => hR q hq, ((Below.refl _ _).alloc (Nat.le_refl _) _).alloc (by simp) _, by simp⟩, fun p q hp => by omega, fun p hp => by omega⟩
  have KE : Hid (∀ x, ClAt w c L zeroSt 0 x r → Calls Try.prog 35 #[.pointer (some ⟨w.heap.size, 0, none⟩), .func (.func 36) #[] #[]] x fun e y => e = .returned (.tuple #[]) ∧ ∃ r', ClAt w c L zeroSt 12 y r') := Lib.hid fun x hx =>
    pEachList w.heap.size 36 #[] (fun m y => ∃ r', ClAt w c L zeroSt m y r') (fun args w => by kernel_rfl)
      (fun i k x hi hk h => by obtain ⟨r1, h⟩ := h; exact pClone1 _ h (by omega) (hsz _ (by omega)) (st_side h.fr.whole i k hi hk) (stC_side c r1 i k hi hk))
      (fun k j x hk hj h => by obtain ⟨r1, h⟩ := h; exact pClone1 _ h (by omega) (hsz _ (by omega)) (st_pile h.fr.whole k j hk hj) (stC_pile c r1 k j hk hj)) x ⟨r, hx⟩
  have HO : Hid (∀ y r', ClAt w c L zeroSt 12 y r' → ∀ v ∈ stC c r', v.oneCell' = true) := Lib.hid fun y r' h => stC_one fun q hq => (h.fr.own q hq hq).row.one
  have HSI : Hid ((Try.prog.info? 33).map (·.size) = some 30) := Lib.hid (by kernel_rfl)
  rw [hv]
  clear hR hv hsz
  generalize hA : (stC c r).toArray = arr at *
  go_enter Try.func13, Try.ntmps13
  go_wp2_with (first
    | (go_at_call 35; refine (KE.out _ (F0.out zeroSt)).mono ?_; rintro e w3 ⟨rfl, r3, h3⟩; have N3 := Lib.hid h3; clear h3)
    | ((with_reducible refine at_ld 4 ?_); refine wpList_loadW 33 (.tmp 1) 33 w.heap.size (stC c r3) N3.out.fr.whole (by kernel_rfl) (by rw [show (stC c r3).length = 30 from rfl]; exact HSI.out) rfl rfl rfl ?_)
    | ((with_reducible refine at_st 2 4 ?_); refine wpList_storeW 33 (.tmp 2) (.tmp 4) 33 (w.heap.size + 1) zeroSt (stC c r3) N3.out.fr.zero rfl (by rw [show (stC c r3).length = 30 from rfl]; exact HSI.out) (HO.out _ _ N3.out) rfl rfl rfl rfl rfl ?_; intro w9 p9; have P9 := Lib.hid p9; clear p9))
  refine bodyPost_ret (results_cell_row Try.results13 _ _ (w.heap.size + 1) 33 (stC c r3).toArray (0, 0) _ rfl P9.out.whole Try.underlying33 rfl (by kernel_rfl)) rfl ?_
  have b1 := N3.out.fr.below
  have bb := b1.trans (P9.out.keeps.below b1.size (fun k h => by have h3 : k = w.heap.size + 1 := h; omega))
  refine ⟨r3, rfl, ⟨fun q hq => ?_, fun p q hp hq => N3.out.apart p q hp hq⟩, bb⟩
  have o := P9.out.keeps.owns (N3.out.fr.own q hq hq) (fun j h1 h2 => by have := (World.ownsRow.lt (N3.out.fr.own q hq hq) j h1).1; have e2 : j = w.heap.size + 1 := h2; omega)
  exact own_mono o (by omega)
end Go.Proofs.Ytkalpclckgbedaa
