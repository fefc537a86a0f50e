/-
  The document's answer: where a card stands. No conditions.
-/
import Derived.Test.YtkalpclckgbedaaStSame
namespace Go.Proofs.Ytkalpclckgbedaa
open Go.ChangeShapes Go.WideShapes Go.ChangeAt Go.RowKit
set_option linter.unusedVariables false
set_option linter.unusedSimpArgs false
set_option maxRecDepth 20000
set_option maxHeartbeats 3200000
theorem st_side {w : World} {b : Nat} {T : TypeId} {c : Sc} {r : Nat → Value} (h : Whole w b T (stC c r).toArray) (i k : Nat) (hi : i < 3) (hk : k < 2) : w.cell? ⟨b, 1 + i * 4 + 2 + k, none⟩ = some (r (2 * i + k)) := by
  rw [h.read]
  match i, hi with
  | 0, _ => match k, hk with
    | 0, _ => rfl
    | 1, _ => rfl
  | 1, _ => match k, hk with
    | 0, _ => rfl
    | 1, _ => rfl
  | 2, _ => match k, hk with
    | 0, _ => rfl
    | 1, _ => rfl
/-- The first card with this Id. -/
def findI : List Ins → Int → Option Nat
  | [], _ => none
  | x :: l, id => if x.id = id then some 0 else (findI l id).map (· + 1)
theorem findI_hit {id : Int} : ∀ {l : List Ins} {n : Nat} (hn : n < l.length), l[n].id = id → (∀ j (hj : j < l.length), j < n → l[j].id ≠ id) → findI l id = some n
  | x :: l, 0, _, h, _ => by unfold findI; rw [if_pos (by simpa using h)]
  | x :: l, n + 1, hn, h, hne => by
    unfold findI
    have h0 := hne 0 (by simp) (by omega)
    rw [if_neg (by simpa using h0), findI_hit (l := l) (n := n) (by simpa using hn) (by simpa using h) (fun j hj q => by have := hne (j + 1) (by simpa using hj) (by omega); rwa [List.getElem_cons_succ] at this)]
    rfl
theorem findI_miss {id : Int} : ∀ {l : List Ins}, (∀ j (hj : j < l.length), l[j].id ≠ id) → findI l id = none
  | [], _ => rfl
  | x :: l, h => by
    unfold findI
    have h0 := h 0 (by simp)
    rw [if_neg (by simpa using h0), findI_miss (l := l) (fun j hj => by have := h (j + 1) (by simpa using hj); rwa [List.getElem_cons_succ] at this)]
    rfl
theorem findI_some {id : Int} : ∀ {l : List Ins} {n : Nat}, findI l id = some n → ∃ h : n < l.length, l[n].id = id
  | [], n, h => by simp [findI] at h
  | x :: l, n, h => by
    unfold findI at h
    by_cases q : x.id = id
    · rw [if_pos q] at h
      injection h with h
      subst h
      exact ⟨by simp, q⟩
    · rw [if_neg q, Option.map_eq_some_iff] at h
      obtain ⟨m, h1, rfl⟩ := h
      obtain ⟨h2, h3⟩ := findI_some h1
      exact ⟨by simp; omega, by simpa using h3⟩
/-- The row and the place in it, from row r on. -/
def placeFrom (L : Nat → List Ins) (id : Int) : Nat → Nat → Option (Nat × Nat)
  | _, 0 => none
  | r, f + 1 => match findI (L r) id with
    | some n => some (r, n)
    | none => placeFrom L id (r + 1) f
def placeO (L : Nat → List Ins) (id : Int) : Option (Nat × Nat) := placeFrom L id 0 6
theorem placeFrom_some {L : Nat → List Ins} {id : Int} : ∀ (f r : Nat) {q n : Nat}, placeFrom L id r f = some (q, n) → r ≤ q ∧ q < r + f ∧ ∃ h : n < (L q).length, (L q)[n].id = id
  | 0, r, q, n, h => by simp [placeFrom] at h
  | f + 1, r, q, n, h => by
    unfold placeFrom at h
    cases e : findI (L r) id with
    | some m =>
      rw [e] at h
      simp only [Option.some.injEq, Prod.mk.injEq] at h
      obtain ⟨rfl, rfl⟩ := h
      exact ⟨Nat.le_refl _, by omega, findI_some e⟩
    | none =>
      rw [e] at h
      obtain ⟨h1, h2, h3⟩ := placeFrom_some f (r + 1) h
      exact ⟨by omega, by omega, h3⟩
theorem placeO_some {L : Nat → List Ins} {id : Int} {q n : Nat} (h : placeO L id = some (q, n)) : q < 6 ∧ ∃ h : n < (L q).length, (L q)[n].id = id := by
  obtain ⟨_, h2, h3⟩ := placeFrom_some 6 0 h
  exact ⟨by omega, h3⟩
theorem placeFrom_hit {L : Nat → List Ins} {id : Int} {r n : Nat} (f : Nat) (h : findI (L r) id = some n) : placeFrom L id r (f + 1) = some (r, n) := by
  unfold placeFrom
  rw [h]
theorem placeFrom_miss {L : Nat → List Ins} {id : Int} {r : Nat} (f : Nat) (h : findI (L r) id = none) : placeFrom L id r (f + 1) = placeFrom L id (r + 1) f := by
  conv => lhs; unfold placeFrom
  rw [h]
def placeV : Option (Nat × Nat) → Value
  | some (r, n) => .tuple #[.int .i64 (r % 2 : Nat), .int .i64 (r / 2 : Nat), .int .i64 n]
  | none => .tuple #[.int .i64 (-1), .int .i64 (-1), .int .i64 (-1)]
theorem placeV_at {q i k : Nat} (n : Nat) (h1 : q % 2 = k) (h2 : q / 2 = i) : placeV (some (q, n)) = .tuple #[.int .i64 k, .int .i64 i, .int .i64 n] := by
  unfold placeV
  simp only
  rw [h1, h2]
theorem rPlace (c : Sc) (r : Nat → Value) (L : Nat → List Ins) (id : Int) (w : World) (hR : Rows12 w r L) :
    Calls Try.prog 11 #[stV c r, .int .i64 id] w fun e w' => e = .returned (placeV (placeO L id)) ∧ Below w.heap.size w w' := by
  have HW : Hid (Whole (w.alloc (.cells (stC c r).toArray 33)) w.heap.size 33 (stC c r).toArray) := Lib.hid (Whole.made w _ _)
  have B0 : Hid (Below w.heap.size w (w.alloc (.cells (stC c r).toArray 33))) := Lib.hid ((Below.refl _ _).alloc (Nat.le_refl _) _)
  have HR := Lib.hid (fun i hi => (hR i hi).below B0.out)
  have hv : stV c r = .agg (stC c r).toArray := rfl
  rw [hv]
  generalize hA : (stC c r).toArray = arr at *
  have HP : Hid (placeO L id = placeFrom L id 0 6) := Lib.hid rfl
  obtain ⟨P, hP⟩ : ∃ P, placeO L id = P := ⟨_, rfl⟩
  rw [hP] at HP ⊢
  clear hR hv hP
  go_enter Try.func11, Try.ntmps11
  go_wp2
  generalize hW1 : w.alloc (.cells arr 33) = W1 at *
  have hm : ∀ i k, i < 3 → k < 2 → W1.cell? ⟨w.heap.size, 1 + i * 4 + 2 + k, none⟩ = some (r (2 * i + k)) := fun i k hi hk => st_side (by rw [hA]; exact HW.out) i k hi hk
  have HMM := Lib.hid hm
  clear hm hW1 hA HW
  go_loop [7] (fun v => ∃ i : Nat, v = .int .i64 i ∧ i ≤ 3 ∧ P = placeFrom L id (2 * i) (6 - 2 * i)) (fun v => 3 - (intOf v).toNat)
  case atStart => exact ⟨0, rfl, by omega, HP.out⟩
  case round =>
    obtain ⟨i, rfl, hi, hp⟩ := hrel
    have HPi := Lib.hid hp
    clear hp
    by_cases hi3 : i < 3
    · have li : (i : Int) < 3 := by omega
      go_wp2
      go_loop [8] (fun v => ∃ k : Nat, v = .int .i64 k ∧ k ≤ 2 ∧ P = placeFrom L id (2 * i + k) (6 - (2 * i + k))) (fun v => 2 - (intOf v).toNat)
      case atStart => exact ⟨0, rfl, by omega, HPi.out⟩
      case round =>
        obtain ⟨k, rfl, hk, hp⟩ := hrel
        have HPk := Lib.hid hp
        clear hp
        by_cases hk2 : k < 2
        · have lk : (k : Int) < 2 := by omega
          obtain ⟨A, cp, hra, hrd, _, _, hml⟩ := HR.out (2 * i + k) (by omega)
          unfold maxLen at hml
          have hc := HMM.out i k hi3 hk2
          rw [hra] at hc
          have HL := Lib.hid hrd
          have hq : (2 * i + k) % 2 = k ∧ (2 * i + k) / 2 = i := by omega
          have HQ := Lib.hid hq
          obtain ⟨n0, hn0⟩ : ∃ n0, (L (2 * i + k)).length = n0 := ⟨_, rfl⟩
          have HN0 := Lib.hid hn0
          rw [hn0] at hc hml
          clear hrd hra hn0 hq
          go_wp2
          go_loop [9] (fun v => ∃ n : Nat, v = .int .i64 n ∧ n ≤ n0 ∧ ∀ j (hj : j < (L (2 * i + k)).length), j < n → (L (2 * i + k))[j].id ≠ id) (fun v => n0 - (intOf v).toNat)
          case atStart => exact ⟨0, rfl, by omega, fun j hj q => by omega⟩
          case round =>
            obtain ⟨n, rfl, hn, hne⟩ := hrel
            have HNE := Lib.hid hne
            clear hne
            by_cases hnn : n < n0
            · have hlt : n < (L (2 * i + k)).length := by rw [HN0.out]; exact hnn
              obtain ⟨g, off, rfl, hg, hcs⟩ := row_lit HL.out (by omega)
              have c0 := (hcs n hlt).1
              obtain ⟨x, hx⟩ : ∃ x, ((L (2 * i + k))[n]'hlt).id = x := ⟨_, rfl⟩
              rw [hx] at c0
              have ln : (n : Int) < (n0 : Int) := by omega
              by_cases hxid : x = id
              · have hpl : P = some (2 * i + k, n) := by
                  rw [HPk.out, show 6 - (2 * i + k) = (5 - (2 * i + k)) + 1 by omega]
                  exact placeFrom_hit _ (findI_hit hlt (by rw [hx, hxid]) HNE.out)
                have HPL := Lib.hid hpl
                clear hcs hx hlt hpl
                subst hxid
                go_wp2
                go_ret3
                rw [HPL.out, placeV_at n HQ.out.1 HQ.out.2]
                exact ⟨rfl, B0.out⟩
              · have hnext : ∀ j (hj : j < (L (2 * i + k)).length), j < n + 1 → (L (2 * i + k))[j].id ≠ id := by
                  intro j hj q
                  rcases Nat.lt_succ_iff_lt_or_eq.1 q with q | rfl
                  · exact HNE.out j hj q
                  · rw [hx]; exact hxid
                have HNX := Lib.hid hnext
                clear hcs hx hlt hnext
                go_wp2
                go_round
                case rel => exact ⟨n + 1, by go_num, by omega, HNX.out⟩
                case measure => simp [intOf]; omega
            · have hpn : P = placeFrom L id (2 * i + (k + 1)) (6 - (2 * i + (k + 1))) := by
                rw [HPk.out, show 6 - (2 * i + k) = (6 - (2 * i + (k + 1))) + 1 by omega]
                rw [placeFrom_miss _ (findI_miss (fun j hj => HNE.out j hj (by rw [HN0.out] at hj; omega)))]
                rfl
              have HPN := Lib.hid hpn
              have ln : ¬ (n : Int) < (n0 : Int) := by omega
              clear hpn
              go_wp2
              go_round
              case rel => exact ⟨k + 1, by go_num, by omega, HPN.out⟩
              case measure => simp [intOf]; omega
        · have lk : ¬ (k : Int) < 2 := by omega
          have hpn : P = placeFrom L id (2 * (i + 1)) (6 - 2 * (i + 1)) := by
            rw [HPk.out]
            congr 1 <;> omega
          have HPN := Lib.hid hpn
          clear hpn
          go_wp2
          go_round
          case rel => exact ⟨i + 1, by go_num, by omega, HPN.out⟩
          case measure => simp [intOf]; omega
    · have li : ¬ (i : Int) < 3 := by omega
      have hpn : P = none := by
        rw [HPi.out, show 6 - 2 * i = 0 by omega]
        rfl
      have HPN := Lib.hid hpn
      clear hpn
      go_wp2
      go_ret3
      rw [HPN.out]
      exact ⟨rfl, B0.out⟩
end Go.Proofs.Ytkalpclckgbedaa
