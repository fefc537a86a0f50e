/-
  The law's own: all cards of a state of the call's own are written over. No conditions.
-/
import Derived.Test.YtkalpclckgbedaaStGet
import Derived.Test.YtkalpclckgbedaaStSameT
namespace Go.Proofs.Ytkalpclckgbedaa
open Go.ChangeShapes Go.WideShapes Go.ChangeAt Go.RowKit
set_option linter.unusedVariables false
set_option linter.unusedSimpArgs false
set_option maxRecDepth 20000
set_option maxHeartbeats 3200000
/-- A row that may be written: its block lies from B on and before H. -/
def Rw (x : World) (B H : Nat) (v : Value) (n : Nat) : Prop := (v = .slice none 0 0 ∧ n = 0) ∨ ∃ g c cur, v = .slice (some ⟨g, 0, none⟩) n c ∧ B ≤ g ∧ g < H ∧ Whole x g 50 cur ∧ n * 7 ≤ cur.size
theorem OwnI.rw_at {w w2 : World} {B : Nat} {v : Value} {l : List Ins} (h : OwnI w B v l) (hb : OwnI w2 B v l) : Rw w2 B w.heap.size v l.length := by
  rcases hb.2 with ⟨h1, h2⟩ | ⟨g, c, cur, rfl, hb1, hw, h1, h2, h3, h4⟩
  · exact .inl ⟨h1, h2⟩
  · exact .inr ⟨g, c, cur, rfl, hb1, (World.ownsRow.lt h g rfl).2, hw, by omega⟩
theorem OwnI.rw {w : World} {B : Nat} {v : Value} {l : List Ins} (h : OwnI w B v l) : Rw w B w.heap.size v l.length := by
  rcases h.2 with ⟨h1, h2⟩ | ⟨g, c, cur, rfl, hb, hw, h1, h2, h3, h4⟩
  · exact .inl ⟨h1, h2⟩
  · exact .inr ⟨g, c, cur, rfl, hb, (show Whole w g 50 cur from hw).inside, hw, by omega⟩
structure SpAt (w : World) (c : Sc) (r : Nat → Value) (L : Nat → List Ins) (B H : Nat) (x : World) : Prop where
  whole : Whole x w.heap.size 33 (stC c r).toArray
  rows : ∀ q, q < 12 → Rw x B H (r q) (L q).length
  kp : Keeps (fun k => B ≤ k ∧ k < H) w x
theorem SpAt.put {w : World} {c : Sc} {r : Nat → Value} {L : Nat → List Ins} {B H : Nat} {x y : World} {g : Nat} {cs : List Value} (h : SpAt w c r L B H x) (hB : B ≤ g) (hg : g < H) (hH : H ≤ w.heap.size) {old : Array Value} (ho : Whole x g 50 old) (hl : cs.length = old.size) (hp : Put x y g 50 cs) : SpAt w c r L B H y := by
  refine ⟨hp.keeps.whole h.whole (fun e => by have e2 : w.heap.size = g := e; omega), fun q hq => ?_, h.kp.trans (hp.keeps.mono (fun k hk => by have e2 : k = g := hk; exact ⟨by omega, by omega⟩))⟩
  rcases h.rows q hq with e | ⟨g2, c2, cur, e, h1, h2, h3, h4⟩
  · exact .inl e
  · by_cases hgg : g2 = g
    · subst hgg
      have hc : cur = old := by
        have a : x.heap[g2]? = some (.cells cur 50 (0, 0)) := h3
        have b : x.heap[g2]? = some (.cells old 50 (0, 0)) := ho
        rw [a] at b
        injection b with b
        injection b
      exact .inr ⟨g2, c2, cs.toArray, e, h1, h2, hp.whole, by rw [List.size_toArray, hl, ← hc]; exact h4⟩
    · exact .inr ⟨g2, c2, cur, e, h1, h2, hp.keeps.whole h3 (fun e => hgg e), h4⟩
def gone : Ins := ⟨-7, 0, ByteArray.empty, 0, 0, 0, 0⟩
theorem gone_one : ∀ v ∈ gone.cells, v.oneCell' = true := by
  intro v hv
  simp only [gone, Ins.cells, List.mem_cons, List.not_mem_nil, or_false] at hv
  rcases hv with rfl | rfl | rfl | rfl | rfl | rfl | rfl <;> rfl
theorem cut7 {cur : Array Value} {m n : Nat} (hm : m < n) (hn : n * 7 ≤ cur.size) : ∃ pre old post : List Value, cur = (pre ++ old ++ post).toArray ∧ pre.length = m * 7 ∧ old.length = 7 := by
  refine ⟨cur.toList.take (m * 7), (cur.toList.drop (m * 7)).take 7, (cur.toList.drop (m * 7)).drop 7, ?_, ?_, ?_⟩
  · rw [List.append_assoc, List.take_append_drop, List.take_append_drop]
  · rw [List.length_take, Array.length_toList]; omega
  · rw [List.length_take, List.length_drop, Array.length_toList]; omega
theorem rSpoil (c : Sc) (r : Nat → Value) (L : Nat → List Ins) (B H : Nat) (w : World) (hH : H ≤ w.heap.size) (hO : ∀ q, q < 12 → Rw w B H (r q) (L q).length) (hsz : ∀ q, q < 12 → (L q).length ≤ 1000000) :
    Calls Try.prog 15 #[stV c r] w fun e w' => e = .returned (.tuple #[]) ∧ Keeps (fun k => B ≤ k ∧ k < H) w w' := by
  have hv : stV c r = .agg (stC c r).toArray := rfl
  have S0 : Hid (SpAt w c r L B H (w.alloc (.cells (stC c r).toArray 33))) := Lib.hid ⟨Whole.made w _ _, fun q hq => by
    rcases hO q hq with e | ⟨g, c2, cur, e, h1, h2, h3, h4⟩
    · exact .inl e
    · exact .inr ⟨g, c2, cur, e, h1, h2, h3.alloc _, h4⟩, (Keeps.refl _ _).alloc _⟩
  have HB := Lib.hid hH
  have HSZ := Lib.hid hsz
  rw [hv]
  clear hO hv hsz
  generalize hA : (stC c r).toArray = arr at *
  go_enter Try.func15, Try.ntmps15
  go_wp2
  go_loopw [9] (fun v wr => ∃ i : Nat, v = .int .i64 i ∧ i ≤ 3 ∧ SpAt w c r L B H wr) (fun v _ => 3 - (intOf v).toNat)
  case atStart => exact ⟨0, rfl, by omega, S0.out⟩
  case round =>
    obtain ⟨i, rfl, hi, hS⟩ := hrel
    have HS := Lib.hid hS
    clear hS
    by_cases hi3 : i < 3
    · have li : (i : Int) < 3 := by omega
      go_wp2
      go_loopw [12] (fun v wr => ∃ k : Nat, v = .int .i64 k ∧ k ≤ 2 ∧ SpAt w c r L B H wr) (fun v _ => 2 - (intOf v).toNat)
      case atStart => exact ⟨0, rfl, by omega, HS.out⟩
      case round =>
        obtain ⟨k, rfl, hk, hS⟩ := hrel
        have HS := Lib.hid hS
        clear hS
        by_cases hk2 : k < 2
        · have lk : (k : Int) < 2 := by omega
          have hq : 2 * i + k < 12 := by omega
          have hlen := HSZ.out (2 * i + k) hq
          have hB2 := HB.out
          rcases HS.out.rows (2 * i + k) hq with ⟨e1, e2⟩ | ⟨g, cp, cur, e1, hg1, hg2, hg3, hg4⟩
          · have hc : wr.cell? ⟨w.heap.size, 1 + i * 4 + 2 + k, none⟩ = some (r (2 * i + k)) := st_side HS.out.whole i k hi3 hk2
            rw [e1] at hc
            clear e1 e2 hB2
            go_wp2
            go_loopw [23] (fun v wr => v = .int .i64 0 ∧ SpAt w c r L B H wr) (fun _ _ => 0)
            case atStart => exact ⟨rfl, HS.out⟩
            case round =>
              obtain ⟨rfl, hS⟩ := hrel
              have HS := Lib.hid hS
              clear hS hc
              go_wp2
              go_roundw
              case rel => exact ⟨k + 1, by go_num, by omega, HS.out⟩
              case measure => simp [intOf]; omega
          · obtain ⟨nn, hnn⟩ : ∃ n, (L (2 * i + k)).length = n := ⟨_, rfl⟩
            have hc : wr.cell? ⟨w.heap.size, 1 + i * 4 + 2 + k, none⟩ = some (r (2 * i + k)) := st_side HS.out.whole i k hi3 hk2
            rw [e1, hnn] at hc
            rw [hnn] at hlen
            have HE := Lib.hid e1
            have HNN := Lib.hid hnn
            clear e1 hg3 hg4 hB2 hnn
            go_wp2
            go_loopw [23] (fun v wr => ∃ n : Nat, v = .int .i64 n ∧ n ≤ nn ∧ SpAt w c r L B H wr) (fun v _ => nn - (intOf v).toNat)
            case atStart => exact ⟨0, rfl, by omega, HS.out⟩
            case round =>
              obtain ⟨n, rfl, hn, hS⟩ := hrel
              have HS := Lib.hid hS
              clear hS hc
              by_cases hnl : n < nn
              · have ln : (n : Int) < (nn : Int) := by omega
                rcases HS.out.rows (2 * i + k) hq with ⟨e1, e2⟩ | ⟨g3, cp3, cur3, e1, hg1x, hg2x, hg3, hg4⟩
                · exact absurd e2 (by rw [HNN.out]; omega)
                · have hc : wr.cell? ⟨w.heap.size, 1 + i * 4 + 2 + k, none⟩ = some (r (2 * i + k)) := st_side HS.out.whole i k hi3 hk2
                  rw [HE.out] at hc e1
                  rw [HNN.out] at hc hg4
                  injection e1 with e11 e12 e13
                  injection e11 with e11
                  injection e11 with e11
                  subst e11
                  obtain ⟨pre, old, post, rfl, hpre, hold⟩ := cut7 hnl hg4
                  have HP1 := Lib.hid hpre
                  have HP2 := Lib.hid hold
                  have HW := Lib.hid hg3
                  clear e12 e13 hg3 hg4 hpre hold
                  go_wp2_with ((with_reducible refine at_st 35 34 ?_); refine wpList_storeP 50 (.tmp 35) (.tmp 34) 50 g (n * 7) pre old post gone.cells HW.out HP2.out.symm HP1.out.symm (by kernel_rfl) gone_one rfl rfl rfl rfl rfl ?_; intro w9 p9; have S9 := Lib.hid (HS.out.put hg1 hg2 HB.out HW.out (by simp [HP2.out, gone, Ins.cells]; omega) p9); clear p9)
                  go_roundw
                  case rel => exact ⟨n + 1, by go_num, by omega, S9.out⟩
                  case measure => simp [intOf]; omega
              · have ln : ¬ (n : Int) < (nn : Int) := by omega
                go_wp2
                go_roundw
                case rel => exact ⟨k + 1, by go_num, by omega, HS.out⟩
                case measure => simp [intOf]; omega
        · have lk : ¬ (k : Int) < 2 := by omega
          go_wp2
          go_roundw
          case rel => exact ⟨i + 1, by go_num, by omega, HS.out⟩
          case measure => simp [intOf]; omega
    · have li : ¬ (i : Int) < 3 := by omega
      go_wp2
      go_loopw [39] (fun v wr => ∃ k : Nat, v = .int .i64 k ∧ k ≤ 2 ∧ SpAt w c r L B H wr) (fun v _ => 2 - (intOf v).toNat)
      case atStart => exact ⟨0, rfl, by omega, HS.out⟩
      case round =>
        obtain ⟨k, rfl, hk, hS⟩ := hrel
        have HS := Lib.hid hS
        clear hS
        by_cases hk2 : k < 2
        · have lk : (k : Int) < 2 := by omega
          have hq : 6 + 3 * k + 1 < 12 := by omega
          have hlen := HSZ.out (6 + 3 * k + 1) hq
          have hB2 := HB.out
          rcases HS.out.rows (6 + 3 * k + 1) hq with ⟨e1, e2⟩ | ⟨g, cp, cur, e1, hg1, hg2, hg3, hg4⟩
          · have hc : wr.cell? ⟨w.heap.size, 13 + k * 6 + 1, none⟩ = some (r (6 + 3 * k + 1)) := st_pile HS.out.whole k 1 hk2 (by omega)
            rw [e1] at hc
            clear e1 e2 hB2
            go_wp2
            go_loopw [48] (fun v wr => v = .int .i64 0 ∧ SpAt w c r L B H wr) (fun _ _ => 0)
            case atStart => exact ⟨rfl, HS.out⟩
            case round =>
              obtain ⟨rfl, hS⟩ := hrel
              have HS := Lib.hid hS
              clear hS hc
              have hq : 6 + 3 * k < 12 := by omega
              have hlen := HSZ.out (6 + 3 * k) hq
              have hB2 := HB.out
              rcases HS.out.rows (6 + 3 * k) hq with ⟨e1, e2⟩ | ⟨g, cp, cur, e1, hg1, hg2, hg3, hg4⟩
              · have hc : wr.cell? ⟨w.heap.size, 13 + k * 6, none⟩ = some (r (6 + 3 * k)) := st_pile HS.out.whole k 0 hk2 (by omega)
                rw [e1] at hc
                clear e1 e2 hB2
                go_wp2
                go_loopw [66] (fun v wr => v = .int .i64 0 ∧ SpAt w c r L B H wr) (fun _ _ => 0)
                case atStart => exact ⟨rfl, HS.out⟩
                case round =>
                  obtain ⟨rfl, hS⟩ := hrel
                  have HS := Lib.hid hS
                  clear hS hc
                  have hq : 6 + 3 * k + 2 < 12 := by omega
                  have hlen := HSZ.out (6 + 3 * k + 2) hq
                  have hB2 := HB.out
                  rcases HS.out.rows (6 + 3 * k + 2) hq with ⟨e1, e2⟩ | ⟨g, cp, cur, e1, hg1, hg2, hg3, hg4⟩
                  · have hc : wr.cell? ⟨w.heap.size, 13 + k * 6 + 2, none⟩ = some (r (6 + 3 * k + 2)) := st_pile HS.out.whole k 2 hk2 (by omega)
                    rw [e1] at hc
                    clear e1 e2 hB2
                    go_wp2
                    go_loopw [84] (fun v wr => v = .int .i64 0 ∧ SpAt w c r L B H wr) (fun _ _ => 0)
                    case atStart => exact ⟨rfl, HS.out⟩
                    case round =>
                      obtain ⟨rfl, hS⟩ := hrel
                      have HS := Lib.hid hS
                      clear hS hc
                      go_wp2
                      go_roundw
                      case rel => exact ⟨k + 1, by go_num, by omega, HS.out⟩
                      case measure => simp [intOf]; omega
                  · obtain ⟨nn, hnn⟩ : ∃ n, (L (6 + 3 * k + 2)).length = n := ⟨_, rfl⟩
                    have hc : wr.cell? ⟨w.heap.size, 13 + k * 6 + 2, none⟩ = some (r (6 + 3 * k + 2)) := st_pile HS.out.whole k 2 hk2 (by omega)
                    rw [e1, hnn] at hc
                    rw [hnn] at hlen
                    have HE := Lib.hid e1
                    have HNN := Lib.hid hnn
                    clear e1 hg3 hg4 hB2 hnn
                    go_wp2
                    go_loopw [84] (fun v wr => ∃ n : Nat, v = .int .i64 n ∧ n ≤ nn ∧ SpAt w c r L B H wr) (fun v _ => nn - (intOf v).toNat)
                    case atStart => exact ⟨0, rfl, by omega, HS.out⟩
                    case round =>
                      obtain ⟨n, rfl, hn, hS⟩ := hrel
                      have HS := Lib.hid hS
                      clear hS hc
                      by_cases hnl : n < nn
                      · have ln : (n : Int) < (nn : Int) := by omega
                        rcases HS.out.rows (6 + 3 * k + 2) hq with ⟨e1, e2⟩ | ⟨g3, cp3, cur3, e1, hg1x, hg2x, hg3, hg4⟩
                        · exact absurd e2 (by rw [HNN.out]; omega)
                        · have hc : wr.cell? ⟨w.heap.size, 13 + k * 6 + 2, none⟩ = some (r (6 + 3 * k + 2)) := st_pile HS.out.whole k 2 hk2 (by omega)
                          rw [HE.out] at hc e1
                          rw [HNN.out] at hc hg4
                          injection e1 with e11 e12 e13
                          injection e11 with e11
                          injection e11 with e11
                          subst e11
                          obtain ⟨pre, old, post, rfl, hpre, hold⟩ := cut7 hnl hg4
                          have HP1 := Lib.hid hpre
                          have HP2 := Lib.hid hold
                          have HW := Lib.hid hg3
                          clear e12 e13 hg3 hg4 hpre hold
                          go_wp2_with ((with_reducible refine at_st 94 93 ?_); refine wpList_storeP 50 (.tmp 94) (.tmp 93) 50 g (n * 7) pre old post gone.cells HW.out HP2.out.symm HP1.out.symm (by kernel_rfl) gone_one rfl rfl rfl rfl rfl ?_; intro w9 p9; have S9 := Lib.hid (HS.out.put hg1 hg2 HB.out HW.out (by simp [HP2.out, gone, Ins.cells]; omega) p9); clear p9)
                          go_roundw
                          case rel => exact ⟨n + 1, by go_num, by omega, S9.out⟩
                          case measure => simp [intOf]; omega
                      · have ln : ¬ (n : Int) < (nn : Int) := by omega
                        go_wp2
                        go_roundw
                        case rel => exact ⟨k + 1, by go_num, by omega, HS.out⟩
                        case measure => simp [intOf]; omega
              · obtain ⟨nn, hnn⟩ : ∃ n, (L (6 + 3 * k)).length = n := ⟨_, rfl⟩
                have hc : wr.cell? ⟨w.heap.size, 13 + k * 6, none⟩ = some (r (6 + 3 * k)) := st_pile HS.out.whole k 0 hk2 (by omega)
                rw [e1, hnn] at hc
                rw [hnn] at hlen
                have HE := Lib.hid e1
                have HNN := Lib.hid hnn
                clear e1 hg3 hg4 hB2 hnn
                go_wp2
                go_loopw [66] (fun v wr => ∃ n : Nat, v = .int .i64 n ∧ n ≤ nn ∧ SpAt w c r L B H wr) (fun v _ => nn - (intOf v).toNat)
                case atStart => exact ⟨0, rfl, by omega, HS.out⟩
                case round =>
                  obtain ⟨n, rfl, hn, hS⟩ := hrel
                  have HS := Lib.hid hS
                  clear hS hc
                  by_cases hnl : n < nn
                  · have ln : (n : Int) < (nn : Int) := by omega
                    rcases HS.out.rows (6 + 3 * k) hq with ⟨e1, e2⟩ | ⟨g3, cp3, cur3, e1, hg1x, hg2x, hg3, hg4⟩
                    · exact absurd e2 (by rw [HNN.out]; omega)
                    · have hc : wr.cell? ⟨w.heap.size, 13 + k * 6, none⟩ = some (r (6 + 3 * k)) := st_pile HS.out.whole k 0 hk2 (by omega)
                      rw [HE.out] at hc e1
                      rw [HNN.out] at hc hg4
                      injection e1 with e11 e12 e13
                      injection e11 with e11
                      injection e11 with e11
                      subst e11
                      obtain ⟨pre, old, post, rfl, hpre, hold⟩ := cut7 hnl hg4
                      have HP1 := Lib.hid hpre
                      have HP2 := Lib.hid hold
                      have HW := Lib.hid hg3
                      clear e12 e13 hg3 hg4 hpre hold
                      go_wp2_with ((with_reducible refine at_st 76 75 ?_); refine wpList_storeP 50 (.tmp 76) (.tmp 75) 50 g (n * 7) pre old post gone.cells HW.out HP2.out.symm HP1.out.symm (by kernel_rfl) gone_one rfl rfl rfl rfl rfl ?_; intro w9 p9; have S9 := Lib.hid (HS.out.put hg1 hg2 HB.out HW.out (by simp [HP2.out, gone, Ins.cells]; omega) p9); clear p9)
                      go_roundw
                      case rel => exact ⟨n + 1, by go_num, by omega, S9.out⟩
                      case measure => simp [intOf]; omega
                  · have ln : ¬ (n : Int) < (nn : Int) := by omega
                    have hq : 6 + 3 * k + 2 < 12 := by omega
                    have hlen := HSZ.out (6 + 3 * k + 2) hq
                    have hB2 := HB.out
                    rcases HS.out.rows (6 + 3 * k + 2) hq with ⟨e1, e2⟩ | ⟨g, cp, cur, e1, hg1, hg2, hg3, hg4⟩
                    · have hc : wr.cell? ⟨w.heap.size, 13 + k * 6 + 2, none⟩ = some (r (6 + 3 * k + 2)) := st_pile HS.out.whole k 2 hk2 (by omega)
                      rw [e1] at hc
                      clear e1 e2 hB2
                      go_wp2
                      go_loopw [84] (fun v wr => v = .int .i64 0 ∧ SpAt w c r L B H wr) (fun _ _ => 0)
                      case atStart => exact ⟨rfl, HS.out⟩
                      case round =>
                        obtain ⟨rfl, hS⟩ := hrel
                        have HS := Lib.hid hS
                        clear hS hc
                        go_wp2
                        go_roundw
                        case rel => exact ⟨k + 1, by go_num, by omega, HS.out⟩
                        case measure => simp [intOf]; omega
                    · obtain ⟨nn, hnn⟩ : ∃ n, (L (6 + 3 * k + 2)).length = n := ⟨_, rfl⟩
                      have hc : wr.cell? ⟨w.heap.size, 13 + k * 6 + 2, none⟩ = some (r (6 + 3 * k + 2)) := st_pile HS.out.whole k 2 hk2 (by omega)
                      rw [e1, hnn] at hc
                      rw [hnn] at hlen
                      have HE := Lib.hid e1
                      have HNN := Lib.hid hnn
                      clear e1 hg3 hg4 hB2 hnn
                      go_wp2
                      go_loopw [84] (fun v wr => ∃ n : Nat, v = .int .i64 n ∧ n ≤ nn ∧ SpAt w c r L B H wr) (fun v _ => nn - (intOf v).toNat)
                      case atStart => exact ⟨0, rfl, by omega, HS.out⟩
                      case round =>
                        obtain ⟨n, rfl, hn, hS⟩ := hrel
                        have HS := Lib.hid hS
                        clear hS hc
                        by_cases hnl : n < nn
                        · have ln : (n : Int) < (nn : Int) := by omega
                          rcases HS.out.rows (6 + 3 * k + 2) hq with ⟨e1, e2⟩ | ⟨g3, cp3, cur3, e1, hg1x, hg2x, hg3, hg4⟩
                          · exact absurd e2 (by rw [HNN.out]; omega)
                          · have hc : wr.cell? ⟨w.heap.size, 13 + k * 6 + 2, none⟩ = some (r (6 + 3 * k + 2)) := st_pile HS.out.whole k 2 hk2 (by omega)
                            rw [HE.out] at hc e1
                            rw [HNN.out] at hc hg4
                            injection e1 with e11 e12 e13
                            injection e11 with e11
                            injection e11 with e11
                            subst e11
                            obtain ⟨pre, old, post, rfl, hpre, hold⟩ := cut7 hnl hg4
                            have HP1 := Lib.hid hpre
                            have HP2 := Lib.hid hold
                            have HW := Lib.hid hg3
                            clear e12 e13 hg3 hg4 hpre hold
                            go_wp2_with ((with_reducible refine at_st 94 93 ?_); refine wpList_storeP 50 (.tmp 94) (.tmp 93) 50 g (n * 7) pre old post gone.cells HW.out HP2.out.symm HP1.out.symm (by kernel_rfl) gone_one rfl rfl rfl rfl rfl ?_; intro w9 p9; have S9 := Lib.hid (HS.out.put hg1 hg2 HB.out HW.out (by simp [HP2.out, gone, Ins.cells]; omega) p9); clear p9)
                            go_roundw
                            case rel => exact ⟨n + 1, by go_num, by omega, S9.out⟩
                            case measure => simp [intOf]; omega
                        · have ln : ¬ (n : Int) < (nn : Int) := by omega
                          go_wp2
                          go_roundw
                          case rel => exact ⟨k + 1, by go_num, by omega, HS.out⟩
                          case measure => simp [intOf]; omega
          · obtain ⟨nn, hnn⟩ : ∃ n, (L (6 + 3 * k + 1)).length = n := ⟨_, rfl⟩
            have hc : wr.cell? ⟨w.heap.size, 13 + k * 6 + 1, none⟩ = some (r (6 + 3 * k + 1)) := st_pile HS.out.whole k 1 hk2 (by omega)
            rw [e1, hnn] at hc
            rw [hnn] at hlen
            have HE := Lib.hid e1
            have HNN := Lib.hid hnn
            clear e1 hg3 hg4 hB2 hnn
            go_wp2
            go_loopw [48] (fun v wr => ∃ n : Nat, v = .int .i64 n ∧ n ≤ nn ∧ SpAt w c r L B H wr) (fun v _ => nn - (intOf v).toNat)
            case atStart => exact ⟨0, rfl, by omega, HS.out⟩
            case round =>
              obtain ⟨n, rfl, hn, hS⟩ := hrel
              have HS := Lib.hid hS
              clear hS hc
              by_cases hnl : n < nn
              · have ln : (n : Int) < (nn : Int) := by omega
                rcases HS.out.rows (6 + 3 * k + 1) hq with ⟨e1, e2⟩ | ⟨g3, cp3, cur3, e1, hg1x, hg2x, hg3, hg4⟩
                · exact absurd e2 (by rw [HNN.out]; omega)
                · have hc : wr.cell? ⟨w.heap.size, 13 + k * 6 + 1, none⟩ = some (r (6 + 3 * k + 1)) := st_pile HS.out.whole k 1 hk2 (by omega)
                  rw [HE.out] at hc e1
                  rw [HNN.out] at hc hg4
                  injection e1 with e11 e12 e13
                  injection e11 with e11
                  injection e11 with e11
                  subst e11
                  obtain ⟨pre, old, post, rfl, hpre, hold⟩ := cut7 hnl hg4
                  have HP1 := Lib.hid hpre
                  have HP2 := Lib.hid hold
                  have HW := Lib.hid hg3
                  clear e12 e13 hg3 hg4 hpre hold
                  go_wp2_with ((with_reducible refine at_st 58 57 ?_); refine wpList_storeP 50 (.tmp 58) (.tmp 57) 50 g (n * 7) pre old post gone.cells HW.out HP2.out.symm HP1.out.symm (by kernel_rfl) gone_one rfl rfl rfl rfl rfl ?_; intro w9 p9; have S9 := Lib.hid (HS.out.put hg1 hg2 HB.out HW.out (by simp [HP2.out, gone, Ins.cells]; omega) p9); clear p9)
                  go_roundw
                  case rel => exact ⟨n + 1, by go_num, by omega, S9.out⟩
                  case measure => simp [intOf]; omega
              · have ln : ¬ (n : Int) < (nn : Int) := by omega
                have hq : 6 + 3 * k < 12 := by omega
                have hlen := HSZ.out (6 + 3 * k) hq
                have hB2 := HB.out
                rcases HS.out.rows (6 + 3 * k) hq with ⟨e1, e2⟩ | ⟨g, cp, cur, e1, hg1, hg2, hg3, hg4⟩
                · have hc : wr.cell? ⟨w.heap.size, 13 + k * 6, none⟩ = some (r (6 + 3 * k)) := st_pile HS.out.whole k 0 hk2 (by omega)
                  rw [e1] at hc
                  clear e1 e2 hB2
                  go_wp2
                  go_loopw [66] (fun v wr => v = .int .i64 0 ∧ SpAt w c r L B H wr) (fun _ _ => 0)
                  case atStart => exact ⟨rfl, HS.out⟩
                  case round =>
                    obtain ⟨rfl, hS⟩ := hrel
                    have HS := Lib.hid hS
                    clear hS hc
                    have hq : 6 + 3 * k + 2 < 12 := by omega
                    have hlen := HSZ.out (6 + 3 * k + 2) hq
                    have hB2 := HB.out
                    rcases HS.out.rows (6 + 3 * k + 2) hq with ⟨e1, e2⟩ | ⟨g, cp, cur, e1, hg1, hg2, hg3, hg4⟩
                    · have hc : wr.cell? ⟨w.heap.size, 13 + k * 6 + 2, none⟩ = some (r (6 + 3 * k + 2)) := st_pile HS.out.whole k 2 hk2 (by omega)
                      rw [e1] at hc
                      clear e1 e2 hB2
                      go_wp2
                      go_loopw [84] (fun v wr => v = .int .i64 0 ∧ SpAt w c r L B H wr) (fun _ _ => 0)
                      case atStart => exact ⟨rfl, HS.out⟩
                      case round =>
                        obtain ⟨rfl, hS⟩ := hrel
                        have HS := Lib.hid hS
                        clear hS hc
                        go_wp2
                        go_roundw
                        case rel => exact ⟨k + 1, by go_num, by omega, HS.out⟩
                        case measure => simp [intOf]; omega
                    · obtain ⟨nn, hnn⟩ : ∃ n, (L (6 + 3 * k + 2)).length = n := ⟨_, rfl⟩
                      have hc : wr.cell? ⟨w.heap.size, 13 + k * 6 + 2, none⟩ = some (r (6 + 3 * k + 2)) := st_pile HS.out.whole k 2 hk2 (by omega)
                      rw [e1, hnn] at hc
                      rw [hnn] at hlen
                      have HE := Lib.hid e1
                      have HNN := Lib.hid hnn
                      clear e1 hg3 hg4 hB2 hnn
                      go_wp2
                      go_loopw [84] (fun v wr => ∃ n : Nat, v = .int .i64 n ∧ n ≤ nn ∧ SpAt w c r L B H wr) (fun v _ => nn - (intOf v).toNat)
                      case atStart => exact ⟨0, rfl, by omega, HS.out⟩
                      case round =>
                        obtain ⟨n, rfl, hn, hS⟩ := hrel
                        have HS := Lib.hid hS
                        clear hS hc
                        by_cases hnl : n < nn
                        · have ln : (n : Int) < (nn : Int) := by omega
                          rcases HS.out.rows (6 + 3 * k + 2) hq with ⟨e1, e2⟩ | ⟨g3, cp3, cur3, e1, hg1x, hg2x, hg3, hg4⟩
                          · exact absurd e2 (by rw [HNN.out]; omega)
                          · have hc : wr.cell? ⟨w.heap.size, 13 + k * 6 + 2, none⟩ = some (r (6 + 3 * k + 2)) := st_pile HS.out.whole k 2 hk2 (by omega)
                            rw [HE.out] at hc e1
                            rw [HNN.out] at hc hg4
                            injection e1 with e11 e12 e13
                            injection e11 with e11
                            injection e11 with e11
                            subst e11
                            obtain ⟨pre, old, post, rfl, hpre, hold⟩ := cut7 hnl hg4
                            have HP1 := Lib.hid hpre
                            have HP2 := Lib.hid hold
                            have HW := Lib.hid hg3
                            clear e12 e13 hg3 hg4 hpre hold
                            go_wp2_with ((with_reducible refine at_st 94 93 ?_); refine wpList_storeP 50 (.tmp 94) (.tmp 93) 50 g (n * 7) pre old post gone.cells HW.out HP2.out.symm HP1.out.symm (by kernel_rfl) gone_one rfl rfl rfl rfl rfl ?_; intro w9 p9; have S9 := Lib.hid (HS.out.put hg1 hg2 HB.out HW.out (by simp [HP2.out, gone, Ins.cells]; omega) p9); clear p9)
                            go_roundw
                            case rel => exact ⟨n + 1, by go_num, by omega, S9.out⟩
                            case measure => simp [intOf]; omega
                        · have ln : ¬ (n : Int) < (nn : Int) := by omega
                          go_wp2
                          go_roundw
                          case rel => exact ⟨k + 1, by go_num, by omega, HS.out⟩
                          case measure => simp [intOf]; omega
                · obtain ⟨nn, hnn⟩ : ∃ n, (L (6 + 3 * k)).length = n := ⟨_, rfl⟩
                  have hc : wr.cell? ⟨w.heap.size, 13 + k * 6, none⟩ = some (r (6 + 3 * k)) := st_pile HS.out.whole k 0 hk2 (by omega)
                  rw [e1, hnn] at hc
                  rw [hnn] at hlen
                  have HE := Lib.hid e1
                  have HNN := Lib.hid hnn
                  clear e1 hg3 hg4 hB2 hnn
                  go_wp2
                  go_loopw [66] (fun v wr => ∃ n : Nat, v = .int .i64 n ∧ n ≤ nn ∧ SpAt w c r L B H wr) (fun v _ => nn - (intOf v).toNat)
                  case atStart => exact ⟨0, rfl, by omega, HS.out⟩
                  case round =>
                    obtain ⟨n, rfl, hn, hS⟩ := hrel
                    have HS := Lib.hid hS
                    clear hS hc
                    by_cases hnl : n < nn
                    · have ln : (n : Int) < (nn : Int) := by omega
                      rcases HS.out.rows (6 + 3 * k) hq with ⟨e1, e2⟩ | ⟨g3, cp3, cur3, e1, hg1x, hg2x, hg3, hg4⟩
                      · exact absurd e2 (by rw [HNN.out]; omega)
                      · have hc : wr.cell? ⟨w.heap.size, 13 + k * 6, none⟩ = some (r (6 + 3 * k)) := st_pile HS.out.whole k 0 hk2 (by omega)
                        rw [HE.out] at hc e1
                        rw [HNN.out] at hc hg4
                        injection e1 with e11 e12 e13
                        injection e11 with e11
                        injection e11 with e11
                        subst e11
                        obtain ⟨pre, old, post, rfl, hpre, hold⟩ := cut7 hnl hg4
                        have HP1 := Lib.hid hpre
                        have HP2 := Lib.hid hold
                        have HW := Lib.hid hg3
                        clear e12 e13 hg3 hg4 hpre hold
                        go_wp2_with ((with_reducible refine at_st 76 75 ?_); refine wpList_storeP 50 (.tmp 76) (.tmp 75) 50 g (n * 7) pre old post gone.cells HW.out HP2.out.symm HP1.out.symm (by kernel_rfl) gone_one rfl rfl rfl rfl rfl ?_; intro w9 p9; have S9 := Lib.hid (HS.out.put hg1 hg2 HB.out HW.out (by simp [HP2.out, gone, Ins.cells]; omega) p9); clear p9)
                        go_roundw
                        case rel => exact ⟨n + 1, by go_num, by omega, S9.out⟩
                        case measure => simp [intOf]; omega
                    · have ln : ¬ (n : Int) < (nn : Int) := by omega
                      have hq : 6 + 3 * k + 2 < 12 := by omega
                      have hlen := HSZ.out (6 + 3 * k + 2) hq
                      have hB2 := HB.out
                      rcases HS.out.rows (6 + 3 * k + 2) hq with ⟨e1, e2⟩ | ⟨g, cp, cur, e1, hg1, hg2, hg3, hg4⟩
                      · have hc : wr.cell? ⟨w.heap.size, 13 + k * 6 + 2, none⟩ = some (r (6 + 3 * k + 2)) := st_pile HS.out.whole k 2 hk2 (by omega)
                        rw [e1] at hc
                        clear e1 e2 hB2
                        go_wp2
                        go_loopw [84] (fun v wr => v = .int .i64 0 ∧ SpAt w c r L B H wr) (fun _ _ => 0)
                        case atStart => exact ⟨rfl, HS.out⟩
                        case round =>
                          obtain ⟨rfl, hS⟩ := hrel
                          have HS := Lib.hid hS
                          clear hS hc
                          go_wp2
                          go_roundw
                          case rel => exact ⟨k + 1, by go_num, by omega, HS.out⟩
                          case measure => simp [intOf]; omega
                      · obtain ⟨nn, hnn⟩ : ∃ n, (L (6 + 3 * k + 2)).length = n := ⟨_, rfl⟩
                        have hc : wr.cell? ⟨w.heap.size, 13 + k * 6 + 2, none⟩ = some (r (6 + 3 * k + 2)) := st_pile HS.out.whole k 2 hk2 (by omega)
                        rw [e1, hnn] at hc
                        rw [hnn] at hlen
                        have HE := Lib.hid e1
                        have HNN := Lib.hid hnn
                        clear e1 hg3 hg4 hB2 hnn
                        go_wp2
                        go_loopw [84] (fun v wr => ∃ n : Nat, v = .int .i64 n ∧ n ≤ nn ∧ SpAt w c r L B H wr) (fun v _ => nn - (intOf v).toNat)
                        case atStart => exact ⟨0, rfl, by omega, HS.out⟩
                        case round =>
                          obtain ⟨n, rfl, hn, hS⟩ := hrel
                          have HS := Lib.hid hS
                          clear hS hc
                          by_cases hnl : n < nn
                          · have ln : (n : Int) < (nn : Int) := by omega
                            rcases HS.out.rows (6 + 3 * k + 2) hq with ⟨e1, e2⟩ | ⟨g3, cp3, cur3, e1, hg1x, hg2x, hg3, hg4⟩
                            · exact absurd e2 (by rw [HNN.out]; omega)
                            · have hc : wr.cell? ⟨w.heap.size, 13 + k * 6 + 2, none⟩ = some (r (6 + 3 * k + 2)) := st_pile HS.out.whole k 2 hk2 (by omega)
                              rw [HE.out] at hc e1
                              rw [HNN.out] at hc hg4
                              injection e1 with e11 e12 e13
                              injection e11 with e11
                              injection e11 with e11
                              subst e11
                              obtain ⟨pre, old, post, rfl, hpre, hold⟩ := cut7 hnl hg4
                              have HP1 := Lib.hid hpre
                              have HP2 := Lib.hid hold
                              have HW := Lib.hid hg3
                              clear e12 e13 hg3 hg4 hpre hold
                              go_wp2_with ((with_reducible refine at_st 94 93 ?_); refine wpList_storeP 50 (.tmp 94) (.tmp 93) 50 g (n * 7) pre old post gone.cells HW.out HP2.out.symm HP1.out.symm (by kernel_rfl) gone_one rfl rfl rfl rfl rfl ?_; intro w9 p9; have S9 := Lib.hid (HS.out.put hg1 hg2 HB.out HW.out (by simp [HP2.out, gone, Ins.cells]; omega) p9); clear p9)
                              go_roundw
                              case rel => exact ⟨n + 1, by go_num, by omega, S9.out⟩
                              case measure => simp [intOf]; omega
                          · have ln : ¬ (n : Int) < (nn : Int) := by omega
                            go_wp2
                            go_roundw
                            case rel => exact ⟨k + 1, by go_num, by omega, HS.out⟩
                            case measure => simp [intOf]; omega
        · have lk : ¬ (k : Int) < 2 := by omega
          go_wp2
          go_end0
          exact ⟨rfl, HS.out.kp⟩
end Go.Proofs.Ytkalpclckgbedaa
