/-
  Package decks: numbers, Uncode. Conditions: short texts.
-/
import Derived.Test.YteobgkfcmgcbeaaDecksP
import Derived.Deep.AppendLies
import Derived.Deep.RegionLaw
import Derived.Test.YteobgkfcmgcbeaaLaid
namespace Go.Proofs.Yteobgkfcmgcbeaa
open Go.ChangeShapes Go.WideShapes Go.ChangeAt Go.RowKit
set_option linter.unusedVariables false
set_option linter.unusedSimpArgs false
set_option maxRecDepth 20000
set_option maxHeartbeats 3200000
theorem pNumbers (s : ByteArray) (w : World) (hs : s.size ≤ 1000) (hev : s.size % 2 = 0) (hnb : badsC s s.size = false) :
    Calls Try.prog 11 #[.string s] w fun e w' => ∃ v, e = .returned v ∧ w'.ownsRow w.heap.size 3 1 v (s.size / 2) (ints (numsC s (s.size / 2))) ∧ Below w.heap.size w w' := by
  have HV := Lib.hid hev
  have HNB := Lib.hid hnb
  clear hev hnb
  go_enter Try.func11, Try.ntmps11
  go_wp2_with fail
  go_loopw [3, 4] (fun r i wr => ∃ (k o : Nat) (l : Value), l = r ∧ o = 2 * k ∧ i = .int .i64 o ∧ o ≤ s.size ∧ wr.ownsRow w.heap.size 3 1 l k (ints (numsC s k)) ∧ Below w.heap.size w wr) (fun _ i _ => s.size - (intOf i).toNat)
  case atStart => exact ⟨0, 0, _, rfl, rfl, by go_num, by omega, World.ownsRow_nil _ _ _ _, Below.refl _ _⟩
  case round =>
    obtain ⟨k, o, l, rfl, hk, rfl, ho2, ho, hB⟩ := hrel
    have HO := Lib.hid ho
    have HB' := Lib.hid hB
    have HK := Lib.hid hk
    have z9 := hB.size
    have z8 : k ≤ 500 := by omega
    clear ho hB hk
    by_cases hlt : o < s.size
    · have h1 : o < s.size := by omega
      have h3 : o + 1 < s.size := by have := HK.out; have := HV.out; omega
      have e1 := gB_eq s o h1
      have e2 := gB_eq s (o + 1) h3
      have c1 := badsC_none HNB.out h1
      have c2 := badsC_none HNB.out h3
      rw [e1] at c1
      rw [e2] at c2
      have hap : numsC s (k + 1) = numsC s k ++ [(((s[o]'h1).toNat : Int) - 97) * 16 + (((s[o + 1]'h3).toNat : Int) - 97)] := by
        show numsC s k ++ [numC s k] = _
        unfold numC
        rw [← HK.out, e1, e2]
        congr 2
        omega
      obtain ⟨a, ha⟩ : ∃ a : Int, ((s[o]'h1).toNat : Int) = a := ⟨_, rfl⟩
      obtain ⟨b2, hb2⟩ : ∃ b2 : Int, ((s[o + 1]'h3).toNat : Int) = b2 := ⟨_, rfl⟩
      rw [ha, hb2] at hap
      rw [ha] at c1
      rw [hb2] at c2
      clear e1 e2
      have HAP := Lib.hid hap
      clear hap
      have w1 : IntKind.i64.wrap (o + 1) = (o : Int) + 1 := IntWalk.i64_in _ (by omega)
      have w2 : IntKind.u8.wrap (a - 97) = a - 97 := by unfold IntKind.wrap; simp [IntKind.bits, IntKind.signed]; omega
      have w2b : IntKind.u8.wrap (b2 - 97) = b2 - 97 := by unfold IntKind.wrap; simp [IntKind.bits, IntKind.signed]; omega
      have w6 : IntKind.i64.wrap (a - 97) = a - 97 := IntWalk.i64_in _ (by omega)
      have w7 : IntKind.i64.wrap (b2 - 97) = b2 - 97 := IntWalk.i64_in _ (by omega)
      have w3x : IntKind.i64.wrap ((a - 97) * 16) = (a - 97) * 16 := IntWalk.i64_in _ (by omega)
      have w4 : IntKind.i64.wrap ((a - 97) * 16 + (b2 - 97)) = (a - 97) * 16 + (b2 - 97) := IntWalk.i64_in _ (by omega)
      have lp0 : (0 : Int) ≤ (o : Int) + 1 := by omega
      have lp1 : (o : Int) + 1 < (s.size : Int) := by omega
      obtain ⟨i0, hi0, hz0, hsz0, hby0⟩ := info_parts info_intD
      have a1 : k + 1 ≤ maxLen := by unfold maxLen; omega
      have a2 : (k + 1) * 8 ≤ 140737488355328 := by omega
      go_wp2_with fail
      obtain ⟨v, hv⟩ : ∃ v, (a - 97) * 16 + (b2 - 97) = v := ⟨_, rfl⟩
      have HAP := Lib.hid (HAP.out.trans (by rw [hv]))
      rw [hv] at w4
      go_region_law (refine step_append_lies _ (by rfl) _ _ _ (by rfl) w.heap.size 3 i0 _ 1 8 und_intsD hi0 hz0 hsz0 hby0 rfl (by decide) l k (ints (numsC s k)) (by rfl) (by exact own_heap (HO.out.alloc _) rfl) ⟨wr.heap.size, 0, none⟩ 1 1 [.int .i64 v] (by rfl) (by rfl) (by exact World.news_of_block (cs := #[.int .i64 v]) (t := 3) (fr := (0, 0)) (heap_alloc_new _ _)) (by simp [Value.oneCell']) (by decide) a1 a2 (by simp; omega) (wr.heap.size + 1) (by simp) ?_; intro gg cap1 w3 hown1 hgrow hat hlt3)
      all_goals
        have b3 : Below w.heap.size w w3 := below_push (below_drew1 HB'.out) (own_below HO.out (below_drew1 (Below.refl _ wr))) (World.grownBy.trans (by exact World.grownBy_alloc wr.drew _ _) hgrow) (Nat.le_refl _) (by simp; omega)
        clear hgrow hat w1 w2 w2b w6 w7 w3x w4 hv ha hb2 hi0
        go_wp2
        go_roundw
        case rel => exact ⟨k + 1, o + 2, _, rfl, by have := HK.out; omega, by go_num, by have := HK.out; have := HV.out; omega, by rw [HAP.out]; simpa [ints] using hown1, b3⟩
        case measure => simp [intOf]; omega
    · obtain rfl : o = s.size := by omega
      have HKK : Hid (s.size / 2 = k) := Lib.hid (by have := HK.out; omega)
      go_wp2_with fail
      go_ret
      exact ⟨_, rfl, by rw [HKK.out]; exact HO.out, HB'.out⟩
end Go.Proofs.Yteobgkfcmgcbeaa
