/-
  Package decks: Code, numbers, Uncode. Conditions: short lists and texts.
-/
import Derived.Test.YteobgkfcmgcbeaaDecks
import Derived.Deep.RegionHeld3
import Derived.Laws.AppendOwnNone
namespace Go.Proofs.Yteobgkfcmgcbeaa
open Go.ChangeShapes Go.WideShapes Go.ChangeAt Go.RowKit
set_option linter.unusedVariables false
set_option linter.unusedSimpArgs false
set_option maxRecDepth 20000
set_option maxHeartbeats 3200000
theorem und_bytesD : Try.prog.underlying 35 = some (.slice 5) := by kernel_rfl
theorem info_byteD : (Try.prog.info? 5).map (fun i => (i.zero, i.size, i.bytes)) = some (some (.int .u8 0), 1, 1) := by kernel_rfl
theorem und_strD : Try.prog.underlying 9 = some .string := by kernel_rfl
theorem und_byte1D : Try.prog.underlying 5 = some (.int .u8) := by kernel_rfl
/-- append(s, x, y) of two bytes laid just now. -/
theorem wpList_push2 {P : Program} {w : World} {ops : Array Oper} {rest : List Oper} {o : Oper} {a : Act} {Q : Exit → Act → World → Prop} (s x : Operand) (t e : TypeId) (bytes : Nat) (z : Value)
    (ht : P.underlying t = some (.slice e)) (hinfo : (P.info? e).map (fun i => (i.zero, i.size, i.bytes)) = some (some z, 1, bytes)) (hzs : z.cells.size = 1) (hby : bytes ≤ 64)
    (hgd : o.guard = none) (ho : o.op = .call { callee := .builtin .append, args := #[s, x], argTypes := #[t, t] })
    (base : Nat) (v : Value) (n : Nat) (xs : List Value) (u1 u2 : Value) (hs : a.eval s = v) (hown : w.ownsRow base e 1 v n xs) (hx : a.eval x = .slice (some ⟨w.heap.size, 0, none⟩) 2 2) (h1 : u1.oneCell' = true) (h2 : u2.oneCell' = true)
    (hn : n ≤ 1099511627776) (hbase : base ≤ w.heap.size)
    (h : ∀ v' w', w'.ownsRow base e 1 v' (n + 2) (xs ++ [u1, u2]) → w.grownBy w' v.ownBlock → wpList P ops Q rest (a.put o.dst v') w') :
    wpList P ops Q (o :: rest) a (w.alloc (.cells #[u1, u2] e)) := by
  obtain ⟨i, hi, hz, hsize, hbytes⟩ := info_parts hinfo
  refine wpList_append_own_at (w.alloc (.cells #[u1, u2] e)) hgd s x t ho base e i z 1 bytes ht hi hz hsize hbytes hzs (by decide) v n xs hs (hown.alloc _) ⟨w.heap.size, 0, none⟩ 2 2 [u1, u2] hx rfl ?_
    (by intro y hy; rcases List.mem_cons.1 hy with rfl | hy; exact h1; rw [List.mem_singleton] at hy; rw [hy]; exact h2) (by unfold maxLen; omega) ?_ (by simp; omega) ?_
  · intro j u hj
    match j, hj with
    | 0, hj => simp at hj; subst hj; simp [Addr.add]
    | 1, hj => simp at hj; subst hj; simp [Addr.add]
  · have : (n + 2) * bytes ≤ (n + 2) * 64 := Nat.mul_le_mul_left _ hby
    omega
  · intro v' w' ho' hg _ _
    exact h v' w' ho' ((World.grownBy_alloc w _ _).trans hg)
set_option maxHeartbeats 12800000 in
theorem pCode (l : List Int) (A : Option Addr) (n c : Nat) (w : World) (hA : Reads w A (ints l)) (hn : l.length = n) (hl : n ≤ 1000) :
    Calls Try.prog 7 #[.slice A n c] w fun e w' => e = .returned (.string (deckS l)) ∧ Below w.heap.size w w' := by
  have HA := Lib.hid hA
  have HN := Lib.hid hn
  clear hA hn
  have l63 : (n : Int) ≤ 9223372036854775807 := by omega
  go_enter Try.func7, Try.ntmps7
  go_wp2_with fail
  go_loopw [3, 9] (fun b i wr => ∃ k : Nat, i = .int .i64 k ∧ k ≤ n ∧ wr.ownsRow w.heap.size 5 1 b (2 * k) ((bodyC (l.take k)).map (Value.int .u8)) ∧ Below w.heap.size w wr ∧ okC (l.take k) = true) (fun _ i _ => n - (intOf i).toNat)
  case atStart => exact ⟨0, by go_num, Nat.zero_le _, World.ownsRow_nil _ _ _ _, Below.refl _ _, rfl⟩
  case round =>
    obtain ⟨k, rfl, hk, ho, hB, hok⟩ := hrel
    have HB := Lib.hid hB
    have HOK := Lib.hid hok
    have HO := Lib.hid ho
    have z9 := hB.size
    clear hB hok ho
    by_cases hlt : k < n
    · have hk1 : k < l.length := by rw [HN.out]; exact hlt
      obtain ⟨x, rfl⟩ := reads_some HA.out (.inr ⟨k, by rw [ints_len]; exact hk1⟩)
      have hnx : bodyC (l.take (k + 1)) = bodyC (l.take k) ++ [97 + l[k] / 16, 97 + l[k] % 16] := by
        rw [List.take_succ_eq_append_getElem hk1]
        unfold bodyC
        rw [List.flatMap_append]
        simp [cL]
      obtain ⟨v, hv⟩ : ∃ v, v = l[k] := ⟨_, rfl⟩
      have HC : Hid (∀ y, Below w.heap.size w y → y.cell? (x.add k) = some (.int .i64 v)) := Lib.hid fun y hb => by
        rw [reads_at (HA.out.below hb) (by rw [ints_len]; exact hk1), hv]
        simp [ints, hk1]
      rw [← hv] at hnx
      have HNX := Lib.hid hnx
      clear hnx
      have lk : (k : Int) < (n : Int) := by omega
      have d0 := HC.out _ HB.out
      by_cases h0 : v < 0
      · have hbad := Lib.hid (okC_bad hk1 (by rw [← hv]; exact .inl h0))
        clear hv
        go_wp2_with fail
        go_ret
        exact ⟨by unfold deckS; rw [hbad.out]; rfl, HB.out⟩
      · by_cases h1 : 127 < v
        · have hbad := Lib.hid (okC_bad hk1 (by rw [← hv]; exact .inr h1))
          clear hv
          go_wp2_with fail
          go_ret
          exact ⟨by unfold deckS; rw [hbad.out]; rfl, HB.out⟩
        · have HV : Hid (okC (l.take (k + 1)) = true) := Lib.hid (okC_iff.2 fun m hm => by
            rw [List.take_succ_eq_append_getElem hk1] at hm
            rcases List.mem_append.1 hm with hm | hm
            · exact okC_iff.1 HOK.out m hm
            · cases List.mem_singleton.1 hm; rw [← hv]; omega)
          clear hv hk1
          have q0 : 0 ≤ v.tdiv 16 ∧ v.tdiv 16 ≤ 15 ∧ 97 + v / 16 = 97 + v.tdiv 16 := by rw [Int.tdiv_eq_ediv_of_nonneg (by omega)]; omega
          have q1 : 0 ≤ v.tmod 16 ∧ v.tmod 16 ≤ 15 ∧ 97 + v % 16 = 97 + v.tmod 16 := by rw [Int.tmod_eq_emod_of_nonneg (by omega)]; omega
          have hnx := HNX.out
          rw [q0.2.2, q1.2.2] at hnx
          have HNX := Lib.hid hnx
          obtain ⟨a, ha⟩ : ∃ a, v.tdiv 16 = a := ⟨_, rfl⟩
          obtain ⟨b, hb⟩ : ∃ b, v.tmod 16 = b := ⟨_, rfl⟩
          rw [ha, hb] at HNX
          rw [ha] at q0
          rw [hb] at q1
          have a0 := q0.1
          have a1 := q0.2.1
          have b0 := q1.1
          have b1 := q1.2.1
          have wa : IntKind.i64.wrap a = a := IntWalk.i64_in _ (by omega)
          have wb : IntKind.i64.wrap b = b := IntWalk.i64_in _ (by omega)
          clear q0 q1 hnx
          go_wp2_with (first
            | (go_at_call 13; ((with_reducible refine (pLetter a _ a0 a1).mono ?_); rintro e w1 ⟨rfl, rfl⟩))
            | (go_at_call 13; ((with_reducible refine (pLetter b _ b0 b1).mono ?_); rintro e w1 ⟨rfl, rfl⟩))
            | (at_builtin; refine wpList_push2 (.tmp 19) (.tmp 26) 35 5 1 (.int .u8 0) und_bytesD info_byteD rfl (by decide) rfl rfl w.heap.size _ _ _ _ _ rfl HO.out rfl rfl rfl (by omega) (by omega) ?_; intro v2 w2 o2 g2; have b3 := below_push HB.out HO.out g2 (Nat.le_refl _) (by omega); have hz2 := g2.size))
          go_roundw
          case rel => exact ⟨k + 1, by go_num, by omega, by rw [HNX.out, show 2 * (k + 1) = 2 * k + 2 from by omega]; simpa using o2, b3, HV.out⟩
          case measure => simp [intOf]; omega
    · obtain rfl : k = n := by omega
      have hall : okC l = true := by
        have := HOK.out
        rwa [List.take_of_length_le (by have := HN.out; omega)] at this
      have ho := HO.out
      rw [List.take_of_length_le (by have := HN.out; omega)] at ho
      have HO := Lib.hid ho
      have hcv := conv_own (P := Try.prog) (src := 35) und_bytesD und_byte1D ho (by rw [bodyC_len, HN.out])
      have hsz : (strOfNums (bodyC l)).size = 2 * k := by rw [strOfNums_size, bodyC_len, HN.out]
      have HD : Hid (deckS l = strOfNums (bodyC l) ++ strOfNums (sumC (strOfNums (bodyC l)))) := Lib.hid (by unfold deckS codeC; rw [if_pos hall])
      generalize strOfNums (bodyC l) = s at *
      have pe := fun w => pEnding s w (by omega)
      have hz3 : (strOfNums (sumC s)).size = 2 := strOfNums_size _
      have HE := Lib.hid HD.out
      clear HD
      generalize strOfNums (sumC s) = t at *
      clear hall ho
      have lk : ¬ (k : Int) < (k : Int) := by omega
      go_wp2_with (first
        | (go_at_call 12; refine (pe _).mono ?_; rintro e w1 ⟨rfl, b1⟩))
      go_ret
      exact ⟨by rw [HE.out]; rfl, HB.out.trans (b1.mono z9)⟩
end Go.Proofs.Yteobgkfcmgcbeaa
