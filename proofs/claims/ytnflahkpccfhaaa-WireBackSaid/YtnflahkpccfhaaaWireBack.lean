/-
  The law WireBack: there and back: it returns true for every input and writes nothing that was there. No conditions.
-/
import Derived.Test.YtnflahkpccfhaaaWireBackMem
import Derived.BigQuiet
import Derived.Deep.RegionWith
namespace Go.Proofs.Ytnflahkpccfhaaa
open Go.ChangeShapes Go.WideShapes Go.ChangeAt Go.RowKit
set_option linter.unusedVariables false
set_option linter.unusedSimpArgs false
set_option maxRecDepth 20000 in
set_option maxHeartbeats 6400000 in
theorem walk_WireBack {H : Type} {enc : TypeId × Value → H} {base : Nat} {d : DataW H} {p : List MemPlace} (v : Value) (s : ByteArray) (w : World) (ok : Value.okWide Try.prog w .any base 22 v)
    (h : DataW.Trod enc Try.prog w 0 (fun _ => true) true 22 v d p) (ws0 : s.size ≤ maxLen) :
    Calls Try.prog 6 #[v, .string s] w fun e w' => e = .returned (.bool true) ∧ Below w.heap.size w w' := by
  obtain ⟨A, len, cap, f, rfl, hacts⟩ := open_acts ok h
  clear ok h
  unfold maxLen at ws0
  have AC := Lib.hid hacts
  clear hacts
  by_cases h60 : 60 < len
  · go_enter Try.func6, Try.ntmps6
    go_wp2_with (first
      | (go_at_call 7; refine (Write_any _).mono ?_; rintro e w1 ⟨rfl, rfl⟩)
      | (go_at_call 18; refine (Read_any _ _).mono ?_; rintro e w1 ⟨rfl, rfl⟩))
    go_ret
    exact ⟨rfl, below_more (below_more (below_more (Below.refl _ _) _) _) _⟩
  · by_cases h2000 : 2000 < s.size
    · go_enter Try.func6, Try.ntmps6
      go_wp2_with (first
        | (go_at_call 7; refine (Write_any _).mono ?_; rintro e w1 ⟨rfl, rfl⟩)
        | (go_at_call 18; refine (Read_any _ _).mono ?_; rintro e w1 ⟨rfl, rfl⟩))
      go_ret
      exact ⟨rfl, below_more (below_more (below_more (Below.refl _ _) _) _) _⟩
    · have l60 : len ≤ 60 := by omega
      have l2000 : s.size ≤ 2000 := by omega
      have hS : s.size ≤ 140737488355328 := by omega
      have B0 := Lib.hid (BRound.start w s)
      go_enter Try.func6, Try.ntmps6
      go_wp2_with (first
        | (go_at_call 7; refine (Write_any _).mono ?_; rintro e w1 ⟨rfl, rfl⟩)
        | (go_at_call 18; refine (Read_any _ _).mono ?_; rintro e w1 ⟨rfl, rfl⟩))
      go_loopw [8] (fun i wr => ∃ (k : Nat) (q2 : Int × List Int) (u1 u2 : Value) (a E : Int), i = .int .i64 k ∧ k ≤ len ∧ q2.2.length ≤ 3000 * k ∧ (encTo f k).length ≤ 400 * k ∧ (∀ i, i < k → (f i).s.size ≤ 300) ∧ Sofar s a E q2 ∧ BRound w s (0, encTo f k) q2 u1 u2 a E wr) (fun i _ => len - (intOf i).toNat)
      case atStart => exact ⟨0, (0, []), _, _, 0, 0, rfl, by omega, by simp, by simp [encTo], by omega, fun _ => by simp, B0.out⟩
      case round =>
        obtain ⟨k, q2, u1, u2, a, E, rfl, hk, hq2, hq1, hsz, hso, hr⟩ := hrel
        have BR := Lib.hid hr
        have SO := Lib.hid hso
        have SZ := Lib.hid hsz
        have g0 := hr.rd.lo
        have g1 := hr.rd.hi
        clear hr hso hsz
        by_cases hkl : k < len
        · obtain ⟨x, rfl, hx, x0, x1, x2, x3, x4, hwf⟩ := AC.out.get hkl (Below.refl _ w)
          obtain ⟨wk, wn, wa, wb, ws⟩ := hwf
          have hnx : encTo f (k + 1) = encTo f k ++ encV (f k).k (f k).n (f k).s := rfl
          have hfs : ∀ i, i < k + 1 → (f k).s.size ≤ 300 → (f i).s.size ≤ 300 := fun i hi hh => by
            by_cases hik : i = k
            · rw [hik]; exact hh
            · exact SZ.out i (by omega)
          generalize hfk : f k = y at x0 x1 x2 x3 x4 wk wn wa wb ws hnx hfs
          clear hfk
          obtain ⟨ak, an, aa, ab, st⟩ := y
          simp only at x0 x1 x2 x3 x4 wk wn wa wb ws hnx hfs
          unfold maxLen at ws
          have hl : decide ((k : Int) < len) = true := by simp [hkl]
          clear wk wn wa wb x2 x3
          have hxb : (x.add (k * 5)).block < w.heap.size := by rw [add_block]; exact hx
          have HX0 := Lib.hid hxb
          have r0 := (BR.out.below.cell (p := x.add (k * 5)) hxb).trans x0
          have r1 := (BR.out.below.cell (p := ⟨(x.add (k * 5)).block, (x.add (k * 5)).off + 1, none⟩) hxb).trans x1
          have r4 := (BR.out.below.cell (p := ⟨(x.add (k * 5)).block, (x.add (k * 5)).off + 4, none⟩) hxb).trans x4
          by_cases h300 : 300 < st.size
          · go_wp2_with (first
              | (go_at_call 8; refine (lives_any _).mono ?_; rintro e w1 ⟨rfl, b1⟩))
            go_ret
            exact ⟨rfl, BR.out.below.trans (b1.mono BR.out.below.size)⟩
          · have hst : st.size ≤ 300 := by omega
            have HFS := Lib.hid (fun i hi => hfs i hi hst)
            have HNX := Lib.hid hnx
            clear hfs hnx
            by_cases h0 : ak = 0
            · subst h0
              have X0 := Lib.hid x0
              have X1 := Lib.hid x1
              have X4 := Lib.hid x4
              clear x0 x1 x4 hxb
              have ev : encV 0 an st = bytesL (lowN an) := by unfold encV; rw [if_pos rfl]
              rw [ev] at HNX
              obtain ⟨z0, z1⟩ := lowN_bd an
              have hm : bits BinOp.and IntKind.i64 an 65535 = lowN an := rfl
              generalize lowN an = m at *
              have hml := bytesL_len m
              have hq1' : (encTo f k).length ≤ 1000000 := by omega
              have hq2' : q2.2.length ≤ 1000000 := by omega
              have cW := fun x h => Num_any x (w.heap.size + 3) w.heap.size (0, encTo f k) u1 h m (by omega) (by omega) hq1'
              rw [wput_ok rfl (bytesL_ne z0 (by omega))] at cW
              simp only at cW
              have cQ := fun x h => rNum_any x (w.heap.size + 2) s a E h hS 2147483647
              obtain ⟨X, hX⟩ : ∃ X, rnum s a E 2147483647 = X := ⟨_, rfl⟩
              rw [hX] at cQ
              obtain ⟨⟨a', E'⟩, n⟩ := X
              simp only at cQ
              have nb : 0 ≤ n ∧ n ≤ 2147483647 := rnum_bd g0 g1 hX
              have cV := fun x h => Num_any x (w.heap.size + 3) (w.heap.size + 1) q2 u2 h n (by omega) (by omega) hq2'
              have hwl := wput_len q2 (bytesL n)
              have hnl := bytesL_len n
              have SO' := Lib.hid (SO.out.put (a' := a') (E' := E') (m := bytesL n) (fun he => by subst he; obtain ⟨c1, c2, c3, _, _, c6⟩ := num_back g0 g1 hX; exact ⟨c1, bytesL_ne c2 c3, c6⟩))
              clear hX
              go_wp2_with (first
                | (go_at_call 9; (with_reducible refine (cW _ BR.out.w1).mono ?_); rintro e w1 ⟨rfl, v1, h1, s1⟩
                   have m1 := BR.out.step1 h1 s1
                   have B1 := Lib.hid m1
                   have y0 := (m1.below.cell (p := x.add (k * 5)) HX0.out).trans X0.out
                   have y1 := (m1.below.cell (p := ⟨(x.add (k * 5)).block, (x.add (k * 5)).off + 1, none⟩) HX0.out).trans X1.out
                   have y4 := (m1.below.cell (p := ⟨(x.add (k * 5)).block, (x.add (k * 5)).off + 4, none⟩) HX0.out).trans X4.out
                   clear h1 s1 m1)
                | (go_at_call 20; (with_reducible refine (cQ _ B1.out.rd).mono ?_); rintro e w2 ⟨rfl, h2, k2⟩
                   have B2 := Lib.hid (B1.out.read h2 k2)
                   clear h2 k2)
                | (go_at_call 9; (with_reducible refine (cV _ B2.out.w2).mono ?_); rintro e w3 ⟨rfl, v3, h3, s3⟩
                   have B3 := Lib.hid (B2.out.step2 h3 s3)
                   clear h3 s3))
              go_roundw
              case rel => exact ⟨k + 1, _, v1, v3, a', E', by go_num, by omega, by omega, by rw [HNX.out, List.length_append]; omega, HFS.out, SO'.out, by rw [HNX.out]; exact B3.out⟩
              case measure => simp [intOf]; omega
            · by_cases h1 : ak = 1
              · subst h1
                have X0 := Lib.hid x0
                have X1 := Lib.hid x1
                have X4 := Lib.hid x4
                clear x0 x1 x4 hxb
                have ev : encV 1 an st = signedL (lowN an - 30000) := by unfold encV; rw [if_neg (by decide), if_pos rfl]
                rw [ev] at HNX
                obtain ⟨z0, z1⟩ := lowN_bd an
                have hm : bits BinOp.and IntKind.i64 an 65535 = lowN an := rfl
                generalize lowN an = m at *
                have hml := signedL_len (m - 30000)
                have hq1' : (encTo f k).length ≤ 1000000 := by omega
                have hq2' : q2.2.length ≤ 1000000 := by omega
                have cW := fun x h => Signed_any x (w.heap.size + 3) w.heap.size (0, encTo f k) u1 h (m - 30000) (by omega) (by omega) hq1'
                rw [wput_ok rfl (signedL_ne (by omega) (by omega))] at cW
                simp only at cW
                have cQ := fun x h => rSig_any x (w.heap.size + 2) s a E h hS (-1073741824) 1073741823
                obtain ⟨X, hX⟩ : ∃ X, rsig s a E (-1073741824) 1073741823 = X := ⟨_, rfl⟩
                rw [hX] at cQ
                obtain ⟨⟨a', E'⟩, n⟩ := X
                simp only at cQ
                have nb : -1073741824 ≤ n ∧ n ≤ 1073741823 := rsig_bd hX
                have cV := fun x h => Signed_any x (w.heap.size + 3) (w.heap.size + 1) q2 u2 h n (by omega) (by omega) hq2'
                have hwl := wput_len q2 (signedL n)
                have hnl := signedL_len n
                have SO' := Lib.hid (SO.out.put (a' := a') (E' := E') (m := signedL n) (fun he => by subst he; obtain ⟨c1, c2, _, _, c6⟩ := sig_back g0 g1 hX; exact ⟨c1, c2, c6⟩))
                clear hX
                go_wp2_with (first
                  | (go_at_call 12; (with_reducible refine (cW _ BR.out.w1).mono ?_); rintro e w1 ⟨rfl, v1, h1, s1⟩
                     have m1 := BR.out.step1 h1 s1
                     have B1 := Lib.hid m1
                     have y0 := (m1.below.cell (p := x.add (k * 5)) HX0.out).trans X0.out
                     have y1 := (m1.below.cell (p := ⟨(x.add (k * 5)).block, (x.add (k * 5)).off + 1, none⟩) HX0.out).trans X1.out
                     have y4 := (m1.below.cell (p := ⟨(x.add (k * 5)).block, (x.add (k * 5)).off + 4, none⟩) HX0.out).trans X4.out
                     clear h1 s1 m1)
                  | (go_at_call 22; (with_reducible refine (cQ _ B1.out.rd).mono ?_); rintro e w2 ⟨rfl, h2, k2⟩
                     have B2 := Lib.hid (B1.out.read h2 k2)
                     clear h2 k2)
                  | (go_at_call 12; (with_reducible refine (cV _ B2.out.w2).mono ?_); rintro e w3 ⟨rfl, v3, h3, s3⟩
                     have B3 := Lib.hid (B2.out.step2 h3 s3)
                     clear h3 s3))
                go_roundw
                case rel => exact ⟨k + 1, _, v1, v3, a', E', by go_num, by omega, by omega, by rw [HNX.out, List.length_append]; omega, HFS.out, SO'.out, by rw [HNX.out]; exact B3.out⟩
                case measure => simp [intOf]; omega
              · by_cases h2 : ak = 2
                · subst h2
                  have X0 := Lib.hid x0
                  have X1 := Lib.hid x1
                  have X4 := Lib.hid x4
                  clear x0 x1 x4 hxb
                  have ev : encV 2 an st = [if 0 < an then 1 else 0] := by unfold encV; rw [if_neg (by decide), if_neg (by decide), if_pos rfl]
                  rw [ev] at HNX
                  have hml : ([if 0 < an then (1 : Int) else 0]).length ≤ 5 := by simp
                  have hq1' : (encTo f k).length ≤ 1000000 := by omega
                  have hq2' : q2.2.length ≤ 1000000 := by omega
                  have cW := fun x h => Bool_any x (w.heap.size + 3) w.heap.size (0, encTo f k) u1 h (decide (0 < an)) hq1'
                  rw [wput_ok rfl (by simp)] at cW
                  simp only [decide_eq_true_eq] at cW
                  have cQ := fun x h => rBool_any x (w.heap.size + 2) s a E h hS
                  obtain ⟨X, hX⟩ : ∃ X, rbool s a E = X := ⟨_, rfl⟩
                  rw [hX] at cQ
                  obtain ⟨⟨a', E'⟩, n⟩ := X
                  simp only at cQ
                  have cV := fun x h => Bool_any x (w.heap.size + 3) (w.heap.size + 1) q2 u2 h n hq2'
                  have hwl := wput_len q2 [if n then (1 : Int) else 0]
                  rw [List.length_singleton] at hwl
                  have SO' := Lib.hid (SO.out.put (a' := a') (E' := E') (m := [if n then (1 : Int) else 0]) (fun he => by subst he; obtain ⟨c1, _, _, c6⟩ := bool_back g0 g1 hX; exact ⟨c1, by simp, c6⟩))
                  clear hX
                  go_wp2_with (first
                    | (go_at_call 14; (with_reducible refine (cW _ BR.out.w1).mono ?_); rintro e w1 ⟨rfl, v1, h1, s1⟩
                       have m1 := BR.out.step1 h1 s1
                       have B1 := Lib.hid m1
                       have y0 := (m1.below.cell (p := x.add (k * 5)) HX0.out).trans X0.out
                       have y1 := (m1.below.cell (p := ⟨(x.add (k * 5)).block, (x.add (k * 5)).off + 1, none⟩) HX0.out).trans X1.out
                       have y4 := (m1.below.cell (p := ⟨(x.add (k * 5)).block, (x.add (k * 5)).off + 4, none⟩) HX0.out).trans X4.out
                       clear h1 s1 m1)
                    | (go_at_call 24; (with_reducible refine (cQ _ B1.out.rd).mono ?_); rintro e w2 ⟨rfl, h2, k2⟩
                       have B2 := Lib.hid (B1.out.read h2 k2)
                       clear h2 k2)
                    | (go_at_call 14; (with_reducible refine (cV _ B2.out.w2).mono ?_); rintro e w3 ⟨rfl, v3, h3, s3⟩
                       have B3 := Lib.hid (B2.out.step2 h3 s3)
                       clear h3 s3))
                  go_roundw
                  case rel => exact ⟨k + 1, _, v1, v3, a', E', by go_num, by omega, by omega, by rw [HNX.out, List.length_append]; omega, HFS.out, SO'.out, by rw [HNX.out]; exact B3.out⟩
                  case measure => simp [intOf]; omega
                · skip
                  have X0 := Lib.hid x0
                  have X1 := Lib.hid x1
                  have X4 := Lib.hid x4
                  clear x0 x1 x4 hxb
                  have K0 : (ak == 0) = false := by rw [beq_eq_false_iff_ne]; exact h0
                  have K1 : (ak == 1) = false := by rw [beq_eq_false_iff_ne]; exact h1
                  have K2 : (ak == 2) = false := by rw [beq_eq_false_iff_ne]; exact h2
                  have ev : encV ak an st = bytesL st.size ++ bL st := by unfold encV; rw [if_neg h0, if_neg h1, if_neg h2]
                  rw [ev] at HNX
                  have hbl := bL_length st
                  have hb5 := bytesL_len (st.size : Int)
                  have hml : (bytesL (st.size : Int) ++ bL st).length ≤ 305 := by rw [List.length_append]; omega
                  have hq1' : (encTo f k).length ≤ 1000000 := by omega
                  have hq2' : q2.2.length ≤ 1000000 := by omega
                  have cW := fun x h => Text_any x (w.heap.size + 3) w.heap.size (0, encTo f k) u1 h (bL st) (bL_bd st) (by omega) hq1'
                  have hwt : wtext ((0 : Int), encTo f k) (bL st) = (0, encTo f k ++ (bytesL (st.size : Int) ++ bL st)) := by
                    unfold wtext
                    rw [hbl, wput_ok rfl (bytesL_ne (by omega) (by omega)), wadd_ok _ rfl]
                    simp only [List.append_assoc]
                  rw [hwt, str_bL] at cW
                  clear hwt
                  have cQ := fun x h => rText_any x (w.heap.size + 2) s a E h hS 2000
                  obtain ⟨X, hX⟩ : ∃ X, rtext s a E 2000 = X := ⟨_, rfl⟩
                  rw [hX] at cQ
                  obtain ⟨⟨a', E'⟩, n⟩ := X
                  simp only at cQ
                  have ntz : n.size ≤ s.size := by have := rtext_size s a E 2000; rw [hX] at this; exact this
                  have hnb := bL_length n
                  have cV := fun x h => Text_any x (w.heap.size + 3) (w.heap.size + 1) q2 u2 h (bL n) (bL_bd n) (by omega) hq2'
                  rw [str_bL] at cV
                  have hwl := wtext_len q2 (bL n)
                  have SO' := Lib.hid (SO.out.text (a' := a') (E' := E') (m := bL n) (fun he => by subst he; rw [hnb]; obtain ⟨c1, c2, _, _, c6⟩ := text_back g0 g1 hX; exact ⟨c1, c2, c6⟩))
                  clear hX
                  go_wp2_with (first
                    | (go_at_call 15; (with_reducible refine (cW _ BR.out.w1).mono ?_); rintro e w1 ⟨rfl, v1, h1, s1⟩
                       have m1 := BR.out.step1 h1 s1
                       have B1 := Lib.hid m1
                       have y0 := (m1.below.cell (p := x.add (k * 5)) HX0.out).trans X0.out
                       have y1 := (m1.below.cell (p := ⟨(x.add (k * 5)).block, (x.add (k * 5)).off + 1, none⟩) HX0.out).trans X1.out
                       have y4 := (m1.below.cell (p := ⟨(x.add (k * 5)).block, (x.add (k * 5)).off + 4, none⟩) HX0.out).trans X4.out
                       clear h1 s1 m1)
                    | (go_at_call 26; (with_reducible refine (cQ _ B1.out.rd).mono ?_); rintro e w2 ⟨rfl, h2, k2⟩
                       have B2 := Lib.hid (B1.out.read h2 k2)
                       clear h2 k2)
                    | (go_at_call 15; (with_reducible refine (cV _ B2.out.w2).mono ?_); rintro e w3 ⟨rfl, v3, h3, s3⟩
                       have B3 := Lib.hid (B2.out.step2 h3 s3)
                       clear h3 s3))
                  go_roundw
                  case rel => exact ⟨k + 1, _, v1, v3, a', E', by go_num, by omega, by omega, by rw [HNX.out, List.length_append]; omega, HFS.out, SO'.out, by rw [HNX.out]; exact B3.out⟩
                  case measure => simp [intOf]; omega
        · skip
          obtain rfl : k = len := by omega
          have hl2 : decide ((k : Int) < k) = false := by simp
          have cE := fun x h => End_any x (w.heap.size + 3) w.heap.size (0, encTo f k) u1 h
          rw [show wendS ((0 : Int), encTo f k) = strOfNums (encTo f k) from if_pos rfl] at cE
          simp only at cE
          obtain ⟨T, hT⟩ : ∃ T, strOfNums (encTo f k) = T := ⟨_, rfl⟩
          rw [hT] at cE
          have hTz : T.size = (encTo f k).length := by rw [← hT, strOfNums_size]
          have HT := Lib.hid hT
          clear hT
          go_wp2_with (first
            | (go_at_call 17; refine (cE _ BR.out.w1).mono ?_; rintro e w1 ⟨rfl, b1⟩
               have B1 := Lib.hid (BR.out.next b1)
               clear b1)
            | (go_at_call 18; refine (Read_any _ _).mono ?_; rintro e w2 ⟨rfl, rfl⟩))
          go_loopw [12] (fun i wr2 => ∃ (j : Nat), i = .int .i64 j ∧ j ≤ k ∧ CRound w s T q2 u2 a E w1.heap.size ((encTo f j).length : Int) wr2) (fun i _ => k - (intOf i).toNat)
          case atStart => exact ⟨0, rfl, by omega, CRound.start B1.out⟩
          case round =>
            obtain ⟨j, rfl, hj, hc⟩ := hrel
            have C0 := Lib.hid hc
            have hT2 : T.size ≤ 140737488355328 := by omega
            clear hc
            by_cases hjl : j < k
            · obtain ⟨x, rfl, hx, x0, x1, x2, x3, x4, hwf⟩ := AC.out.get hjl (Below.refl _ w)
              obtain ⟨R, hR⟩ := encTo_parts f hjl
              have hnx : encTo f (j + 1) = encTo f j ++ encV (f j).k (f j).n (f j).s := rfl
              have hst := SZ.out j hjl
              have hby := encTo_by f k
              generalize hfk : f j = y at x0 x1 x2 x3 x4 hnx hR hst
              clear hfk hwf
              obtain ⟨ak, an, aa, ab, st⟩ := y
              simp only at x0 x1 x2 x3 x4 hnx hR hst
              have hl3 : decide ((j : Int) < k) = true := by simp [hjl]
              have hxb : (x.add (j * 5)).block < w.heap.size := by rw [add_block]; exact hx
              have HX0 := Lib.hid hxb
              have r0 := (C0.out.below.cell (p := x.add (j * 5)) hxb).trans x0
              have r1 := (C0.out.below.cell (p := ⟨(x.add (j * 5)).block, (x.add (j * 5)).off + 1, none⟩) hxb).trans x1
              have r4 := (C0.out.below.cell (p := ⟨(x.add (j * 5)).block, (x.add (j * 5)).off + 4, none⟩) hxb).trans x4
              have X1 := Lib.hid x1
              have X4 := Lib.hid x4
              have HNX := Lib.hid hnx
              clear x0 x1 x2 x3 x4 hxb hnx
              by_cases h0 : ak = 0
              · subst h0
                have ev : encV 0 an st = bytesL (lowN an) := by unfold encV; rw [if_pos rfl]
                rw [ev] at HNX hR
                obtain ⟨z0, z1⟩ := lowN_bd an
                have hm : bits BinOp.and IntKind.i64 an 65535 = lowN an := rfl
                generalize lowN an = m at *
                have cR := fun x h => rNum_any x w1.heap.size (strOfNums (encTo f k)) ((encTo f j).length : Int) 0 h (by rw [HT.out]; exact hT2) 65535
                rw [read_num hby hR z0 z1 (by omega)] at cR
                simp only at cR
                rw [HT.out] at cR
                clear hR hby
                go_wp2
                go_region_with (first
                  | (go_at_call 20; (with_reducible refine (cR _ C0.out.drew.r4).mono ?_); rintro e w2 ⟨rfl, h2, k2⟩
                     have m2 := (CRound.drew C0.out).step h2 k2
                     have C2 := Lib.hid m2
                     have y1 := (m2.below.cell (p := ⟨(x.add (j * 5)).block, (x.add (j * 5)).off + 1, none⟩) HX0.out).trans X1.out
                     have y4 := (m2.below.cell (p := ⟨(x.add (j * 5)).block, (x.add (j * 5)).off + 4, none⟩) HX0.out).trans X4.out
                     clear h2 k2 m2))
                all_goals
                  go_wp2
                  go_roundw
                  case rel => exact ⟨j + 1, by go_num, by omega, by rw [HNX.out]; exact C2.out⟩
                  case measure => simp [intOf]; omega
              · by_cases h1 : ak = 1
                · subst h1
                  have ev : encV 1 an st = signedL (lowN an - 30000) := by unfold encV; rw [if_neg (by decide), if_pos rfl]
                  rw [ev] at HNX hR
                  obtain ⟨z0, z1⟩ := lowN_bd an
                  have hm : bits BinOp.and IntKind.i64 an 65535 = lowN an := rfl
                  generalize lowN an = m at *
                  have cR := fun x h => rSig_any x w1.heap.size (strOfNums (encTo f k)) ((encTo f j).length : Int) 0 h (by rw [HT.out]; exact hT2) (-40000) 40000
                  rw [read_sig hby hR (by omega) (by omega) (by omega) (by omega)] at cR
                  simp only at cR
                  rw [HT.out] at cR
                  clear hR hby
                  go_wp2
                  go_region_with (first
                    | (go_at_call 22; (with_reducible refine (cR _ C0.out.drew.r4).mono ?_); rintro e w2 ⟨rfl, h2, k2⟩
                       have m2 := (CRound.drew C0.out).step h2 k2
                       have C2 := Lib.hid m2
                       have y1 := (m2.below.cell (p := ⟨(x.add (j * 5)).block, (x.add (j * 5)).off + 1, none⟩) HX0.out).trans X1.out
                       have y4 := (m2.below.cell (p := ⟨(x.add (j * 5)).block, (x.add (j * 5)).off + 4, none⟩) HX0.out).trans X4.out
                       clear h2 k2 m2))
                  all_goals
                    go_wp2
                    go_roundw
                    case rel => exact ⟨j + 1, by go_num, by omega, by rw [HNX.out]; exact C2.out⟩
                    case measure => simp [intOf]; omega
                · by_cases h2 : ak = 2
                  · subst h2
                    have ev : encV 2 an st = [if decide (0 < an) then 1 else 0] := by unfold encV; rw [if_neg (by decide), if_neg (by decide), if_pos rfl]; simp
                    rw [ev] at HNX hR
                    have cR := fun x h => rBool_any x w1.heap.size (strOfNums (encTo f k)) ((encTo f j).length : Int) 0 h (by rw [HT.out]; exact hT2)
                    rw [read_bool (decide (0 < an)) hby hR] at cR
                    simp only at cR
                    rw [HT.out] at cR
                    clear hR hby
                    go_wp2
                    go_region_with (first
                      | (go_at_call 24; (with_reducible refine (cR _ C0.out.drew.r4).mono ?_); rintro e w2 ⟨rfl, h2, k2⟩
                         have m2 := (CRound.drew C0.out).step h2 k2
                         have C2 := Lib.hid m2
                         have y1 := (m2.below.cell (p := ⟨(x.add (j * 5)).block, (x.add (j * 5)).off + 1, none⟩) HX0.out).trans X1.out
                         have y4 := (m2.below.cell (p := ⟨(x.add (j * 5)).block, (x.add (j * 5)).off + 4, none⟩) HX0.out).trans X4.out
                         clear h2 k2 m2))
                    all_goals
                      go_wp2
                      go_roundw
                      case rel => exact ⟨j + 1, by go_num, by omega, by rw [HNX.out]; exact C2.out⟩
                      case measure => simp [intOf]; omega
                  · skip
                    have K0 : (ak == 0) = false := by rw [beq_eq_false_iff_ne]; exact h0
                    have K1 : (ak == 1) = false := by rw [beq_eq_false_iff_ne]; exact h1
                    have K2 : (ak == 2) = false := by rw [beq_eq_false_iff_ne]; exact h2
                    have ev : encV ak an st = bytesL st.size ++ bL st := by unfold encV; rw [if_neg h0, if_neg h1, if_neg h2]
                    rw [ev] at HNX hR
                    have cR := fun x h => rText_any x w1.heap.size (strOfNums (encTo f k)) ((encTo f j).length : Int) 0 h (by rw [HT.out]; exact hT2) 300
                    rw [read_text hby hR (by omega) (by omega)] at cR
                    simp only at cR
                    rw [HT.out] at cR
                    clear hR hby
                    go_wp2
                    go_region_with (first
                      | (go_at_call 26; (with_reducible refine (cR _ C0.out.drew.r4).mono ?_); rintro e w2 ⟨rfl, h2, k2⟩
                         have m2 := (CRound.drew C0.out).step h2 k2
                         have C2 := Lib.hid m2
                         have y1 := (m2.below.cell (p := ⟨(x.add (j * 5)).block, (x.add (j * 5)).off + 1, none⟩) HX0.out).trans X1.out
                         have y4 := (m2.below.cell (p := ⟨(x.add (j * 5)).block, (x.add (j * 5)).off + 4, none⟩) HX0.out).trans X4.out
                         clear h2 k2 m2))
                    all_goals
                      go_wp2
                      go_roundw
                      case rel => exact ⟨j + 1, by go_num, by omega, by rw [HNX.out]; exact C2.out⟩
                      case measure => simp [intOf]; omega
            · skip
              obtain rfl : j = k := by omega
              have hl3 : decide ((j : Int) < j) = false := by simp
              have cE2 := fun x h => End_any x (w.heap.size + 3) (w.heap.size + 1) q2 u2 h
              have cL4 := fun x h => rLeft_any x w1.heap.size T ((encTo f j).length : Int) 0 h hT2
              rw [show (T.size : Int) - ((encTo f j).length : Int) = 0 from by omega] at cL4
              have cN4 := fun x h => rEnd_any x w1.heap.size T ((encTo f j).length : Int) 0 h hT2
              rw [show rend T ((encTo f j).length : Int) 0 = 0 from if_neg (by omega)] at cN4
              by_cases hE : E = 0
              · subst hE
                have hq := SO.out rfl
                subst hq
                have hx0 : strOfNums ((bL s).take a.toNat) = s.extract 0 a.toNat := by
                  have e := bL_extract s 0 a.toNat (by omega)
                  rw [Nat.zero_add, List.drop_zero] at e
                  rw [← e, str_bL]
                rw [show wendS ((0 : Int), (bL s).take a.toNat) = s.extract 0 a.toNat from (if_pos rfl).trans hx0] at cE2
                simp only at cE2
                have hsub : (s.size : Int) - ((s.size : Int) - a) = a := by omega
                have hgt : decide ((s.size : Int) < (s.size : Int) - a) = false := by simp; omega
                have hgt2 : ¬ ((s.size : Int) < (s.size : Int) - a) := by omega
                clear hx0 SO
                go_wp2_with (first
                  | (go_at_call 17; refine (cE2 _ C0.out.w2).mono ?_; rintro e w3 ⟨rfl, b3⟩
                     have C3 := Lib.hid (C0.out.next b3)
                     clear b3)
                  | (go_at_call 30; refine (rErr_any _ _ _ _ _ C3.out.rd).mono ?_; rintro e w4 ⟨rfl, rfl⟩)
                  | (go_at_call 29; (with_reducible refine (rLeft_any _ _ _ _ _ C3.out.rd hS).mono ?_); rintro e w4 ⟨rfl, rfl⟩)
                  | (go_at_call 29; (with_reducible refine (cL4 _ C3.out.r4).mono ?_); rintro e w4 ⟨rfl, rfl⟩)
                  | (go_at_call 32; refine (cN4 _ C3.out.r4).mono ?_; rintro e w5 ⟨rfl, h5, k5⟩
                     have C5 := Lib.hid (C3.out.step h5 k5)
                     clear h5 k5)
                  | (go_at_call 8; refine (lives_any _).mono ?_; rintro e w6 ⟨rfl, b6⟩))
                go_ret
                exact ⟨rfl, C5.out.below.trans (b6.mono C5.out.below.size)⟩
              · have hE2 : (E == 0) = false := by rw [beq_eq_false_iff_ne]; exact hE
                clear SO
                go_wp2_with (first
                  | (go_at_call 17; refine (cE2 _ C0.out.w2).mono ?_; rintro e w3 ⟨rfl, b3⟩
                     have C3 := Lib.hid (C0.out.next b3)
                     clear b3)
                  | (go_at_call 30; refine (rErr_any _ _ _ _ _ C3.out.rd).mono ?_; rintro e w4 ⟨rfl, rfl⟩)
                  | (go_at_call 29; (with_reducible refine (cL4 _ C3.out.r4).mono ?_); rintro e w4 ⟨rfl, rfl⟩)
                  | (go_at_call 32; refine (cN4 _ C3.out.r4).mono ?_; rintro e w5 ⟨rfl, h5, k5⟩
                     have C5 := Lib.hid (C3.out.step h5 k5)
                     clear h5 k5)
                  | (go_at_call 8; refine (lives_any _).mono ?_; rintro e w6 ⟨rfl, b6⟩))
                go_ret
                exact ⟨rfl, C5.out.below.trans (b6.mono C5.out.below.size)⟩
end Go.Proofs.Ytnflahkpccfhaaa
