/-
  Texts SyntaxBlanks. No conditions but those that each theorem names.
-/
import Derived.Test.YtgfkimknnbpmnaaQC49
namespace Go.Proofs.Ytgfkimknnbpmnaa
open Go.ChangeShapes Go.WideShapes Go.ChangeAt Go.RowKit
set_option linter.unusedVariables false
set_option linter.unusedSimpArgs false
theorem scan_facts (s : ByteArray) (h64 : s.size ≤ 65536) (L : List TokV) (E : Int) (l c : Nat) (hv : Vq s = (L, E, l, c)) : (E ≠ 0 ∧ L = []) ∨ (E = 0 ∧ l = 0 ∧ c = 0 ∧ Tr s 0 L) := by
 obtain ⟨L', E', p, hs⟩ : ∃ L' E' p, Wl s 0 [] = (L', E', p) := ⟨_, _, _, rfl⟩
 have hf := scan_tr s s.size 0 [] L' E' p (by omega) (by omega) (Bd.zero s) hs
 rw [scanV_of s h64 hs] at hv
 by_cases hE : E' = 0
 · rw [if_pos hE] at hv
   injection hv with e1 e2
   injection e2 with e2 e3
   injection e3 with e3 e4
   obtain ⟨L2, h2, h3⟩ := hf.1 hE
   refine .inr ⟨e2.symm, e3.symm, e4.symm, ?_⟩
   rw [← e1, h2]; exact h3
 · rw [if_neg hE] at hv
   injection hv with e1 e2
   injection e2 with e2 e3
   exact .inl ⟨by rw [← e2]; exact hE, e1.symm⟩
theorem againC_facts (s : ByteArray) (h4 : s.size ≤ 4000) (L : List TokV) (h : Tr s 0 L) : ∃ M, Vq (strOfNums (wcL L)) = (M, 0, 0, 0) ∧ SimC L M ∧ (wcL L).length ≤ 40000 := by
 have hsz := h.size
 have hln := h.len
 have hwl := wcL_len L
 have h10 := txt_byte h.sh
 have hb : bL (strOfNums (wcL L)) = wcL L := bL_str _ h10
 have hz : (strOfNums (wcL L)).size = (wcL L).length := strOfNums_size _
 obtain ⟨M, p, hM, hS⟩ := againC (strOfNums (wcL L)) L h.sh 0 [] (by unfold Zg; rw [hb, List.drop_zero])
 refine ⟨M, ?_, hS, by omega⟩
 rw [scanV_of _ (by omega) hM, if_pos rfl]; rfl
theorem SimC.row {L M : List TokV} (h : SimC L M) : RowSim false L M := by
 refine ⟨h.1, fun a => ?_⟩
 by_cases ha : a < L.length
 · have hb : a < M.length := by rw [← h.1]; exact ha
   rw [curT_get L a ha, curT_get M a hb]
   obtain ⟨e1, e2, e3⟩ := h.2 a ha hb
   exact ⟨e1.symm, e2.symm, e3.symm, fun c => by cases c⟩
 · have hb : ¬ a < M.length := by rw [← h.1]; exact ha
   have e1 : Zz L a = zTok := by unfold Zz; rw [List.getElem?_eq_none (by omega)]; rfl
   have e2 : Zz M a = zTok := by unfold Zz; rw [List.getElem?_eq_none (by omega)]; rfl
   rw [e1, e2]
   exact ⟨rfl, rfl, rfl, fun c => by cases c⟩
theorem Yf.flt1 : ∀ {s t : St}, Yf false s t → (fltS s).1 = (fltS t).1
 | .ok _ _, .ok _ _, _ => rfl
 | .bad F, .bad G, h => h.1
theorem text_ok (s : ByteArray) (L : List TokV) (h : Vq s = (L, 0, 0, 0)) : Vo s = L ∧ textS s = .ok 0 0 := by
 unfold Vo textS
 rw [h]
 exact ⟨rfl, rfl⟩
theorem text_bad (s : ByteArray) (E : Int) (l c : Nat) (hE : E ≠ 0) (h : Vq s = ([], E, l, c)) : textS s = .bad (E, l, c) := by
 unfold textS
 rw [h]
 exact if_neg hE
theorem parse_bad (s : ByteArray) (F : Int × Nat × Nat) (h : textS s = .bad F) : Vz 5 s = (⟨[], []⟩, F) := by
 have e : fileO 5 s = (⟨[], []⟩, .bad F) := by
   unfold fileO textN
   rw [h]
   exact file_stop 5 _ _ _ rfl
 unfold Vz
 rw [e]
 rfl
theorem parse_alike (s t : ByteArray) (L M : List TokV) (hs : Vq s = (L, 0, 0, 0)) (ht : Vq t = (M, 0, 0, 0)) (h : SimC L M) : FiSim false (Vz 5 s).1 (Vz 5 t).1 ∧ (Vz 5 s).2.1 = (Vz 5 t).2.1 := by
 obtain ⟨s1, s2⟩ := text_ok s L hs
 obtain ⟨t1, t2⟩ := text_ok t M ht
 have e1 : textN t = textN s := by unfold textN; rw [s1, t1, h.1]
 have hf := file_sim h.row 5 5 (textN s) (show Yf false (.ok 0 0) (.ok 0 0) from ⟨rfl, rfl⟩)
 have ho := overS_sim h.row hf.1
 unfold Vz fileO
 rw [s1, s2, t1, t2, e1, ← ho.good]
 refine ⟨?_, ho.flt1⟩
 split
 · rename_i hg
   exact hf.2 (good_over hg)
 · exact ⟨trivial, trivial⟩
theorem toks_reads {N : Nat → Prop} {w : World} {L : List TokV} {A : Option Addr} {n c : Nat} (h : Ze N w (.row L.length (toksDs L) .nil) [.slice A n c]) : Reads w A (Wx L) := by
 obtain ⟨A', c', xs, hv, _, hw, hd⟩ := h.inRow
 injection hv with e1 e2 e3
 subst e1
 rw [toks_only hd] at hw
 rcases hw with hw | ⟨g, e, _, hg, hc⟩
 · exact .inl hw
 · exact .inr ⟨⟨g, 0, none⟩, e, hg, fun j hj => by rw [Addr.add_lit, Nat.zero_add]; exact hc j hj⟩
set_option maxRecDepth 20000 in
set_option maxHeartbeats 6400000 in
theorem walk_SyntaxBlanks (s : ByteArray) (w : World) (hs : s.size ≤ maxLen) : Calls Try.prog 3 #[.string s] w fun e w' => e = .returned (.bool true) ∧ Below w.heap.size w w' := by
 unfold maxLen at hs
 by_cases hle : 4000 < s.size
 · go_enter Try.func3, Try.ntmps3
   go_wp2_with (go_at_call 4; refine (lives_any _).mono ?_; rintro e w1 ⟨rfl, b1⟩)
   go_ret
   exact ⟨rfl, b1⟩
 · have hle' : s.size ≤ 4000 := by omega
   have T0 := Hh (Env.start w)
   obtain ⟨L, E, l, c, hv⟩ : ∃ L E l c, Vq s = (L, E, l, c) := ⟨_, _, _, _, rfl⟩
   have hf := scan_facts s (by omega) L E l c hv
   have hsc : ∀ y, Calls Try.prog 5 #[.string s] y (fun e w' => ∃ v, e = .returned (.tuple #[v, .agg #[.int .i64 E, .int .i64 (l : Int), .int .i64 (c : Int)]]) ∧ w'.ownsRow y.heap.size 36 5 v L.length (Wx L) ∧ Below y.heap.size y w') := fun y => by
     have h := tkScan s y (by omega)
     unfold ScanPost at h
     rw [hv] at h
     exact h
   rcases hf with ⟨hE, rfl⟩ | ⟨rfl, rfl, rfl, hT⟩
   · have hp : ∀ y, Calls Try.prog 6 #[.string s] y (fun e w' => ∃ vs : List Value, e = .returned (.tuple #[.agg vs.toArray, .agg #[.int .i64 E, .int .i64 (l : Int), .int .i64 (c : Int)]]) ∧ Ze (fun k => y.heap.size ≤ k) w' (⟨[], []⟩ : Fi).ds vs ∧ Below y.heap.size y w') := fun y => by
       have h := xParse s y (by omega)
       rw [parse_bad s _ (text_bad s E l c hE hv)] at h
       exact h
     have q0 : (E != 0) = true := by simpa using hE
     clear hE hv
     go_enter Try.func3, Try.ntmps3
     go_wp2_with (first
 | (go_at_call 5; refine (hsc _).mono ?_; rintro e w1 ⟨v0, rfl, o0, b1⟩
    obtain ⟨A0, k0, rfl, _⟩ := Ws o0
    have d0 := Ze.rowOf (N := fun k => _ ≤ k) o0 (fun k hk => hk) (toks_deep _ _ ([] : List TokV))
    have T1 := Hh (T0.out.tree b1 d0)
    clear o0 d0
    clear b1)
 | ((with_reducible refine Ye 4 ?_); refine Xr T1.out 26 _ rfl rfl z_F ?_; intro w2 g0 t2
    have T2 := Hh (t2)
    clear t2)
 | ((with_reducible refine Zq 4 19 ?_); refine Zf 26 _ _ 26 g0 _ ([.int .i64 E, .int .i64 (l : Int), .int .i64 (c : Int)]) (T2.out.get 0 rfl) rfl Xl (by simp [Value.oneCell']) rfl rfl rfl rfl rfl ?_
    intro w3 p3
    have T3 := Hh (T2.out.put 0 rfl p3)
    clear p3)
 | (go_at_call 6; refine (hp _).mono ?_; rintro e w4 ⟨v1, rfl, d1, b4⟩
    obtain ⟨A1, c1, xs1, _, rfl, _, _, _, A2, c2, xs2, _, rfl, _, _, _, hd1⟩ := d1
    cases hd1
    have T4 := Hh (T3.out.call b4)
    clear b4)
 | ((with_reducible refine Ye 5 ?_); refine Xr T4.out 32 _ rfl rfl z_fi ?_; intro w5 g1 t5
    have T5 := Hh (t5)
    clear t5)
 | ((with_reducible refine Ye 6 ?_); refine Xr T5.out 26 _ rfl rfl z_F ?_; intro w6 g2 t6
    have T6 := Hh (t6)
    clear t6)
 | ((with_reducible refine Zq 5 23 ?_); refine Zf 32 _ _ 32 g1 _ ([.slice A1 0 c1, .slice A2 0 c2]) (T6.out.get 1 rfl) rfl Wp (by simp [Value.oneCell']) rfl rfl rfl rfl rfl ?_
    intro w7 p7
    have T7 := Hh (T6.out.put 1 rfl p7)
    clear p7)
 | ((with_reducible refine Zq 6 24 ?_); refine Zf 26 _ _ 26 g2 _ ([.int .i64 E, .int .i64 (l : Int), .int .i64 (c : Int)]) (T7.out.get 2 rfl) rfl Xl (by simp [Value.oneCell']) rfl rfl rfl rfl rfl ?_
    intro w8 p8
    have T8 := Hh (T7.out.put 2 rfl p8)
    obtain ⟨p0, p1, p2, _⟩ := Yj (T8.out.get 0 rfl)
    obtain ⟨q0, q1, q2, _⟩ := Yj (T8.out.get 2 rfl)
    obtain ⟨r0, r1, _⟩ := whole2 (T8.out.get 1 rfl)
    clear p8)
 | (go_at_call 4; refine (lives_any _).mono ?_; rintro e w9 ⟨rfl, b9⟩
    have T9 : Hid (Env w [(g0, 26, [.int .i64 E, .int .i64 (l : Int), .int .i64 (c : Int)]), (g1, 32, [.slice A1 0 c1, .slice A2 0 c2]), (g2, 26, [.int .i64 E, .int .i64 (l : Int), .int .i64 (c : Int)])] [] [(.row ([] : List TokV).length (toksDs ([] : List TokV)) .nil, [.slice A0 ([] : List TokV).length k0])] w9) := Hh (T8.out.call b9)
    clear b9))
     go_ret
     exact ⟨rfl, T9.out.below⟩
   · obtain ⟨M, hM, hS, h40⟩ := againC_facts s hle' L hT
     obtain ⟨pa, pe⟩ := parse_alike s _ L M hv hM hS
     have hz : (strOfNums (wcL L)).size = (wcL L).length := strOfNums_size _
     have hp : ∀ y, Calls Try.prog 6 #[.string s] y (TopPost y (Vz 5 s).1.ds (Vz 5 s).2) := fun y => xParse s y (by omega)
     have hq : ∀ y, Calls Try.prog 6 #[.string (strOfNums (wcL L))] y (TopPost y (Vz 5 (strOfNums (wcL L))).1.ds (Vz 5 (strOfNums (wcL L))).2) := fun y => xParse _ y (by omega)
     generalize Vz 5 s = R at *
     obtain ⟨x, F0, F1, F2⟩ := R
     generalize Vz 5 (strOfNums (wcL L)) = R at *
     obtain ⟨y, G0, G1, G2⟩ := R
     dsimp only at pe
     subst pe
     have h3 : ∀ z (v1 v2 : List Value), Ze (fun k => w.heap.size ≤ k) z x.ds v1 → Ze (fun k => w.heap.size ≤ k) z y.ds v2 → Calls Try.prog 7 #[.agg v1.toArray, .agg v2.toArray, .bool false] z fun e w' => e = .returned (.bool true) ∧ Below z.heap.size z w' := fun z v1 v2 d1 d2 => sSame false x y z _ _ v1 v2 pa d1 d2
     unfold TopPost Zk at hp hq
     dsimp only at hp hq
     have hWL : wcL (L.take L.length) = wcL L := by rw [List.take_length]
     have HWL := Hh hWL
     have H40 := Hh h40
     have hLl : L.length ≤ 4001 := by have := hT.len; omega
     clear hv hT hM hS pa hz hWL h40
     go_enter Try.func3, Try.ntmps3
     go_wp2_with (first
 | (go_at_call 5; refine (hsc _).mono ?_; rintro e w1 ⟨v0, rfl, o0, b1⟩
    obtain ⟨A0, k0, rfl, _⟩ := Ws o0
    have d0 := Ze.rowOf (N := fun k => _ ≤ k) o0 (fun k hk => hk) (toks_deep _ _ L)
    have T1 := Hh (T0.out.tree b1 d0)
    clear o0 d0
    clear b1)
 | ((with_reducible refine Ye 4 ?_); refine Xr T1.out 26 _ rfl rfl z_F ?_; intro w2 g0 t2
    have T2 := Hh (t2)
    clear t2)
 | ((with_reducible refine Zq 4 19 ?_); refine Zf 26 _ _ 26 g0 _ ([.int .i64 0, .int .i64 0, .int .i64 0]) (T2.out.get 0 rfl) rfl Xl (by simp [Value.oneCell']) rfl rfl rfl rfl rfl ?_
    intro w3 p3
    have T3 := Hh (T2.out.put 0 rfl p3)
    clear p3)
 | (go_at_call 6; refine (hp _).mono ?_; rintro e w4 ⟨v1, rfl, d1, b4⟩
    have T4 := Hh (T3.out.tree b4 d1)
    have l1 := Hh (d1.len.trans (show x.ds.len = 2 from rfl))
    have o1 := Hh d1.one
    clear d1
    clear b4)
 | ((with_reducible refine Ye 5 ?_); refine Xr T4.out 32 _ rfl rfl z_fi ?_; intro w5 g1 t5
    have T5 := Hh (t5)
    clear t5)
 | ((with_reducible refine Ye 6 ?_); refine Xr T5.out 26 _ rfl rfl z_F ?_; intro w6 g2 t6
    have T6 := Hh (t6)
    clear t6)
 | ((with_reducible refine Zq 5 23 ?_); refine Zf 32 _ _ 32 g1 _ (v1) (T6.out.get 1 rfl) l1.out (by rw [l1.out]; exact Wp) o1.out rfl rfl rfl rfl rfl ?_
    intro w7 p7
    have T7 := Hh (T6.out.put 1 rfl p7)
    clear p7)
 | ((with_reducible refine Zq 6 24 ?_); refine Zf 26 _ _ 26 g2 _ ([.int .i64 F0, .int .i64 (F1 : Int), .int .i64 (F2 : Int)]) (T7.out.get 2 rfl) rfl Xl (by simp [Value.oneCell']) rfl rfl rfl rfl rfl ?_
    intro w8 p8
    have T8 : Hid (Env w [(g0, 26, [.int .i64 0, .int .i64 0, .int .i64 0]), (g1, 32, v1), (g2, 26, [.int .i64 F0, .int .i64 (F1 : Int), .int .i64 (F2 : Int)])] [] [(.row L.length (toksDs L) .nil, [.slice A0 L.length k0]), (x.ds, v1)] w8) := Hh (T7.out.put 2 rfl p8)
    obtain ⟨p0, p1, p2, _⟩ := Yj (T8.out.get 0 rfl)
    have R1 := Hh (toks_reads (T8.out.leaf 0 rfl))
    clear p8))
     go_loop [7, 8] (fun t i => ∃ k : Nat, i = .int .i64 (k : Int) ∧ k ≤ L.length ∧ t = .string (strOfNums (wcL (L.take k)))) (fun _ i => L.length - (intOf i).toNat)
     case atStart => exact ⟨0, rfl, by omega, rfl⟩
     case round =>
       obtain ⟨k, rfl, hk, rfl⟩ := hrel
       by_cases hkl : k < L.length
       · obtain ⟨x, rfl, hx, a0, a1, a2, a3, a4⟩ := R1.out.tok hkl
         have hnx := wc_next L k hkl
         have hws := wc_size L k
         have lk : (k : Int) < (L.length : Int) := by omega
         have lk0 : (0 : Int) ≤ (k : Int) := by omega
         have hkn : ((k : Int)).toNat = k := by omega
         have h40 := H40.out
         have htz : (L[k]'hkl).t.size ≤ 40000 := by
           have h1 := wc_size L (k + 1)
           rw [hnx] at h1
           split at h1
           · simp only [ByteArray.size_append] at h1; omega
           · simp only [ByteArray.size_append] at h1; omega
         have hTz : (strOfNums (wcL (L.take k))).size ≤ 40000 := by omega
         generalize L[k] = t at *
         generalize strOfNums (wcL (L.take k)) = T at *
         have HKL := Hh hkl
         clear hkl hws h40
         by_cases h3' : t.k = 3
         · have q3 : (t.k == 3) = true := by rw [h3']; rfl
           rw [if_pos h3'] at hnx
           have HNX := Hh hnx
           clear hnx h3'
           go_wp2
           go_round
           case rel => exact ⟨k + 1, by go_num, by have := HKL.out; omega, by rw [HNX.out]⟩
           case measure => have := HKL.out; simp [intOf]; omega
         · have q3 : (t.k == 3) = false := by rw [beq_eq_false_iff_ne]; exact h3'
           rw [if_neg h3'] at hnx
           have HNX := Hh hnx
           clear hnx h3'
           go_wp2
           go_round
           case rel => exact ⟨k + 1, by go_num, by have := HKL.out; omega, by rw [HNX.out]⟩
           case measure => have := HKL.out; simp [intOf]; omega
       · have hkL : k = L.length := by omega
         subst hkL
         rw [HWL.out]
         go_wp2_with (first
 | (go_at_call 6; refine (hq _).mono ?_; rintro e w9 ⟨v2, rfl, d2, b9⟩
    have T9 := Hh (T8.out.tree b9 d2)
    have l2 := Hh (d2.len.trans (show y.ds.len = 2 from rfl))
    have o2 := Hh d2.one
    clear d2
    clear b9)
 | ((with_reducible refine Ye 9 ?_); refine Xr T9.out 32 _ rfl rfl z_fi ?_; intro w10 g3 t10
    have T10 := Hh (t10)
    clear t10)
 | ((with_reducible refine Ye 10 ?_); refine Xr T10.out 26 _ rfl rfl z_F ?_; intro w11 g4 t11
    have T11 := Hh (t11)
    clear t11)
 | ((with_reducible refine Zq 9 79 ?_); refine Zf 32 _ _ 32 g3 _ (v2) (T11.out.get 3 rfl) l2.out (by rw [l2.out]; exact Wp) o2.out rfl rfl rfl rfl rfl ?_
    intro w12 p12
    have T12 := Hh (T11.out.put 3 rfl p12)
    clear p12)
 | ((with_reducible refine Zq 10 80 ?_); refine Zf 26 _ _ 26 g4 _ ([.int .i64 F0, .int .i64 (G1 : Int), .int .i64 (G2 : Int)]) (T12.out.get 4 rfl) rfl Xl (by simp [Value.oneCell']) rfl rfl rfl rfl rfl ?_
    intro w13 p13
    have T13 := Hh (T12.out.put 4 rfl p13)
    clear p13)
 | ((with_reducible refine Ye 81 ?_); refine Zi 32 _ 32 g1 _ (T13.out.get 1 rfl) row_fi (by rw [l1.out]; exact Wp) rfl rfl rfl ?_)
 | ((with_reducible refine Ye 82 ?_); refine Zi 32 _ 32 g3 _ (T13.out.get 3 rfl) row_fi (by rw [l2.out]; exact Wp) rfl rfl rfl ?_)
 | (go_at_call 7; refine (h3 _ v1 v2 (T13.out.leaf 1 rfl) (T13.out.leaf 2 rfl)).mono ?_; rintro e w14 ⟨rfl, b14⟩
    have T14 := Hh (T13.out.call b14)
    obtain ⟨p0, p1, p2, _⟩ := Yj (T14.out.get 2 rfl)
    obtain ⟨q0, q1, q2, _⟩ := Yj (T14.out.get 4 rfl)
    clear b14)
 | (go_at_call 4; refine (lives_any _).mono ?_; rintro e w15 ⟨rfl, b15⟩
    have T15 : Hid (Env w [(g0, 26, [.int .i64 0, .int .i64 0, .int .i64 0]), (g1, 32, v1), (g2, 26, [.int .i64 F0, .int .i64 (F1 : Int), .int .i64 (F2 : Int)]), (g3, 32, v2), (g4, 26, [.int .i64 F0, .int .i64 (G1 : Int), .int .i64 (G2 : Int)])] [] [(.row L.length (toksDs L) .nil, [.slice A0 L.length k0]), (x.ds, v1), (y.ds, v2)] w15) := Hh (T14.out.call b15)
    clear b15))
         go_ret
         exact ⟨rfl, T15.out.below⟩
end Go.Proofs.Ytgfkimknnbpmnaa
