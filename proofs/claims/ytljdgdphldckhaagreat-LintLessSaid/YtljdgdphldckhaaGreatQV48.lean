/-
  No conditions but those that each theorem names.
-/
import Derived.Test.YtljdgdphldckhaaGreatQV47
set_option maxRecDepth 20000
set_option maxHeartbeats 12800000
namespace Go.Proofs.YtljdgdphldckhaaGreat
open Go Go.RowKit
set_option linter.unusedVariables false
set_option linter.unusedSimpArgs false
theorem walk_LintLess (s : ByteArray) (w : World) (hs : s.size ≤ maxLen) : Calls Tryz.prog 9 #[.string s] w fun e w' => e = .returned (.bool true) ∧ Below w.heap.size w w' := by
  unfold maxLen at hs
  have T := Lib.hid (Env.start w)
  by_cases hle : 8000 < s.size
  · go_enter Tryz.func9, Tryz.ntmps9
    go_wp2_with (go_at_call 31; refine (lives13 _).mono ?_; rintro e wn ⟨rfl, bn⟩; have T := Lib.hid (T.out.call bn); clear bn)
    go_ret
    exact ⟨rfl, T.out.below⟩
  obtain ⟨f, E, F1, F2, hp⟩ : ∃ (f : Fi) (E : Int) (F1 F2 : Nat), parseF 5 s = (f, E, F1, F2) := ⟨_, _, _, _, rfl⟩
  have HL := Lib.hid (less_ok (by omega) hp)
  obtain ⟨nC, hnC⟩ : ∃ n, n = f.cards.length := ⟨_, rfl⟩
  obtain ⟨nP, hnP⟩ : ∃ n, n = f.places.length := ⟨_, rfl⟩
  have hP1 : ∀ x, Calls Tryz.prog 30 #[.string s] x (fun e w' => ∃ (A B : Option Addr) (ca pb : Nat), e = .returned (.tuple #[.agg ([.slice A nC ca, .slice B nP pb] : List Value).toArray, .agg ([.int .i64 E, .int .i64 (F1 : Int), .int .i64 (F2 : Int)] : List Value).toArray]) ∧ Deep (fun k => x.heap.size ≤ k) w' f.ds [.slice A nC ca, .slice B nP pb] ∧ Below x.heap.size x w') := fun x => by
    have h := xParse s x (by omega)
    rw [hp] at h
    refine h.mono ?_
    rintro e y ⟨vs, rfl, d, b⟩
    obtain ⟨A, ca, xs, _, rfl, n1, w1, d1, B, pb, ys, _, rfl, n2, w2, d2, rfl⟩ := id d
    rw [← hnC, ← hnP] at d ⊢
    exact ⟨A, B, ca, pb, rfl, d, b⟩
  have hnc : nC ≤ 100000 := by rw [hnC]; exact HL.out.nc
  have hnp : nP ≤ 100000 := by rw [hnP]; exact HL.out.np
  have HN := Lib.hid (And.intro hnC hnP)
  have hcl := Lib.hid (fun x N vs h => lCheck_any f (by have := HL.out.nc; omega) (by have := HL.out.np; omega) x N vs h)
  clear hp hnC hnP
  obtain ⟨K, K1, K2, hK⟩ : ∃ (a b c : Int), lCheck f = (a, b, c) := ⟨_, _, _, rfl⟩
  rw [hK] at hcl
  simp only [faV] at hcl
  have hli := fun x => lives13 x
  have hfd : ∀ (a b c : Int) (w : World), (Instr.field 29 (.agg #[.int .i64 a, .int .i64 b, .int .i64 c]) 0).run Tryz.prog w = .ok (.int .i64 a) w := fun a b c w => by kernel_rfl
  by_cases hE : E = 0
  rotate_left
  · have hE1 : (E == 0) = false := by simp [hE]
    go_enter Tryz.func9, Tryz.ntmps9
    go_wp2_with (first
        | (go_at_call 30; (with_reducible refine (hP1 _).mono ?_); rintro e wn ⟨A, B, ca, pb, rfl, d, bn⟩; have T := Lib.hid (T.out.tree bn d); clear bn d)
        | ((with_reducible refine at_ld 3 ?_); refine wpList_allocE T.out 26 ([.slice none 0 0, .slice none 0 0]) rfl rfl lz_fi2 ?_; intro wn g3 tn; have T := Lib.hid tn; clear tn)
        | ((with_reducible refine at_ld 4 ?_); refine wpList_allocE T.out 29 ([.int .i64 0, .int .i64 0, .int .i64 0]) rfl rfl lz_fa2 ?_; intro wn g4 tn; have T := Lib.hid tn; clear tn)
        | ((with_reducible refine at_st 3 20 ?_); refine wpList_storeW 26 _ _ 26 g3 _ ([.slice A nC ca, .slice B nP pb]) (T.out.get 0 rfl) rfl lsz_fi (by simp [Value.oneCell']) rfl rfl rfl rfl rfl ?_; intro wn p; have T := Lib.hid (T.out.put 0 rfl p); clear p)
        | ((with_reducible refine at_st 4 21 ?_); refine wpList_storeW 29 _ _ 29 g4 _ ([.int .i64 E, .int .i64 (F1 : Int), .int .i64 (F2 : Int)]) (T.out.get 1 rfl) rfl lsz_fa (by simp [Value.oneCell']) rfl rfl rfl rfl rfl ?_; intro wn p; have T := Lib.hid (T.out.put 1 rfl p); clear p; have c0_0 := T.out.cell 0 0 rfl rfl; have c0_1 := T.out.cell 0 1 rfl rfl; have c1_0 := T.out.cell 1 0 rfl rfl)
        | (go_at_call 31; refine (hli _).mono ?_; rintro e wn ⟨rfl, bn⟩; have T := Lib.hid (T.out.call bn); clear bn)
        | (go_at_call 32; (with_reducible refine (hcl.out _ _ _ (T.out.leaf 0 rfl)).mono ?_); rintro e wn ⟨rfl, bn⟩; have T := Lib.hid (T.out.call bn); clear bn))
    go_ret
    exact ⟨rfl, T.out.below⟩
  subst hE
  by_cases hE : K = 0
  rotate_left
  · have hE1 : (K == 0) = false := by simp [hE]
    go_enter Tryz.func9, Tryz.ntmps9
    go_wp2_with (first
        | (go_at_call 30; (with_reducible refine (hP1 _).mono ?_); rintro e wn ⟨A, B, ca, pb, rfl, d, bn⟩; have T := Lib.hid (T.out.tree bn d); clear bn d)
        | ((with_reducible refine at_ld 3 ?_); refine wpList_allocE T.out 26 ([.slice none 0 0, .slice none 0 0]) rfl rfl lz_fi2 ?_; intro wn g3 tn; have T := Lib.hid tn; clear tn)
        | ((with_reducible refine at_ld 4 ?_); refine wpList_allocE T.out 29 ([.int .i64 0, .int .i64 0, .int .i64 0]) rfl rfl lz_fa2 ?_; intro wn g4 tn; have T := Lib.hid tn; clear tn)
        | ((with_reducible refine at_st 3 20 ?_); refine wpList_storeW 26 _ _ 26 g3 _ ([.slice A nC ca, .slice B nP pb]) (T.out.get 0 rfl) rfl lsz_fi (by simp [Value.oneCell']) rfl rfl rfl rfl rfl ?_; intro wn p; have T := Lib.hid (T.out.put 0 rfl p); clear p)
        | ((with_reducible refine at_st 4 21 ?_); refine wpList_storeW 29 _ _ 29 g4 _ ([.int .i64 0, .int .i64 (F1 : Int), .int .i64 (F2 : Int)]) (T.out.get 1 rfl) rfl lsz_fa (by simp [Value.oneCell']) rfl rfl rfl rfl rfl ?_; intro wn p; have T := Lib.hid (T.out.put 1 rfl p); clear p; have c0_0 := T.out.cell 0 0 rfl rfl; have c0_1 := T.out.cell 0 1 rfl rfl; have c1_0 := T.out.cell 1 0 rfl rfl)
        | (go_at_call 31; refine (hli _).mono ?_; rintro e wn ⟨rfl, bn⟩; have T := Lib.hid (T.out.call bn); clear bn)
        | (go_at_call 32; (with_reducible refine (hcl.out _ _ _ (T.out.leaf 0 rfl)).mono ?_); rintro e wn ⟨rfl, bn⟩; have T := Lib.hid (T.out.call bn); clear bn))
    go_ret
    exact ⟨rfl, T.out.below⟩
  subst hE
  go_enter Tryz.func9, Tryz.ntmps9
  go_wp2_with (first
        | (go_at_call 30; (with_reducible refine (hP1 _).mono ?_); rintro e wn ⟨A, B, ca, pb, rfl, d, bn⟩; have T := Lib.hid (T.out.tree bn d); clear bn d)
        | ((with_reducible refine at_ld 3 ?_); refine wpList_allocE T.out 26 ([.slice none 0 0, .slice none 0 0]) rfl rfl lz_fi2 ?_; intro wn g3 tn; have T := Lib.hid tn; clear tn)
        | ((with_reducible refine at_ld 4 ?_); refine wpList_allocE T.out 29 ([.int .i64 0, .int .i64 0, .int .i64 0]) rfl rfl lz_fa2 ?_; intro wn g4 tn; have T := Lib.hid tn; clear tn)
        | ((with_reducible refine at_st 3 20 ?_); refine wpList_storeW 26 _ _ 26 g3 _ ([.slice A nC ca, .slice B nP pb]) (T.out.get 0 rfl) rfl lsz_fi (by simp [Value.oneCell']) rfl rfl rfl rfl rfl ?_; intro wn p; have T := Lib.hid (T.out.put 0 rfl p); clear p)
        | ((with_reducible refine at_st 4 21 ?_); refine wpList_storeW 29 _ _ 29 g4 _ ([.int .i64 0, .int .i64 (F1 : Int), .int .i64 (F2 : Int)]) (T.out.get 1 rfl) rfl lsz_fa (by simp [Value.oneCell']) rfl rfl rfl rfl rfl ?_; intro wn p; have T := Lib.hid (T.out.put 1 rfl p); clear p; have c0_0 := T.out.cell 0 0 rfl rfl; have c0_1 := T.out.cell 0 1 rfl rfl; have c1_0 := T.out.cell 1 0 rfl rfl)
        | (go_at_call 31; refine (hli _).mono ?_; rintro e wn ⟨rfl, bn⟩; have T := Lib.hid (T.out.call bn); clear bn)
        | (go_at_call 32; (with_reducible refine (hcl.out _ _ _ (T.out.leaf 0 rfl)).mono ?_); rintro e wn ⟨rfl, bn⟩; have T := Lib.hid (T.out.call bn); clear bn)
        | ((with_reducible refine at_ld 5 ?_); refine wpList_allocE T.out 26 ([.slice none 0 0, .slice none 0 0]) rfl rfl lz_fi2 ?_; intro wn g5 tn; have T := Lib.hid tn; clear tn)
        | ((with_reducible refine at_st 5 32 ?_); refine wpList_storeW 26 _ _ 26 g5 _ ([.slice none 0 0, .slice none 0 0]) (T.out.get 2 rfl) rfl lsz_fi (by simp [Value.oneCell']) rfl rfl rfl rfl rfl ?_; intro wn p; have T := Lib.hid (T.out.put 2 rfl p); clear p))
  go_loopw [6] (fun i wy => ∃ (m : Nat) (V : Option Addr) (d : Nat) (xs : List Value), i = .int .i64 m ∧ (m = 0 ∨ m < nC) ∧ Env w [(g3, 26, [.slice A nC ca, .slice B nP pb]), (g4, 29, [.int .i64 0, .int .i64 (F1 : Int), .int .i64 (F2 : Int)]), (g5, 26, [.slice V m d, .slice none 0 0])] [⟨.slice V m d, 35, 6, m, xs⟩] [(f.ds, [.slice A nC ca, .slice B nP pb]), (casDs (f.cards.take m), xs)] wy) (fun i _ => nC - (intOf i).toNat)
  case atStart => exact ⟨0, none, 0, [], by go_num, .inl rfl, (T.out.row1 35 6).treesL (fun u hu => by
    rcases List.mem_cons.1 hu with rfl | hu
    · exact (T.out.row1 35 6).deep _ (List.mem_cons_self ..)
    · cases List.mem_singleton.1 hu; exact (rfl : Deep _ _ .nil []))⟩
  case round =>
    obtain ⟨m, V, d, xs, rfl, hm, hT⟩ := hrel
    have T := Lib.hid hT
    clear hT
    by_cases hlt : m + 1 < nC
    · have lk : (m : Int) + 1 < (nC : Int) := by omega
      have hmf : m < f.cards.length := by rw [← HN.out.1]; omega
      obtain ⟨g, ys, rfl, hg, hys, hyd⟩ := fi_card (T.out.deep _ (List.mem_cons_self ..)) hmf
      have hyl : ys.length = 6 := hyd.len
      have hy1 := Lib.hid hyd.one
      have T := Lib.hid (T.out.treesL (us := [(f.ds, [.slice (some ⟨g, 0, none⟩) nC ca, .slice B nP pb]), (casDs (f.cards.take m), xs), ((f.cards[m]'hmf).ds, ys)]) (fun u hu => by
        rcases List.mem_cons.1 hu with rfl | hu
        · exact T.out.deep _ (List.mem_cons_self ..)
        rcases List.mem_cons.1 hu with rfl | hu
        · exact T.out.deep _ (List.mem_cons_of_mem _ (List.mem_cons_self ..))
        · cases List.mem_singleton.1 hu
          exact hyd
))
      have c0_0 := T.out.cell 0 0 rfl rfl
      go_upto_region 10 with (fail)
      have hst : Stab (fun x => Env w [(g3, 26, [.slice (some ⟨g, 0, none⟩) nC ca, .slice B nP pb]), (g4, 29, [.int .i64 0, .int .i64 (F1 : Int), .int .i64 (F2 : Int)]), (g5, 26, [.slice V m d, .slice none 0 0])] [⟨.slice V m d, 35, 6, m, xs⟩] [(f.ds, [.slice (some ⟨g, 0, none⟩) nC ca, .slice B nP pb]), (casDs (f.cards.take m), xs), ((f.cards[m]'hmf).ds, ys)] x ∧ g < x.heap.size ∧ x.rangeAt g (m * 6) ys) := fun x y h e => ⟨Env.call h.1 e, Nat.lt_of_lt_of_le h.2.1 e.size, fun j v hj => (World.cell?_of_block (a := ⟨g, m * 6 + j, none⟩) ((Keeps.of_below (S := fun _ => False) e).block g h.2.1 id)).trans (h.2.2 j v hj)⟩
      refine wp_region_bw (fun i => i == 8 || i == 10) (fun x => Env w [(g3, 26, [.slice (some ⟨g, 0, none⟩) nC ca, .slice B nP pb]), (g4, 29, [.int .i64 0, .int .i64 (F1 : Int), .int .i64 (F2 : Int)]), (g5, 26, [.slice V m d, .slice none 0 0])] [⟨.slice V m d, 35, 6, m, xs⟩] [(f.ds, [.slice (some ⟨g, 0, none⟩) nC ca, .slice B nP pb]), (casDs (f.cards.take m), xs), ((f.cards[m]'hmf).ds, ys)] x ∧ g < x.heap.size ∧ x.rangeAt g (m * 6) ys) (by kernel_rfl) ⟨T.out.drew, hg, hys⟩ ?_
      refine BW.take (i := 0) (v := .pointer (some ⟨g5, 0, none⟩)) rfl rfl (by kernel_rfl) (by kernel_rfl) (by kernel_rfl) (by kernel_rfl) (fun _ _ _ h => h) hst (gives_ok rfl (fun y hy => by go_simp)) ?_
      simp only [List.set_cons_zero, List.set_cons_succ]
      refine BW.take (i := 1) (v := .slice V m d) rfl rfl (by kernel_rfl) (by kernel_rfl) (by kernel_rfl) (by kernel_rfl) (fun _ _ _ h => h) hst (gives_ok rfl (fun y hy => by have c0 := Env.cell hy.1 2 0 rfl rfl; go_simp)) ?_
      simp only [List.set_cons_zero, List.set_cons_succ]
      refine BW.take (i := 2) (v := .pointer (some ⟨g3, 0, none⟩)) rfl rfl (by kernel_rfl) (by kernel_rfl) (by kernel_rfl) (by kernel_rfl) (fun _ _ _ h => h) hst (gives_ok rfl (fun y hy => by go_simp)) ?_
      simp only [List.set_cons_zero, List.set_cons_succ]
      refine BW.take (i := 3) (v := .slice (some ⟨g, 0, none⟩) nC ca) rfl rfl (by kernel_rfl) (by kernel_rfl) (by kernel_rfl) (by kernel_rfl) (fun _ _ _ h => h) hst (gives_ok rfl (fun y hy => by have c0 := Env.cell hy.1 0 0 rfl rfl; go_simp)) ?_
      simp only [List.set_cons_zero, List.set_cons_succ]
      refine BW.take (i := 4) (v := .int .i64 (m : Int)) rfl rfl (by kernel_rfl) (by kernel_rfl) (by kernel_rfl) (by kernel_rfl) (fun _ _ _ h => h) hst (gives_ok rfl (fun y hy => by go_simp)) ?_
      simp only [List.set_cons_zero, List.set_cons_succ]
      refine BW.take (i := 5) (v := .pointer (some ⟨g, m * 6, none⟩)) rfl rfl (by kernel_rfl) (by kernel_rfl) (by kernel_rfl) (by kernel_rfl) (fun _ _ _ h => h) hst (gives_index (by kernel_rfl) rfl rfl rfl (by omega) lund_cas lsz_ca) ?_
      simp only [List.set_cons_zero, List.set_cons_succ]
      refine BW.take (i := 6) (v := .agg ys.toArray) rfl rfl (by kernel_rfl) (by kernel_rfl) (by kernel_rfl) (by kernel_rfl) (fun _ _ _ h => h) hst (gives_loadG (ys := ys) (by kernel_rfl) rfl rfl (fun y hy => hy.2.2) lrow_ca (by rw [hyl]; exact lsz_ca)) ?_
      simp only [List.set_cons_zero, List.set_cons_succ]
      refine BW.build (i := 7) 35 ys rfl rfl rfl (by kernel_rfl) hst (fun y hy => by
        clear hy hst
        obtain ⟨_, rfl, _, rfl, _, rfl, _, rfl, _, rfl, R, cR, _, _, rfl, _, _, _, rfl⟩ := id hyd
        kernel_rfl) (fun gb => ?_)
      simp only [List.set_cons_zero, List.set_cons_succ]
      refine BW.push (.tmp 42) (.tmp 48) 23 35 6 72 _ lund_cas linfo_ca rfl (by decide) (by decide) (.slice V m d) m xs ys gb (i := 8) rfl rfl rfl (by kernel_rfl) rfl (fun y hy => ⟨hy.1.1, hy.2⟩) hyl hy1.out (by omega) rfl rfl rfl (fun gq cq => ?_)
      simp only [List.set_cons_zero, List.set_cons_succ]
      refine BW.take (i := 9) (v := .pointer (some ⟨g5, 0, none⟩)) rfl rfl (by kernel_rfl) (by kernel_rfl) (by kernel_rfl) (by kernel_rfl) (fun _ _ _ h => h) (fun x y h e => Env.call h e) (gives_ok rfl (fun y hy => by go_simp)) ?_
      simp only [List.set_cons_zero, List.set_cons_succ]
      refine BW.store 23 (.tmp 50) (.tmp 49) 2 g5 0 26 [] [.slice none 0 0] (.slice V m d) (.slice (some ⟨gq, 0, none⟩) (m + 1) cq) (i := 10) rfl rfl rfl (by kernel_rfl) rfl (fun y hy => hy) rfl rfl lsize_cas rfl rfl rfl rfl ?_
      refine BW.done (by kernel_rfl) (fun wn hS => ?_)
      have T := Lib.hid hS
      clear hS
      go_wp2
      go_roundw
      case rel => exact ⟨m + 1, some ⟨gq, 0, none⟩, cq, xs ++ ys, by go_num, .inr hlt, T.out.treesL (fun u hu => by
        rcases List.mem_cons.1 hu with rfl | hu
        · exact T.out.deep _ (List.mem_cons_self ..)
        · cases List.mem_singleton.1 hu
          rw [casDs_take hmf]
          exact Deep.app (T.out.deep _ (List.mem_cons_of_mem _ (List.mem_cons_of_mem _ (List.mem_cons_self ..)))) (T.out.deep _ (List.mem_cons_of_mem _ (List.mem_cons_self ..)))
)⟩
      case measure => simp [intOf]; omega
    · have lk : ¬ (m : Int) + 1 < (nC : Int) := by omega
      have hmem := Lib.hid (show f.cards.take m = f.cards.dropLast by rw [List.dropLast_eq_take]; congr 1; rw [← HN.out.1]; omega)
      have hmlm := Lib.hid (show m = (f.cards.take m).length by rw [List.length_take, ← HN.out.1]; omega)
      have c0_0 := T.out.cell 0 0 rfl rfl
      have T := Lib.hid ((T.out.rowD (T.out.deep _ (List.mem_cons_of_mem _ (List.mem_cons_self ..)))).treesL (us := [(f.ds, [.slice A nC ca, .slice B nP pb]), (.row m (casDs (f.cards.take m)) .nil, [.slice V m d])]) (fun u hu => by
        have X := T.out.rowD (T.out.deep _ (List.mem_cons_of_mem _ (List.mem_cons_self ..)))
        rcases List.mem_cons.1 hu with rfl | hu
        · exact X.deep _ (List.mem_cons_self ..)
        · cases List.mem_singleton.1 hu
          exact X.deep _ (List.mem_cons_of_mem _ (List.mem_cons_of_mem _ (List.mem_cons_self ..)))))
      go_wp2
      have hmm : m ≤ 100000 := by omega
      clear lk hlt hm c0_0
      go_loopw [7] (fun i wy => ∃ (q : Nat) (U : Option Addr) (e : Nat) (zs : List Value), i = .int .i64 q ∧ (q = 0 ∨ q < nP) ∧ Env w [(g3, 26, [.slice A nC ca, .slice B nP pb]), (g4, 29, [.int .i64 0, .int .i64 (F1 : Int), .int .i64 (F2 : Int)]), (g5, 26, [.slice V m d, .slice U q e])] [⟨.slice U q e, 38, 4, q, zs⟩] [(f.ds, [.slice A nC ca, .slice B nP pb]), (.row m (casDs (f.cards.take m)) .nil, [.slice V m d]), (plsDs (f.places.take q), zs)] wy) (fun i _ => nP - (intOf i).toNat)
      case atStart => exact ⟨0, none, 0, [], by go_num, .inl rfl, (T.out.row1 38 4).treesL (fun u hu => by
        rcases List.mem_cons.1 hu with rfl | hu
        · exact (T.out.row1 38 4).deep _ (List.mem_cons_self ..)
        rcases List.mem_cons.1 hu with rfl | hu
        · exact (T.out.row1 38 4).deep _ (List.mem_cons_of_mem _ (List.mem_cons_self ..))
        · cases List.mem_singleton.1 hu; exact (rfl : Deep _ _ .nil []))⟩
      case round =>
        obtain ⟨q, U, e, zs, rfl, hm, hT⟩ := hrel
        have T := Lib.hid hT
        clear hT
        by_cases hlt : q + 1 < nP
        · have lk : (q : Int) + 1 < (nP : Int) := by omega
          have hmf : q < f.places.length := by rw [← HN.out.2]; omega
          obtain ⟨g, ys, rfl, hg, hys, hyd⟩ := fi_place (T.out.deep _ (List.mem_cons_self ..)) hmf
          have hyl : ys.length = 4 := hyd.len
          have hy1 := Lib.hid hyd.one
          have T := Lib.hid (T.out.treesL (us := [(f.ds, [.slice A nC ca, .slice (some ⟨g, 0, none⟩) nP pb]), (.row m (casDs (f.cards.take m)) .nil, [.slice V m d]), (plsDs (f.places.take q), zs), ((f.places[q]'hmf).ds, ys)]) (fun u hu => by
            rcases List.mem_cons.1 hu with rfl | hu
            · exact T.out.deep _ (List.mem_cons_self ..)
            rcases List.mem_cons.1 hu with rfl | hu
            · exact T.out.deep _ (List.mem_cons_of_mem _ (List.mem_cons_self ..))
            rcases List.mem_cons.1 hu with rfl | hu
            · exact T.out.deep _ (List.mem_cons_of_mem _ (List.mem_cons_of_mem _ (List.mem_cons_self ..)))
            · cases List.mem_singleton.1 hu
              exact hyd
      ))
          have c0_0 := T.out.cell 0 1 rfl rfl
          go_upto_region 14 with (fail)
          have hst : Stab (fun x => Env w [(g3, 26, [.slice A nC ca, .slice (some ⟨g, 0, none⟩) nP pb]), (g4, 29, [.int .i64 0, .int .i64 (F1 : Int), .int .i64 (F2 : Int)]), (g5, 26, [.slice V m d, .slice U q e])] [⟨.slice U q e, 38, 4, q, zs⟩] [(f.ds, [.slice A nC ca, .slice (some ⟨g, 0, none⟩) nP pb]), (.row m (casDs (f.cards.take m)) .nil, [.slice V m d]), (plsDs (f.places.take q), zs), ((f.places[q]'hmf).ds, ys)] x ∧ g < x.heap.size ∧ x.rangeAt g (q * 4) ys) := fun x y h e => ⟨Env.call h.1 e, Nat.lt_of_lt_of_le h.2.1 e.size, fun j v hj => (World.cell?_of_block (a := ⟨g, q * 4 + j, none⟩) ((Keeps.of_below (S := fun _ => False) e).block g h.2.1 id)).trans (h.2.2 j v hj)⟩
          refine wp_region_bw (fun i => i == 8 || i == 10) (fun x => Env w [(g3, 26, [.slice A nC ca, .slice (some ⟨g, 0, none⟩) nP pb]), (g4, 29, [.int .i64 0, .int .i64 (F1 : Int), .int .i64 (F2 : Int)]), (g5, 26, [.slice V m d, .slice U q e])] [⟨.slice U q e, 38, 4, q, zs⟩] [(f.ds, [.slice A nC ca, .slice (some ⟨g, 0, none⟩) nP pb]), (.row m (casDs (f.cards.take m)) .nil, [.slice V m d]), (plsDs (f.places.take q), zs), ((f.places[q]'hmf).ds, ys)] x ∧ g < x.heap.size ∧ x.rangeAt g (q * 4) ys) (by kernel_rfl) ⟨T.out.drew, hg, hys⟩ ?_
          refine BW.take (i := 0) (v := .pointer (some ⟨g5, 1, none⟩)) rfl rfl (by kernel_rfl) (by kernel_rfl) (by kernel_rfl) (by kernel_rfl) (fun _ _ _ h => h) hst (gives_ok rfl (fun y hy => by go_simp)) ?_
          simp only [List.set_cons_zero, List.set_cons_succ]
          refine BW.take (i := 1) (v := .slice U q e) rfl rfl (by kernel_rfl) (by kernel_rfl) (by kernel_rfl) (by kernel_rfl) (fun _ _ _ h => h) hst (gives_ok rfl (fun y hy => by have c0 := Env.cell hy.1 2 1 rfl rfl; go_simp)) ?_
          simp only [List.set_cons_zero, List.set_cons_succ]
          refine BW.take (i := 2) (v := .pointer (some ⟨g3, 1, none⟩)) rfl rfl (by kernel_rfl) (by kernel_rfl) (by kernel_rfl) (by kernel_rfl) (fun _ _ _ h => h) hst (gives_ok rfl (fun y hy => by go_simp)) ?_
          simp only [List.set_cons_zero, List.set_cons_succ]
          refine BW.take (i := 3) (v := .slice (some ⟨g, 0, none⟩) nP pb) rfl rfl (by kernel_rfl) (by kernel_rfl) (by kernel_rfl) (by kernel_rfl) (fun _ _ _ h => h) hst (gives_ok rfl (fun y hy => by have c0 := Env.cell hy.1 0 1 rfl rfl; go_simp)) ?_
          simp only [List.set_cons_zero, List.set_cons_succ]
          refine BW.take (i := 4) (v := .int .i64 (q : Int)) rfl rfl (by kernel_rfl) (by kernel_rfl) (by kernel_rfl) (by kernel_rfl) (fun _ _ _ h => h) hst (gives_ok rfl (fun y hy => by go_simp)) ?_
          simp only [List.set_cons_zero, List.set_cons_succ]
          refine BW.take (i := 5) (v := .pointer (some ⟨g, q * 4, none⟩)) rfl rfl (by kernel_rfl) (by kernel_rfl) (by kernel_rfl) (by kernel_rfl) (fun _ _ _ h => h) hst (gives_index (by kernel_rfl) rfl rfl rfl (by omega) lund_pls lsz_pl) ?_
          simp only [List.set_cons_zero, List.set_cons_succ]
          refine BW.take (i := 6) (v := .agg ys.toArray) rfl rfl (by kernel_rfl) (by kernel_rfl) (by kernel_rfl) (by kernel_rfl) (fun _ _ _ h => h) hst (gives_loadG (ys := ys) (by kernel_rfl) rfl rfl (fun y hy => hy.2.2) lrow_pl (by rw [hyl]; exact lsz_pl)) ?_
          simp only [List.set_cons_zero, List.set_cons_succ]
          refine BW.build (i := 7) 38 ys rfl rfl rfl (by kernel_rfl) hst (fun y hy => by
            clear hy hst
            obtain ⟨_, rfl, _, rfl, _, rfl, R, cR, _, _, rfl, _, _, _, rfl⟩ := id hyd
            kernel_rfl) (fun gb => ?_)
          simp only [List.set_cons_zero, List.set_cons_succ]
          refine BW.push (.tmp 60) (.tmp 66) 24 38 4 56 _ lund_pls linfo_pl rfl (by decide) (by decide) (.slice U q e) q zs ys gb (i := 8) rfl rfl rfl (by kernel_rfl) rfl (fun y hy => ⟨hy.1.1, hy.2⟩) hyl hy1.out (by omega) rfl rfl rfl (fun gq cq => ?_)
          simp only [List.set_cons_zero, List.set_cons_succ]
          refine BW.take (i := 9) (v := .pointer (some ⟨g5, 1, none⟩)) rfl rfl (by kernel_rfl) (by kernel_rfl) (by kernel_rfl) (by kernel_rfl) (fun _ _ _ h => h) (fun x y h e => Env.call h e) (gives_ok rfl (fun y hy => by go_simp)) ?_
          simp only [List.set_cons_zero, List.set_cons_succ]
          refine BW.store 24 (.tmp 68) (.tmp 67) 2 g5 1 26 [.slice V m d] [] (.slice U q e) (.slice (some ⟨gq, 0, none⟩) (q + 1) cq) (i := 10) rfl rfl rfl (by kernel_rfl) rfl (fun y hy => hy) rfl rfl lsize_pls rfl rfl rfl rfl ?_
          refine BW.done (by kernel_rfl) (fun wn hS => ?_)
          have T := Lib.hid hS
          clear hS
          go_wp2
          go_roundw
          case rel => exact ⟨q + 1, some ⟨gq, 0, none⟩, cq, zs ++ ys, by go_num, .inr hlt, T.out.treesL (fun u hu => by
            rcases List.mem_cons.1 hu with rfl | hu
            · exact T.out.deep _ (List.mem_cons_self ..)
            rcases List.mem_cons.1 hu with rfl | hu
            · exact T.out.deep _ (List.mem_cons_of_mem _ (List.mem_cons_self ..))
            · cases List.mem_singleton.1 hu
              rw [plsDs_take hmf]
              exact Deep.app (T.out.deep _ (List.mem_cons_of_mem _ (List.mem_cons_of_mem _ (List.mem_cons_of_mem _ (List.mem_cons_self ..))))) (T.out.deep _ (List.mem_cons_of_mem _ (List.mem_cons_of_mem _ (List.mem_cons_self ..))))
      )⟩
          case measure => simp [intOf]; omega
        · have lk : ¬ (q : Int) + 1 < (nP : Int) := by omega
          have hmeq := Lib.hid (show f.places.take q = f.places.dropLast by rw [List.dropLast_eq_take]; congr 1; rw [← HN.out.2]; omega)
          have hmlq := Lib.hid (show q = (f.places.take q).length by rw [List.length_take, ← HN.out.2]; omega)
          have c0_0 := T.out.cell 0 1 rfl rfl
          have T := Lib.hid ((T.out.rowD (T.out.deep _ (List.mem_cons_of_mem _ (List.mem_cons_of_mem _ (List.mem_cons_self ..))))).treesL (us := [(f.ds, [.slice A nC ca, .slice B nP pb]), (.row m (casDs (f.cards.take m)) .nil, [.slice V m d]), (.row q (plsDs (f.places.take q)) .nil, [.slice U q e])]) (fun u hu => by
            have X := T.out.rowD (T.out.deep _ (List.mem_cons_of_mem _ (List.mem_cons_of_mem _ (List.mem_cons_self ..))))
            rcases List.mem_cons.1 hu with rfl | hu
            · exact X.deep _ (List.mem_cons_self ..)
            rcases List.mem_cons.1 hu with rfl | hu
            · exact X.deep _ (List.mem_cons_of_mem _ (List.mem_cons_self ..))
            · cases List.mem_singleton.1 hu
              exact X.deep _ (List.mem_cons_of_mem _ (List.mem_cons_of_mem _ (List.mem_cons_of_mem _ (List.mem_cons_self ..))))))
          have hz : (lCheck f).1 = 0 := by rw [hK]
          obtain ⟨b1, b2, hv⟩ : ∃ (b c : Int), lCheck ⟨f.cards.take m, f.places.take q⟩ = (0, b, c) := by
            have h := lCheck_less hz
            rw [hmem.out, hmeq.out]
            exact ⟨_, _, Prod.ext h rfl⟩
          have hcl2 := Lib.hid (show ∀ x, Env w [(g3, 26, [.slice A nC ca, .slice B nP pb]), (g4, 29, [.int .i64 0, .int .i64 (F1 : Int), .int .i64 (F2 : Int)]), (g5, 26, [.slice V m d, .slice U q e])] [] [(f.ds, [.slice A nC ca, .slice B nP pb]), (.row m (casDs (f.cards.take m)) .nil, [.slice V m d]), (.row q (plsDs (f.places.take q)) .nil, [.slice U q e])] x → Calls Tryz.prog 32 #[.agg ([.slice V m d, .slice U q e] : List Value).toArray] x (fun e w' => e = .returned (.agg #[.int .i64 0, .int .i64 b1, .int .i64 b2]) ∧ Below x.heap.size x w') from fun x h => by
            have h2 := lCheck_any ⟨f.cards.take m, f.places.take q⟩ (by have := hmlm.out; dsimp only; rw [← this]; omega) (by have := hmlq.out; dsimp only; rw [← this]; omega) x _ _ (deep_fi hmlm.out hmlq.out (h.leaf 1 rfl) (h.leaf 2 rfl))
            rw [hv] at h2
            exact h2)
          have c2_0 := T.out.cell 2 0 rfl rfl
          have c2_1 := T.out.cell 2 1 rfl rfl
          go_wp2_with (go_at_call 32; (with_reducible refine (hcl2.out _ T.out).mono ?_); rintro e wn ⟨rfl, bn⟩; have T := Lib.hid (T.out.call bn); clear bn)
          clear hcl2 c2_0 c2_1 c0_0 lk hlt hm hv
          have T := Lib.hid (Env.less (bs := [(g3, 26, [.slice A nC ca, .slice B nP pb])]) (cs := [(g4, 29, [.int .i64 0, .int .i64 (F1 : Int), .int .i64 (F2 : Int)]), (g5, 26, [.slice V m d, .slice U q e])]) (ts := [(f.ds, [.slice A nC ca, .slice B nP pb])]) (us := [(.row m (casDs (f.cards.take m)) .nil, [.slice V m d]), (.row q (plsDs (f.places.take q)) .nil, [.slice U q e])]) T.out)
          go_loopw [8] (fun i wy => ∃ (p : Nat), i = .int .i64 p ∧ p ≤ nC ∧ Env w [(g3, 26, [.slice A nC ca, .slice B nP pb])] [] [(f.ds, [.slice A nC ca, .slice B nP pb])] wy) (fun i _ => nC - (intOf i).toNat)
          case atStart => exact ⟨0, by go_num, Nat.zero_le _, T.out⟩
          case round =>
            obtain ⟨p, rfl, hp, hT⟩ := hrel
            have T := Lib.hid hT
            clear hT
            have c0_0 := T.out.cell 0 0 rfl rfl
            by_cases hlt : p < nC
            · have lk : (p : Int) < (nC : Int) := by omega
              have hmf : p < f.cards.length := by rw [← HN.out.1]; exact hlt
              obtain ⟨g, ys, hA, hg, hys, hyd⟩ := fi_card (T.out.deep _ (List.mem_cons_self ..)) hmf
              have hcm : f.cards[p] ∈ f.cards := List.getElem_mem hmf
              obtain ⟨cd, hcd⟩ : ∃ cd, cd = f.cards[p] := ⟨_, rfl⟩
              rw [← hcd] at hyd hcm
              obtain ⟨R, cR, zs, rfl, nR, wR, dR⟩ := ca_cells hyd
              have hd1 := ca_drop nR wR dR
              obtain ⟨n, hn⟩ : ∃ n, n = cd.rules.length := ⟨_, rfl⟩
              rw [← hn] at hd1 nR hyd hys
              obtain ⟨k1, k2, hv1⟩ : ∃ (b c : Int), lCard { cd with rules := cd.rules.dropLast } = (0, b, c) := ⟨_, _, Prod.ext (lCard_drop (lCheck_card hz hcm)) rfl⟩
              obtain ⟨k3, k4, hv2⟩ : ∃ (b c : Int), lCard { cd with rules := cd.rules.map Ru.less } = (0, b, c) := ⟨_, _, Prod.ext (lCard_less (HL.out.z cd hcm) (lCheck_card hz hcm)) rfl⟩
              have hn5 : n ≤ 100000 := by rw [hn]; exact HL.out.nr cd hcm
              have HC := Lib.hid (And.intro hcd hn)
              have HV := Lib.hid (And.intro hv1 hv2)
              have HYS := Lib.hid hys
              have T := Lib.hid (T.out.treesL (us := [(f.ds, [.slice A nC ca, .slice B nP pb]), (({ cd with rules := cd.rules.dropLast } : Ca).ds, [.string cd.name, .int .i64 cd.cost, .int .i64 cd.power, .int .i64 cd.line, .int .i64 cd.col, .slice R (n - 1) cR])]) (fun u hu => by
                rcases List.mem_cons.1 hu with rfl | hu
                · exact T.out.deep _ (List.mem_cons_self ..)
                · cases List.mem_singleton.1 hu; exact hd1))
              have HR := Lib.hid (show 0 < n → ∃ gr, R = some ⟨gr, 0, none⟩ from fun h0 => by
                rcases wR with h | ⟨gr, e, _⟩
                · have := dR.len
                  rw [h] at this
                  have e2 : (rusDs cd.rules).len = 0 := by simpa using this.symm
                  exfalso
                  cases hl : cd.rules with
                  | nil => rw [hl] at hn; simp at hn; omega
                  | cons x l => rw [hl, rusDs, Ds.len_app] at e2; simp [Ru.ds, Ds.len] at e2
                · exact ⟨gr, e⟩)
              clear hd1 hcd hn hv1 hv2 hys hyd wR dR hcm
              obtain ⟨nm, hnm⟩ : ∃ nm, nm = cd.name := ⟨_, rfl⟩
              subst hA
              go_upto_if 88 with (first
                | ((with_reducible refine at_ld 84 ?_); refine Yb 35 _ g (p * 6) [.string cd.name, .int .i64 cd.cost, .int .i64 cd.power, .int .i64 cd.line, .int .i64 cd.col, .slice R n cR] HYS.out lrow_ca lsz_ca rfl rfl rfl ?_)
                | ((with_reducible refine at_ld 9 ?_); refine wpList_allocE T.out 35 ([.string ⟨#[]⟩, .int .i64 0, .int .i64 0, .int .i64 0, .int .i64 0, .slice none 0 0]) rfl rfl lz_ca2 ?_; intro wa g9 tn; have T := Lib.hid tn; clear tn)
                | ((with_reducible refine at_st 9 84 ?_); refine wpList_storeW 35 _ _ 35 g9 _ ([.string cd.name, .int .i64 cd.cost, .int .i64 cd.power, .int .i64 cd.line, .int .i64 cd.col, .slice R n cR]) (T.out.get 1 rfl) rfl lsz_ca (by simp [Value.oneCell']) rfl rfl rfl rfl rfl ?_; intro wd z; have T := Lib.hid (T.out.put 1 rfl z); clear z; have c1_5 := T.out.cell 1 5 rfl rfl))
              go_cut [] from 89 to 96 (fun wx => Env w [(g3, 26, [.slice (some ⟨g, 0, none⟩) nC ca, .slice B nP pb]), (g9, 35, [.string cd.name, .int .i64 cd.cost, .int .i64 cd.power, .int .i64 cd.line, .int .i64 cd.col, .slice R (n - 1) cR])] [] [(f.ds, [.slice (some ⟨g, 0, none⟩) nC ca, .slice B nP pb]), (({ cd with rules := cd.rules.dropLast } : Ca).ds, [.string cd.name, .int .i64 cd.cost, .int .i64 cd.power, .int .i64 cd.line, .int .i64 cd.col, .slice R (n - 1) cR])] wx)
              case first =>
                by_cases h0 : 0 < n
                · obtain ⟨gr, rfl⟩ := HR.out h0
                  have hct := cut_rus gr n cR ((n : Int) - 1) (n - 1) (by omega) (by omega) nR.2 h0
                  have k0 : (0 : Int) < (n : Int) := by omega
                  go_wp2_with ((with_reducible refine at_st 96 95 ?_); refine wpList_store1 33 _ _ 35 g9 5 [.string cd.name, .int .i64 cd.cost, .int .i64 cd.power, .int .i64 cd.line, .int .i64 cd.col] (.slice (some ⟨gr, 0, none⟩) n cR) (.slice (some ⟨gr, 0, none⟩) (n - 1) cR) [] (T.out.get 1 rfl) rfl lsize_rus rfl rfl rfl rfl rfl rfl ?_; intro wd z; have T := Lib.hid (T.out.put 1 rfl z); clear z)
                  go_meet
                  exact T.out
                · obtain rfl : n = 0 := by omega
                  go_wp2_with (fail)
                  go_meet
                  exact T.out
              case rest =>
                have T := Lib.hid hcut
                have hcd1 := Lib.hid (show ∀ x, Env w [(g3, 26, [.slice (some ⟨g, 0, none⟩) nC ca, .slice B nP pb]), (g9, 35, [.string cd.name, .int .i64 cd.cost, .int .i64 cd.power, .int .i64 cd.line, .int .i64 cd.col, .slice R (n - 1) cR])] [] [(f.ds, [.slice (some ⟨g, 0, none⟩) nC ca, .slice B nP pb]), (({ cd with rules := cd.rules.dropLast } : Ca).ds, [.string cd.name, .int .i64 cd.cost, .int .i64 cd.power, .int .i64 cd.line, .int .i64 cd.col, .slice R (n - 1) cR])] x → Calls Tryz.prog 34 #[.agg ([.string cd.name, .int .i64 cd.cost, .int .i64 cd.power, .int .i64 cd.line, .int .i64 cd.col, .slice R (n - 1) cR] : List Value).toArray] x (fun e w' => e = .returned (.agg #[.int .i64 0, .int .i64 k1, .int .i64 k2]) ∧ Below x.heap.size x w') from fun x h => by
                  have h2 := lCard_any _ x _ _ (h.leaf 1 rfl)
                  rw [HV.out.1] at h2
                  exact h2)
                clear hcut
                go_wp2_with (first
                  | ((with_reducible refine at_ld 97 ?_); refine wpList_loadW 35 _ 35 g9 [.string cd.name, .int .i64 cd.cost, .int .i64 cd.power, .int .i64 cd.line, .int .i64 cd.col, .slice R (n - 1) cR] (T.out.get 1 rfl) lrow_ca lsz_ca rfl rfl rfl ?_)
                  | (go_at_call 34; (with_reducible refine (hcd1.out _ T.out).mono ?_); rintro e wn ⟨rfl, bn⟩; have T := Lib.hid (T.out.call bn); clear bn))
                clear hcd1
                have T := Lib.hid (Env.less (bs := [(g3, 26, [.slice (some ⟨g, 0, none⟩) nC ca, .slice B nP pb]), (g9, 35, [.string cd.name, .int .i64 cd.cost, .int .i64 cd.power, .int .i64 cd.line, .int .i64 cd.col, .slice R (n - 1) cR])]) (cs := []) (ts := [(f.ds, [.slice (some ⟨g, 0, none⟩) nC ca, .slice B nP pb])]) (us := [(({ cd with rules := cd.rules.dropLast } : Ca).ds, [.string cd.name, .int .i64 cd.cost, .int .i64 cd.power, .int .i64 cd.line, .int .i64 cd.col, .slice R (n - 1) cR])]) T.out)
                go_loopw [10, 11] (fun r i wy => ∃ (k : Nat) (V2 : Option Addr) (d2 : Nat) (xs : List Value), r = .slice V2 k d2 ∧ i = .int .i64 k ∧ k ≤ n ∧ Env w [(g3, 26, [.slice (some ⟨g, 0, none⟩) nC ca, .slice B nP pb]), (g9, 35, [.string cd.name, .int .i64 cd.cost, .int .i64 cd.power, .int .i64 cd.line, .int .i64 cd.col, .slice R (n - 1) cR])] [⟨.slice V2 k d2, 66, 5, k, xs⟩] [(f.ds, [.slice (some ⟨g, 0, none⟩) nC ca, .slice B nP pb]), (rusDs ((cd.rules.take k).map Ru.less), xs)] wy) (fun _ i _ => n - (intOf i).toNat)
                case atStart => exact ⟨0, none, 0, [], rfl, by go_num, Nat.zero_le _, (T.out.row1 66 5).treesL (fun u hu => by
                  rcases List.mem_cons.1 hu with rfl | hu
                  · exact (T.out.row1 66 5).deep _ (List.mem_cons_self ..)
                  · cases List.mem_singleton.1 hu; exact (rfl : Deep _ _ .nil []))⟩
                case round =>
                  obtain ⟨k, V2, d2, xs, rfl, rfl, hk, hT⟩ := hrel
                  have T := Lib.hid hT
                  clear hT
                  obtain ⟨g', ys, hA2, hg2, hys2, hyd2⟩ := fi_card (T.out.deep _ (List.mem_cons_self ..)) hmf
                  injection hA2 with hA2
                  injection hA2 with hA2
                  subst hA2
                  rw [← HC.out.1] at hyd2
                  obtain ⟨R2, c2, zs2, rfl, nR2, wR2, dR2⟩ := ca_cells hyd2
                  rw [← HC.out.2] at hys2
                  have c0_0 := T.out.cell 0 0 rfl rfl
                  have c0_5 := hys2 5 _ rfl
                  by_cases hlt2 : k < n
                  · have lk2 : (k : Int) < (n : Int) := by omega
                    have hkf : k < cd.rules.length := by rw [← HC.out.2]; exact hlt2
                    obtain ⟨gr, rs, hR2, hgr, hrs, hrd⟩ := ru_at wR2 dR2 hkf
                    subst hR2
                    obtain ⟨rd, hrdE⟩ : ∃ rd, rd = cd.rules[k] := ⟨_, rfl⟩
                    rw [← hrdE] at hrd
                    obtain ⟨Q, cQ, qs, rfl, nQ, wQ, dQ⟩ := ru_cells hrd
                    have hl1 := ru_less nQ wQ dQ
                    obtain ⟨an, han⟩ : ∃ an, an = rd.acts.len := ⟨_, rfl⟩
                    rw [← han] at hl1 nQ hrs
                    have HQ := Lib.hid (show 0 < an → ∃ gq, Q = some ⟨gq, 0, none⟩ from fun h0 => by
                      rcases wQ with h | ⟨gq, e, _⟩
                      · rw [h] at dQ
                        have h2 := dQ.len
                        exfalso
                        cases hl : rd.acts with
                        | nil => rw [hl] at han; rw [han] at h0; exact absurd h0 (by decide)
                        | cons a b c e =>
                          rw [hl, Acs.ds, Ds.len_app, AH.dsr_len] at h2
                          simp at h2
                          omega
                      · exact ⟨gq, e⟩)
                    have hru : rusDs ((cd.rules.take (k + 1)).map Ru.less) = (rusDs ((cd.rules.take k).map Ru.less)).app rd.less.ds := by rw [hrdE]; exact rusLess_take hkf
                    have HU := Lib.hid hru
                    have HRS := Lib.hid hrs
                    have T := Lib.hid (T.out.treesL (us := [(f.ds, [.slice (some ⟨g, 0, none⟩) nC ca, .slice B nP pb]), (rusDs ((cd.rules.take k).map Ru.less), xs), (rd.less.ds, [.int .i64 rd.when_, .int .i64 rd.stratum, .int .i64 rd.line, .int .i64 rd.col, .slice Q (an - 1) cQ])]) (fun u hu => by
                      rcases List.mem_cons.1 hu with rfl | hu
                      · exact T.out.deep _ (List.mem_cons_self ..)
                      rcases List.mem_cons.1 hu with rfl | hu
                      · exact T.out.deep _ (List.mem_cons_of_mem _ (List.mem_cons_self ..))
                      · cases List.mem_singleton.1 hu; exact hl1))
                    clear hl1 hrd hrdE han hru hrs wQ dQ wR2 dR2 hyd2 hys2
                    go_upto_if 124 with (first
                      | ((with_reducible refine at_ld 120 ?_); refine Yb 66 _ gr (k * 5) [.int .i64 rd.when_, .int .i64 rd.stratum, .int .i64 rd.line, .int .i64 rd.col, .slice Q an cQ] HRS.out lrow_ru2 lsz_ru rfl rfl rfl ?_)
                      | ((with_reducible refine at_ld 12 ?_); refine wpList_allocE T.out 66 ([.int .i64 0, .int .i64 0, .int .i64 0, .int .i64 0, .slice none 0 0]) rfl rfl lz_ru2 ?_; intro wa g12 tn; have T := Lib.hid tn; clear tn)
                      | ((with_reducible refine at_st 12 120 ?_); refine wpList_storeW 66 _ _ 66 g12 _ ([.int .i64 rd.when_, .int .i64 rd.stratum, .int .i64 rd.line, .int .i64 rd.col, .slice Q an cQ]) (T.out.get 2 rfl) rfl lsz_ru (by simp [Value.oneCell']) rfl rfl rfl rfl rfl ?_; intro wd z; have T := Lib.hid (T.out.put 2 rfl z); clear z; have c2_4 := T.out.cell 2 4 rfl rfl))
                    go_cut [] from 124 to 132 (fun wx => Env w [(g3, 26, [.slice (some ⟨g, 0, none⟩) nC ca, .slice B nP pb]), (g9, 35, [.string cd.name, .int .i64 cd.cost, .int .i64 cd.power, .int .i64 cd.line, .int .i64 cd.col, .slice R (n - 1) cR]), (g12, 66, [.int .i64 rd.when_, .int .i64 rd.stratum, .int .i64 rd.line, .int .i64 rd.col, .slice Q (an - 1) cQ])] [⟨.slice V2 k d2, 66, 5, k, xs⟩] [(f.ds, [.slice (some ⟨g, 0, none⟩) nC ca, .slice B nP pb]), (rusDs ((cd.rules.take k).map Ru.less), xs), (rd.less.ds, [.int .i64 rd.when_, .int .i64 rd.stratum, .int .i64 rd.line, .int .i64 rd.col, .slice Q (an - 1) cQ])] wx)
                    case first =>
                      by_cases h0 : 0 < an
                      · obtain ⟨gq, rfl⟩ := HQ.out h0
                        have hct := cut_acs gq an cQ ((an : Int) - 1) (an - 1) (by omega) (by omega) nQ.2 h0
                        have k0 : (0 : Int) < (an : Int) := by omega
                        go_wp2_with ((with_reducible refine at_st 132 131 ?_); refine wpList_store1 41 _ _ 66 g12 4 [.int .i64 rd.when_, .int .i64 rd.stratum, .int .i64 rd.line, .int .i64 rd.col] (.slice (some ⟨gq, 0, none⟩) an cQ) (.slice (some ⟨gq, 0, none⟩) (an - 1) cQ) [] (T.out.get 2 rfl) rfl lsize_acs rfl rfl rfl rfl rfl rfl ?_; intro wd z; have T := Lib.hid (T.out.put 2 rfl z); clear z)
                        go_meet
                        exact T.out
                      · obtain rfl : an = 0 := by omega
                        go_wp2_with (fail)
                        go_meet
                        exact T.out
                    case rest =>
                      have T := Lib.hid hcut
                      clear hcut
                      go_wp2_with (first
                        | ((with_reducible refine at_ld 134 ?_); refine wpList_loadW 66 _ 66 g12 [.int .i64 rd.when_, .int .i64 rd.stratum, .int .i64 rd.line, .int .i64 rd.col, .slice Q (an - 1) cQ] (T.out.get 2 rfl) lrow_ru2 lsz_ru rfl rfl rfl ?_)
                        | (at_builtin; refine wpList_pushL (.tmp 133) (.tmp 135) 33 66 5 56 _ lund_rus linfo_ru rfl (by decide) (by decide) w.heap.size (.slice V2 k d2) k xs [.int .i64 rd.when_, .int .i64 rd.stratum, .int .i64 rd.line, .int .i64 rd.col, .slice Q (an - 1) cQ] ((T.out.call (Za _ (.cells ([.int .i64 rd.when_, .int .i64 rd.stratum, .int .i64 rd.line, .int .i64 rd.col, .slice Q (an - 1) cQ] : List Value).toArray 66))).row _ (List.mem_singleton.2 rfl)) _ (Zb.made _ _ _) rfl (by simp [Value.oneCell']) (by omega) (by have := T.out.below.size; simp; omega) rfl rfl rfl rfl ?_; intro v9 w9 o9 gg9 at9; obtain ⟨V9, d9, rfl, _⟩ := own_form o9; have T := Lib.hid ((T.out.call (Za _ (.cells ([.int .i64 rd.when_, .int .i64 rd.stratum, .int .i64 rd.line, .int .i64 rd.col, .slice Q (an - 1) cQ] : List Value).toArray 66))).push o9 gg9 at9); clear o9 gg9 at9))
                      go_roundw
                      case rel => exact ⟨k + 1, V9, d9, _, rfl, by go_num, by omega, (Env.less (bs := [(g3, 26, [.slice (some ⟨g, 0, none⟩) nC ca, .slice B nP pb]), (g9, 35, [.string cd.name, .int .i64 cd.cost, .int .i64 cd.power, .int .i64 cd.line, .int .i64 cd.col, .slice R (n - 1) cR])]) (cs := [(g12, 66, [.int .i64 rd.when_, .int .i64 rd.stratum, .int .i64 rd.line, .int .i64 rd.col, .slice Q (an - 1) cQ])]) (ts := [(f.ds, [.slice (some ⟨g, 0, none⟩) nC ca, .slice B nP pb]), (rusDs ((cd.rules.take k).map Ru.less), xs), (rd.less.ds, [.int .i64 rd.when_, .int .i64 rd.stratum, .int .i64 rd.line, .int .i64 rd.col, .slice Q (an - 1) cQ])]) (us := []) T.out).treesL (fun u hu => by
                        have X := (Env.less (bs := [(g3, 26, [.slice (some ⟨g, 0, none⟩) nC ca, .slice B nP pb]), (g9, 35, [.string cd.name, .int .i64 cd.cost, .int .i64 cd.power, .int .i64 cd.line, .int .i64 cd.col, .slice R (n - 1) cR])]) (cs := [(g12, 66, [.int .i64 rd.when_, .int .i64 rd.stratum, .int .i64 rd.line, .int .i64 rd.col, .slice Q (an - 1) cQ])]) (ts := [(f.ds, [.slice (some ⟨g, 0, none⟩) nC ca, .slice B nP pb]), (rusDs ((cd.rules.take k).map Ru.less), xs), (rd.less.ds, [.int .i64 rd.when_, .int .i64 rd.stratum, .int .i64 rd.line, .int .i64 rd.col, .slice Q (an - 1) cQ])]) (us := []) T.out)
                        rcases List.mem_cons.1 hu with rfl | hu
                        · exact X.deep _ (List.mem_cons_self ..)
                        · cases List.mem_singleton.1 hu
                          rw [HU.out]
                          exact Deep.app (X.deep _ (List.mem_cons_of_mem _ (List.mem_cons_of_mem _ (List.mem_cons_self ..)))) (X.deep _ (List.mem_cons_of_mem _ (List.mem_cons_self ..))))⟩
                      case measure => simp [intOf]; omega
                  · obtain rfl : k = n := by omega
                    clear hyd2 wR2 dR2 hys2
                    have lk2 : ¬ (k : Int) < (k : Int) := by omega
                    have hX : (cd.rules.take k).map Ru.less = cd.rules.map Ru.less := by rw [List.take_of_length_le (by rw [HC.out.2]; exact Nat.le_refl _)]
                    have hXl : k = (cd.rules.map Ru.less).length := by rw [List.length_map]; exact HC.out.2
                    have T := Lib.hid ((T.out.rowD (T.out.deep _ (List.mem_cons_of_mem _ (List.mem_cons_self ..)))).treesL (us := [(f.ds, [.slice (some ⟨g, 0, none⟩) nC ca, .slice B nP pb]), (.row k (rusDs (cd.rules.map Ru.less)) .nil, [.slice V2 k d2])]) (fun u hu => by
                      have X := T.out.rowD (T.out.deep _ (List.mem_cons_of_mem _ (List.mem_cons_self ..)))
                      rw [hX] at X
                      rcases List.mem_cons.1 hu with rfl | hu
                      · exact X.deep _ (List.mem_cons_self ..)
                      · cases List.mem_singleton.1 hu
                        exact X.deep _ (List.mem_cons_of_mem _ (List.mem_cons_of_mem _ (List.mem_cons_self ..)))))
                    have hcd2 := Lib.hid (show ∀ x, Env w [(g3, 26, [.slice (some ⟨g, 0, none⟩) nC ca, .slice B nP pb]), (g9, 35, [.string cd.name, .int .i64 cd.cost, .int .i64 cd.power, .int .i64 cd.line, .int .i64 cd.col, .slice V2 k d2])] [] [(f.ds, [.slice (some ⟨g, 0, none⟩) nC ca, .slice B nP pb]), (.row k (rusDs (cd.rules.map Ru.less)) .nil, [.slice V2 k d2])] x → Calls Tryz.prog 34 #[.agg ([.string cd.name, .int .i64 cd.cost, .int .i64 cd.power, .int .i64 cd.line, .int .i64 cd.col, .slice V2 k d2] : List Value).toArray] x (fun e w' => e = .returned (.agg #[.int .i64 0, .int .i64 k3, .int .i64 k4]) ∧ Below x.heap.size x w') from fun x h => by
                      have h2 := lCard_any _ x _ _ (ca_row cd hXl (h.leaf 1 rfl))
                      rw [HV.out.2] at h2
                      exact h2)
                    clear hX hXl
                    go_wp2_with (first
                      | ((with_reducible refine at_st 138 137 ?_); refine wpList_store1 33 _ _ 35 g9 5 [.string cd.name, .int .i64 cd.cost, .int .i64 cd.power, .int .i64 cd.line, .int .i64 cd.col] (.slice R (k - 1) cR) (.slice V2 k d2) [] (T.out.get 1 rfl) rfl lsize_rus rfl rfl rfl rfl rfl rfl ?_; intro wd z; have T := Lib.hid (T.out.put 1 rfl z); clear z)
                      | ((with_reducible refine at_ld 139 ?_); refine wpList_loadW 35 _ 35 g9 [.string cd.name, .int .i64 cd.cost, .int .i64 cd.power, .int .i64 cd.line, .int .i64 cd.col, .slice V2 k d2] (T.out.get 1 rfl) lrow_ca lsz_ca rfl rfl rfl ?_)
                      | (go_at_call 34; refine (hcd2.out _ T.out).mono ?_; rintro e wn ⟨rfl, bn⟩; have T := Lib.hid (T.out.call bn); clear bn))
                    go_roundw
                    case rel => exact ⟨p + 1, by go_num, by omega, Env.less (bs := [(g3, 26, [.slice (some ⟨g, 0, none⟩) nC ca, .slice B nP pb])]) (cs := [(g9, 35, [.string cd.name, .int .i64 cd.cost, .int .i64 cd.power, .int .i64 cd.line, .int .i64 cd.col, .slice V2 k d2])]) (ts := [(f.ds, [.slice (some ⟨g, 0, none⟩) nC ca, .slice B nP pb])]) (us := [(.row k (rusDs (cd.rules.map Ru.less)) .nil, [.slice V2 k d2])]) T.out⟩
                    case measure => simp [intOf]; omega
            · have lk : ¬ (p : Int) < (nC : Int) := by omega
              go_wp2_with (go_at_call 31; refine (hli _).mono ?_; rintro e wn ⟨rfl, bn⟩; have T := Lib.hid (T.out.call bn); clear bn)
              go_ret
              exact ⟨rfl, T.out.below⟩
end Go.Proofs.YtljdgdphldckhaaGreat
