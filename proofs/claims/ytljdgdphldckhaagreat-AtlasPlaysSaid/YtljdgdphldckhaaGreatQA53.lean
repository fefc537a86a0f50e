/-
  Texts AtlasPlays. No conditions but those that each theorem names.
-/
import Derived.Test.YtljdgdphldckhaaGreatQA52
set_option maxRecDepth 20000
set_option maxHeartbeats 12800000
namespace Go.Proofs.YtljdgdphldckhaaGreat
open Go.Great Go.ChangeShapes Go.WideShapes Go.ChangeAt Go.RowKit
set_option linter.unusedVariables false
set_option linter.unusedSimpArgs false
theorem walk_AtlasPlays (n : Int) (w : World) (hn : (Lit.int .i64 n).wf = true) : Calls Tryz.prog 10 #[.int .i64 n] w fun e w' => e = .returned (.bool true) ∧ Below w.heap.size w w' := by
 have hl := fun w => aLineP n w
 have hv : aLineV n = if 0 ≤ n ∧ n < 24 then aSL.getD n.toNat ⟨#[]⟩ else ⟨#[]⟩ := rfl
 generalize aLineV n = V at *
 by_cases h0 : n < 0
 · rw [if_neg (by omega)] at hv
   subst hv
   go_enter Tryz.func10, Tryz.ntmps10
   go_wp2_with (first
 | (go_at_call 40; refine (hl _).mono ?_; rintro e w1 ⟨rfl, b1⟩)
 | (go_at_call 42; refine (aLives16 _).mono ?_; rintro e w2 ⟨rfl, b2⟩))
   go_ret
   exact ⟨rfl, Xr b1 b2⟩
 · by_cases h1 : n < 24
   · obtain ⟨k, rfl⟩ : ∃ k : Nat, n = k := ⟨n.toNat, by omega⟩
     have hk : k < 24 := by omega
     rw [if_pos ⟨by omega, h1⟩, Int.toNat_natCast] at hv
     have C0 := Hh ((apcK_ok hk))
     have HN := Hh (fun m (hm : m < 24) (h : m ≠ k) => apname_ne hk hm h)
     rw [← hv] at C0
     generalize apcK k = c at *
     clear hv hn
     have T := Hh (Env.start w)
     have hfd : ∀ w, (Instr.field 29 (.agg #[.int .i64 0, .int .i64 0, .int .i64 0]) 0).run Tryz.prog w = .ok (.int .i64 0) w := fun w => by kernel_rfl
     have hVV : (V.toList != V.toList) = false := by simp
     go_enter Tryz.func10, Tryz.ntmps10
     go_wp2_with (first
 | (go_at_call 40; refine (hl _).mono ?_; rintro e wn ⟨rfl, bn⟩; have T := Hh (T.out.call bn); clear bn)
 | (go_at_call 41; refine (aCountP _).mono ?_; rintro e wn ⟨rfl, bn⟩; have T := Hh (T.out.call bn); clear bn)
 | (go_at_call 30; refine (pParseP C0.out _).mono ?_; rintro e wn ⟨gc, kc, B, kb, rfl, d, bn⟩; have T := Hh (T.out.tree bn d); clear bn d)
 | ((with_reducible refine Ze 4 ?_); refine Zi T.out 26 ([.slice none 0 0, .slice none 0 0]) rfl rfl z_fiQ ?_; intro wn g4 tn; have T := Hh tn; clear tn)
 | ((with_reducible refine Ze 5 ?_); refine Zi T.out 29 ([.int .i64 0, .int .i64 0, .int .i64 0]) rfl rfl z_faQ ?_; intro wn g5 tn; have T := Hh tn; clear tn)
 | ((with_reducible refine Zl 4 27 ?_); refine Zc 26 _ _ 26 g4 _ ([.slice B 0 kb, .slice (some ⟨gc, 0, none⟩) 1 kc]) (T.out.get 0 rfl) rfl qsize_fi (by simp [Value.oneCell']) rfl rfl rfl rfl rfl ?_; intro wn p; have T := Hh (T.out.put 0 rfl p); clear p)
 | ((with_reducible refine Zl 5 28 ?_); refine Zc 29 _ _ 29 g5 _ ([.int .i64 0, .int .i64 0, .int .i64 0]) (T.out.get 1 rfl) rfl s_faQ (by simp [Value.oneCell']) rfl rfl rfl rfl rfl ?_; intro wn p; have T := Hh (T.out.put 1 rfl p); clear p; have c0_0 : wn.cell? ⟨g4, 0, none⟩ = some (.slice B 0 kb) := (T.out.get 0 rfl).read 0; have c0_1 : wn.cell? ⟨g4, 1, none⟩ = some (.slice (some ⟨gc, 0, none⟩) 1 kc) := (T.out.get 0 rfl).read 1; have c1_0 : wn.cell? ⟨g5, 0, none⟩ = some (.int .i64 0) := (T.out.get 1 rfl).read 0)
 | ((with_reducible refine Ze 45 ?_); refine Zd 26 _ 26 g4 ([.slice B 0 kb, .slice (some ⟨gc, 0, none⟩) 1 kc]) (T.out.get 0 rfl) qrow_fi qsize_fi rfl rfl rfl ?_)
 | (go_at_call 32; refine (pLintP C0.out _ _ _ (T.out.leaf 0 rfl)).mono ?_; rintro e wn ⟨rfl, bn⟩; have T := Hh (T.out.call bn); clear bn; have c0_0 : wn.cell? ⟨g4, 0, none⟩ = some (.slice B 0 kb) := (T.out.get 0 rfl).read 0; have c0_1 : wn.cell? ⟨g4, 1, none⟩ = some (.slice (some ⟨gc, 0, none⟩) 1 kc) := (T.out.get 0 rfl).read 1; have c1_0 : wn.cell? ⟨g5, 0, none⟩ = some (.int .i64 0) := (T.out.get 1 rfl).read 0; obtain ⟨v5, y0, y1, y2, y3, hyd⟩ := one_place4 (T.out.leaf 0 rfl); have HYD := Hh hyd; clear hyd)
 | (go_at_call 15; refine (pTextP C0.out _ _ _ HYD.out).mono ?_; rintro e wn ⟨rfl, bn⟩; have T := Hh (T.out.call bn); clear bn)
 | (go_at_call 43; refine (aLinesP _).mono ?_; rintro e wn ⟨g6, rfl, hg, hw, bn⟩; have T := Hh (T.out.got bn hg hw); clear bn hg hw))
     go_loopw [7] (fun i wr => ∃ m : Nat, i = .int .i64 m ∧ m ≤ 24 ∧ Env w [(g4, 26, [.slice B 0 kb, .slice (some ⟨gc, 0, none⟩) 1 kc]), (g5, 29, [.int .i64 0, .int .i64 0, .int .i64 0]), (g6, 9, aSL.map Value.string)] [] [((⟨[], [c]⟩ : Fi).ds, [.slice B 0 kb, .slice (some ⟨gc, 0, none⟩) 1 kc])] wr) (fun i _ => 24 - (intOf i).toNat)
     case atStart => exact ⟨0, by go_num, by omega, T.out⟩
     case round =>
       obtain ⟨m, rfl, hm, hT⟩ := hrel
       have T := Hh hT
       clear hT
       by_cases hlt : m < 24
       · have hc6 : wr.cell? ⟨g6, m, none⟩ = some (.string (aSL.getD m ⟨#[]⟩)) := aStrs24.at_ (T.out.get 2 rfl) hlt
         have C1 := Hh (apcK_ok hlt)
         have HM := Hh (HN.out m hlt)
         generalize apcK m = d at *
         generalize aSL.getD m ⟨#[]⟩ = U at *
         have lk : (m : Int) < 24 := by omega
         by_cases hmk : m = k
         · subst hmk
           go_upto_region 12 with (first
 | (go_at_call 30; refine (pParseP C1.out _).mono ?_; rintro e wn ⟨gd, kd, D, kd2, rfl, q, bn⟩; have T := Hh (T.out.tree bn q); clear bn q)
 | ((with_reducible refine Ze 8 ?_); refine Zi T.out 26 ([.slice none 0 0, .slice none 0 0]) rfl rfl z_fiQ ?_; intro wn g8 tn; have T := Hh tn; clear tn)
 | ((with_reducible refine Ze 9 ?_); refine Zi T.out 29 ([.int .i64 0, .int .i64 0, .int .i64 0]) rfl rfl z_faQ ?_; intro wn g9 tn; have T := Hh tn; clear tn)
 | ((with_reducible refine Zl 8 72 ?_); refine Zc 26 _ _ 26 g8 _ ([.slice D 0 kd2, .slice (some ⟨gd, 0, none⟩) 1 kd]) (T.out.get 3 rfl) rfl qsize_fi (by simp [Value.oneCell']) rfl rfl rfl rfl rfl ?_; intro wn p; have T := Hh (T.out.put 3 rfl p); clear p)
 | ((with_reducible refine Zl 9 73 ?_); refine Zc 29 _ _ 29 g9 _ ([.int .i64 0, .int .i64 0, .int .i64 0]) (T.out.get 4 rfl) rfl s_faQ (by simp [Value.oneCell']) rfl rfl rfl rfl rfl ?_; intro wn p; have T := Hh (T.out.put 4 rfl p); clear p; have c3_1 : wn.cell? ⟨g8, 1, none⟩ = some (.slice (some ⟨gd, 0, none⟩) 1 kd) := (T.out.get 3 rfl).read 1; have c0_1 : wn.cell? ⟨g4, 1, none⟩ = some (.slice (some ⟨gc, 0, none⟩) 1 kc) := (T.out.get 0 rfl).read 1))
           refine wp_region_quiet_lit (by kernel_rfl) (by kernel_rfl) ?_
           iterate 22 (first | go_big_quiet_step (fail) | quiet_step (fail))
           refine wpQuiet_nil ?_
           intro _ hw'
           obtain ⟨nq, hw''⟩ := hw'
           subst hw''
           go_wp2
           go_roundw
           case rel => first | exact ⟨m + 1, by go_num, by omega, (T.out.drewN _).less (bs := [_, _, _]) (cs := [_, _]) (ts := [_]) (us := [_])⟩ | ((repeat apply Exists.intro); exact ⟨⟨m + 1, by go_num, by omega, (T.out.drewN _).less (bs := [_, _, _]) (cs := [_, _]) (ts := [_]) (us := [_])⟩, rfl⟩)
           case measure => simp [intOf]; omega
         · have bk : ((m : Int) != (k : Int)) = true := by simp; omega
           go_upto_region 12 with (first
 | (go_at_call 30; refine (pParseP C1.out _).mono ?_; rintro e wn ⟨gd, kd, D, kd2, rfl, q, bn⟩; have T := Hh (T.out.tree bn q); clear bn q)
 | ((with_reducible refine Ze 8 ?_); refine Zi T.out 26 ([.slice none 0 0, .slice none 0 0]) rfl rfl z_fiQ ?_; intro wn g8 tn; have T := Hh tn; clear tn)
 | ((with_reducible refine Ze 9 ?_); refine Zi T.out 29 ([.int .i64 0, .int .i64 0, .int .i64 0]) rfl rfl z_faQ ?_; intro wn g9 tn; have T := Hh tn; clear tn)
 | ((with_reducible refine Zl 8 72 ?_); refine Zc 26 _ _ 26 g8 _ ([.slice D 0 kd2, .slice (some ⟨gd, 0, none⟩) 1 kd]) (T.out.get 3 rfl) rfl qsize_fi (by simp [Value.oneCell']) rfl rfl rfl rfl rfl ?_; intro wn p; have T := Hh (T.out.put 3 rfl p); clear p)
 | ((with_reducible refine Zl 9 73 ?_); refine Zc 29 _ _ 29 g9 _ ([.int .i64 0, .int .i64 0, .int .i64 0]) (T.out.get 4 rfl) rfl s_faQ (by simp [Value.oneCell']) rfl rfl rfl rfl rfl ?_; intro wn p; have T := Hh (T.out.put 4 rfl p); clear p; have c3_1 : wn.cell? ⟨g8, 1, none⟩ = some (.slice (some ⟨gd, 0, none⟩) 1 kd) := (T.out.get 3 rfl).read 1; have c0_1 : wn.cell? ⟨g4, 1, none⟩ = some (.slice (some ⟨gc, 0, none⟩) 1 kc) := (T.out.get 0 rfl).read 1))
           obtain ⟨_, _, _, _, hc1⟩ := one_placeAt (T.out.leaf 0 rfl)
           obtain ⟨_, _, _, _, hc2⟩ := one_placeAt (T.out.leaf 1 rfl)
           have bn := HM.out hmk
           clear hmk
           refine wp_region_quiet_lit (by kernel_rfl) (by kernel_rfl) ?_
           iterate 22 (first | go_big_quiet_step (fail) | quiet_step (fail))
           refine wpQuiet_nil ?_
           intro _ hw'
           obtain ⟨nq, hw''⟩ := hw'
           subst hw''
           go_wp2
           go_roundw
           case rel => first | exact ⟨m + 1, by go_num, by omega, (T.out.drewN _).less (bs := [_, _, _]) (cs := [_, _]) (ts := [_]) (us := [_])⟩ | ((repeat apply Exists.intro); exact ⟨⟨m + 1, by go_num, by omega, (T.out.drewN _).less (bs := [_, _, _]) (cs := [_, _]) (ts := [_]) (us := [_])⟩, rfl⟩)
           case measure => simp [intOf]; omega
       · have lk : ¬ (m : Int) < 24 := by omega
         go_wp2_with (go_at_call 42; refine (aLives16 _).mono ?_; rintro e wn ⟨rfl, bn⟩; have T := Hh (T.out.call bn); clear bn)
         go_ret
         exact ⟨rfl, T.out.below⟩
   · rw [if_neg (by omega)] at hv
     subst hv
     go_enter Tryz.func10, Tryz.ntmps10
     go_wp2_with (first
 | (go_at_call 40; refine (hl _).mono ?_; rintro e w1 ⟨rfl, b1⟩)
 | (go_at_call 41; refine (aCountP _).mono ?_; rintro e w2 ⟨rfl, b2⟩)
 | (go_at_call 42; refine (aLives16 _).mono ?_; rintro e w3 ⟨rfl, b3⟩))
     go_ret
     exact ⟨rfl, Xr (Xr b1 b2) b3⟩
end Go.Proofs.YtljdgdphldckhaaGreat
