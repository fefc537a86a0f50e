/-
  Texts Lint3. No conditions but those that each theorem names.
-/
import Derived.Test.YtabegjepejgllaaGreatQL32
namespace Go.Proofs.YtabegjepejgllaaGreat
open Go Go.RowKit
set_option linter.unusedVariables false
set_option linter.unusedSimpArgs false
set_option maxRecDepth 20000 in
set_option maxHeartbeats 1600000 in
theorem lSpeaks (s : Se) (kd fi : Int) (w : World) (N : Nat → Prop) (vs : List Value) (h : Zi N w s.ds vs) :
   Calls Tryz.prog 278 #[.agg vs.toArray, .int .i64 kd, .int .i64 fi] w fun e w' => e = .returned (.bool (Us s kd fi)) ∧ Below w.heap.size w w' := by
 obtain ⟨k, sd, wh, ln, fs, pk⟩ := s
 obtain ⟨_, rfl, _, rfl, _, rfl, _, rfl, A, c, xs, _, rfl, hn, hA, hx, _, rfl, rfl⟩ := h
 dsimp only at *
 have HA := Hh (And.intro hA hx)
 clear hA hx
 obtain ⟨n, hn0⟩ : ∃ n, n = fs.length := ⟨_, rfl⟩
 rw [← hn0] at hn ⊢
 have HN := Hh hn0
 clear hn0
 go_enter Tryz.func278, Tryz.ntmps278
 go_wp2
 go_loopw [12] (fun i wr => ∃ m : Nat, i = .int .i64 m ∧ m ≤ n ∧ Below w.heap.size w wr ∧ Zb wr w.heap.size 46 #[.int .i64 k, .int .i64 sd, .int .i64 wh, .int .i64 ln, .slice A n c, .int .i64 pk] ∧ ∀ j (hj : j < m) (hl : j < fs.length), (fs[j]'hl).kind ≠ fi) (fun i _ => n - (intOf i).toNat)
 case atStart => exact ⟨0, rfl, by omega, Za _ _, Zb.made _ _ _, fun j hj => by omega⟩
 case round =>
   obtain ⟨m, rfl, hm, hb, hW, hz⟩ := hrel
   by_cases hml : m < n
   · have hk1 : m < fs.length := by rw [← HN.out]; exact hml
     obtain ⟨x, rfl, hx1, p0, p1, p2, p3⟩ := fil_at (w := wr) (HA.out.1.keeps (Zn.of_below (S := fun _ => False) hb) (fun k _ hn => ⟨id, hn⟩)) (HA.out.2.below hb) hk1
     have hat : Us ⟨k, sd, wh, ln, fs, pk⟩ kd fi = true ∨ (fs[m]'hk1).kind ≠ fi := by
       by_cases q : (fs[m]'hk1).kind = fi
       · left; unfold Us; rw [List.any_eq_true.2 ⟨fs[m]'hk1, List.getElem_mem hk1, by simp [q]⟩]; rfl
       · exact .inr q
     have hzn : (fs[m]'hk1).kind ≠ fi → ∀ j (hj : j < m + 1) (hl : j < fs.length), (fs[j]'hl).kind ≠ fi := fun q j hj hl => by
       rcases Nat.lt_succ_iff_lt_or_eq.1 hj with r | rfl
       · exact hz j r hl
       · exact q
     have HZ := Hh hzn
     generalize fs[m] = t at *
     obtain ⟨tk, top, tn, tnm⟩ := t
     dsimp only at *
     clear hzn hz
     have lk : (m : Int) < (n : Int) := by omega
     have lk0 : (0 : Int) ≤ (m : Int) := by omega
     have hkn : ((m : Int)).toNat = m := by omega
     clear hk1
     by_cases hq : tk = fi
     · have hv := hat.resolve_right (fun q => q hq)
       subst hq
       go_wp2
       go_ret
       exact ⟨by rw [hv]; rfl, hb.trans ((Za _ _).mono hb.size)⟩
     · have hbq : (tk == fi) = false := by simpa using hq
       clear hat
       go_wp2
       go_roundw
       case rel => exact ⟨m + 1, by go_num, by omega, hb.trans ((Za _ _).mono hb.size), hW.alloc _, HZ.out hq⟩
       case measure => simp [intOf]; omega
   · have hv : Us ⟨k, sd, wh, ln, fs, pk⟩ kd fi = (k == kd) := by
       unfold Us
       have : fs.any (fun x => x.kind == fi) = false := by
         rw [List.any_eq_false]
         intro x hx
         obtain ⟨j, hj, rfl⟩ := List.getElem_of_mem hx
         have := hz j (by have := HN.out; omega) hj
         simpa using this
       rw [this]; rfl
     obtain ⟨c0, c1, c2, c3, c4, c5⟩ := Zf hW
     clear hz
     go_wp2
     go_ret
     exact ⟨by rw [hv]; rfl, hb⟩
section
variable (c : Sc) (st ln cl : Int) (A : Option Addr) (rn rk : Nat)
set_option maxRecDepth 20000 in
set_option maxHeartbeats 6400000 in
theorem lSel_any (s : Se) (w : World) (N : Nat → Prop) (vs : List Value) (h : Zi N w s.ds vs) :
   Calls Tryz.prog 252 #[.agg (scL c st ln cl A rn rk).toArray, .agg vs.toArray] w fun e w' => e = .returned (.int .i64 (lSelE c s)) ∧ Below w.heap.size w w' := by
 have he := fun w => lEntered c st ln cl A rn rk w
 have hs1 := fun w h => lSpeaks s 2 5 w N vs h
 have hs2 := fun w h => lSpeaks s 1 4 w N vs h
 have hsd := fun w => lSide_any c st ln cl A rn rk s.side w
 have hou := fun w => lOutside s.lane 1 3 w
 have HD := Hh h
 have hv : lSelE c s = if (!(c.each || c.entered) && Us s 2 5) = true then 24 else if (c.place && Us s 1 4) = true then 24 else if lSide c s.side ≠ 0 then lSide c s.side else if (s.wh == 3 && outB s.lane 1 3) = true then 20 else if 4 < s.fs.length then 9 else 0 := rfl
 generalize lSelE c s = V at *
 generalize c.entered = q at *
 generalize Us s 2 5 = s1 at *
 generalize Us s 1 4 = s2 at *
 generalize lSide c s.side = d at *
 generalize outB s.lane 1 3 = ou at *
 obtain ⟨k, sd, wh, sln, fs, pk⟩ := s
 obtain ⟨_, rfl, _, rfl, _, rfl, _, rfl, B, c1, xs, _, rfl, hn, hA, hx, _, rfl, rfl⟩ := h
 obtain ⟨pl, whn, ea⟩ := c
 dsimp only [scL] at *
 clear hA hx
 have T := Hh (Env.start w)
 obtain ⟨n, hn0⟩ : ∃ n, n = fs.length := ⟨_, rfl⟩
 rw [← hn0] at hn hv HD hs1 hs2 ⊢
 clear hn0
 go_enter Tryz.func252, Tryz.ntmps252
 cases ea
 · cases q
   · cases s1
     · cases pl
       · by_cases hd : d = 0
         · subst hd
           by_cases h3 : wh = 3
           · subst h3
             cases ou
             · by_cases hl : 4 < n
               · have hl2 : (4 : Int) < (n : Int) := by omega
                 go_wp2_with (first
 | ((with_reducible refine Zg 2 ?_); refine wpList_boxE T.out 195 _ ([.int .i64 whn, .int .i64 st, .int .i64 ln, .int .i64 cl, .slice A rn rk, .bool false, .bool false]) rfl rfl rfl ?_; intro wn gn tn; have T := Hh tn; clear tn; obtain ⟨fc0, fc1, fc2, fc3, fc4, fc5, fc6⟩ := Zc (T.out.get 0 rfl))
 | ((with_reducible refine Zg 3 ?_); refine wpList_boxE T.out 46 _ ([.int .i64 k, .int .i64 sd, .int .i64 3, .int .i64 sln, .slice B n c1, .int .i64 pk]) rfl rfl rfl ?_; intro wn gn tn; have T := Hh tn; clear tn; obtain ⟨fc0, fc1, fc2, fc3, fc4, fc5, fc6⟩ := Zc (T.out.get 0 rfl); obtain ⟨fd0, fd1, fd2, fd3, fd4, fd5⟩ := Zf (T.out.get 1 rfl))
 | (go_at_call 277; refine (he _).mono ?_; rintro e wn ⟨rfl, bn⟩; have T := Hh (T.out.call bn); clear bn; obtain ⟨fc0, fc1, fc2, fc3, fc4, fc5, fc6⟩ := Zc (T.out.get 0 rfl); obtain ⟨fd0, fd1, fd2, fd3, fd4, fd5⟩ := Zf (T.out.get 1 rfl))
 | (go_at_call 278; (with_reducible refine (hs1 _ (HD.out.below T.out.below)).mono ?_); rintro e wn ⟨rfl, bn⟩; have T := Hh (T.out.call bn); clear bn; obtain ⟨fc0, fc1, fc2, fc3, fc4, fc5, fc6⟩ := Zc (T.out.get 0 rfl); obtain ⟨fd0, fd1, fd2, fd3, fd4, fd5⟩ := Zf (T.out.get 1 rfl))
 | (go_at_call 278; (with_reducible refine (hs2 _ (HD.out.below T.out.below)).mono ?_); rintro e wn ⟨rfl, bn⟩; have T := Hh (T.out.call bn); clear bn; obtain ⟨fc0, fc1, fc2, fc3, fc4, fc5, fc6⟩ := Zc (T.out.get 0 rfl); obtain ⟨fd0, fd1, fd2, fd3, fd4, fd5⟩ := Zf (T.out.get 1 rfl))
 | (go_at_call 255; refine (hsd _).mono ?_; rintro e wn ⟨rfl, bn⟩; have T := Hh (T.out.call bn); clear bn; obtain ⟨fc0, fc1, fc2, fc3, fc4, fc5, fc6⟩ := Zc (T.out.get 0 rfl); obtain ⟨fd0, fd1, fd2, fd3, fd4, fd5⟩ := Zf (T.out.get 1 rfl))
 | (go_at_call 92; refine (hou _).mono ?_; rintro e wn ⟨rfl, bn⟩; have T := Hh (T.out.call bn); clear bn; obtain ⟨fc0, fc1, fc2, fc3, fc4, fc5, fc6⟩ := Zc (T.out.get 0 rfl); obtain ⟨fd0, fd1, fd2, fd3, fd4, fd5⟩ := Zf (T.out.get 1 rfl)))
                 go_ret
                 exact ⟨by rw [hv]; simp [hl], T.out.below⟩
               · have hl2 : ¬ (4 : Int) < (n : Int) := by omega
                 go_wp2_with (first
 | ((with_reducible refine Zg 2 ?_); refine wpList_boxE T.out 195 _ ([.int .i64 whn, .int .i64 st, .int .i64 ln, .int .i64 cl, .slice A rn rk, .bool false, .bool false]) rfl rfl rfl ?_; intro wn gn tn; have T := Hh tn; clear tn; obtain ⟨fc0, fc1, fc2, fc3, fc4, fc5, fc6⟩ := Zc (T.out.get 0 rfl))
 | ((with_reducible refine Zg 3 ?_); refine wpList_boxE T.out 46 _ ([.int .i64 k, .int .i64 sd, .int .i64 3, .int .i64 sln, .slice B n c1, .int .i64 pk]) rfl rfl rfl ?_; intro wn gn tn; have T := Hh tn; clear tn; obtain ⟨fc0, fc1, fc2, fc3, fc4, fc5, fc6⟩ := Zc (T.out.get 0 rfl); obtain ⟨fd0, fd1, fd2, fd3, fd4, fd5⟩ := Zf (T.out.get 1 rfl))
 | (go_at_call 277; refine (he _).mono ?_; rintro e wn ⟨rfl, bn⟩; have T := Hh (T.out.call bn); clear bn; obtain ⟨fc0, fc1, fc2, fc3, fc4, fc5, fc6⟩ := Zc (T.out.get 0 rfl); obtain ⟨fd0, fd1, fd2, fd3, fd4, fd5⟩ := Zf (T.out.get 1 rfl))
 | (go_at_call 278; (with_reducible refine (hs1 _ (HD.out.below T.out.below)).mono ?_); rintro e wn ⟨rfl, bn⟩; have T := Hh (T.out.call bn); clear bn; obtain ⟨fc0, fc1, fc2, fc3, fc4, fc5, fc6⟩ := Zc (T.out.get 0 rfl); obtain ⟨fd0, fd1, fd2, fd3, fd4, fd5⟩ := Zf (T.out.get 1 rfl))
 | (go_at_call 278; (with_reducible refine (hs2 _ (HD.out.below T.out.below)).mono ?_); rintro e wn ⟨rfl, bn⟩; have T := Hh (T.out.call bn); clear bn; obtain ⟨fc0, fc1, fc2, fc3, fc4, fc5, fc6⟩ := Zc (T.out.get 0 rfl); obtain ⟨fd0, fd1, fd2, fd3, fd4, fd5⟩ := Zf (T.out.get 1 rfl))
 | (go_at_call 255; refine (hsd _).mono ?_; rintro e wn ⟨rfl, bn⟩; have T := Hh (T.out.call bn); clear bn; obtain ⟨fc0, fc1, fc2, fc3, fc4, fc5, fc6⟩ := Zc (T.out.get 0 rfl); obtain ⟨fd0, fd1, fd2, fd3, fd4, fd5⟩ := Zf (T.out.get 1 rfl))
 | (go_at_call 92; refine (hou _).mono ?_; rintro e wn ⟨rfl, bn⟩; have T := Hh (T.out.call bn); clear bn; obtain ⟨fc0, fc1, fc2, fc3, fc4, fc5, fc6⟩ := Zc (T.out.get 0 rfl); obtain ⟨fd0, fd1, fd2, fd3, fd4, fd5⟩ := Zf (T.out.get 1 rfl)))
                 go_ret
                 exact ⟨by rw [hv]; simp [hl], T.out.below⟩
             · go_wp2_with (first
 | ((with_reducible refine Zg 2 ?_); refine wpList_boxE T.out 195 _ ([.int .i64 whn, .int .i64 st, .int .i64 ln, .int .i64 cl, .slice A rn rk, .bool false, .bool false]) rfl rfl rfl ?_; intro wn gn tn; have T := Hh tn; clear tn; obtain ⟨fc0, fc1, fc2, fc3, fc4, fc5, fc6⟩ := Zc (T.out.get 0 rfl))
 | ((with_reducible refine Zg 3 ?_); refine wpList_boxE T.out 46 _ ([.int .i64 k, .int .i64 sd, .int .i64 3, .int .i64 sln, .slice B n c1, .int .i64 pk]) rfl rfl rfl ?_; intro wn gn tn; have T := Hh tn; clear tn; obtain ⟨fc0, fc1, fc2, fc3, fc4, fc5, fc6⟩ := Zc (T.out.get 0 rfl); obtain ⟨fd0, fd1, fd2, fd3, fd4, fd5⟩ := Zf (T.out.get 1 rfl))
 | (go_at_call 277; refine (he _).mono ?_; rintro e wn ⟨rfl, bn⟩; have T := Hh (T.out.call bn); clear bn; obtain ⟨fc0, fc1, fc2, fc3, fc4, fc5, fc6⟩ := Zc (T.out.get 0 rfl); obtain ⟨fd0, fd1, fd2, fd3, fd4, fd5⟩ := Zf (T.out.get 1 rfl))
 | (go_at_call 278; (with_reducible refine (hs1 _ (HD.out.below T.out.below)).mono ?_); rintro e wn ⟨rfl, bn⟩; have T := Hh (T.out.call bn); clear bn; obtain ⟨fc0, fc1, fc2, fc3, fc4, fc5, fc6⟩ := Zc (T.out.get 0 rfl); obtain ⟨fd0, fd1, fd2, fd3, fd4, fd5⟩ := Zf (T.out.get 1 rfl))
 | (go_at_call 278; (with_reducible refine (hs2 _ (HD.out.below T.out.below)).mono ?_); rintro e wn ⟨rfl, bn⟩; have T := Hh (T.out.call bn); clear bn; obtain ⟨fc0, fc1, fc2, fc3, fc4, fc5, fc6⟩ := Zc (T.out.get 0 rfl); obtain ⟨fd0, fd1, fd2, fd3, fd4, fd5⟩ := Zf (T.out.get 1 rfl))
 | (go_at_call 255; refine (hsd _).mono ?_; rintro e wn ⟨rfl, bn⟩; have T := Hh (T.out.call bn); clear bn; obtain ⟨fc0, fc1, fc2, fc3, fc4, fc5, fc6⟩ := Zc (T.out.get 0 rfl); obtain ⟨fd0, fd1, fd2, fd3, fd4, fd5⟩ := Zf (T.out.get 1 rfl))
 | (go_at_call 92; refine (hou _).mono ?_; rintro e wn ⟨rfl, bn⟩; have T := Hh (T.out.call bn); clear bn; obtain ⟨fc0, fc1, fc2, fc3, fc4, fc5, fc6⟩ := Zc (T.out.get 0 rfl); obtain ⟨fd0, fd1, fd2, fd3, fd4, fd5⟩ := Zf (T.out.get 1 rfl)))
               go_ret
               exact ⟨by rw [hv]; simp, T.out.below⟩
           · have b3 : (wh == 3) = false := by simpa using h3
             by_cases hl : 4 < n
             · have hl2 : (4 : Int) < (n : Int) := by omega
               go_wp2_with (first
 | ((with_reducible refine Zg 2 ?_); refine wpList_boxE T.out 195 _ ([.int .i64 whn, .int .i64 st, .int .i64 ln, .int .i64 cl, .slice A rn rk, .bool false, .bool false]) rfl rfl rfl ?_; intro wn gn tn; have T := Hh tn; clear tn; obtain ⟨fc0, fc1, fc2, fc3, fc4, fc5, fc6⟩ := Zc (T.out.get 0 rfl))
 | ((with_reducible refine Zg 3 ?_); refine wpList_boxE T.out 46 _ ([.int .i64 k, .int .i64 sd, .int .i64 wh, .int .i64 sln, .slice B n c1, .int .i64 pk]) rfl rfl rfl ?_; intro wn gn tn; have T := Hh tn; clear tn; obtain ⟨fc0, fc1, fc2, fc3, fc4, fc5, fc6⟩ := Zc (T.out.get 0 rfl); obtain ⟨fd0, fd1, fd2, fd3, fd4, fd5⟩ := Zf (T.out.get 1 rfl))
 | (go_at_call 277; refine (he _).mono ?_; rintro e wn ⟨rfl, bn⟩; have T := Hh (T.out.call bn); clear bn; obtain ⟨fc0, fc1, fc2, fc3, fc4, fc5, fc6⟩ := Zc (T.out.get 0 rfl); obtain ⟨fd0, fd1, fd2, fd3, fd4, fd5⟩ := Zf (T.out.get 1 rfl))
 | (go_at_call 278; (with_reducible refine (hs1 _ (HD.out.below T.out.below)).mono ?_); rintro e wn ⟨rfl, bn⟩; have T := Hh (T.out.call bn); clear bn; obtain ⟨fc0, fc1, fc2, fc3, fc4, fc5, fc6⟩ := Zc (T.out.get 0 rfl); obtain ⟨fd0, fd1, fd2, fd3, fd4, fd5⟩ := Zf (T.out.get 1 rfl))
 | (go_at_call 278; (with_reducible refine (hs2 _ (HD.out.below T.out.below)).mono ?_); rintro e wn ⟨rfl, bn⟩; have T := Hh (T.out.call bn); clear bn; obtain ⟨fc0, fc1, fc2, fc3, fc4, fc5, fc6⟩ := Zc (T.out.get 0 rfl); obtain ⟨fd0, fd1, fd2, fd3, fd4, fd5⟩ := Zf (T.out.get 1 rfl))
 | (go_at_call 255; refine (hsd _).mono ?_; rintro e wn ⟨rfl, bn⟩; have T := Hh (T.out.call bn); clear bn; obtain ⟨fc0, fc1, fc2, fc3, fc4, fc5, fc6⟩ := Zc (T.out.get 0 rfl); obtain ⟨fd0, fd1, fd2, fd3, fd4, fd5⟩ := Zf (T.out.get 1 rfl))
 | (go_at_call 92; refine (hou _).mono ?_; rintro e wn ⟨rfl, bn⟩; have T := Hh (T.out.call bn); clear bn; obtain ⟨fc0, fc1, fc2, fc3, fc4, fc5, fc6⟩ := Zc (T.out.get 0 rfl); obtain ⟨fd0, fd1, fd2, fd3, fd4, fd5⟩ := Zf (T.out.get 1 rfl)))
               go_ret
               exact ⟨by rw [hv]; simp [h3, hl], T.out.below⟩
             · have hl2 : ¬ (4 : Int) < (n : Int) := by omega
               go_wp2_with (first
 | ((with_reducible refine Zg 2 ?_); refine wpList_boxE T.out 195 _ ([.int .i64 whn, .int .i64 st, .int .i64 ln, .int .i64 cl, .slice A rn rk, .bool false, .bool false]) rfl rfl rfl ?_; intro wn gn tn; have T := Hh tn; clear tn; obtain ⟨fc0, fc1, fc2, fc3, fc4, fc5, fc6⟩ := Zc (T.out.get 0 rfl))
 | ((with_reducible refine Zg 3 ?_); refine wpList_boxE T.out 46 _ ([.int .i64 k, .int .i64 sd, .int .i64 wh, .int .i64 sln, .slice B n c1, .int .i64 pk]) rfl rfl rfl ?_; intro wn gn tn; have T := Hh tn; clear tn; obtain ⟨fc0, fc1, fc2, fc3, fc4, fc5, fc6⟩ := Zc (T.out.get 0 rfl); obtain ⟨fd0, fd1, fd2, fd3, fd4, fd5⟩ := Zf (T.out.get 1 rfl))
 | (go_at_call 277; refine (he _).mono ?_; rintro e wn ⟨rfl, bn⟩; have T := Hh (T.out.call bn); clear bn; obtain ⟨fc0, fc1, fc2, fc3, fc4, fc5, fc6⟩ := Zc (T.out.get 0 rfl); obtain ⟨fd0, fd1, fd2, fd3, fd4, fd5⟩ := Zf (T.out.get 1 rfl))
 | (go_at_call 278; (with_reducible refine (hs1 _ (HD.out.below T.out.below)).mono ?_); rintro e wn ⟨rfl, bn⟩; have T := Hh (T.out.call bn); clear bn; obtain ⟨fc0, fc1, fc2, fc3, fc4, fc5, fc6⟩ := Zc (T.out.get 0 rfl); obtain ⟨fd0, fd1, fd2, fd3, fd4, fd5⟩ := Zf (T.out.get 1 rfl))
 | (go_at_call 278; (with_reducible refine (hs2 _ (HD.out.below T.out.below)).mono ?_); rintro e wn ⟨rfl, bn⟩; have T := Hh (T.out.call bn); clear bn; obtain ⟨fc0, fc1, fc2, fc3, fc4, fc5, fc6⟩ := Zc (T.out.get 0 rfl); obtain ⟨fd0, fd1, fd2, fd3, fd4, fd5⟩ := Zf (T.out.get 1 rfl))
 | (go_at_call 255; refine (hsd _).mono ?_; rintro e wn ⟨rfl, bn⟩; have T := Hh (T.out.call bn); clear bn; obtain ⟨fc0, fc1, fc2, fc3, fc4, fc5, fc6⟩ := Zc (T.out.get 0 rfl); obtain ⟨fd0, fd1, fd2, fd3, fd4, fd5⟩ := Zf (T.out.get 1 rfl))
 | (go_at_call 92; refine (hou _).mono ?_; rintro e wn ⟨rfl, bn⟩; have T := Hh (T.out.call bn); clear bn; obtain ⟨fc0, fc1, fc2, fc3, fc4, fc5, fc6⟩ := Zc (T.out.get 0 rfl); obtain ⟨fd0, fd1, fd2, fd3, fd4, fd5⟩ := Zf (T.out.get 1 rfl)))
               go_ret
               exact ⟨by rw [hv]; simp [h3, hl], T.out.below⟩
         · have bd : (d == 0) = false := by simpa using hd
           go_wp2_with (first
 | ((with_reducible refine Zg 2 ?_); refine wpList_boxE T.out 195 _ ([.int .i64 whn, .int .i64 st, .int .i64 ln, .int .i64 cl, .slice A rn rk, .bool false, .bool false]) rfl rfl rfl ?_; intro wn gn tn; have T := Hh tn; clear tn; obtain ⟨fc0, fc1, fc2, fc3, fc4, fc5, fc6⟩ := Zc (T.out.get 0 rfl))
 | ((with_reducible refine Zg 3 ?_); refine wpList_boxE T.out 46 _ ([.int .i64 k, .int .i64 sd, .int .i64 wh, .int .i64 sln, .slice B n c1, .int .i64 pk]) rfl rfl rfl ?_; intro wn gn tn; have T := Hh tn; clear tn; obtain ⟨fc0, fc1, fc2, fc3, fc4, fc5, fc6⟩ := Zc (T.out.get 0 rfl); obtain ⟨fd0, fd1, fd2, fd3, fd4, fd5⟩ := Zf (T.out.get 1 rfl))
 | (go_at_call 277; refine (he _).mono ?_; rintro e wn ⟨rfl, bn⟩; have T := Hh (T.out.call bn); clear bn; obtain ⟨fc0, fc1, fc2, fc3, fc4, fc5, fc6⟩ := Zc (T.out.get 0 rfl); obtain ⟨fd0, fd1, fd2, fd3, fd4, fd5⟩ := Zf (T.out.get 1 rfl))
 | (go_at_call 278; (with_reducible refine (hs1 _ (HD.out.below T.out.below)).mono ?_); rintro e wn ⟨rfl, bn⟩; have T := Hh (T.out.call bn); clear bn; obtain ⟨fc0, fc1, fc2, fc3, fc4, fc5, fc6⟩ := Zc (T.out.get 0 rfl); obtain ⟨fd0, fd1, fd2, fd3, fd4, fd5⟩ := Zf (T.out.get 1 rfl))
 | (go_at_call 278; (with_reducible refine (hs2 _ (HD.out.below T.out.below)).mono ?_); rintro e wn ⟨rfl, bn⟩; have T := Hh (T.out.call bn); clear bn; obtain ⟨fc0, fc1, fc2, fc3, fc4, fc5, fc6⟩ := Zc (T.out.get 0 rfl); obtain ⟨fd0, fd1, fd2, fd3, fd4, fd5⟩ := Zf (T.out.get 1 rfl))
 | (go_at_call 255; refine (hsd _).mono ?_; rintro e wn ⟨rfl, bn⟩; have T := Hh (T.out.call bn); clear bn; obtain ⟨fc0, fc1, fc2, fc3, fc4, fc5, fc6⟩ := Zc (T.out.get 0 rfl); obtain ⟨fd0, fd1, fd2, fd3, fd4, fd5⟩ := Zf (T.out.get 1 rfl))
 | (go_at_call 92; refine (hou _).mono ?_; rintro e wn ⟨rfl, bn⟩; have T := Hh (T.out.call bn); clear bn; obtain ⟨fc0, fc1, fc2, fc3, fc4, fc5, fc6⟩ := Zc (T.out.get 0 rfl); obtain ⟨fd0, fd1, fd2, fd3, fd4, fd5⟩ := Zf (T.out.get 1 rfl)))
           go_ret
           exact ⟨by rw [hv]; simp [hd], T.out.below⟩
       · cases s2
         · by_cases hd : d = 0
           · subst hd
             by_cases h3 : wh = 3
             · subst h3
               cases ou
               · by_cases hl : 4 < n
                 · have hl2 : (4 : Int) < (n : Int) := by omega
                   go_wp2_with (first
 | ((with_reducible refine Zg 2 ?_); refine wpList_boxE T.out 195 _ ([.int .i64 whn, .int .i64 st, .int .i64 ln, .int .i64 cl, .slice A rn rk, .bool true, .bool false]) rfl rfl rfl ?_; intro wn gn tn; have T := Hh tn; clear tn; obtain ⟨fc0, fc1, fc2, fc3, fc4, fc5, fc6⟩ := Zc (T.out.get 0 rfl))
 | ((with_reducible refine Zg 3 ?_); refine wpList_boxE T.out 46 _ ([.int .i64 k, .int .i64 sd, .int .i64 3, .int .i64 sln, .slice B n c1, .int .i64 pk]) rfl rfl rfl ?_; intro wn gn tn; have T := Hh tn; clear tn; obtain ⟨fc0, fc1, fc2, fc3, fc4, fc5, fc6⟩ := Zc (T.out.get 0 rfl); obtain ⟨fd0, fd1, fd2, fd3, fd4, fd5⟩ := Zf (T.out.get 1 rfl))
 | (go_at_call 277; refine (he _).mono ?_; rintro e wn ⟨rfl, bn⟩; have T := Hh (T.out.call bn); clear bn; obtain ⟨fc0, fc1, fc2, fc3, fc4, fc5, fc6⟩ := Zc (T.out.get 0 rfl); obtain ⟨fd0, fd1, fd2, fd3, fd4, fd5⟩ := Zf (T.out.get 1 rfl))
 | (go_at_call 278; (with_reducible refine (hs1 _ (HD.out.below T.out.below)).mono ?_); rintro e wn ⟨rfl, bn⟩; have T := Hh (T.out.call bn); clear bn; obtain ⟨fc0, fc1, fc2, fc3, fc4, fc5, fc6⟩ := Zc (T.out.get 0 rfl); obtain ⟨fd0, fd1, fd2, fd3, fd4, fd5⟩ := Zf (T.out.get 1 rfl))
 | (go_at_call 278; (with_reducible refine (hs2 _ (HD.out.below T.out.below)).mono ?_); rintro e wn ⟨rfl, bn⟩; have T := Hh (T.out.call bn); clear bn; obtain ⟨fc0, fc1, fc2, fc3, fc4, fc5, fc6⟩ := Zc (T.out.get 0 rfl); obtain ⟨fd0, fd1, fd2, fd3, fd4, fd5⟩ := Zf (T.out.get 1 rfl))
 | (go_at_call 255; refine (hsd _).mono ?_; rintro e wn ⟨rfl, bn⟩; have T := Hh (T.out.call bn); clear bn; obtain ⟨fc0, fc1, fc2, fc3, fc4, fc5, fc6⟩ := Zc (T.out.get 0 rfl); obtain ⟨fd0, fd1, fd2, fd3, fd4, fd5⟩ := Zf (T.out.get 1 rfl))
 | (go_at_call 92; refine (hou _).mono ?_; rintro e wn ⟨rfl, bn⟩; have T := Hh (T.out.call bn); clear bn; obtain ⟨fc0, fc1, fc2, fc3, fc4, fc5, fc6⟩ := Zc (T.out.get 0 rfl); obtain ⟨fd0, fd1, fd2, fd3, fd4, fd5⟩ := Zf (T.out.get 1 rfl)))
                   go_ret
                   exact ⟨by rw [hv]; simp [hl], T.out.below⟩
                 · have hl2 : ¬ (4 : Int) < (n : Int) := by omega
                   go_wp2_with (first
 | ((with_reducible refine Zg 2 ?_); refine wpList_boxE T.out 195 _ ([.int .i64 whn, .int .i64 st, .int .i64 ln, .int .i64 cl, .slice A rn rk, .bool true, .bool false]) rfl rfl rfl ?_; intro wn gn tn; have T := Hh tn; clear tn; obtain ⟨fc0, fc1, fc2, fc3, fc4, fc5, fc6⟩ := Zc (T.out.get 0 rfl))
 | ((with_reducible refine Zg 3 ?_); refine wpList_boxE T.out 46 _ ([.int .i64 k, .int .i64 sd, .int .i64 3, .int .i64 sln, .slice B n c1, .int .i64 pk]) rfl rfl rfl ?_; intro wn gn tn; have T := Hh tn; clear tn; obtain ⟨fc0, fc1, fc2, fc3, fc4, fc5, fc6⟩ := Zc (T.out.get 0 rfl); obtain ⟨fd0, fd1, fd2, fd3, fd4, fd5⟩ := Zf (T.out.get 1 rfl))
 | (go_at_call 277; refine (he _).mono ?_; rintro e wn ⟨rfl, bn⟩; have T := Hh (T.out.call bn); clear bn; obtain ⟨fc0, fc1, fc2, fc3, fc4, fc5, fc6⟩ := Zc (T.out.get 0 rfl); obtain ⟨fd0, fd1, fd2, fd3, fd4, fd5⟩ := Zf (T.out.get 1 rfl))
 | (go_at_call 278; (with_reducible refine (hs1 _ (HD.out.below T.out.below)).mono ?_); rintro e wn ⟨rfl, bn⟩; have T := Hh (T.out.call bn); clear bn; obtain ⟨fc0, fc1, fc2, fc3, fc4, fc5, fc6⟩ := Zc (T.out.get 0 rfl); obtain ⟨fd0, fd1, fd2, fd3, fd4, fd5⟩ := Zf (T.out.get 1 rfl))
 | (go_at_call 278; (with_reducible refine (hs2 _ (HD.out.below T.out.below)).mono ?_); rintro e wn ⟨rfl, bn⟩; have T := Hh (T.out.call bn); clear bn; obtain ⟨fc0, fc1, fc2, fc3, fc4, fc5, fc6⟩ := Zc (T.out.get 0 rfl); obtain ⟨fd0, fd1, fd2, fd3, fd4, fd5⟩ := Zf (T.out.get 1 rfl))
 | (go_at_call 255; refine (hsd _).mono ?_; rintro e wn ⟨rfl, bn⟩; have T := Hh (T.out.call bn); clear bn; obtain ⟨fc0, fc1, fc2, fc3, fc4, fc5, fc6⟩ := Zc (T.out.get 0 rfl); obtain ⟨fd0, fd1, fd2, fd3, fd4, fd5⟩ := Zf (T.out.get 1 rfl))
 | (go_at_call 92; refine (hou _).mono ?_; rintro e wn ⟨rfl, bn⟩; have T := Hh (T.out.call bn); clear bn; obtain ⟨fc0, fc1, fc2, fc3, fc4, fc5, fc6⟩ := Zc (T.out.get 0 rfl); obtain ⟨fd0, fd1, fd2, fd3, fd4, fd5⟩ := Zf (T.out.get 1 rfl)))
                   go_ret
                   exact ⟨by rw [hv]; simp [hl], T.out.below⟩
               · go_wp2_with (first
 | ((with_reducible refine Zg 2 ?_); refine wpList_boxE T.out 195 _ ([.int .i64 whn, .int .i64 st, .int .i64 ln, .int .i64 cl, .slice A rn rk, .bool true, .bool false]) rfl rfl rfl ?_; intro wn gn tn; have T := Hh tn; clear tn; obtain ⟨fc0, fc1, fc2, fc3, fc4, fc5, fc6⟩ := Zc (T.out.get 0 rfl))
 | ((with_reducible refine Zg 3 ?_); refine wpList_boxE T.out 46 _ ([.int .i64 k, .int .i64 sd, .int .i64 3, .int .i64 sln, .slice B n c1, .int .i64 pk]) rfl rfl rfl ?_; intro wn gn tn; have T := Hh tn; clear tn; obtain ⟨fc0, fc1, fc2, fc3, fc4, fc5, fc6⟩ := Zc (T.out.get 0 rfl); obtain ⟨fd0, fd1, fd2, fd3, fd4, fd5⟩ := Zf (T.out.get 1 rfl))
 | (go_at_call 277; refine (he _).mono ?_; rintro e wn ⟨rfl, bn⟩; have T := Hh (T.out.call bn); clear bn; obtain ⟨fc0, fc1, fc2, fc3, fc4, fc5, fc6⟩ := Zc (T.out.get 0 rfl); obtain ⟨fd0, fd1, fd2, fd3, fd4, fd5⟩ := Zf (T.out.get 1 rfl))
 | (go_at_call 278; (with_reducible refine (hs1 _ (HD.out.below T.out.below)).mono ?_); rintro e wn ⟨rfl, bn⟩; have T := Hh (T.out.call bn); clear bn; obtain ⟨fc0, fc1, fc2, fc3, fc4, fc5, fc6⟩ := Zc (T.out.get 0 rfl); obtain ⟨fd0, fd1, fd2, fd3, fd4, fd5⟩ := Zf (T.out.get 1 rfl))
 | (go_at_call 278; (with_reducible refine (hs2 _ (HD.out.below T.out.below)).mono ?_); rintro e wn ⟨rfl, bn⟩; have T := Hh (T.out.call bn); clear bn; obtain ⟨fc0, fc1, fc2, fc3, fc4, fc5, fc6⟩ := Zc (T.out.get 0 rfl); obtain ⟨fd0, fd1, fd2, fd3, fd4, fd5⟩ := Zf (T.out.get 1 rfl))
 | (go_at_call 255; refine (hsd _).mono ?_; rintro e wn ⟨rfl, bn⟩; have T := Hh (T.out.call bn); clear bn; obtain ⟨fc0, fc1, fc2, fc3, fc4, fc5, fc6⟩ := Zc (T.out.get 0 rfl); obtain ⟨fd0, fd1, fd2, fd3, fd4, fd5⟩ := Zf (T.out.get 1 rfl))
 | (go_at_call 92; refine (hou _).mono ?_; rintro e wn ⟨rfl, bn⟩; have T := Hh (T.out.call bn); clear bn; obtain ⟨fc0, fc1, fc2, fc3, fc4, fc5, fc6⟩ := Zc (T.out.get 0 rfl); obtain ⟨fd0, fd1, fd2, fd3, fd4, fd5⟩ := Zf (T.out.get 1 rfl)))
                 go_ret
                 exact ⟨by rw [hv]; simp, T.out.below⟩
             · have b3 : (wh == 3) = false := by simpa using h3
               by_cases hl : 4 < n
               · have hl2 : (4 : Int) < (n : Int) := by omega
                 go_wp2_with (first
 | ((with_reducible refine Zg 2 ?_); refine wpList_boxE T.out 195 _ ([.int .i64 whn, .int .i64 st, .int .i64 ln, .int .i64 cl, .slice A rn rk, .bool true, .bool false]) rfl rfl rfl ?_; intro wn gn tn; have T := Hh tn; clear tn; obtain ⟨fc0, fc1, fc2, fc3, fc4, fc5, fc6⟩ := Zc (T.out.get 0 rfl))
 | ((with_reducible refine Zg 3 ?_); refine wpList_boxE T.out 46 _ ([.int .i64 k, .int .i64 sd, .int .i64 wh, .int .i64 sln, .slice B n c1, .int .i64 pk]) rfl rfl rfl ?_; intro wn gn tn; have T := Hh tn; clear tn; obtain ⟨fc0, fc1, fc2, fc3, fc4, fc5, fc6⟩ := Zc (T.out.get 0 rfl); obtain ⟨fd0, fd1, fd2, fd3, fd4, fd5⟩ := Zf (T.out.get 1 rfl))
 | (go_at_call 277; refine (he _).mono ?_; rintro e wn ⟨rfl, bn⟩; have T := Hh (T.out.call bn); clear bn; obtain ⟨fc0, fc1, fc2, fc3, fc4, fc5, fc6⟩ := Zc (T.out.get 0 rfl); obtain ⟨fd0, fd1, fd2, fd3, fd4, fd5⟩ := Zf (T.out.get 1 rfl))
 | (go_at_call 278; (with_reducible refine (hs1 _ (HD.out.below T.out.below)).mono ?_); rintro e wn ⟨rfl, bn⟩; have T := Hh (T.out.call bn); clear bn; obtain ⟨fc0, fc1, fc2, fc3, fc4, fc5, fc6⟩ := Zc (T.out.get 0 rfl); obtain ⟨fd0, fd1, fd2, fd3, fd4, fd5⟩ := Zf (T.out.get 1 rfl))
 | (go_at_call 278; (with_reducible refine (hs2 _ (HD.out.below T.out.below)).mono ?_); rintro e wn ⟨rfl, bn⟩; have T := Hh (T.out.call bn); clear bn; obtain ⟨fc0, fc1, fc2, fc3, fc4, fc5, fc6⟩ := Zc (T.out.get 0 rfl); obtain ⟨fd0, fd1, fd2, fd3, fd4, fd5⟩ := Zf (T.out.get 1 rfl))
 | (go_at_call 255; refine (hsd _).mono ?_; rintro e wn ⟨rfl, bn⟩; have T := Hh (T.out.call bn); clear bn; obtain ⟨fc0, fc1, fc2, fc3, fc4, fc5, fc6⟩ := Zc (T.out.get 0 rfl); obtain ⟨fd0, fd1, fd2, fd3, fd4, fd5⟩ := Zf (T.out.get 1 rfl))
 | (go_at_call 92; refine (hou _).mono ?_; rintro e wn ⟨rfl, bn⟩; have T := Hh (T.out.call bn); clear bn; obtain ⟨fc0, fc1, fc2, fc3, fc4, fc5, fc6⟩ := Zc (T.out.get 0 rfl); obtain ⟨fd0, fd1, fd2, fd3, fd4, fd5⟩ := Zf (T.out.get 1 rfl)))
                 go_ret
                 exact ⟨by rw [hv]; simp [h3, hl], T.out.below⟩
               · have hl2 : ¬ (4 : Int) < (n : Int) := by omega
                 go_wp2_with (first
 | ((with_reducible refine Zg 2 ?_); refine wpList_boxE T.out 195 _ ([.int .i64 whn, .int .i64 st, .int .i64 ln, .int .i64 cl, .slice A rn rk, .bool true, .bool false]) rfl rfl rfl ?_; intro wn gn tn; have T := Hh tn; clear tn; obtain ⟨fc0, fc1, fc2, fc3, fc4, fc5, fc6⟩ := Zc (T.out.get 0 rfl))
 | ((with_reducible refine Zg 3 ?_); refine wpList_boxE T.out 46 _ ([.int .i64 k, .int .i64 sd, .int .i64 wh, .int .i64 sln, .slice B n c1, .int .i64 pk]) rfl rfl rfl ?_; intro wn gn tn; have T := Hh tn; clear tn; obtain ⟨fc0, fc1, fc2, fc3, fc4, fc5, fc6⟩ := Zc (T.out.get 0 rfl); obtain ⟨fd0, fd1, fd2, fd3, fd4, fd5⟩ := Zf (T.out.get 1 rfl))
 | (go_at_call 277; refine (he _).mono ?_; rintro e wn ⟨rfl, bn⟩; have T := Hh (T.out.call bn); clear bn; obtain ⟨fc0, fc1, fc2, fc3, fc4, fc5, fc6⟩ := Zc (T.out.get 0 rfl); obtain ⟨fd0, fd1, fd2, fd3, fd4, fd5⟩ := Zf (T.out.get 1 rfl))
 | (go_at_call 278; (with_reducible refine (hs1 _ (HD.out.below T.out.below)).mono ?_); rintro e wn ⟨rfl, bn⟩; have T := Hh (T.out.call bn); clear bn; obtain ⟨fc0, fc1, fc2, fc3, fc4, fc5, fc6⟩ := Zc (T.out.get 0 rfl); obtain ⟨fd0, fd1, fd2, fd3, fd4, fd5⟩ := Zf (T.out.get 1 rfl))
 | (go_at_call 278; (with_reducible refine (hs2 _ (HD.out.below T.out.below)).mono ?_); rintro e wn ⟨rfl, bn⟩; have T := Hh (T.out.call bn); clear bn; obtain ⟨fc0, fc1, fc2, fc3, fc4, fc5, fc6⟩ := Zc (T.out.get 0 rfl); obtain ⟨fd0, fd1, fd2, fd3, fd4, fd5⟩ := Zf (T.out.get 1 rfl))
 | (go_at_call 255; refine (hsd _).mono ?_; rintro e wn ⟨rfl, bn⟩; have T := Hh (T.out.call bn); clear bn; obtain ⟨fc0, fc1, fc2, fc3, fc4, fc5, fc6⟩ := Zc (T.out.get 0 rfl); obtain ⟨fd0, fd1, fd2, fd3, fd4, fd5⟩ := Zf (T.out.get 1 rfl))
 | (go_at_call 92; refine (hou _).mono ?_; rintro e wn ⟨rfl, bn⟩; have T := Hh (T.out.call bn); clear bn; obtain ⟨fc0, fc1, fc2, fc3, fc4, fc5, fc6⟩ := Zc (T.out.get 0 rfl); obtain ⟨fd0, fd1, fd2, fd3, fd4, fd5⟩ := Zf (T.out.get 1 rfl)))
                 go_ret
                 exact ⟨by rw [hv]; simp [h3, hl], T.out.below⟩
           · have bd : (d == 0) = false := by simpa using hd
             go_wp2_with (first
 | ((with_reducible refine Zg 2 ?_); refine wpList_boxE T.out 195 _ ([.int .i64 whn, .int .i64 st, .int .i64 ln, .int .i64 cl, .slice A rn rk, .bool true, .bool false]) rfl rfl rfl ?_; intro wn gn tn; have T := Hh tn; clear tn; obtain ⟨fc0, fc1, fc2, fc3, fc4, fc5, fc6⟩ := Zc (T.out.get 0 rfl))
 | ((with_reducible refine Zg 3 ?_); refine wpList_boxE T.out 46 _ ([.int .i64 k, .int .i64 sd, .int .i64 wh, .int .i64 sln, .slice B n c1, .int .i64 pk]) rfl rfl rfl ?_; intro wn gn tn; have T := Hh tn; clear tn; obtain ⟨fc0, fc1, fc2, fc3, fc4, fc5, fc6⟩ := Zc (T.out.get 0 rfl); obtain ⟨fd0, fd1, fd2, fd3, fd4, fd5⟩ := Zf (T.out.get 1 rfl))
 | (go_at_call 277; refine (he _).mono ?_; rintro e wn ⟨rfl, bn⟩; have T := Hh (T.out.call bn); clear bn; obtain ⟨fc0, fc1, fc2, fc3, fc4, fc5, fc6⟩ := Zc (T.out.get 0 rfl); obtain ⟨fd0, fd1, fd2, fd3, fd4, fd5⟩ := Zf (T.out.get 1 rfl))
 | (go_at_call 278; (with_reducible refine (hs1 _ (HD.out.below T.out.below)).mono ?_); rintro e wn ⟨rfl, bn⟩; have T := Hh (T.out.call bn); clear bn; obtain ⟨fc0, fc1, fc2, fc3, fc4, fc5, fc6⟩ := Zc (T.out.get 0 rfl); obtain ⟨fd0, fd1, fd2, fd3, fd4, fd5⟩ := Zf (T.out.get 1 rfl))
 | (go_at_call 278; (with_reducible refine (hs2 _ (HD.out.below T.out.below)).mono ?_); rintro e wn ⟨rfl, bn⟩; have T := Hh (T.out.call bn); clear bn; obtain ⟨fc0, fc1, fc2, fc3, fc4, fc5, fc6⟩ := Zc (T.out.get 0 rfl); obtain ⟨fd0, fd1, fd2, fd3, fd4, fd5⟩ := Zf (T.out.get 1 rfl))
 | (go_at_call 255; refine (hsd _).mono ?_; rintro e wn ⟨rfl, bn⟩; have T := Hh (T.out.call bn); clear bn; obtain ⟨fc0, fc1, fc2, fc3, fc4, fc5, fc6⟩ := Zc (T.out.get 0 rfl); obtain ⟨fd0, fd1, fd2, fd3, fd4, fd5⟩ := Zf (T.out.get 1 rfl))
 | (go_at_call 92; refine (hou _).mono ?_; rintro e wn ⟨rfl, bn⟩; have T := Hh (T.out.call bn); clear bn; obtain ⟨fc0, fc1, fc2, fc3, fc4, fc5, fc6⟩ := Zc (T.out.get 0 rfl); obtain ⟨fd0, fd1, fd2, fd3, fd4, fd5⟩ := Zf (T.out.get 1 rfl)))
             go_ret
             exact ⟨by rw [hv]; simp [hd], T.out.below⟩
         · go_wp2_with (first
 | ((with_reducible refine Zg 2 ?_); refine wpList_boxE T.out 195 _ ([.int .i64 whn, .int .i64 st, .int .i64 ln, .int .i64 cl, .slice A rn rk, .bool true, .bool false]) rfl rfl rfl ?_; intro wn gn tn; have T := Hh tn; clear tn; obtain ⟨fc0, fc1, fc2, fc3, fc4, fc5, fc6⟩ := Zc (T.out.get 0 rfl))
 | ((with_reducible refine Zg 3 ?_); refine wpList_boxE T.out 46 _ ([.int .i64 k, .int .i64 sd, .int .i64 wh, .int .i64 sln, .slice B n c1, .int .i64 pk]) rfl rfl rfl ?_; intro wn gn tn; have T := Hh tn; clear tn; obtain ⟨fc0, fc1, fc2, fc3, fc4, fc5, fc6⟩ := Zc (T.out.get 0 rfl); obtain ⟨fd0, fd1, fd2, fd3, fd4, fd5⟩ := Zf (T.out.get 1 rfl))
 | (go_at_call 277; refine (he _).mono ?_; rintro e wn ⟨rfl, bn⟩; have T := Hh (T.out.call bn); clear bn; obtain ⟨fc0, fc1, fc2, fc3, fc4, fc5, fc6⟩ := Zc (T.out.get 0 rfl); obtain ⟨fd0, fd1, fd2, fd3, fd4, fd5⟩ := Zf (T.out.get 1 rfl))
 | (go_at_call 278; (with_reducible refine (hs1 _ (HD.out.below T.out.below)).mono ?_); rintro e wn ⟨rfl, bn⟩; have T := Hh (T.out.call bn); clear bn; obtain ⟨fc0, fc1, fc2, fc3, fc4, fc5, fc6⟩ := Zc (T.out.get 0 rfl); obtain ⟨fd0, fd1, fd2, fd3, fd4, fd5⟩ := Zf (T.out.get 1 rfl))
 | (go_at_call 278; (with_reducible refine (hs2 _ (HD.out.below T.out.below)).mono ?_); rintro e wn ⟨rfl, bn⟩; have T := Hh (T.out.call bn); clear bn; obtain ⟨fc0, fc1, fc2, fc3, fc4, fc5, fc6⟩ := Zc (T.out.get 0 rfl); obtain ⟨fd0, fd1, fd2, fd3, fd4, fd5⟩ := Zf (T.out.get 1 rfl))
 | (go_at_call 255; refine (hsd _).mono ?_; rintro e wn ⟨rfl, bn⟩; have T := Hh (T.out.call bn); clear bn; obtain ⟨fc0, fc1, fc2, fc3, fc4, fc5, fc6⟩ := Zc (T.out.get 0 rfl); obtain ⟨fd0, fd1, fd2, fd3, fd4, fd5⟩ := Zf (T.out.get 1 rfl))
 | (go_at_call 92; refine (hou _).mono ?_; rintro e wn ⟨rfl, bn⟩; have T := Hh (T.out.call bn); clear bn; obtain ⟨fc0, fc1, fc2, fc3, fc4, fc5, fc6⟩ := Zc (T.out.get 0 rfl); obtain ⟨fd0, fd1, fd2, fd3, fd4, fd5⟩ := Zf (T.out.get 1 rfl)))
           go_ret
           exact ⟨by rw [hv]; simp, T.out.below⟩
     · go_wp2_with (first
 | ((with_reducible refine Zg 2 ?_); refine wpList_boxE T.out 195 _ ([.int .i64 whn, .int .i64 st, .int .i64 ln, .int .i64 cl, .slice A rn rk, .bool pl, .bool false]) rfl rfl rfl ?_; intro wn gn tn; have T := Hh tn; clear tn; obtain ⟨fc0, fc1, fc2, fc3, fc4, fc5, fc6⟩ := Zc (T.out.get 0 rfl))
 | ((with_reducible refine Zg 3 ?_); refine wpList_boxE T.out 46 _ ([.int .i64 k, .int .i64 sd, .int .i64 wh, .int .i64 sln, .slice B n c1, .int .i64 pk]) rfl rfl rfl ?_; intro wn gn tn; have T := Hh tn; clear tn; obtain ⟨fc0, fc1, fc2, fc3, fc4, fc5, fc6⟩ := Zc (T.out.get 0 rfl); obtain ⟨fd0, fd1, fd2, fd3, fd4, fd5⟩ := Zf (T.out.get 1 rfl))
 | (go_at_call 277; refine (he _).mono ?_; rintro e wn ⟨rfl, bn⟩; have T := Hh (T.out.call bn); clear bn; obtain ⟨fc0, fc1, fc2, fc3, fc4, fc5, fc6⟩ := Zc (T.out.get 0 rfl); obtain ⟨fd0, fd1, fd2, fd3, fd4, fd5⟩ := Zf (T.out.get 1 rfl))
 | (go_at_call 278; (with_reducible refine (hs1 _ (HD.out.below T.out.below)).mono ?_); rintro e wn ⟨rfl, bn⟩; have T := Hh (T.out.call bn); clear bn; obtain ⟨fc0, fc1, fc2, fc3, fc4, fc5, fc6⟩ := Zc (T.out.get 0 rfl); obtain ⟨fd0, fd1, fd2, fd3, fd4, fd5⟩ := Zf (T.out.get 1 rfl))
 | (go_at_call 278; (with_reducible refine (hs2 _ (HD.out.below T.out.below)).mono ?_); rintro e wn ⟨rfl, bn⟩; have T := Hh (T.out.call bn); clear bn; obtain ⟨fc0, fc1, fc2, fc3, fc4, fc5, fc6⟩ := Zc (T.out.get 0 rfl); obtain ⟨fd0, fd1, fd2, fd3, fd4, fd5⟩ := Zf (T.out.get 1 rfl))
 | (go_at_call 255; refine (hsd _).mono ?_; rintro e wn ⟨rfl, bn⟩; have T := Hh (T.out.call bn); clear bn; obtain ⟨fc0, fc1, fc2, fc3, fc4, fc5, fc6⟩ := Zc (T.out.get 0 rfl); obtain ⟨fd0, fd1, fd2, fd3, fd4, fd5⟩ := Zf (T.out.get 1 rfl))
 | (go_at_call 92; refine (hou _).mono ?_; rintro e wn ⟨rfl, bn⟩; have T := Hh (T.out.call bn); clear bn; obtain ⟨fc0, fc1, fc2, fc3, fc4, fc5, fc6⟩ := Zc (T.out.get 0 rfl); obtain ⟨fd0, fd1, fd2, fd3, fd4, fd5⟩ := Zf (T.out.get 1 rfl)))
       go_ret
       exact ⟨by rw [hv]; rfl, T.out.below⟩
   · cases pl
     · by_cases hd : d = 0
       · subst hd
         by_cases h3 : wh = 3
         · subst h3
           cases ou
           · by_cases hl : 4 < n
             · have hl2 : (4 : Int) < (n : Int) := by omega
               go_wp2_with (first
 | ((with_reducible refine Zg 2 ?_); refine wpList_boxE T.out 195 _ ([.int .i64 whn, .int .i64 st, .int .i64 ln, .int .i64 cl, .slice A rn rk, .bool false, .bool false]) rfl rfl rfl ?_; intro wn gn tn; have T := Hh tn; clear tn; obtain ⟨fc0, fc1, fc2, fc3, fc4, fc5, fc6⟩ := Zc (T.out.get 0 rfl))
 | ((with_reducible refine Zg 3 ?_); refine wpList_boxE T.out 46 _ ([.int .i64 k, .int .i64 sd, .int .i64 3, .int .i64 sln, .slice B n c1, .int .i64 pk]) rfl rfl rfl ?_; intro wn gn tn; have T := Hh tn; clear tn; obtain ⟨fc0, fc1, fc2, fc3, fc4, fc5, fc6⟩ := Zc (T.out.get 0 rfl); obtain ⟨fd0, fd1, fd2, fd3, fd4, fd5⟩ := Zf (T.out.get 1 rfl))
 | (go_at_call 277; refine (he _).mono ?_; rintro e wn ⟨rfl, bn⟩; have T := Hh (T.out.call bn); clear bn; obtain ⟨fc0, fc1, fc2, fc3, fc4, fc5, fc6⟩ := Zc (T.out.get 0 rfl); obtain ⟨fd0, fd1, fd2, fd3, fd4, fd5⟩ := Zf (T.out.get 1 rfl))
 | (go_at_call 278; (with_reducible refine (hs1 _ (HD.out.below T.out.below)).mono ?_); rintro e wn ⟨rfl, bn⟩; have T := Hh (T.out.call bn); clear bn; obtain ⟨fc0, fc1, fc2, fc3, fc4, fc5, fc6⟩ := Zc (T.out.get 0 rfl); obtain ⟨fd0, fd1, fd2, fd3, fd4, fd5⟩ := Zf (T.out.get 1 rfl))
 | (go_at_call 278; (with_reducible refine (hs2 _ (HD.out.below T.out.below)).mono ?_); rintro e wn ⟨rfl, bn⟩; have T := Hh (T.out.call bn); clear bn; obtain ⟨fc0, fc1, fc2, fc3, fc4, fc5, fc6⟩ := Zc (T.out.get 0 rfl); obtain ⟨fd0, fd1, fd2, fd3, fd4, fd5⟩ := Zf (T.out.get 1 rfl))
 | (go_at_call 255; refine (hsd _).mono ?_; rintro e wn ⟨rfl, bn⟩; have T := Hh (T.out.call bn); clear bn; obtain ⟨fc0, fc1, fc2, fc3, fc4, fc5, fc6⟩ := Zc (T.out.get 0 rfl); obtain ⟨fd0, fd1, fd2, fd3, fd4, fd5⟩ := Zf (T.out.get 1 rfl))
 | (go_at_call 92; refine (hou _).mono ?_; rintro e wn ⟨rfl, bn⟩; have T := Hh (T.out.call bn); clear bn; obtain ⟨fc0, fc1, fc2, fc3, fc4, fc5, fc6⟩ := Zc (T.out.get 0 rfl); obtain ⟨fd0, fd1, fd2, fd3, fd4, fd5⟩ := Zf (T.out.get 1 rfl)))
               go_ret
               exact ⟨by rw [hv]; simp [hl], T.out.below⟩
             · have hl2 : ¬ (4 : Int) < (n : Int) := by omega
               go_wp2_with (first
 | ((with_reducible refine Zg 2 ?_); refine wpList_boxE T.out 195 _ ([.int .i64 whn, .int .i64 st, .int .i64 ln, .int .i64 cl, .slice A rn rk, .bool false, .bool false]) rfl rfl rfl ?_; intro wn gn tn; have T := Hh tn; clear tn; obtain ⟨fc0, fc1, fc2, fc3, fc4, fc5, fc6⟩ := Zc (T.out.get 0 rfl))
 | ((with_reducible refine Zg 3 ?_); refine wpList_boxE T.out 46 _ ([.int .i64 k, .int .i64 sd, .int .i64 3, .int .i64 sln, .slice B n c1, .int .i64 pk]) rfl rfl rfl ?_; intro wn gn tn; have T := Hh tn; clear tn; obtain ⟨fc0, fc1, fc2, fc3, fc4, fc5, fc6⟩ := Zc (T.out.get 0 rfl); obtain ⟨fd0, fd1, fd2, fd3, fd4, fd5⟩ := Zf (T.out.get 1 rfl))
 | (go_at_call 277; refine (he _).mono ?_; rintro e wn ⟨rfl, bn⟩; have T := Hh (T.out.call bn); clear bn; obtain ⟨fc0, fc1, fc2, fc3, fc4, fc5, fc6⟩ := Zc (T.out.get 0 rfl); obtain ⟨fd0, fd1, fd2, fd3, fd4, fd5⟩ := Zf (T.out.get 1 rfl))
 | (go_at_call 278; (with_reducible refine (hs1 _ (HD.out.below T.out.below)).mono ?_); rintro e wn ⟨rfl, bn⟩; have T := Hh (T.out.call bn); clear bn; obtain ⟨fc0, fc1, fc2, fc3, fc4, fc5, fc6⟩ := Zc (T.out.get 0 rfl); obtain ⟨fd0, fd1, fd2, fd3, fd4, fd5⟩ := Zf (T.out.get 1 rfl))
 | (go_at_call 278; (with_reducible refine (hs2 _ (HD.out.below T.out.below)).mono ?_); rintro e wn ⟨rfl, bn⟩; have T := Hh (T.out.call bn); clear bn; obtain ⟨fc0, fc1, fc2, fc3, fc4, fc5, fc6⟩ := Zc (T.out.get 0 rfl); obtain ⟨fd0, fd1, fd2, fd3, fd4, fd5⟩ := Zf (T.out.get 1 rfl))
 | (go_at_call 255; refine (hsd _).mono ?_; rintro e wn ⟨rfl, bn⟩; have T := Hh (T.out.call bn); clear bn; obtain ⟨fc0, fc1, fc2, fc3, fc4, fc5, fc6⟩ := Zc (T.out.get 0 rfl); obtain ⟨fd0, fd1, fd2, fd3, fd4, fd5⟩ := Zf (T.out.get 1 rfl))
 | (go_at_call 92; refine (hou _).mono ?_; rintro e wn ⟨rfl, bn⟩; have T := Hh (T.out.call bn); clear bn; obtain ⟨fc0, fc1, fc2, fc3, fc4, fc5, fc6⟩ := Zc (T.out.get 0 rfl); obtain ⟨fd0, fd1, fd2, fd3, fd4, fd5⟩ := Zf (T.out.get 1 rfl)))
               go_ret
               exact ⟨by rw [hv]; simp [hl], T.out.below⟩
           · go_wp2_with (first
 | ((with_reducible refine Zg 2 ?_); refine wpList_boxE T.out 195 _ ([.int .i64 whn, .int .i64 st, .int .i64 ln, .int .i64 cl, .slice A rn rk, .bool false, .bool false]) rfl rfl rfl ?_; intro wn gn tn; have T := Hh tn; clear tn; obtain ⟨fc0, fc1, fc2, fc3, fc4, fc5, fc6⟩ := Zc (T.out.get 0 rfl))
 | ((with_reducible refine Zg 3 ?_); refine wpList_boxE T.out 46 _ ([.int .i64 k, .int .i64 sd, .int .i64 3, .int .i64 sln, .slice B n c1, .int .i64 pk]) rfl rfl rfl ?_; intro wn gn tn; have T := Hh tn; clear tn; obtain ⟨fc0, fc1, fc2, fc3, fc4, fc5, fc6⟩ := Zc (T.out.get 0 rfl); obtain ⟨fd0, fd1, fd2, fd3, fd4, fd5⟩ := Zf (T.out.get 1 rfl))
 | (go_at_call 277; refine (he _).mono ?_; rintro e wn ⟨rfl, bn⟩; have T := Hh (T.out.call bn); clear bn; obtain ⟨fc0, fc1, fc2, fc3, fc4, fc5, fc6⟩ := Zc (T.out.get 0 rfl); obtain ⟨fd0, fd1, fd2, fd3, fd4, fd5⟩ := Zf (T.out.get 1 rfl))
 | (go_at_call 278; (with_reducible refine (hs1 _ (HD.out.below T.out.below)).mono ?_); rintro e wn ⟨rfl, bn⟩; have T := Hh (T.out.call bn); clear bn; obtain ⟨fc0, fc1, fc2, fc3, fc4, fc5, fc6⟩ := Zc (T.out.get 0 rfl); obtain ⟨fd0, fd1, fd2, fd3, fd4, fd5⟩ := Zf (T.out.get 1 rfl))
 | (go_at_call 278; (with_reducible refine (hs2 _ (HD.out.below T.out.below)).mono ?_); rintro e wn ⟨rfl, bn⟩; have T := Hh (T.out.call bn); clear bn; obtain ⟨fc0, fc1, fc2, fc3, fc4, fc5, fc6⟩ := Zc (T.out.get 0 rfl); obtain ⟨fd0, fd1, fd2, fd3, fd4, fd5⟩ := Zf (T.out.get 1 rfl))
 | (go_at_call 255; refine (hsd _).mono ?_; rintro e wn ⟨rfl, bn⟩; have T := Hh (T.out.call bn); clear bn; obtain ⟨fc0, fc1, fc2, fc3, fc4, fc5, fc6⟩ := Zc (T.out.get 0 rfl); obtain ⟨fd0, fd1, fd2, fd3, fd4, fd5⟩ := Zf (T.out.get 1 rfl))
 | (go_at_call 92; refine (hou _).mono ?_; rintro e wn ⟨rfl, bn⟩; have T := Hh (T.out.call bn); clear bn; obtain ⟨fc0, fc1, fc2, fc3, fc4, fc5, fc6⟩ := Zc (T.out.get 0 rfl); obtain ⟨fd0, fd1, fd2, fd3, fd4, fd5⟩ := Zf (T.out.get 1 rfl)))
             go_ret
             exact ⟨by rw [hv]; simp, T.out.below⟩
         · have b3 : (wh == 3) = false := by simpa using h3
           by_cases hl : 4 < n
           · have hl2 : (4 : Int) < (n : Int) := by omega
             go_wp2_with (first
 | ((with_reducible refine Zg 2 ?_); refine wpList_boxE T.out 195 _ ([.int .i64 whn, .int .i64 st, .int .i64 ln, .int .i64 cl, .slice A rn rk, .bool false, .bool false]) rfl rfl rfl ?_; intro wn gn tn; have T := Hh tn; clear tn; obtain ⟨fc0, fc1, fc2, fc3, fc4, fc5, fc6⟩ := Zc (T.out.get 0 rfl))
 | ((with_reducible refine Zg 3 ?_); refine wpList_boxE T.out 46 _ ([.int .i64 k, .int .i64 sd, .int .i64 wh, .int .i64 sln, .slice B n c1, .int .i64 pk]) rfl rfl rfl ?_; intro wn gn tn; have T := Hh tn; clear tn; obtain ⟨fc0, fc1, fc2, fc3, fc4, fc5, fc6⟩ := Zc (T.out.get 0 rfl); obtain ⟨fd0, fd1, fd2, fd3, fd4, fd5⟩ := Zf (T.out.get 1 rfl))
 | (go_at_call 277; refine (he _).mono ?_; rintro e wn ⟨rfl, bn⟩; have T := Hh (T.out.call bn); clear bn; obtain ⟨fc0, fc1, fc2, fc3, fc4, fc5, fc6⟩ := Zc (T.out.get 0 rfl); obtain ⟨fd0, fd1, fd2, fd3, fd4, fd5⟩ := Zf (T.out.get 1 rfl))
 | (go_at_call 278; (with_reducible refine (hs1 _ (HD.out.below T.out.below)).mono ?_); rintro e wn ⟨rfl, bn⟩; have T := Hh (T.out.call bn); clear bn; obtain ⟨fc0, fc1, fc2, fc3, fc4, fc5, fc6⟩ := Zc (T.out.get 0 rfl); obtain ⟨fd0, fd1, fd2, fd3, fd4, fd5⟩ := Zf (T.out.get 1 rfl))
 | (go_at_call 278; (with_reducible refine (hs2 _ (HD.out.below T.out.below)).mono ?_); rintro e wn ⟨rfl, bn⟩; have T := Hh (T.out.call bn); clear bn; obtain ⟨fc0, fc1, fc2, fc3, fc4, fc5, fc6⟩ := Zc (T.out.get 0 rfl); obtain ⟨fd0, fd1, fd2, fd3, fd4, fd5⟩ := Zf (T.out.get 1 rfl))
 | (go_at_call 255; refine (hsd _).mono ?_; rintro e wn ⟨rfl, bn⟩; have T := Hh (T.out.call bn); clear bn; obtain ⟨fc0, fc1, fc2, fc3, fc4, fc5, fc6⟩ := Zc (T.out.get 0 rfl); obtain ⟨fd0, fd1, fd2, fd3, fd4, fd5⟩ := Zf (T.out.get 1 rfl))
 | (go_at_call 92; refine (hou _).mono ?_; rintro e wn ⟨rfl, bn⟩; have T := Hh (T.out.call bn); clear bn; obtain ⟨fc0, fc1, fc2, fc3, fc4, fc5, fc6⟩ := Zc (T.out.get 0 rfl); obtain ⟨fd0, fd1, fd2, fd3, fd4, fd5⟩ := Zf (T.out.get 1 rfl)))
             go_ret
             exact ⟨by rw [hv]; simp [h3, hl], T.out.below⟩
           · have hl2 : ¬ (4 : Int) < (n : Int) := by omega
             go_wp2_with (first
 | ((with_reducible refine Zg 2 ?_); refine wpList_boxE T.out 195 _ ([.int .i64 whn, .int .i64 st, .int .i64 ln, .int .i64 cl, .slice A rn rk, .bool false, .bool false]) rfl rfl rfl ?_; intro wn gn tn; have T := Hh tn; clear tn; obtain ⟨fc0, fc1, fc2, fc3, fc4, fc5, fc6⟩ := Zc (T.out.get 0 rfl))
 | ((with_reducible refine Zg 3 ?_); refine wpList_boxE T.out 46 _ ([.int .i64 k, .int .i64 sd, .int .i64 wh, .int .i64 sln, .slice B n c1, .int .i64 pk]) rfl rfl rfl ?_; intro wn gn tn; have T := Hh tn; clear tn; obtain ⟨fc0, fc1, fc2, fc3, fc4, fc5, fc6⟩ := Zc (T.out.get 0 rfl); obtain ⟨fd0, fd1, fd2, fd3, fd4, fd5⟩ := Zf (T.out.get 1 rfl))
 | (go_at_call 277; refine (he _).mono ?_; rintro e wn ⟨rfl, bn⟩; have T := Hh (T.out.call bn); clear bn; obtain ⟨fc0, fc1, fc2, fc3, fc4, fc5, fc6⟩ := Zc (T.out.get 0 rfl); obtain ⟨fd0, fd1, fd2, fd3, fd4, fd5⟩ := Zf (T.out.get 1 rfl))
 | (go_at_call 278; (with_reducible refine (hs1 _ (HD.out.below T.out.below)).mono ?_); rintro e wn ⟨rfl, bn⟩; have T := Hh (T.out.call bn); clear bn; obtain ⟨fc0, fc1, fc2, fc3, fc4, fc5, fc6⟩ := Zc (T.out.get 0 rfl); obtain ⟨fd0, fd1, fd2, fd3, fd4, fd5⟩ := Zf (T.out.get 1 rfl))
 | (go_at_call 278; (with_reducible refine (hs2 _ (HD.out.below T.out.below)).mono ?_); rintro e wn ⟨rfl, bn⟩; have T := Hh (T.out.call bn); clear bn; obtain ⟨fc0, fc1, fc2, fc3, fc4, fc5, fc6⟩ := Zc (T.out.get 0 rfl); obtain ⟨fd0, fd1, fd2, fd3, fd4, fd5⟩ := Zf (T.out.get 1 rfl))
 | (go_at_call 255; refine (hsd _).mono ?_; rintro e wn ⟨rfl, bn⟩; have T := Hh (T.out.call bn); clear bn; obtain ⟨fc0, fc1, fc2, fc3, fc4, fc5, fc6⟩ := Zc (T.out.get 0 rfl); obtain ⟨fd0, fd1, fd2, fd3, fd4, fd5⟩ := Zf (T.out.get 1 rfl))
 | (go_at_call 92; refine (hou _).mono ?_; rintro e wn ⟨rfl, bn⟩; have T := Hh (T.out.call bn); clear bn; obtain ⟨fc0, fc1, fc2, fc3, fc4, fc5, fc6⟩ := Zc (T.out.get 0 rfl); obtain ⟨fd0, fd1, fd2, fd3, fd4, fd5⟩ := Zf (T.out.get 1 rfl)))
             go_ret
             exact ⟨by rw [hv]; simp [h3, hl], T.out.below⟩
       · have bd : (d == 0) = false := by simpa using hd
         go_wp2_with (first
 | ((with_reducible refine Zg 2 ?_); refine wpList_boxE T.out 195 _ ([.int .i64 whn, .int .i64 st, .int .i64 ln, .int .i64 cl, .slice A rn rk, .bool false, .bool false]) rfl rfl rfl ?_; intro wn gn tn; have T := Hh tn; clear tn; obtain ⟨fc0, fc1, fc2, fc3, fc4, fc5, fc6⟩ := Zc (T.out.get 0 rfl))
 | ((with_reducible refine Zg 3 ?_); refine wpList_boxE T.out 46 _ ([.int .i64 k, .int .i64 sd, .int .i64 wh, .int .i64 sln, .slice B n c1, .int .i64 pk]) rfl rfl rfl ?_; intro wn gn tn; have T := Hh tn; clear tn; obtain ⟨fc0, fc1, fc2, fc3, fc4, fc5, fc6⟩ := Zc (T.out.get 0 rfl); obtain ⟨fd0, fd1, fd2, fd3, fd4, fd5⟩ := Zf (T.out.get 1 rfl))
 | (go_at_call 277; refine (he _).mono ?_; rintro e wn ⟨rfl, bn⟩; have T := Hh (T.out.call bn); clear bn; obtain ⟨fc0, fc1, fc2, fc3, fc4, fc5, fc6⟩ := Zc (T.out.get 0 rfl); obtain ⟨fd0, fd1, fd2, fd3, fd4, fd5⟩ := Zf (T.out.get 1 rfl))
 | (go_at_call 278; (with_reducible refine (hs1 _ (HD.out.below T.out.below)).mono ?_); rintro e wn ⟨rfl, bn⟩; have T := Hh (T.out.call bn); clear bn; obtain ⟨fc0, fc1, fc2, fc3, fc4, fc5, fc6⟩ := Zc (T.out.get 0 rfl); obtain ⟨fd0, fd1, fd2, fd3, fd4, fd5⟩ := Zf (T.out.get 1 rfl))
 | (go_at_call 278; (with_reducible refine (hs2 _ (HD.out.below T.out.below)).mono ?_); rintro e wn ⟨rfl, bn⟩; have T := Hh (T.out.call bn); clear bn; obtain ⟨fc0, fc1, fc2, fc3, fc4, fc5, fc6⟩ := Zc (T.out.get 0 rfl); obtain ⟨fd0, fd1, fd2, fd3, fd4, fd5⟩ := Zf (T.out.get 1 rfl))
 | (go_at_call 255; refine (hsd _).mono ?_; rintro e wn ⟨rfl, bn⟩; have T := Hh (T.out.call bn); clear bn; obtain ⟨fc0, fc1, fc2, fc3, fc4, fc5, fc6⟩ := Zc (T.out.get 0 rfl); obtain ⟨fd0, fd1, fd2, fd3, fd4, fd5⟩ := Zf (T.out.get 1 rfl))
 | (go_at_call 92; refine (hou _).mono ?_; rintro e wn ⟨rfl, bn⟩; have T := Hh (T.out.call bn); clear bn; obtain ⟨fc0, fc1, fc2, fc3, fc4, fc5, fc6⟩ := Zc (T.out.get 0 rfl); obtain ⟨fd0, fd1, fd2, fd3, fd4, fd5⟩ := Zf (T.out.get 1 rfl)))
         go_ret
         exact ⟨by rw [hv]; simp [hd], T.out.below⟩
     · cases s2
       · by_cases hd : d = 0
         · subst hd
           by_cases h3 : wh = 3
           · subst h3
             cases ou
             · by_cases hl : 4 < n
               · have hl2 : (4 : Int) < (n : Int) := by omega
                 go_wp2_with (first
 | ((with_reducible refine Zg 2 ?_); refine wpList_boxE T.out 195 _ ([.int .i64 whn, .int .i64 st, .int .i64 ln, .int .i64 cl, .slice A rn rk, .bool true, .bool false]) rfl rfl rfl ?_; intro wn gn tn; have T := Hh tn; clear tn; obtain ⟨fc0, fc1, fc2, fc3, fc4, fc5, fc6⟩ := Zc (T.out.get 0 rfl))
 | ((with_reducible refine Zg 3 ?_); refine wpList_boxE T.out 46 _ ([.int .i64 k, .int .i64 sd, .int .i64 3, .int .i64 sln, .slice B n c1, .int .i64 pk]) rfl rfl rfl ?_; intro wn gn tn; have T := Hh tn; clear tn; obtain ⟨fc0, fc1, fc2, fc3, fc4, fc5, fc6⟩ := Zc (T.out.get 0 rfl); obtain ⟨fd0, fd1, fd2, fd3, fd4, fd5⟩ := Zf (T.out.get 1 rfl))
 | (go_at_call 277; refine (he _).mono ?_; rintro e wn ⟨rfl, bn⟩; have T := Hh (T.out.call bn); clear bn; obtain ⟨fc0, fc1, fc2, fc3, fc4, fc5, fc6⟩ := Zc (T.out.get 0 rfl); obtain ⟨fd0, fd1, fd2, fd3, fd4, fd5⟩ := Zf (T.out.get 1 rfl))
 | (go_at_call 278; (with_reducible refine (hs1 _ (HD.out.below T.out.below)).mono ?_); rintro e wn ⟨rfl, bn⟩; have T := Hh (T.out.call bn); clear bn; obtain ⟨fc0, fc1, fc2, fc3, fc4, fc5, fc6⟩ := Zc (T.out.get 0 rfl); obtain ⟨fd0, fd1, fd2, fd3, fd4, fd5⟩ := Zf (T.out.get 1 rfl))
 | (go_at_call 278; (with_reducible refine (hs2 _ (HD.out.below T.out.below)).mono ?_); rintro e wn ⟨rfl, bn⟩; have T := Hh (T.out.call bn); clear bn; obtain ⟨fc0, fc1, fc2, fc3, fc4, fc5, fc6⟩ := Zc (T.out.get 0 rfl); obtain ⟨fd0, fd1, fd2, fd3, fd4, fd5⟩ := Zf (T.out.get 1 rfl))
 | (go_at_call 255; refine (hsd _).mono ?_; rintro e wn ⟨rfl, bn⟩; have T := Hh (T.out.call bn); clear bn; obtain ⟨fc0, fc1, fc2, fc3, fc4, fc5, fc6⟩ := Zc (T.out.get 0 rfl); obtain ⟨fd0, fd1, fd2, fd3, fd4, fd5⟩ := Zf (T.out.get 1 rfl))
 | (go_at_call 92; refine (hou _).mono ?_; rintro e wn ⟨rfl, bn⟩; have T := Hh (T.out.call bn); clear bn; obtain ⟨fc0, fc1, fc2, fc3, fc4, fc5, fc6⟩ := Zc (T.out.get 0 rfl); obtain ⟨fd0, fd1, fd2, fd3, fd4, fd5⟩ := Zf (T.out.get 1 rfl)))
                 go_ret
                 exact ⟨by rw [hv]; simp [hl], T.out.below⟩
               · have hl2 : ¬ (4 : Int) < (n : Int) := by omega
                 go_wp2_with (first
 | ((with_reducible refine Zg 2 ?_); refine wpList_boxE T.out 195 _ ([.int .i64 whn, .int .i64 st, .int .i64 ln, .int .i64 cl, .slice A rn rk, .bool true, .bool false]) rfl rfl rfl ?_; intro wn gn tn; have T := Hh tn; clear tn; obtain ⟨fc0, fc1, fc2, fc3, fc4, fc5, fc6⟩ := Zc (T.out.get 0 rfl))
 | ((with_reducible refine Zg 3 ?_); refine wpList_boxE T.out 46 _ ([.int .i64 k, .int .i64 sd, .int .i64 3, .int .i64 sln, .slice B n c1, .int .i64 pk]) rfl rfl rfl ?_; intro wn gn tn; have T := Hh tn; clear tn; obtain ⟨fc0, fc1, fc2, fc3, fc4, fc5, fc6⟩ := Zc (T.out.get 0 rfl); obtain ⟨fd0, fd1, fd2, fd3, fd4, fd5⟩ := Zf (T.out.get 1 rfl))
 | (go_at_call 277; refine (he _).mono ?_; rintro e wn ⟨rfl, bn⟩; have T := Hh (T.out.call bn); clear bn; obtain ⟨fc0, fc1, fc2, fc3, fc4, fc5, fc6⟩ := Zc (T.out.get 0 rfl); obtain ⟨fd0, fd1, fd2, fd3, fd4, fd5⟩ := Zf (T.out.get 1 rfl))
 | (go_at_call 278; (with_reducible refine (hs1 _ (HD.out.below T.out.below)).mono ?_); rintro e wn ⟨rfl, bn⟩; have T := Hh (T.out.call bn); clear bn; obtain ⟨fc0, fc1, fc2, fc3, fc4, fc5, fc6⟩ := Zc (T.out.get 0 rfl); obtain ⟨fd0, fd1, fd2, fd3, fd4, fd5⟩ := Zf (T.out.get 1 rfl))
 | (go_at_call 278; (with_reducible refine (hs2 _ (HD.out.below T.out.below)).mono ?_); rintro e wn ⟨rfl, bn⟩; have T := Hh (T.out.call bn); clear bn; obtain ⟨fc0, fc1, fc2, fc3, fc4, fc5, fc6⟩ := Zc (T.out.get 0 rfl); obtain ⟨fd0, fd1, fd2, fd3, fd4, fd5⟩ := Zf (T.out.get 1 rfl))
 | (go_at_call 255; refine (hsd _).mono ?_; rintro e wn ⟨rfl, bn⟩; have T := Hh (T.out.call bn); clear bn; obtain ⟨fc0, fc1, fc2, fc3, fc4, fc5, fc6⟩ := Zc (T.out.get 0 rfl); obtain ⟨fd0, fd1, fd2, fd3, fd4, fd5⟩ := Zf (T.out.get 1 rfl))
 | (go_at_call 92; refine (hou _).mono ?_; rintro e wn ⟨rfl, bn⟩; have T := Hh (T.out.call bn); clear bn; obtain ⟨fc0, fc1, fc2, fc3, fc4, fc5, fc6⟩ := Zc (T.out.get 0 rfl); obtain ⟨fd0, fd1, fd2, fd3, fd4, fd5⟩ := Zf (T.out.get 1 rfl)))
                 go_ret
                 exact ⟨by rw [hv]; simp [hl], T.out.below⟩
             · go_wp2_with (first
 | ((with_reducible refine Zg 2 ?_); refine wpList_boxE T.out 195 _ ([.int .i64 whn, .int .i64 st, .int .i64 ln, .int .i64 cl, .slice A rn rk, .bool true, .bool false]) rfl rfl rfl ?_; intro wn gn tn; have T := Hh tn; clear tn; obtain ⟨fc0, fc1, fc2, fc3, fc4, fc5, fc6⟩ := Zc (T.out.get 0 rfl))
 | ((with_reducible refine Zg 3 ?_); refine wpList_boxE T.out 46 _ ([.int .i64 k, .int .i64 sd, .int .i64 3, .int .i64 sln, .slice B n c1, .int .i64 pk]) rfl rfl rfl ?_; intro wn gn tn; have T := Hh tn; clear tn; obtain ⟨fc0, fc1, fc2, fc3, fc4, fc5, fc6⟩ := Zc (T.out.get 0 rfl); obtain ⟨fd0, fd1, fd2, fd3, fd4, fd5⟩ := Zf (T.out.get 1 rfl))
 | (go_at_call 277; refine (he _).mono ?_; rintro e wn ⟨rfl, bn⟩; have T := Hh (T.out.call bn); clear bn; obtain ⟨fc0, fc1, fc2, fc3, fc4, fc5, fc6⟩ := Zc (T.out.get 0 rfl); obtain ⟨fd0, fd1, fd2, fd3, fd4, fd5⟩ := Zf (T.out.get 1 rfl))
 | (go_at_call 278; (with_reducible refine (hs1 _ (HD.out.below T.out.below)).mono ?_); rintro e wn ⟨rfl, bn⟩; have T := Hh (T.out.call bn); clear bn; obtain ⟨fc0, fc1, fc2, fc3, fc4, fc5, fc6⟩ := Zc (T.out.get 0 rfl); obtain ⟨fd0, fd1, fd2, fd3, fd4, fd5⟩ := Zf (T.out.get 1 rfl))
 | (go_at_call 278; (with_reducible refine (hs2 _ (HD.out.below T.out.below)).mono ?_); rintro e wn ⟨rfl, bn⟩; have T := Hh (T.out.call bn); clear bn; obtain ⟨fc0, fc1, fc2, fc3, fc4, fc5, fc6⟩ := Zc (T.out.get 0 rfl); obtain ⟨fd0, fd1, fd2, fd3, fd4, fd5⟩ := Zf (T.out.get 1 rfl))
 | (go_at_call 255; refine (hsd _).mono ?_; rintro e wn ⟨rfl, bn⟩; have T := Hh (T.out.call bn); clear bn; obtain ⟨fc0, fc1, fc2, fc3, fc4, fc5, fc6⟩ := Zc (T.out.get 0 rfl); obtain ⟨fd0, fd1, fd2, fd3, fd4, fd5⟩ := Zf (T.out.get 1 rfl))
 | (go_at_call 92; refine (hou _).mono ?_; rintro e wn ⟨rfl, bn⟩; have T := Hh (T.out.call bn); clear bn; obtain ⟨fc0, fc1, fc2, fc3, fc4, fc5, fc6⟩ := Zc (T.out.get 0 rfl); obtain ⟨fd0, fd1, fd2, fd3, fd4, fd5⟩ := Zf (T.out.get 1 rfl)))
               go_ret
               exact ⟨by rw [hv]; simp, T.out.below⟩
           · have b3 : (wh == 3) = false := by simpa using h3
             by_cases hl : 4 < n
             · have hl2 : (4 : Int) < (n : Int) := by omega
               go_wp2_with (first
 | ((with_reducible refine Zg 2 ?_); refine wpList_boxE T.out 195 _ ([.int .i64 whn, .int .i64 st, .int .i64 ln, .int .i64 cl, .slice A rn rk, .bool true, .bool false]) rfl rfl rfl ?_; intro wn gn tn; have T := Hh tn; clear tn; obtain ⟨fc0, fc1, fc2, fc3, fc4, fc5, fc6⟩ := Zc (T.out.get 0 rfl))
 | ((with_reducible refine Zg 3 ?_); refine wpList_boxE T.out 46 _ ([.int .i64 k, .int .i64 sd, .int .i64 wh, .int .i64 sln, .slice B n c1, .int .i64 pk]) rfl rfl rfl ?_; intro wn gn tn; have T := Hh tn; clear tn; obtain ⟨fc0, fc1, fc2, fc3, fc4, fc5, fc6⟩ := Zc (T.out.get 0 rfl); obtain ⟨fd0, fd1, fd2, fd3, fd4, fd5⟩ := Zf (T.out.get 1 rfl))
 | (go_at_call 277; refine (he _).mono ?_; rintro e wn ⟨rfl, bn⟩; have T := Hh (T.out.call bn); clear bn; obtain ⟨fc0, fc1, fc2, fc3, fc4, fc5, fc6⟩ := Zc (T.out.get 0 rfl); obtain ⟨fd0, fd1, fd2, fd3, fd4, fd5⟩ := Zf (T.out.get 1 rfl))
 | (go_at_call 278; (with_reducible refine (hs1 _ (HD.out.below T.out.below)).mono ?_); rintro e wn ⟨rfl, bn⟩; have T := Hh (T.out.call bn); clear bn; obtain ⟨fc0, fc1, fc2, fc3, fc4, fc5, fc6⟩ := Zc (T.out.get 0 rfl); obtain ⟨fd0, fd1, fd2, fd3, fd4, fd5⟩ := Zf (T.out.get 1 rfl))
 | (go_at_call 278; (with_reducible refine (hs2 _ (HD.out.below T.out.below)).mono ?_); rintro e wn ⟨rfl, bn⟩; have T := Hh (T.out.call bn); clear bn; obtain ⟨fc0, fc1, fc2, fc3, fc4, fc5, fc6⟩ := Zc (T.out.get 0 rfl); obtain ⟨fd0, fd1, fd2, fd3, fd4, fd5⟩ := Zf (T.out.get 1 rfl))
 | (go_at_call 255; refine (hsd _).mono ?_; rintro e wn ⟨rfl, bn⟩; have T := Hh (T.out.call bn); clear bn; obtain ⟨fc0, fc1, fc2, fc3, fc4, fc5, fc6⟩ := Zc (T.out.get 0 rfl); obtain ⟨fd0, fd1, fd2, fd3, fd4, fd5⟩ := Zf (T.out.get 1 rfl))
 | (go_at_call 92; refine (hou _).mono ?_; rintro e wn ⟨rfl, bn⟩; have T := Hh (T.out.call bn); clear bn; obtain ⟨fc0, fc1, fc2, fc3, fc4, fc5, fc6⟩ := Zc (T.out.get 0 rfl); obtain ⟨fd0, fd1, fd2, fd3, fd4, fd5⟩ := Zf (T.out.get 1 rfl)))
               go_ret
               exact ⟨by rw [hv]; simp [h3, hl], T.out.below⟩
             · have hl2 : ¬ (4 : Int) < (n : Int) := by omega
               go_wp2_with (first
 | ((with_reducible refine Zg 2 ?_); refine wpList_boxE T.out 195 _ ([.int .i64 whn, .int .i64 st, .int .i64 ln, .int .i64 cl, .slice A rn rk, .bool true, .bool false]) rfl rfl rfl ?_; intro wn gn tn; have T := Hh tn; clear tn; obtain ⟨fc0, fc1, fc2, fc3, fc4, fc5, fc6⟩ := Zc (T.out.get 0 rfl))
 | ((with_reducible refine Zg 3 ?_); refine wpList_boxE T.out 46 _ ([.int .i64 k, .int .i64 sd, .int .i64 wh, .int .i64 sln, .slice B n c1, .int .i64 pk]) rfl rfl rfl ?_; intro wn gn tn; have T := Hh tn; clear tn; obtain ⟨fc0, fc1, fc2, fc3, fc4, fc5, fc6⟩ := Zc (T.out.get 0 rfl); obtain ⟨fd0, fd1, fd2, fd3, fd4, fd5⟩ := Zf (T.out.get 1 rfl))
 | (go_at_call 277; refine (he _).mono ?_; rintro e wn ⟨rfl, bn⟩; have T := Hh (T.out.call bn); clear bn; obtain ⟨fc0, fc1, fc2, fc3, fc4, fc5, fc6⟩ := Zc (T.out.get 0 rfl); obtain ⟨fd0, fd1, fd2, fd3, fd4, fd5⟩ := Zf (T.out.get 1 rfl))
 | (go_at_call 278; (with_reducible refine (hs1 _ (HD.out.below T.out.below)).mono ?_); rintro e wn ⟨rfl, bn⟩; have T := Hh (T.out.call bn); clear bn; obtain ⟨fc0, fc1, fc2, fc3, fc4, fc5, fc6⟩ := Zc (T.out.get 0 rfl); obtain ⟨fd0, fd1, fd2, fd3, fd4, fd5⟩ := Zf (T.out.get 1 rfl))
 | (go_at_call 278; (with_reducible refine (hs2 _ (HD.out.below T.out.below)).mono ?_); rintro e wn ⟨rfl, bn⟩; have T := Hh (T.out.call bn); clear bn; obtain ⟨fc0, fc1, fc2, fc3, fc4, fc5, fc6⟩ := Zc (T.out.get 0 rfl); obtain ⟨fd0, fd1, fd2, fd3, fd4, fd5⟩ := Zf (T.out.get 1 rfl))
 | (go_at_call 255; refine (hsd _).mono ?_; rintro e wn ⟨rfl, bn⟩; have T := Hh (T.out.call bn); clear bn; obtain ⟨fc0, fc1, fc2, fc3, fc4, fc5, fc6⟩ := Zc (T.out.get 0 rfl); obtain ⟨fd0, fd1, fd2, fd3, fd4, fd5⟩ := Zf (T.out.get 1 rfl))
 | (go_at_call 92; refine (hou _).mono ?_; rintro e wn ⟨rfl, bn⟩; have T := Hh (T.out.call bn); clear bn; obtain ⟨fc0, fc1, fc2, fc3, fc4, fc5, fc6⟩ := Zc (T.out.get 0 rfl); obtain ⟨fd0, fd1, fd2, fd3, fd4, fd5⟩ := Zf (T.out.get 1 rfl)))
               go_ret
               exact ⟨by rw [hv]; simp [h3, hl], T.out.below⟩
         · have bd : (d == 0) = false := by simpa using hd
           go_wp2_with (first
 | ((with_reducible refine Zg 2 ?_); refine wpList_boxE T.out 195 _ ([.int .i64 whn, .int .i64 st, .int .i64 ln, .int .i64 cl, .slice A rn rk, .bool true, .bool false]) rfl rfl rfl ?_; intro wn gn tn; have T := Hh tn; clear tn; obtain ⟨fc0, fc1, fc2, fc3, fc4, fc5, fc6⟩ := Zc (T.out.get 0 rfl))
 | ((with_reducible refine Zg 3 ?_); refine wpList_boxE T.out 46 _ ([.int .i64 k, .int .i64 sd, .int .i64 wh, .int .i64 sln, .slice B n c1, .int .i64 pk]) rfl rfl rfl ?_; intro wn gn tn; have T := Hh tn; clear tn; obtain ⟨fc0, fc1, fc2, fc3, fc4, fc5, fc6⟩ := Zc (T.out.get 0 rfl); obtain ⟨fd0, fd1, fd2, fd3, fd4, fd5⟩ := Zf (T.out.get 1 rfl))
 | (go_at_call 277; refine (he _).mono ?_; rintro e wn ⟨rfl, bn⟩; have T := Hh (T.out.call bn); clear bn; obtain ⟨fc0, fc1, fc2, fc3, fc4, fc5, fc6⟩ := Zc (T.out.get 0 rfl); obtain ⟨fd0, fd1, fd2, fd3, fd4, fd5⟩ := Zf (T.out.get 1 rfl))
 | (go_at_call 278; (with_reducible refine (hs1 _ (HD.out.below T.out.below)).mono ?_); rintro e wn ⟨rfl, bn⟩; have T := Hh (T.out.call bn); clear bn; obtain ⟨fc0, fc1, fc2, fc3, fc4, fc5, fc6⟩ := Zc (T.out.get 0 rfl); obtain ⟨fd0, fd1, fd2, fd3, fd4, fd5⟩ := Zf (T.out.get 1 rfl))
 | (go_at_call 278; (with_reducible refine (hs2 _ (HD.out.below T.out.below)).mono ?_); rintro e wn ⟨rfl, bn⟩; have T := Hh (T.out.call bn); clear bn; obtain ⟨fc0, fc1, fc2, fc3, fc4, fc5, fc6⟩ := Zc (T.out.get 0 rfl); obtain ⟨fd0, fd1, fd2, fd3, fd4, fd5⟩ := Zf (T.out.get 1 rfl))
 | (go_at_call 255; refine (hsd _).mono ?_; rintro e wn ⟨rfl, bn⟩; have T := Hh (T.out.call bn); clear bn; obtain ⟨fc0, fc1, fc2, fc3, fc4, fc5, fc6⟩ := Zc (T.out.get 0 rfl); obtain ⟨fd0, fd1, fd2, fd3, fd4, fd5⟩ := Zf (T.out.get 1 rfl))
 | (go_at_call 92; refine (hou _).mono ?_; rintro e wn ⟨rfl, bn⟩; have T := Hh (T.out.call bn); clear bn; obtain ⟨fc0, fc1, fc2, fc3, fc4, fc5, fc6⟩ := Zc (T.out.get 0 rfl); obtain ⟨fd0, fd1, fd2, fd3, fd4, fd5⟩ := Zf (T.out.get 1 rfl)))
           go_ret
           exact ⟨by rw [hv]; simp [hd], T.out.below⟩
       · go_wp2_with (first
 | ((with_reducible refine Zg 2 ?_); refine wpList_boxE T.out 195 _ ([.int .i64 whn, .int .i64 st, .int .i64 ln, .int .i64 cl, .slice A rn rk, .bool true, .bool false]) rfl rfl rfl ?_; intro wn gn tn; have T := Hh tn; clear tn; obtain ⟨fc0, fc1, fc2, fc3, fc4, fc5, fc6⟩ := Zc (T.out.get 0 rfl))
 | ((with_reducible refine Zg 3 ?_); refine wpList_boxE T.out 46 _ ([.int .i64 k, .int .i64 sd, .int .i64 wh, .int .i64 sln, .slice B n c1, .int .i64 pk]) rfl rfl rfl ?_; intro wn gn tn; have T := Hh tn; clear tn; obtain ⟨fc0, fc1, fc2, fc3, fc4, fc5, fc6⟩ := Zc (T.out.get 0 rfl); obtain ⟨fd0, fd1, fd2, fd3, fd4, fd5⟩ := Zf (T.out.get 1 rfl))
 | (go_at_call 277; refine (he _).mono ?_; rintro e wn ⟨rfl, bn⟩; have T := Hh (T.out.call bn); clear bn; obtain ⟨fc0, fc1, fc2, fc3, fc4, fc5, fc6⟩ := Zc (T.out.get 0 rfl); obtain ⟨fd0, fd1, fd2, fd3, fd4, fd5⟩ := Zf (T.out.get 1 rfl))
 | (go_at_call 278; (with_reducible refine (hs1 _ (HD.out.below T.out.below)).mono ?_); rintro e wn ⟨rfl, bn⟩; have T := Hh (T.out.call bn); clear bn; obtain ⟨fc0, fc1, fc2, fc3, fc4, fc5, fc6⟩ := Zc (T.out.get 0 rfl); obtain ⟨fd0, fd1, fd2, fd3, fd4, fd5⟩ := Zf (T.out.get 1 rfl))
 | (go_at_call 278; (with_reducible refine (hs2 _ (HD.out.below T.out.below)).mono ?_); rintro e wn ⟨rfl, bn⟩; have T := Hh (T.out.call bn); clear bn; obtain ⟨fc0, fc1, fc2, fc3, fc4, fc5, fc6⟩ := Zc (T.out.get 0 rfl); obtain ⟨fd0, fd1, fd2, fd3, fd4, fd5⟩ := Zf (T.out.get 1 rfl))
 | (go_at_call 255; refine (hsd _).mono ?_; rintro e wn ⟨rfl, bn⟩; have T := Hh (T.out.call bn); clear bn; obtain ⟨fc0, fc1, fc2, fc3, fc4, fc5, fc6⟩ := Zc (T.out.get 0 rfl); obtain ⟨fd0, fd1, fd2, fd3, fd4, fd5⟩ := Zf (T.out.get 1 rfl))
 | (go_at_call 92; refine (hou _).mono ?_; rintro e wn ⟨rfl, bn⟩; have T := Hh (T.out.call bn); clear bn; obtain ⟨fc0, fc1, fc2, fc3, fc4, fc5, fc6⟩ := Zc (T.out.get 0 rfl); obtain ⟨fd0, fd1, fd2, fd3, fd4, fd5⟩ := Zf (T.out.get 1 rfl)))
         go_ret
         exact ⟨by rw [hv]; simp, T.out.below⟩
 · cases pl
   · by_cases hd : d = 0
     · subst hd
       by_cases h3 : wh = 3
       · subst h3
         cases ou
         · by_cases hl : 4 < n
           · have hl2 : (4 : Int) < (n : Int) := by omega
             go_wp2_with (first
 | ((with_reducible refine Zg 2 ?_); refine wpList_boxE T.out 195 _ ([.int .i64 whn, .int .i64 st, .int .i64 ln, .int .i64 cl, .slice A rn rk, .bool false, .bool true]) rfl rfl rfl ?_; intro wn gn tn; have T := Hh tn; clear tn; obtain ⟨fc0, fc1, fc2, fc3, fc4, fc5, fc6⟩ := Zc (T.out.get 0 rfl))
 | ((with_reducible refine Zg 3 ?_); refine wpList_boxE T.out 46 _ ([.int .i64 k, .int .i64 sd, .int .i64 3, .int .i64 sln, .slice B n c1, .int .i64 pk]) rfl rfl rfl ?_; intro wn gn tn; have T := Hh tn; clear tn; obtain ⟨fc0, fc1, fc2, fc3, fc4, fc5, fc6⟩ := Zc (T.out.get 0 rfl); obtain ⟨fd0, fd1, fd2, fd3, fd4, fd5⟩ := Zf (T.out.get 1 rfl))
 | (go_at_call 277; refine (he _).mono ?_; rintro e wn ⟨rfl, bn⟩; have T := Hh (T.out.call bn); clear bn; obtain ⟨fc0, fc1, fc2, fc3, fc4, fc5, fc6⟩ := Zc (T.out.get 0 rfl); obtain ⟨fd0, fd1, fd2, fd3, fd4, fd5⟩ := Zf (T.out.get 1 rfl))
 | (go_at_call 278; (with_reducible refine (hs1 _ (HD.out.below T.out.below)).mono ?_); rintro e wn ⟨rfl, bn⟩; have T := Hh (T.out.call bn); clear bn; obtain ⟨fc0, fc1, fc2, fc3, fc4, fc5, fc6⟩ := Zc (T.out.get 0 rfl); obtain ⟨fd0, fd1, fd2, fd3, fd4, fd5⟩ := Zf (T.out.get 1 rfl))
 | (go_at_call 278; (with_reducible refine (hs2 _ (HD.out.below T.out.below)).mono ?_); rintro e wn ⟨rfl, bn⟩; have T := Hh (T.out.call bn); clear bn; obtain ⟨fc0, fc1, fc2, fc3, fc4, fc5, fc6⟩ := Zc (T.out.get 0 rfl); obtain ⟨fd0, fd1, fd2, fd3, fd4, fd5⟩ := Zf (T.out.get 1 rfl))
 | (go_at_call 255; refine (hsd _).mono ?_; rintro e wn ⟨rfl, bn⟩; have T := Hh (T.out.call bn); clear bn; obtain ⟨fc0, fc1, fc2, fc3, fc4, fc5, fc6⟩ := Zc (T.out.get 0 rfl); obtain ⟨fd0, fd1, fd2, fd3, fd4, fd5⟩ := Zf (T.out.get 1 rfl))
 | (go_at_call 92; refine (hou _).mono ?_; rintro e wn ⟨rfl, bn⟩; have T := Hh (T.out.call bn); clear bn; obtain ⟨fc0, fc1, fc2, fc3, fc4, fc5, fc6⟩ := Zc (T.out.get 0 rfl); obtain ⟨fd0, fd1, fd2, fd3, fd4, fd5⟩ := Zf (T.out.get 1 rfl)))
             go_ret
             exact ⟨by rw [hv]; simp [hl], T.out.below⟩
           · have hl2 : ¬ (4 : Int) < (n : Int) := by omega
             go_wp2_with (first
 | ((with_reducible refine Zg 2 ?_); refine wpList_boxE T.out 195 _ ([.int .i64 whn, .int .i64 st, .int .i64 ln, .int .i64 cl, .slice A rn rk, .bool false, .bool true]) rfl rfl rfl ?_; intro wn gn tn; have T := Hh tn; clear tn; obtain ⟨fc0, fc1, fc2, fc3, fc4, fc5, fc6⟩ := Zc (T.out.get 0 rfl))
 | ((with_reducible refine Zg 3 ?_); refine wpList_boxE T.out 46 _ ([.int .i64 k, .int .i64 sd, .int .i64 3, .int .i64 sln, .slice B n c1, .int .i64 pk]) rfl rfl rfl ?_; intro wn gn tn; have T := Hh tn; clear tn; obtain ⟨fc0, fc1, fc2, fc3, fc4, fc5, fc6⟩ := Zc (T.out.get 0 rfl); obtain ⟨fd0, fd1, fd2, fd3, fd4, fd5⟩ := Zf (T.out.get 1 rfl))
 | (go_at_call 277; refine (he _).mono ?_; rintro e wn ⟨rfl, bn⟩; have T := Hh (T.out.call bn); clear bn; obtain ⟨fc0, fc1, fc2, fc3, fc4, fc5, fc6⟩ := Zc (T.out.get 0 rfl); obtain ⟨fd0, fd1, fd2, fd3, fd4, fd5⟩ := Zf (T.out.get 1 rfl))
 | (go_at_call 278; (with_reducible refine (hs1 _ (HD.out.below T.out.below)).mono ?_); rintro e wn ⟨rfl, bn⟩; have T := Hh (T.out.call bn); clear bn; obtain ⟨fc0, fc1, fc2, fc3, fc4, fc5, fc6⟩ := Zc (T.out.get 0 rfl); obtain ⟨fd0, fd1, fd2, fd3, fd4, fd5⟩ := Zf (T.out.get 1 rfl))
 | (go_at_call 278; (with_reducible refine (hs2 _ (HD.out.below T.out.below)).mono ?_); rintro e wn ⟨rfl, bn⟩; have T := Hh (T.out.call bn); clear bn; obtain ⟨fc0, fc1, fc2, fc3, fc4, fc5, fc6⟩ := Zc (T.out.get 0 rfl); obtain ⟨fd0, fd1, fd2, fd3, fd4, fd5⟩ := Zf (T.out.get 1 rfl))
 | (go_at_call 255; refine (hsd _).mono ?_; rintro e wn ⟨rfl, bn⟩; have T := Hh (T.out.call bn); clear bn; obtain ⟨fc0, fc1, fc2, fc3, fc4, fc5, fc6⟩ := Zc (T.out.get 0 rfl); obtain ⟨fd0, fd1, fd2, fd3, fd4, fd5⟩ := Zf (T.out.get 1 rfl))
 | (go_at_call 92; refine (hou _).mono ?_; rintro e wn ⟨rfl, bn⟩; have T := Hh (T.out.call bn); clear bn; obtain ⟨fc0, fc1, fc2, fc3, fc4, fc5, fc6⟩ := Zc (T.out.get 0 rfl); obtain ⟨fd0, fd1, fd2, fd3, fd4, fd5⟩ := Zf (T.out.get 1 rfl)))
             go_ret
             exact ⟨by rw [hv]; simp [hl], T.out.below⟩
         · go_wp2_with (first
 | ((with_reducible refine Zg 2 ?_); refine wpList_boxE T.out 195 _ ([.int .i64 whn, .int .i64 st, .int .i64 ln, .int .i64 cl, .slice A rn rk, .bool false, .bool true]) rfl rfl rfl ?_; intro wn gn tn; have T := Hh tn; clear tn; obtain ⟨fc0, fc1, fc2, fc3, fc4, fc5, fc6⟩ := Zc (T.out.get 0 rfl))
 | ((with_reducible refine Zg 3 ?_); refine wpList_boxE T.out 46 _ ([.int .i64 k, .int .i64 sd, .int .i64 3, .int .i64 sln, .slice B n c1, .int .i64 pk]) rfl rfl rfl ?_; intro wn gn tn; have T := Hh tn; clear tn; obtain ⟨fc0, fc1, fc2, fc3, fc4, fc5, fc6⟩ := Zc (T.out.get 0 rfl); obtain ⟨fd0, fd1, fd2, fd3, fd4, fd5⟩ := Zf (T.out.get 1 rfl))
 | (go_at_call 277; refine (he _).mono ?_; rintro e wn ⟨rfl, bn⟩; have T := Hh (T.out.call bn); clear bn; obtain ⟨fc0, fc1, fc2, fc3, fc4, fc5, fc6⟩ := Zc (T.out.get 0 rfl); obtain ⟨fd0, fd1, fd2, fd3, fd4, fd5⟩ := Zf (T.out.get 1 rfl))
 | (go_at_call 278; (with_reducible refine (hs1 _ (HD.out.below T.out.below)).mono ?_); rintro e wn ⟨rfl, bn⟩; have T := Hh (T.out.call bn); clear bn; obtain ⟨fc0, fc1, fc2, fc3, fc4, fc5, fc6⟩ := Zc (T.out.get 0 rfl); obtain ⟨fd0, fd1, fd2, fd3, fd4, fd5⟩ := Zf (T.out.get 1 rfl))
 | (go_at_call 278; (with_reducible refine (hs2 _ (HD.out.below T.out.below)).mono ?_); rintro e wn ⟨rfl, bn⟩; have T := Hh (T.out.call bn); clear bn; obtain ⟨fc0, fc1, fc2, fc3, fc4, fc5, fc6⟩ := Zc (T.out.get 0 rfl); obtain ⟨fd0, fd1, fd2, fd3, fd4, fd5⟩ := Zf (T.out.get 1 rfl))
 | (go_at_call 255; refine (hsd _).mono ?_; rintro e wn ⟨rfl, bn⟩; have T := Hh (T.out.call bn); clear bn; obtain ⟨fc0, fc1, fc2, fc3, fc4, fc5, fc6⟩ := Zc (T.out.get 0 rfl); obtain ⟨fd0, fd1, fd2, fd3, fd4, fd5⟩ := Zf (T.out.get 1 rfl))
 | (go_at_call 92; refine (hou _).mono ?_; rintro e wn ⟨rfl, bn⟩; have T := Hh (T.out.call bn); clear bn; obtain ⟨fc0, fc1, fc2, fc3, fc4, fc5, fc6⟩ := Zc (T.out.get 0 rfl); obtain ⟨fd0, fd1, fd2, fd3, fd4, fd5⟩ := Zf (T.out.get 1 rfl)))
           go_ret
           exact ⟨by rw [hv]; simp, T.out.below⟩
       · have b3 : (wh == 3) = false := by simpa using h3
         by_cases hl : 4 < n
         · have hl2 : (4 : Int) < (n : Int) := by omega
           go_wp2_with (first
 | ((with_reducible refine Zg 2 ?_); refine wpList_boxE T.out 195 _ ([.int .i64 whn, .int .i64 st, .int .i64 ln, .int .i64 cl, .slice A rn rk, .bool false, .bool true]) rfl rfl rfl ?_; intro wn gn tn; have T := Hh tn; clear tn; obtain ⟨fc0, fc1, fc2, fc3, fc4, fc5, fc6⟩ := Zc (T.out.get 0 rfl))
 | ((with_reducible refine Zg 3 ?_); refine wpList_boxE T.out 46 _ ([.int .i64 k, .int .i64 sd, .int .i64 wh, .int .i64 sln, .slice B n c1, .int .i64 pk]) rfl rfl rfl ?_; intro wn gn tn; have T := Hh tn; clear tn; obtain ⟨fc0, fc1, fc2, fc3, fc4, fc5, fc6⟩ := Zc (T.out.get 0 rfl); obtain ⟨fd0, fd1, fd2, fd3, fd4, fd5⟩ := Zf (T.out.get 1 rfl))
 | (go_at_call 277; refine (he _).mono ?_; rintro e wn ⟨rfl, bn⟩; have T := Hh (T.out.call bn); clear bn; obtain ⟨fc0, fc1, fc2, fc3, fc4, fc5, fc6⟩ := Zc (T.out.get 0 rfl); obtain ⟨fd0, fd1, fd2, fd3, fd4, fd5⟩ := Zf (T.out.get 1 rfl))
 | (go_at_call 278; (with_reducible refine (hs1 _ (HD.out.below T.out.below)).mono ?_); rintro e wn ⟨rfl, bn⟩; have T := Hh (T.out.call bn); clear bn; obtain ⟨fc0, fc1, fc2, fc3, fc4, fc5, fc6⟩ := Zc (T.out.get 0 rfl); obtain ⟨fd0, fd1, fd2, fd3, fd4, fd5⟩ := Zf (T.out.get 1 rfl))
 | (go_at_call 278; (with_reducible refine (hs2 _ (HD.out.below T.out.below)).mono ?_); rintro e wn ⟨rfl, bn⟩; have T := Hh (T.out.call bn); clear bn; obtain ⟨fc0, fc1, fc2, fc3, fc4, fc5, fc6⟩ := Zc (T.out.get 0 rfl); obtain ⟨fd0, fd1, fd2, fd3, fd4, fd5⟩ := Zf (T.out.get 1 rfl))
 | (go_at_call 255; refine (hsd _).mono ?_; rintro e wn ⟨rfl, bn⟩; have T := Hh (T.out.call bn); clear bn; obtain ⟨fc0, fc1, fc2, fc3, fc4, fc5, fc6⟩ := Zc (T.out.get 0 rfl); obtain ⟨fd0, fd1, fd2, fd3, fd4, fd5⟩ := Zf (T.out.get 1 rfl))
 | (go_at_call 92; refine (hou _).mono ?_; rintro e wn ⟨rfl, bn⟩; have T := Hh (T.out.call bn); clear bn; obtain ⟨fc0, fc1, fc2, fc3, fc4, fc5, fc6⟩ := Zc (T.out.get 0 rfl); obtain ⟨fd0, fd1, fd2, fd3, fd4, fd5⟩ := Zf (T.out.get 1 rfl)))
           go_ret
           exact ⟨by rw [hv]; simp [h3, hl], T.out.below⟩
         · have hl2 : ¬ (4 : Int) < (n : Int) := by omega
           go_wp2_with (first
 | ((with_reducible refine Zg 2 ?_); refine wpList_boxE T.out 195 _ ([.int .i64 whn, .int .i64 st, .int .i64 ln, .int .i64 cl, .slice A rn rk, .bool false, .bool true]) rfl rfl rfl ?_; intro wn gn tn; have T := Hh tn; clear tn; obtain ⟨fc0, fc1, fc2, fc3, fc4, fc5, fc6⟩ := Zc (T.out.get 0 rfl))
 | ((with_reducible refine Zg 3 ?_); refine wpList_boxE T.out 46 _ ([.int .i64 k, .int .i64 sd, .int .i64 wh, .int .i64 sln, .slice B n c1, .int .i64 pk]) rfl rfl rfl ?_; intro wn gn tn; have T := Hh tn; clear tn; obtain ⟨fc0, fc1, fc2, fc3, fc4, fc5, fc6⟩ := Zc (T.out.get 0 rfl); obtain ⟨fd0, fd1, fd2, fd3, fd4, fd5⟩ := Zf (T.out.get 1 rfl))
 | (go_at_call 277; refine (he _).mono ?_; rintro e wn ⟨rfl, bn⟩; have T := Hh (T.out.call bn); clear bn; obtain ⟨fc0, fc1, fc2, fc3, fc4, fc5, fc6⟩ := Zc (T.out.get 0 rfl); obtain ⟨fd0, fd1, fd2, fd3, fd4, fd5⟩ := Zf (T.out.get 1 rfl))
 | (go_at_call 278; (with_reducible refine (hs1 _ (HD.out.below T.out.below)).mono ?_); rintro e wn ⟨rfl, bn⟩; have T := Hh (T.out.call bn); clear bn; obtain ⟨fc0, fc1, fc2, fc3, fc4, fc5, fc6⟩ := Zc (T.out.get 0 rfl); obtain ⟨fd0, fd1, fd2, fd3, fd4, fd5⟩ := Zf (T.out.get 1 rfl))
 | (go_at_call 278; (with_reducible refine (hs2 _ (HD.out.below T.out.below)).mono ?_); rintro e wn ⟨rfl, bn⟩; have T := Hh (T.out.call bn); clear bn; obtain ⟨fc0, fc1, fc2, fc3, fc4, fc5, fc6⟩ := Zc (T.out.get 0 rfl); obtain ⟨fd0, fd1, fd2, fd3, fd4, fd5⟩ := Zf (T.out.get 1 rfl))
 | (go_at_call 255; refine (hsd _).mono ?_; rintro e wn ⟨rfl, bn⟩; have T := Hh (T.out.call bn); clear bn; obtain ⟨fc0, fc1, fc2, fc3, fc4, fc5, fc6⟩ := Zc (T.out.get 0 rfl); obtain ⟨fd0, fd1, fd2, fd3, fd4, fd5⟩ := Zf (T.out.get 1 rfl))
 | (go_at_call 92; refine (hou _).mono ?_; rintro e wn ⟨rfl, bn⟩; have T := Hh (T.out.call bn); clear bn; obtain ⟨fc0, fc1, fc2, fc3, fc4, fc5, fc6⟩ := Zc (T.out.get 0 rfl); obtain ⟨fd0, fd1, fd2, fd3, fd4, fd5⟩ := Zf (T.out.get 1 rfl)))
           go_ret
           exact ⟨by rw [hv]; simp [h3, hl], T.out.below⟩
     · have bd : (d == 0) = false := by simpa using hd
       go_wp2_with (first
 | ((with_reducible refine Zg 2 ?_); refine wpList_boxE T.out 195 _ ([.int .i64 whn, .int .i64 st, .int .i64 ln, .int .i64 cl, .slice A rn rk, .bool false, .bool true]) rfl rfl rfl ?_; intro wn gn tn; have T := Hh tn; clear tn; obtain ⟨fc0, fc1, fc2, fc3, fc4, fc5, fc6⟩ := Zc (T.out.get 0 rfl))
 | ((with_reducible refine Zg 3 ?_); refine wpList_boxE T.out 46 _ ([.int .i64 k, .int .i64 sd, .int .i64 wh, .int .i64 sln, .slice B n c1, .int .i64 pk]) rfl rfl rfl ?_; intro wn gn tn; have T := Hh tn; clear tn; obtain ⟨fc0, fc1, fc2, fc3, fc4, fc5, fc6⟩ := Zc (T.out.get 0 rfl); obtain ⟨fd0, fd1, fd2, fd3, fd4, fd5⟩ := Zf (T.out.get 1 rfl))
 | (go_at_call 277; refine (he _).mono ?_; rintro e wn ⟨rfl, bn⟩; have T := Hh (T.out.call bn); clear bn; obtain ⟨fc0, fc1, fc2, fc3, fc4, fc5, fc6⟩ := Zc (T.out.get 0 rfl); obtain ⟨fd0, fd1, fd2, fd3, fd4, fd5⟩ := Zf (T.out.get 1 rfl))
 | (go_at_call 278; (with_reducible refine (hs1 _ (HD.out.below T.out.below)).mono ?_); rintro e wn ⟨rfl, bn⟩; have T := Hh (T.out.call bn); clear bn; obtain ⟨fc0, fc1, fc2, fc3, fc4, fc5, fc6⟩ := Zc (T.out.get 0 rfl); obtain ⟨fd0, fd1, fd2, fd3, fd4, fd5⟩ := Zf (T.out.get 1 rfl))
 | (go_at_call 278; (with_reducible refine (hs2 _ (HD.out.below T.out.below)).mono ?_); rintro e wn ⟨rfl, bn⟩; have T := Hh (T.out.call bn); clear bn; obtain ⟨fc0, fc1, fc2, fc3, fc4, fc5, fc6⟩ := Zc (T.out.get 0 rfl); obtain ⟨fd0, fd1, fd2, fd3, fd4, fd5⟩ := Zf (T.out.get 1 rfl))
 | (go_at_call 255; refine (hsd _).mono ?_; rintro e wn ⟨rfl, bn⟩; have T := Hh (T.out.call bn); clear bn; obtain ⟨fc0, fc1, fc2, fc3, fc4, fc5, fc6⟩ := Zc (T.out.get 0 rfl); obtain ⟨fd0, fd1, fd2, fd3, fd4, fd5⟩ := Zf (T.out.get 1 rfl))
 | (go_at_call 92; refine (hou _).mono ?_; rintro e wn ⟨rfl, bn⟩; have T := Hh (T.out.call bn); clear bn; obtain ⟨fc0, fc1, fc2, fc3, fc4, fc5, fc6⟩ := Zc (T.out.get 0 rfl); obtain ⟨fd0, fd1, fd2, fd3, fd4, fd5⟩ := Zf (T.out.get 1 rfl)))
       go_ret
       exact ⟨by rw [hv]; simp [hd], T.out.below⟩
   · cases s2
     · by_cases hd : d = 0
       · subst hd
         by_cases h3 : wh = 3
         · subst h3
           cases ou
           · by_cases hl : 4 < n
             · have hl2 : (4 : Int) < (n : Int) := by omega
               go_wp2_with (first
 | ((with_reducible refine Zg 2 ?_); refine wpList_boxE T.out 195 _ ([.int .i64 whn, .int .i64 st, .int .i64 ln, .int .i64 cl, .slice A rn rk, .bool true, .bool true]) rfl rfl rfl ?_; intro wn gn tn; have T := Hh tn; clear tn; obtain ⟨fc0, fc1, fc2, fc3, fc4, fc5, fc6⟩ := Zc (T.out.get 0 rfl))
 | ((with_reducible refine Zg 3 ?_); refine wpList_boxE T.out 46 _ ([.int .i64 k, .int .i64 sd, .int .i64 3, .int .i64 sln, .slice B n c1, .int .i64 pk]) rfl rfl rfl ?_; intro wn gn tn; have T := Hh tn; clear tn; obtain ⟨fc0, fc1, fc2, fc3, fc4, fc5, fc6⟩ := Zc (T.out.get 0 rfl); obtain ⟨fd0, fd1, fd2, fd3, fd4, fd5⟩ := Zf (T.out.get 1 rfl))
 | (go_at_call 277; refine (he _).mono ?_; rintro e wn ⟨rfl, bn⟩; have T := Hh (T.out.call bn); clear bn; obtain ⟨fc0, fc1, fc2, fc3, fc4, fc5, fc6⟩ := Zc (T.out.get 0 rfl); obtain ⟨fd0, fd1, fd2, fd3, fd4, fd5⟩ := Zf (T.out.get 1 rfl))
 | (go_at_call 278; (with_reducible refine (hs1 _ (HD.out.below T.out.below)).mono ?_); rintro e wn ⟨rfl, bn⟩; have T := Hh (T.out.call bn); clear bn; obtain ⟨fc0, fc1, fc2, fc3, fc4, fc5, fc6⟩ := Zc (T.out.get 0 rfl); obtain ⟨fd0, fd1, fd2, fd3, fd4, fd5⟩ := Zf (T.out.get 1 rfl))
 | (go_at_call 278; (with_reducible refine (hs2 _ (HD.out.below T.out.below)).mono ?_); rintro e wn ⟨rfl, bn⟩; have T := Hh (T.out.call bn); clear bn; obtain ⟨fc0, fc1, fc2, fc3, fc4, fc5, fc6⟩ := Zc (T.out.get 0 rfl); obtain ⟨fd0, fd1, fd2, fd3, fd4, fd5⟩ := Zf (T.out.get 1 rfl))
 | (go_at_call 255; refine (hsd _).mono ?_; rintro e wn ⟨rfl, bn⟩; have T := Hh (T.out.call bn); clear bn; obtain ⟨fc0, fc1, fc2, fc3, fc4, fc5, fc6⟩ := Zc (T.out.get 0 rfl); obtain ⟨fd0, fd1, fd2, fd3, fd4, fd5⟩ := Zf (T.out.get 1 rfl))
 | (go_at_call 92; refine (hou _).mono ?_; rintro e wn ⟨rfl, bn⟩; have T := Hh (T.out.call bn); clear bn; obtain ⟨fc0, fc1, fc2, fc3, fc4, fc5, fc6⟩ := Zc (T.out.get 0 rfl); obtain ⟨fd0, fd1, fd2, fd3, fd4, fd5⟩ := Zf (T.out.get 1 rfl)))
               go_ret
               exact ⟨by rw [hv]; simp [hl], T.out.below⟩
             · have hl2 : ¬ (4 : Int) < (n : Int) := by omega
               go_wp2_with (first
 | ((with_reducible refine Zg 2 ?_); refine wpList_boxE T.out 195 _ ([.int .i64 whn, .int .i64 st, .int .i64 ln, .int .i64 cl, .slice A rn rk, .bool true, .bool true]) rfl rfl rfl ?_; intro wn gn tn; have T := Hh tn; clear tn; obtain ⟨fc0, fc1, fc2, fc3, fc4, fc5, fc6⟩ := Zc (T.out.get 0 rfl))
 | ((with_reducible refine Zg 3 ?_); refine wpList_boxE T.out 46 _ ([.int .i64 k, .int .i64 sd, .int .i64 3, .int .i64 sln, .slice B n c1, .int .i64 pk]) rfl rfl rfl ?_; intro wn gn tn; have T := Hh tn; clear tn; obtain ⟨fc0, fc1, fc2, fc3, fc4, fc5, fc6⟩ := Zc (T.out.get 0 rfl); obtain ⟨fd0, fd1, fd2, fd3, fd4, fd5⟩ := Zf (T.out.get 1 rfl))
 | (go_at_call 277; refine (he _).mono ?_; rintro e wn ⟨rfl, bn⟩; have T := Hh (T.out.call bn); clear bn; obtain ⟨fc0, fc1, fc2, fc3, fc4, fc5, fc6⟩ := Zc (T.out.get 0 rfl); obtain ⟨fd0, fd1, fd2, fd3, fd4, fd5⟩ := Zf (T.out.get 1 rfl))
 | (go_at_call 278; (with_reducible refine (hs1 _ (HD.out.below T.out.below)).mono ?_); rintro e wn ⟨rfl, bn⟩; have T := Hh (T.out.call bn); clear bn; obtain ⟨fc0, fc1, fc2, fc3, fc4, fc5, fc6⟩ := Zc (T.out.get 0 rfl); obtain ⟨fd0, fd1, fd2, fd3, fd4, fd5⟩ := Zf (T.out.get 1 rfl))
 | (go_at_call 278; (with_reducible refine (hs2 _ (HD.out.below T.out.below)).mono ?_); rintro e wn ⟨rfl, bn⟩; have T := Hh (T.out.call bn); clear bn; obtain ⟨fc0, fc1, fc2, fc3, fc4, fc5, fc6⟩ := Zc (T.out.get 0 rfl); obtain ⟨fd0, fd1, fd2, fd3, fd4, fd5⟩ := Zf (T.out.get 1 rfl))
 | (go_at_call 255; refine (hsd _).mono ?_; rintro e wn ⟨rfl, bn⟩; have T := Hh (T.out.call bn); clear bn; obtain ⟨fc0, fc1, fc2, fc3, fc4, fc5, fc6⟩ := Zc (T.out.get 0 rfl); obtain ⟨fd0, fd1, fd2, fd3, fd4, fd5⟩ := Zf (T.out.get 1 rfl))
 | (go_at_call 92; refine (hou _).mono ?_; rintro e wn ⟨rfl, bn⟩; have T := Hh (T.out.call bn); clear bn; obtain ⟨fc0, fc1, fc2, fc3, fc4, fc5, fc6⟩ := Zc (T.out.get 0 rfl); obtain ⟨fd0, fd1, fd2, fd3, fd4, fd5⟩ := Zf (T.out.get 1 rfl)))
               go_ret
               exact ⟨by rw [hv]; simp [hl], T.out.below⟩
           · go_wp2_with (first
 | ((with_reducible refine Zg 2 ?_); refine wpList_boxE T.out 195 _ ([.int .i64 whn, .int .i64 st, .int .i64 ln, .int .i64 cl, .slice A rn rk, .bool true, .bool true]) rfl rfl rfl ?_; intro wn gn tn; have T := Hh tn; clear tn; obtain ⟨fc0, fc1, fc2, fc3, fc4, fc5, fc6⟩ := Zc (T.out.get 0 rfl))
 | ((with_reducible refine Zg 3 ?_); refine wpList_boxE T.out 46 _ ([.int .i64 k, .int .i64 sd, .int .i64 3, .int .i64 sln, .slice B n c1, .int .i64 pk]) rfl rfl rfl ?_; intro wn gn tn; have T := Hh tn; clear tn; obtain ⟨fc0, fc1, fc2, fc3, fc4, fc5, fc6⟩ := Zc (T.out.get 0 rfl); obtain ⟨fd0, fd1, fd2, fd3, fd4, fd5⟩ := Zf (T.out.get 1 rfl))
 | (go_at_call 277; refine (he _).mono ?_; rintro e wn ⟨rfl, bn⟩; have T := Hh (T.out.call bn); clear bn; obtain ⟨fc0, fc1, fc2, fc3, fc4, fc5, fc6⟩ := Zc (T.out.get 0 rfl); obtain ⟨fd0, fd1, fd2, fd3, fd4, fd5⟩ := Zf (T.out.get 1 rfl))
 | (go_at_call 278; (with_reducible refine (hs1 _ (HD.out.below T.out.below)).mono ?_); rintro e wn ⟨rfl, bn⟩; have T := Hh (T.out.call bn); clear bn; obtain ⟨fc0, fc1, fc2, fc3, fc4, fc5, fc6⟩ := Zc (T.out.get 0 rfl); obtain ⟨fd0, fd1, fd2, fd3, fd4, fd5⟩ := Zf (T.out.get 1 rfl))
 | (go_at_call 278; (with_reducible refine (hs2 _ (HD.out.below T.out.below)).mono ?_); rintro e wn ⟨rfl, bn⟩; have T := Hh (T.out.call bn); clear bn; obtain ⟨fc0, fc1, fc2, fc3, fc4, fc5, fc6⟩ := Zc (T.out.get 0 rfl); obtain ⟨fd0, fd1, fd2, fd3, fd4, fd5⟩ := Zf (T.out.get 1 rfl))
 | (go_at_call 255; refine (hsd _).mono ?_; rintro e wn ⟨rfl, bn⟩; have T := Hh (T.out.call bn); clear bn; obtain ⟨fc0, fc1, fc2, fc3, fc4, fc5, fc6⟩ := Zc (T.out.get 0 rfl); obtain ⟨fd0, fd1, fd2, fd3, fd4, fd5⟩ := Zf (T.out.get 1 rfl))
 | (go_at_call 92; refine (hou _).mono ?_; rintro e wn ⟨rfl, bn⟩; have T := Hh (T.out.call bn); clear bn; obtain ⟨fc0, fc1, fc2, fc3, fc4, fc5, fc6⟩ := Zc (T.out.get 0 rfl); obtain ⟨fd0, fd1, fd2, fd3, fd4, fd5⟩ := Zf (T.out.get 1 rfl)))
             go_ret
             exact ⟨by rw [hv]; simp, T.out.below⟩
         · have b3 : (wh == 3) = false := by simpa using h3
           by_cases hl : 4 < n
           · have hl2 : (4 : Int) < (n : Int) := by omega
             go_wp2_with (first
 | ((with_reducible refine Zg 2 ?_); refine wpList_boxE T.out 195 _ ([.int .i64 whn, .int .i64 st, .int .i64 ln, .int .i64 cl, .slice A rn rk, .bool true, .bool true]) rfl rfl rfl ?_; intro wn gn tn; have T := Hh tn; clear tn; obtain ⟨fc0, fc1, fc2, fc3, fc4, fc5, fc6⟩ := Zc (T.out.get 0 rfl))
 | ((with_reducible refine Zg 3 ?_); refine wpList_boxE T.out 46 _ ([.int .i64 k, .int .i64 sd, .int .i64 wh, .int .i64 sln, .slice B n c1, .int .i64 pk]) rfl rfl rfl ?_; intro wn gn tn; have T := Hh tn; clear tn; obtain ⟨fc0, fc1, fc2, fc3, fc4, fc5, fc6⟩ := Zc (T.out.get 0 rfl); obtain ⟨fd0, fd1, fd2, fd3, fd4, fd5⟩ := Zf (T.out.get 1 rfl))
 | (go_at_call 277; refine (he _).mono ?_; rintro e wn ⟨rfl, bn⟩; have T := Hh (T.out.call bn); clear bn; obtain ⟨fc0, fc1, fc2, fc3, fc4, fc5, fc6⟩ := Zc (T.out.get 0 rfl); obtain ⟨fd0, fd1, fd2, fd3, fd4, fd5⟩ := Zf (T.out.get 1 rfl))
 | (go_at_call 278; (with_reducible refine (hs1 _ (HD.out.below T.out.below)).mono ?_); rintro e wn ⟨rfl, bn⟩; have T := Hh (T.out.call bn); clear bn; obtain ⟨fc0, fc1, fc2, fc3, fc4, fc5, fc6⟩ := Zc (T.out.get 0 rfl); obtain ⟨fd0, fd1, fd2, fd3, fd4, fd5⟩ := Zf (T.out.get 1 rfl))
 | (go_at_call 278; (with_reducible refine (hs2 _ (HD.out.below T.out.below)).mono ?_); rintro e wn ⟨rfl, bn⟩; have T := Hh (T.out.call bn); clear bn; obtain ⟨fc0, fc1, fc2, fc3, fc4, fc5, fc6⟩ := Zc (T.out.get 0 rfl); obtain ⟨fd0, fd1, fd2, fd3, fd4, fd5⟩ := Zf (T.out.get 1 rfl))
 | (go_at_call 255; refine (hsd _).mono ?_; rintro e wn ⟨rfl, bn⟩; have T := Hh (T.out.call bn); clear bn; obtain ⟨fc0, fc1, fc2, fc3, fc4, fc5, fc6⟩ := Zc (T.out.get 0 rfl); obtain ⟨fd0, fd1, fd2, fd3, fd4, fd5⟩ := Zf (T.out.get 1 rfl))
 | (go_at_call 92; refine (hou _).mono ?_; rintro e wn ⟨rfl, bn⟩; have T := Hh (T.out.call bn); clear bn; obtain ⟨fc0, fc1, fc2, fc3, fc4, fc5, fc6⟩ := Zc (T.out.get 0 rfl); obtain ⟨fd0, fd1, fd2, fd3, fd4, fd5⟩ := Zf (T.out.get 1 rfl)))
             go_ret
             exact ⟨by rw [hv]; simp [h3, hl], T.out.below⟩
           · have hl2 : ¬ (4 : Int) < (n : Int) := by omega
             go_wp2_with (first
 | ((with_reducible refine Zg 2 ?_); refine wpList_boxE T.out 195 _ ([.int .i64 whn, .int .i64 st, .int .i64 ln, .int .i64 cl, .slice A rn rk, .bool true, .bool true]) rfl rfl rfl ?_; intro wn gn tn; have T := Hh tn; clear tn; obtain ⟨fc0, fc1, fc2, fc3, fc4, fc5, fc6⟩ := Zc (T.out.get 0 rfl))
 | ((with_reducible refine Zg 3 ?_); refine wpList_boxE T.out 46 _ ([.int .i64 k, .int .i64 sd, .int .i64 wh, .int .i64 sln, .slice B n c1, .int .i64 pk]) rfl rfl rfl ?_; intro wn gn tn; have T := Hh tn; clear tn; obtain ⟨fc0, fc1, fc2, fc3, fc4, fc5, fc6⟩ := Zc (T.out.get 0 rfl); obtain ⟨fd0, fd1, fd2, fd3, fd4, fd5⟩ := Zf (T.out.get 1 rfl))
 | (go_at_call 277; refine (he _).mono ?_; rintro e wn ⟨rfl, bn⟩; have T := Hh (T.out.call bn); clear bn; obtain ⟨fc0, fc1, fc2, fc3, fc4, fc5, fc6⟩ := Zc (T.out.get 0 rfl); obtain ⟨fd0, fd1, fd2, fd3, fd4, fd5⟩ := Zf (T.out.get 1 rfl))
 | (go_at_call 278; (with_reducible refine (hs1 _ (HD.out.below T.out.below)).mono ?_); rintro e wn ⟨rfl, bn⟩; have T := Hh (T.out.call bn); clear bn; obtain ⟨fc0, fc1, fc2, fc3, fc4, fc5, fc6⟩ := Zc (T.out.get 0 rfl); obtain ⟨fd0, fd1, fd2, fd3, fd4, fd5⟩ := Zf (T.out.get 1 rfl))
 | (go_at_call 278; (with_reducible refine (hs2 _ (HD.out.below T.out.below)).mono ?_); rintro e wn ⟨rfl, bn⟩; have T := Hh (T.out.call bn); clear bn; obtain ⟨fc0, fc1, fc2, fc3, fc4, fc5, fc6⟩ := Zc (T.out.get 0 rfl); obtain ⟨fd0, fd1, fd2, fd3, fd4, fd5⟩ := Zf (T.out.get 1 rfl))
 | (go_at_call 255; refine (hsd _).mono ?_; rintro e wn ⟨rfl, bn⟩; have T := Hh (T.out.call bn); clear bn; obtain ⟨fc0, fc1, fc2, fc3, fc4, fc5, fc6⟩ := Zc (T.out.get 0 rfl); obtain ⟨fd0, fd1, fd2, fd3, fd4, fd5⟩ := Zf (T.out.get 1 rfl))
 | (go_at_call 92; refine (hou _).mono ?_; rintro e wn ⟨rfl, bn⟩; have T := Hh (T.out.call bn); clear bn; obtain ⟨fc0, fc1, fc2, fc3, fc4, fc5, fc6⟩ := Zc (T.out.get 0 rfl); obtain ⟨fd0, fd1, fd2, fd3, fd4, fd5⟩ := Zf (T.out.get 1 rfl)))
             go_ret
             exact ⟨by rw [hv]; simp [h3, hl], T.out.below⟩
       · have bd : (d == 0) = false := by simpa using hd
         go_wp2_with (first
 | ((with_reducible refine Zg 2 ?_); refine wpList_boxE T.out 195 _ ([.int .i64 whn, .int .i64 st, .int .i64 ln, .int .i64 cl, .slice A rn rk, .bool true, .bool true]) rfl rfl rfl ?_; intro wn gn tn; have T := Hh tn; clear tn; obtain ⟨fc0, fc1, fc2, fc3, fc4, fc5, fc6⟩ := Zc (T.out.get 0 rfl))
 | ((with_reducible refine Zg 3 ?_); refine wpList_boxE T.out 46 _ ([.int .i64 k, .int .i64 sd, .int .i64 wh, .int .i64 sln, .slice B n c1, .int .i64 pk]) rfl rfl rfl ?_; intro wn gn tn; have T := Hh tn; clear tn; obtain ⟨fc0, fc1, fc2, fc3, fc4, fc5, fc6⟩ := Zc (T.out.get 0 rfl); obtain ⟨fd0, fd1, fd2, fd3, fd4, fd5⟩ := Zf (T.out.get 1 rfl))
 | (go_at_call 277; refine (he _).mono ?_; rintro e wn ⟨rfl, bn⟩; have T := Hh (T.out.call bn); clear bn; obtain ⟨fc0, fc1, fc2, fc3, fc4, fc5, fc6⟩ := Zc (T.out.get 0 rfl); obtain ⟨fd0, fd1, fd2, fd3, fd4, fd5⟩ := Zf (T.out.get 1 rfl))
 | (go_at_call 278; (with_reducible refine (hs1 _ (HD.out.below T.out.below)).mono ?_); rintro e wn ⟨rfl, bn⟩; have T := Hh (T.out.call bn); clear bn; obtain ⟨fc0, fc1, fc2, fc3, fc4, fc5, fc6⟩ := Zc (T.out.get 0 rfl); obtain ⟨fd0, fd1, fd2, fd3, fd4, fd5⟩ := Zf (T.out.get 1 rfl))
 | (go_at_call 278; (with_reducible refine (hs2 _ (HD.out.below T.out.below)).mono ?_); rintro e wn ⟨rfl, bn⟩; have T := Hh (T.out.call bn); clear bn; obtain ⟨fc0, fc1, fc2, fc3, fc4, fc5, fc6⟩ := Zc (T.out.get 0 rfl); obtain ⟨fd0, fd1, fd2, fd3, fd4, fd5⟩ := Zf (T.out.get 1 rfl))
 | (go_at_call 255; refine (hsd _).mono ?_; rintro e wn ⟨rfl, bn⟩; have T := Hh (T.out.call bn); clear bn; obtain ⟨fc0, fc1, fc2, fc3, fc4, fc5, fc6⟩ := Zc (T.out.get 0 rfl); obtain ⟨fd0, fd1, fd2, fd3, fd4, fd5⟩ := Zf (T.out.get 1 rfl))
 | (go_at_call 92; refine (hou _).mono ?_; rintro e wn ⟨rfl, bn⟩; have T := Hh (T.out.call bn); clear bn; obtain ⟨fc0, fc1, fc2, fc3, fc4, fc5, fc6⟩ := Zc (T.out.get 0 rfl); obtain ⟨fd0, fd1, fd2, fd3, fd4, fd5⟩ := Zf (T.out.get 1 rfl)))
         go_ret
         exact ⟨by rw [hv]; simp [hd], T.out.below⟩
     · go_wp2_with (first
 | ((with_reducible refine Zg 2 ?_); refine wpList_boxE T.out 195 _ ([.int .i64 whn, .int .i64 st, .int .i64 ln, .int .i64 cl, .slice A rn rk, .bool true, .bool true]) rfl rfl rfl ?_; intro wn gn tn; have T := Hh tn; clear tn; obtain ⟨fc0, fc1, fc2, fc3, fc4, fc5, fc6⟩ := Zc (T.out.get 0 rfl))
 | ((with_reducible refine Zg 3 ?_); refine wpList_boxE T.out 46 _ ([.int .i64 k, .int .i64 sd, .int .i64 wh, .int .i64 sln, .slice B n c1, .int .i64 pk]) rfl rfl rfl ?_; intro wn gn tn; have T := Hh tn; clear tn; obtain ⟨fc0, fc1, fc2, fc3, fc4, fc5, fc6⟩ := Zc (T.out.get 0 rfl); obtain ⟨fd0, fd1, fd2, fd3, fd4, fd5⟩ := Zf (T.out.get 1 rfl))
 | (go_at_call 277; refine (he _).mono ?_; rintro e wn ⟨rfl, bn⟩; have T := Hh (T.out.call bn); clear bn; obtain ⟨fc0, fc1, fc2, fc3, fc4, fc5, fc6⟩ := Zc (T.out.get 0 rfl); obtain ⟨fd0, fd1, fd2, fd3, fd4, fd5⟩ := Zf (T.out.get 1 rfl))
 | (go_at_call 278; (with_reducible refine (hs1 _ (HD.out.below T.out.below)).mono ?_); rintro e wn ⟨rfl, bn⟩; have T := Hh (T.out.call bn); clear bn; obtain ⟨fc0, fc1, fc2, fc3, fc4, fc5, fc6⟩ := Zc (T.out.get 0 rfl); obtain ⟨fd0, fd1, fd2, fd3, fd4, fd5⟩ := Zf (T.out.get 1 rfl))
 | (go_at_call 278; (with_reducible refine (hs2 _ (HD.out.below T.out.below)).mono ?_); rintro e wn ⟨rfl, bn⟩; have T := Hh (T.out.call bn); clear bn; obtain ⟨fc0, fc1, fc2, fc3, fc4, fc5, fc6⟩ := Zc (T.out.get 0 rfl); obtain ⟨fd0, fd1, fd2, fd3, fd4, fd5⟩ := Zf (T.out.get 1 rfl))
 | (go_at_call 255; refine (hsd _).mono ?_; rintro e wn ⟨rfl, bn⟩; have T := Hh (T.out.call bn); clear bn; obtain ⟨fc0, fc1, fc2, fc3, fc4, fc5, fc6⟩ := Zc (T.out.get 0 rfl); obtain ⟨fd0, fd1, fd2, fd3, fd4, fd5⟩ := Zf (T.out.get 1 rfl))
 | (go_at_call 92; refine (hou _).mono ?_; rintro e wn ⟨rfl, bn⟩; have T := Hh (T.out.call bn); clear bn; obtain ⟨fc0, fc1, fc2, fc3, fc4, fc5, fc6⟩ := Zc (T.out.get 0 rfl); obtain ⟨fd0, fd1, fd2, fd3, fd4, fd5⟩ := Zf (T.out.get 1 rfl)))
       go_ret
       exact ⟨by rw [hv]; simp, T.out.below⟩
end
end Go.Proofs.YtabegjepejgllaaGreat
