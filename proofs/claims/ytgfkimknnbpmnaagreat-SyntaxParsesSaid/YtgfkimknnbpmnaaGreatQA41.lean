/-
  Texts SynR19. No conditions but those that each theorem names.
-/
import Derived.Test.YtgfkimknnbpmnaaGreatQA40
namespace Go.Proofs.YtgfkimknnbpmnaaGreat
open Go.ChangeShapes Go.WideShapes Go.ChangeAt Go.RowKit
set_option linter.unusedVariables false
set_option linter.unusedSimpArgs false
theorem z_ru : (Tryz.prog.info? 111).map (fun i => i.zero.map Value.cells) = some (some ([.int .i64 0, .int .i64 0, .int .i64 0, .int .i64 0, .slice none 0 0] : List Value).toArray) := by kernel_rfl
theorem Env.joinF {w x : World} {bs cs : List Bk} {rs : List Rw} {ts : List (Ds × List Value)} (h : Env w (bs ++ cs) rs ts x) (i j : Nat) {d1 d2 d3 : Ds} {l u v : List Value} (hi : ts[i]? = some (d1, l)) (hj : ts[j]? = some (d2, u))
   (f : Zo (Free w bs rs) x d2 u → Zo (Free w bs rs) x d3 v) : Env w bs rs [(d1.app d3, l ++ v)] x := by
 have h' := h.less (bs := bs) (cs := cs) (ts := []) (us := ts)
 exact h'.addT (Zo.app (f ((h.deep _ (List.mem_of_getElem? hj)).mono fun k _ hn => free_less hn)) ((h.deep _ (List.mem_of_getElem? hi)).mono fun k _ hn => free_less hn))
set_option maxRecDepth 20000 in
set_option maxHeartbeats 6400000 in
theorem qrules (n : Nat) (w : World) (r K : Nat) (L : List TokV) (st : St) (vs : List Value) (ho : Zy w r K L) (hp : RPv r K L st vs) (hn : 8 * Zw L st + 9 ≤ n) (hLn : Zw L st ≤ 68719476736) :
   Calls Tryz.prog 25 #[.agg vs.toArray] w (PRo w r K L (Wf 3 L n st).2 (Wf 3 L n st).1.length (Je (Wf 3 L n st).1)) := by
 have T0 := Hh (Env.start w)
 have HN := Hh (And.intro hn hLn)
 clear hn hLn
 go_enter Tryz.func25, Tryz.ntmps25
 go_wp2_with (first
 | ((with_reducible refine Zf 1 ?_); refine Zs T0.out 62 _ (vs) rfl rfl rfl ?_; intro w1 g0 t1
    have T1 := Hh (t1)
    clear t1)
 | ((with_reducible refine Zf 2 ?_); refine Zc T1.out 62 _ rfl rfl z_P ?_; intro w2 g1 t2
    have T2 : Hid (Env w [(g0, 62, vs), (g1, 62, [.slice none 0 0, .int .i64 0, .int .i64 0, .int .i64 0, .int .i64 0, .int .i64 0])] [] [] w2) := Hh (t2)
    clear t2))
 go_loopw [4] (fun v wr => ∃ (m : Nat) (acc : List Ru) (xs : List Value) (s : St) (us : List Value), Env w [(g0, 62, us), (g1, 62, [.slice none 0 0, .int .i64 0, .int .i64 0, .int .i64 0, .int .i64 0, .int .i64 0])] [⟨v, 111, 5, acc.length, xs⟩] [(Je acc, xs)] wr ∧ RPv r K L s us ∧ 8 * Zw L s + 9 ≤ m ∧ m ≤ n ∧ acc.length + Zw L s ≤ Zw L st ∧ Wf 3 L n st = (acc ++ (Wf 3 L m s).1, (Wf 3 L m s).2) ∧ xs.length = acc.length * 5) (fun _ wr => remB g0 L.length wr)
 case atStart => exact ⟨n, [], [], st, vs, T2.out.row0 111 5, hp, HN.out.1, Nat.le_refl _, by simp, by simp, rfl⟩
 case round =>
   obtain ⟨m, acc, xs, s, us, hT, hs, hm, hmn, hacc, heq, _⟩ := hrel
   obtain ⟨m, rfl⟩ : ∃ m', m = m' + 1 := ⟨m - 1, by omega⟩
   obtain ⟨A, cp, rfl, _, _, _⟩ := Xl (show World.ownsRow _ w.heap.size 111 5 _ acc.length xs from hT.row _ (List.mem_singleton.2 rfl))
   have hrem := Uq hs (hT.get 0 rfl)
   clear hp
   cases s with
   | bad F =>
     have HP := Hh hs
     obtain ⟨SA, nb, kb, a, d, rfl, hd, hF⟩ := hs.bad
     obtain ⟨f0, f1, f2⟩ := F
     have z0 : (f0 == 0) = false := by rw [beq_eq_false_iff_ne]; exact hF
     obtain ⟨c0, c1, c2, c3, c4, c5⟩ := Xy (hT.get 0 rfl)
     have T20 := Hh hT
     have HE := Hh heq
     clear hT hs hm hmn hacc heq hrem hF
     go_wp2_with (first
 | ((with_reducible refine Zf 53 ?_); refine Zb 62 _ 62 g0 _ (T20.out.get 0 rfl) Zp Yf rfl rfl rfl ?_)
 | ((with_reducible refine Zj 2 53 ?_); refine Za 62 _ _ 62 g1 _ ([.slice SA nb kb, .int .i64 (a : Int), .int .i64 (d : Int), .int .i64 f0, .int .i64 (f1 : Int), .int .i64 (f2 : Int)]) (T20.out.get 1 rfl) rfl Yf (by simp [Value.oneCell']) rfl rfl rfl rfl rfl ?_
    intro w21 p21
    have T21 : Hid (Env w [(g0, 62, [.slice SA nb kb, .int .i64 (a : Int), .int .i64 (d : Int), .int .i64 f0, .int .i64 (f1 : Int), .int .i64 (f2 : Int)]), (g1, 62, [.slice SA nb kb, .int .i64 (a : Int), .int .i64 (d : Int), .int .i64 f0, .int .i64 (f1 : Int), .int .i64 (f2 : Int)])] [⟨.slice A acc.length cp, 111, 5, acc.length, xs⟩] [(Je acc, xs)] w21) := Hh (T20.out.put 1 rfl p21)
    clear p21))
     refine Xj 2 62 3 62 _ _ _ rfl (T21.out.get 1 rfl) Zp (Ze HP.out.len) rfl rfl rfl ?_
     rw [HE.out, rules_stop 3 L m _ rfl]
     dsimp only
     rw [List.append_nil]
     exact ⟨_, _, rfl, HP.out, Zo.rowOf (T21.out.row _ (List.mem_singleton.2 rfl)) (fun k hk => hk) (T21.out.leaf 0 rfl), T21.out.below⟩
   | ok a d =>
     have HP := Hh hs
     obtain ⟨nn, hnn, rfl, ha, hd⟩ := hs.ok
     have hrow := ho (by omega)
     have HR := Hh hrow
     have HNN := Hh (And.intro hnn ha)
     obtain ⟨c0, c1, c2, c3, c4, c5⟩ := Xy (hT.get 0 rfl)
     have hfr := Ul (L := L) (ws := Wz) (st := .ok a d)
     have hfn := Vi L (ws := Wz) (st := .ok a d)
     have hst := rules_step 3 L m (.ok a d)
     have hsp := rules_stop 3 L m (.ok a d)
     have hhe : ∀ x, Ug x r K L → Calls Tryz.prog 19 #[.agg #[.slice (some ⟨r, 0, none⟩) nn K, .int .i64 (a : Int), .int .i64 (d : Int)], .int .i64 0] x (fun e w' => e = .returned (Wt (Yg L a)) ∧ Below x.heap.size x w') := fun x h => qHere x r K L nn a d HNN.out.1 h HNN.out.2
     have hmy : ∀ (x : World) (us : List Value), Zy x r K L → RPv r K L (.ok a d) us → Calls Tryz.prog 20 #[.agg us.toArray, .slice (some ⟨x.heap.size, 0, none⟩) 6 6] (x.alloc (.cells #[.string ⟨#[114, 101, 118, 101, 97, 108]⟩, .string ⟨#[100, 101, 97, 116, 104]⟩, .string ⟨#[109, 111, 118, 101, 100]⟩, .string ⟨#[101, 110, 100]⟩, .string ⟨#[97, 108, 119, 97, 121, 115]⟩, .string ⟨#[101, 110, 116, 101, 114]⟩] 9)) (PVo x r K L (Yo L Wz (.ok a d)) (.int .i64 (Zk L Wz (.ok a d)))) := fun x us h1 h2 => qmayB x r K _ L (.ok a d) us Wz 6 6 _ rfl rfl h1 h2 rfl (by decide)
     have htk : St.tok L (.ok a d) = Yg L a := rfl
     rw [htk] at hst
     clear htk hs hrow hnn
     generalize Yg L a = tv at *
     generalize Zk L Wz (.ok a d) = k at *
     generalize Yo L Wz (.ok a d) = s1 at *
     have T20 := Hh hT
     have HE := Hh heq
     have HB := Hh hrem
     unfold Wt at hhe
     clear hT heq hrem
     by_cases hk0 : k = 0
     · have HS := Hh (And.intro (hsp hk0) (hfn hk0))
       subst hk0
       rw [show ((0 : Nat) : Int) = 0 from rfl] at hmy
       clear hst hsp hfn hfr hm hmn hacc
       go_wp2_with (first
 | ((with_reducible refine Zf 14 ?_); refine Xt 60 _ 62 g0 0 ([]) ([.slice (some ⟨r, 0, none⟩) nn K, .int .i64 (a : Int), .int .i64 (d : Int)]) ([.int .i64 0, .int .i64 0, .int .i64 0]) (T20.out.get 0 rfl) rfl Zaj Wm rfl rfl rfl ?_)
 | (go_at_call 19; refine (hhe _ (HR.out.below T20.out.below)).mono ?_; rintro e w21 ⟨rfl, b21⟩
    have T21 := Hh (T20.out.call b21)
    clear b21)
 | ((with_reducible refine Zf 5 ?_); refine Zc T21.out 65 _ rfl rfl z_tok ?_; intro w22 g2 t22
    have T22 := Hh (t22)
    clear t22)
 | ((with_reducible refine Zj 5 15 ?_); refine Za 65 _ _ 65 g2 _ ([.int .i64 tv.k, .string tv.t, .int .i64 tv.n, .int .i64 (tv.line : Int), .int .i64 (tv.col : Int)]) (T22.out.get 2 rfl) rfl size_tok (by simp [Value.oneCell']) rfl rfl rfl rfl rfl ?_
    intro w23 p23
    have T23 := Hh (T22.out.put 2 rfl p23)
    clear p23)
 | ((with_reducible refine Zf 17 ?_); refine Zb 62 _ 62 g0 _ (T23.out.get 0 rfl) Zp Yf rfl rfl rfl ?_)
 | (go_at_call 20; refine (hmy _ _ (ho.below T23.out.below) HP.out).mono ?_; rintro e w24 ⟨v1, rfl, h1, b24⟩
    have T24 := Hh (T23.out.call b24)
    clear b24)
 | ((with_reducible refine Zf 6 ?_); refine Zc T24.out 62 _ rfl rfl z_P ?_; intro w25 g3 t25
    have T25 := Hh (t25)
    clear t25)
 | ((with_reducible refine Zj 6 20 ?_); refine Za 62 _ _ 62 g3 _ (v1) (T25.out.get 3 rfl) h1.len (Ze h1.len) h1.one rfl rfl rfl rfl rfl ?_
    intro w26 p26
    have T26 := Hh (T25.out.put 3 rfl p26)
    have hli := T26.out.cell 2 3 rfl rfl
    have hco := T26.out.cell 2 4 rfl rfl
    clear p26)
 | ((with_reducible refine Zf 24 ?_); refine Zb 62 _ 62 g3 _ (T26.out.get 3 rfl) Zp (Ze h1.len) rfl rfl rfl ?_)
 | ((with_reducible refine Zj 2 24 ?_); refine Za 62 _ _ 62 g1 _ (v1) (T26.out.get 1 rfl) h1.len (Ze h1.len) h1.one rfl rfl rfl rfl rfl ?_
    intro w27 p27
    have T27 : Hid (Env w [(g0, 62, [.slice (some ⟨r, 0, none⟩) nn K, .int .i64 (a : Int), .int .i64 (d : Int), .int .i64 0, .int .i64 0, .int .i64 0]), (g1, 62, v1), (g2, 65, [.int .i64 tv.k, .string tv.t, .int .i64 tv.n, .int .i64 (tv.line : Int), .int .i64 (tv.col : Int)]), (g3, 62, v1)] [⟨.slice A acc.length cp, 111, 5, acc.length, xs⟩] [(Je acc, xs)] w27) := Hh (T26.out.put 1 rfl p27)
    clear p27))
       have hs := HS.out.2
       subst hs
       refine Xj 2 62 3 62 _ _ _ rfl (T27.out.get 1 rfl) Zp (Ze h1.len) rfl rfl rfl ?_
       rw [HE.out, HS.out.1]
       dsimp only
       rw [List.append_nil]
       exact ⟨_, _, rfl, h1, Zo.rowOf (T27.out.row _ (List.mem_singleton.2 rfl)) (fun k hk => hk) (T27.out.leaf 0 rfl), T27.out.below⟩
     · have hst := hst hk0
       have hfr := hfr hk0
       have q0 : ((k : Int) == 0) = false := by rw [beq_eq_false_iff_ne]; omega
       have hrs := rem_str L k s1
       have hrw := Wj L Xe (strS L k s1)
       have hj1 : ∀ (x : World) (us : List Value), Zy x r K L → RPv r K L (strS L k s1) us → Calls Tryz.prog 23 #[.agg us.toArray, .string ⟨#[123]⟩] x (PPo x r K L (Ye L Xe (strS L k s1))) := fun x us h1 h2 => Ur x r K L _ us Xe h1 h2
       have hac : ∀ (x : World) (us : List Value), Zy x r K L → RPv r K L (Ye L Xe (strS L k s1)) us → Calls Tryz.prog 30 #[.agg us.toArray] x (PRo x r K L (Xo 3 L m (Ye L Xe (strS L k s1))).2 (Xo 3 L m (Ye L Xe (strS L k s1))).1.len (Xo 3 L m (Ye L Xe (strS L k s1))).1.ds) := fun x us h1 h2 => qActs x r K L _ us m h1 h2 (by omega) (by have := HN.out; omega)
       have hra := rem_acts L 3 m (Ye L Xe (strS L k s1))
       generalize Xo 3 L m (Ye L Xe (strS L k s1)) = ac at *
       generalize Ye L Xe (strS L k s1) = s3 at *
       have hj2 : ∀ (x : World) (us : List Value), Zy x r K L → RPv r K L ac.2 us → Calls Tryz.prog 23 #[.agg us.toArray, .string ⟨#[125]⟩] x (PPo x r K L (Ye L Xq ac.2)) := fun x us h1 h2 => Ur x r K L _ us Xq h1 h2
       have hru := Wj L Xq ac.2
       generalize Ye L Xq ac.2 = s5 at *
       have HS := Hh hst
       have HM := Hh (show acc.length ≤ 68719476736 ∧ 8 * Zw L s5 + 9 ≤ m ∧ m ≤ n ∧ (acc.length + 1) + Zw L s5 ≤ Zw L st ∧ Zw L s5 < Zw L (.ok a d) by have := HN.out; omega)
       clear hst hsp hfn hfr hm hmn hacc hrs hrw hra hru hk0
       by_cases h5 : k = 5
       · subst h5
         have hnu : ∀ (x : World) (us : List Value), Zy x r K L → RPv r K L s1 us → Calls Tryz.prog 22 #[.agg us.toArray] x (PVo x r K L (strS L 5 s1) (.int .i64 (strN L 5 s1))) := fun x us h1 h2 => qnumber x r K L s1 us h1 h2
         generalize strN L 5 s1 = sn at *
         rw [show ((5 : Nat) : Int) = 5 from rfl] at hmy
         go_wp2_with (first
 | ((with_reducible refine Zf 14 ?_); refine Xt 60 _ 62 g0 0 ([]) ([.slice (some ⟨r, 0, none⟩) nn K, .int .i64 (a : Int), .int .i64 (d : Int)]) ([.int .i64 0, .int .i64 0, .int .i64 0]) (T20.out.get 0 rfl) rfl Zaj Wm rfl rfl rfl ?_)
 | (go_at_call 19; refine (hhe _ (HR.out.below T20.out.below)).mono ?_; rintro e w21 ⟨rfl, b21⟩
    have T21 := Hh (T20.out.call b21)
    clear b21)
 | ((with_reducible refine Zf 5 ?_); refine Zc T21.out 65 _ rfl rfl z_tok ?_; intro w22 g2 t22
    have T22 := Hh (t22)
    clear t22)
 | ((with_reducible refine Zj 5 15 ?_); refine Za 65 _ _ 65 g2 _ ([.int .i64 tv.k, .string tv.t, .int .i64 tv.n, .int .i64 (tv.line : Int), .int .i64 (tv.col : Int)]) (T22.out.get 2 rfl) rfl size_tok (by simp [Value.oneCell']) rfl rfl rfl rfl rfl ?_
    intro w23 p23
    have T23 := Hh (T22.out.put 2 rfl p23)
    clear p23)
 | ((with_reducible refine Zf 17 ?_); refine Zb 62 _ 62 g0 _ (T23.out.get 0 rfl) Zp Yf rfl rfl rfl ?_)
 | (go_at_call 20; refine (hmy _ _ (ho.below T23.out.below) HP.out).mono ?_; rintro e w24 ⟨v1, rfl, h1, b24⟩
    have T24 := Hh (T23.out.call b24)
    clear b24)
 | ((with_reducible refine Zf 6 ?_); refine Zc T24.out 62 _ rfl rfl z_P ?_; intro w25 g3 t25
    have T25 := Hh (t25)
    clear t25)
 | ((with_reducible refine Zj 6 20 ?_); refine Za 62 _ _ 62 g3 _ (v1) (T25.out.get 3 rfl) h1.len (Ze h1.len) h1.one rfl rfl rfl rfl rfl ?_
    intro w26 p26
    have T26 := Hh (T25.out.put 3 rfl p26)
    have hli := T26.out.cell 2 3 rfl rfl
    have hco := T26.out.cell 2 4 rfl rfl
    clear p26)
 | ((with_reducible refine Zf 8 ?_); refine Zc T26.out 111 _ rfl rfl z_ru ?_; intro w27 g4 t27
    have T27 := Hh (t27)
    clear t27)
 | ((with_reducible refine Zj 8 31 ?_); refine Za 111 _ _ 111 g4 _ ([.int .i64 5, .int .i64 0, .int .i64 (tv.line : Int), .int .i64 (tv.col : Int), .slice none 0 0]) (T27.out.get 4 rfl) rfl size_ru (by simp [Value.oneCell']) rfl rfl rfl rfl rfl ?_
    intro w28 p28
    have T28 := Hh (T27.out.put 4 rfl p28)
    clear p28)
 | ((with_reducible refine Zf 35 ?_); refine Zb 62 _ 62 g3 _ (T28.out.get 3 rfl) Zp (Ze h1.len) rfl rfl rfl ?_)
 | (go_at_call 22; refine (hnu _ v1 (ho.below T28.out.below) h1).mono ?_; rintro e w29 ⟨v2, rfl, h2, b29⟩
    have T29 := Hh (T28.out.call b29)
    clear b29)
 | ((with_reducible refine Zj 6 37 ?_); refine Za 62 _ _ 62 g3 _ (v2) (T29.out.get 3 rfl) (h2.len.trans h1.len.symm) (Ze h2.len) h2.one rfl rfl rfl rfl rfl ?_
    intro w30 p30
    have T30 := Hh (T29.out.put 3 rfl p30)
    clear p30)
 | ((with_reducible refine Zj 39 38 ?_); refine Zl 3 _ _ 111 g4 1 [.int .i64 5] (.int .i64 0) (.int .i64 sn) [.int .i64 (tv.line : Int), .int .i64 (tv.col : Int), .slice none 0 0] (T30.out.get 4 rfl) rfl Yd rfl rfl rfl rfl rfl rfl ?_
    intro w31 p31
    have T31 := Hh (T30.out.put 4 rfl p31)
    clear p31)
 | ((with_reducible refine Zf 41 ?_); refine Zb 62 _ 62 g3 _ (T31.out.get 3 rfl) Zp (Ze h2.len) rfl rfl rfl ?_)
 | (go_at_call 23; (with_reducible refine (hj1 _ v2 (ho.below T31.out.below) h2).mono ?_); rintro e w32 ⟨v3, rfl, h3, b32⟩
    have T32 := Hh (T31.out.call b32)
    clear b32)
 | (go_at_call 30; refine (hac _ v3 (ho.below T32.out.below) h3).mono ?_; rintro e w33 ⟨v4, f4, rfl, h4, d4, b33⟩
    obtain ⟨A5, c5, rfl⟩ := d4.slice
    have T33 := Hh (T32.out.tree b33 d4)
    clear d4
    clear b33)
 | ((with_reducible refine Zj 6 44 ?_); refine Za 62 _ _ 62 g3 _ (v4) (T33.out.get 3 rfl) (h4.len.trans h2.len.symm) (Ze h4.len) h4.one rfl rfl rfl rfl rfl ?_
    intro w34 p34
    have T34 := Hh (T33.out.put 3 rfl p34)
    clear p34)
 | ((with_reducible refine Zj 46 45 ?_); refine Zl 34 _ _ 111 g4 4 [.int .i64 5, .int .i64 sn, .int .i64 (tv.line : Int), .int .i64 (tv.col : Int)] (.slice none 0 0) (.slice A5 ac.1.len c5) [] (T34.out.get 4 rfl) rfl Uk rfl rfl rfl rfl rfl rfl ?_
    intro w35 p35
    have T35 := Hh (T34.out.put 4 rfl p35)
    clear p35)
 | ((with_reducible refine Zf 47 ?_); refine Zb 62 _ 62 g3 _ (T35.out.get 3 rfl) Zp (Ze h4.len) rfl rfl rfl ?_)
 | (go_at_call 23; (with_reducible refine (hj2 _ v4 (ho.below T35.out.below) h4).mono ?_); rintro e w36 ⟨v6, rfl, h6, b36⟩
    have T36 := Hh (T35.out.call b36)
    clear b36)
 | ((with_reducible refine Zj 1 48 ?_); refine Za 62 _ _ 62 g0 _ (v6) (T36.out.get 0 rfl) h6.len (Ze h6.len) h6.one rfl rfl rfl rfl rfl ?_
    intro w37 p37
    have T37 := Hh (T36.out.put 0 rfl p37)
    clear p37)
 | ((with_reducible refine Zf 50 ?_); refine Zb 111 _ 111 g4 _ (T37.out.get 4 rfl) row_ru size_ru rfl rfl rfl ?_)
 | ((with_reducible refine Zf 51 ?_); refine Ui 70 111 _ 51 5 56 _ [.int .i64 5, .int .i64 sn, .int .i64 (tv.line : Int), .int .i64 (tv.col : Int), .slice A5 ac.1.len c5] info_ru rfl (by decide) (by decide) und_rus rfl rfl rfl rfl ?_)
 | (at_builtin; refine Xp (.tmp 49) (.tmp 51) 70 111 5 56 _ und_rus info_ru rfl (by decide) (by decide) w.heap.size (.slice A acc.length cp) acc.length xs [.int .i64 5, .int .i64 sn, .int .i64 (tv.line : Int), .int .i64 (tv.col : Int), .slice A5 ac.1.len c5] ((T37.out.call (Zh w37 (.cells ([.int .i64 5, .int .i64 sn, .int .i64 (tv.line : Int), .int .i64 (tv.col : Int), .slice A5 ac.1.len c5] : List Value).toArray 111))).row _ (List.mem_singleton.2 rfl)) w37.heap.size (Zg.made _ _ _) rfl (by simp [Value.oneCell']) (by have := HM.out; omega) (T37.out.call (Zh w37 (.cells ([.int .i64 5, .int .i64 sn, .int .i64 (tv.line : Int), .int .i64 (tv.col : Int), .slice A5 ac.1.len c5] : List Value).toArray 111))).below.size rfl rfl rfl rfl ?_
    intro v9 w38 o9 g9 at9
    have T38 : Hid (Env w [(g0, 62, v6), (g1, 62, [.slice none 0 0, .int .i64 0, .int .i64 0, .int .i64 0, .int .i64 0, .int .i64 0]), (g2, 65, [.int .i64 tv.k, .string tv.t, .int .i64 tv.n, .int .i64 (tv.line : Int), .int .i64 (tv.col : Int)]), (g3, 62, v4), (g4, 111, [.int .i64 5, .int .i64 sn, .int .i64 (tv.line : Int), .int .i64 (tv.col : Int), .slice A5 ac.1.len c5])] [⟨v9, 111, 5, acc.length + 1, xs ++ [.int .i64 5, .int .i64 sn, .int .i64 (tv.line : Int), .int .i64 (tv.col : Int), .slice A5 ac.1.len c5]⟩] [(Je acc, xs), (.row ac.1.len ac.1.ds .nil, [.slice A5 ac.1.len c5])] w38) := Hh ((T37.out.call (Zh w37 (.cells ([.int .i64 5, .int .i64 sn, .int .i64 (tv.line : Int), .int .i64 (tv.col : Int), .slice A5 ac.1.len c5] : List Value).toArray 111))).push o9 g9 at9)
    clear o9 g9 at9))
         (try go_simp)
         go_roundw
         case rel =>
           first
           | refine ⟨m, acc ++ [⟨5, sn, (tv.line : Int), (tv.col : Int), ac.1⟩], xs ++ [.int .i64 5, .int .i64 sn, .int .i64 (tv.line : Int), .int .i64 (tv.col : Int), .slice A5 ac.1.len c5], s5, v6, ?_, h6, ?_, ?_, ?_, ?_, ?_⟩
           | (repeat apply Exists.intro; refine ⟨⟨m, acc ++ [⟨5, sn, (tv.line : Int), (tv.col : Int), ac.1⟩], xs ++ [.int .i64 5, .int .i64 sn, .int .i64 (tv.line : Int), .int .i64 (tv.col : Int), .slice A5 ac.1.len c5], s5, v6, ?_, h6, ?_, ?_, ?_, ?_, ?_⟩, rfl⟩)
           · rw [List.length_append, rusDs_snoc]
             exact T38.out.joinF (bs := [(g0, 62, v6), (g1, 62, [.slice none 0 0, .int .i64 0, .int .i64 0, .int .i64 0, .int .i64 0, .int .i64 0])]) 0 1 rfl rfl fun hD => ⟨_, rfl, _, rfl, _, rfl, _, rfl, hD⟩
           · have := HM.out; omega
           · have := HM.out; omega
           · rw [List.length_append]; simp only [List.length_cons, List.length_nil]; have := HM.out; omega
           · rw [HE.out, HS.out]; simp
           · exact (T38.out.row _ (List.mem_singleton.2 rfl)).1.trans (by simp)
         case measure =>
           have h7 := Uq h6 (T38.out.get 0 rfl)
           have h8 := HB.out
           have := HM.out
           rw [h7, h8]; omega
       · have e5 : ((k : Int) == 5) = false := by rw [beq_eq_false_iff_ne]; omega
         have e6 : strS L k s1 = s1 := if_neg h5
         have e7 : strN L k s1 = 0 := if_neg h5
         rw [e6] at hj1
         rw [e7] at HS
         clear e6 e7 h5
         go_wp2_with (first
 | ((with_reducible refine Zf 14 ?_); refine Xt 60 _ 62 g0 0 ([]) ([.slice (some ⟨r, 0, none⟩) nn K, .int .i64 (a : Int), .int .i64 (d : Int)]) ([.int .i64 0, .int .i64 0, .int .i64 0]) (T20.out.get 0 rfl) rfl Zaj Wm rfl rfl rfl ?_)
 | (go_at_call 19; refine (hhe _ (HR.out.below T20.out.below)).mono ?_; rintro e w21 ⟨rfl, b21⟩
    have T21 := Hh (T20.out.call b21)
    clear b21)
 | ((with_reducible refine Zf 5 ?_); refine Zc T21.out 65 _ rfl rfl z_tok ?_; intro w22 g2 t22
    have T22 := Hh (t22)
    clear t22)
 | ((with_reducible refine Zj 5 15 ?_); refine Za 65 _ _ 65 g2 _ ([.int .i64 tv.k, .string tv.t, .int .i64 tv.n, .int .i64 (tv.line : Int), .int .i64 (tv.col : Int)]) (T22.out.get 2 rfl) rfl size_tok (by simp [Value.oneCell']) rfl rfl rfl rfl rfl ?_
    intro w23 p23
    have T23 := Hh (T22.out.put 2 rfl p23)
    clear p23)
 | ((with_reducible refine Zf 17 ?_); refine Zb 62 _ 62 g0 _ (T23.out.get 0 rfl) Zp Yf rfl rfl rfl ?_)
 | (go_at_call 20; refine (hmy _ _ (ho.below T23.out.below) HP.out).mono ?_; rintro e w24 ⟨v1, rfl, h1, b24⟩
    have T24 := Hh (T23.out.call b24)
    clear b24)
 | ((with_reducible refine Zf 6 ?_); refine Zc T24.out 62 _ rfl rfl z_P ?_; intro w25 g3 t25
    have T25 := Hh (t25)
    clear t25)
 | ((with_reducible refine Zj 6 20 ?_); refine Za 62 _ _ 62 g3 _ (v1) (T25.out.get 3 rfl) h1.len (Ze h1.len) h1.one rfl rfl rfl rfl rfl ?_
    intro w26 p26
    have T26 := Hh (T25.out.put 3 rfl p26)
    have hli := T26.out.cell 2 3 rfl rfl
    have hco := T26.out.cell 2 4 rfl rfl
    clear p26)
 | ((with_reducible refine Zf 8 ?_); refine Zc T26.out 111 _ rfl rfl z_ru ?_; intro w27 g4 t27
    have T27 := Hh (t27)
    clear t27)
 | ((with_reducible refine Zj 8 31 ?_); refine Za 111 _ _ 111 g4 _ ([.int .i64 (k : Int), .int .i64 0, .int .i64 (tv.line : Int), .int .i64 (tv.col : Int), .slice none 0 0]) (T27.out.get 4 rfl) rfl size_ru (by simp [Value.oneCell']) rfl rfl rfl rfl rfl ?_
    intro w28 p28
    have T28 := Hh (T27.out.put 4 rfl p28)
    clear p28)
 | ((with_reducible refine Zf 41 ?_); refine Zb 62 _ 62 g3 _ (T28.out.get 3 rfl) Zp (Ze h1.len) rfl rfl rfl ?_)
 | (go_at_call 23; (with_reducible refine (hj1 _ v1 (ho.below T28.out.below) h1).mono ?_); rintro e w29 ⟨v3, rfl, h3, b29⟩
    have T29 := Hh (T28.out.call b29)
    clear b29)
 | (go_at_call 30; refine (hac _ v3 (ho.below T29.out.below) h3).mono ?_; rintro e w30 ⟨v4, f4, rfl, h4, d4, b30⟩
    obtain ⟨A5, c5, rfl⟩ := d4.slice
    have T30 := Hh (T29.out.tree b30 d4)
    clear d4
    clear b30)
 | ((with_reducible refine Zj 6 44 ?_); refine Za 62 _ _ 62 g3 _ (v4) (T30.out.get 3 rfl) (h4.len.trans h1.len.symm) (Ze h4.len) h4.one rfl rfl rfl rfl rfl ?_
    intro w31 p31
    have T31 := Hh (T30.out.put 3 rfl p31)
    clear p31)
 | ((with_reducible refine Zj 46 45 ?_); refine Zl 34 _ _ 111 g4 4 [.int .i64 (k : Int), .int .i64 0, .int .i64 (tv.line : Int), .int .i64 (tv.col : Int)] (.slice none 0 0) (.slice A5 ac.1.len c5) [] (T31.out.get 4 rfl) rfl Uk rfl rfl rfl rfl rfl rfl ?_
    intro w32 p32
    have T32 := Hh (T31.out.put 4 rfl p32)
    clear p32)
 | ((with_reducible refine Zf 47 ?_); refine Zb 62 _ 62 g3 _ (T32.out.get 3 rfl) Zp (Ze h4.len) rfl rfl rfl ?_)
 | (go_at_call 23; (with_reducible refine (hj2 _ v4 (ho.below T32.out.below) h4).mono ?_); rintro e w33 ⟨v6, rfl, h6, b33⟩
    have T33 := Hh (T32.out.call b33)
    clear b33)
 | ((with_reducible refine Zj 1 48 ?_); refine Za 62 _ _ 62 g0 _ (v6) (T33.out.get 0 rfl) h6.len (Ze h6.len) h6.one rfl rfl rfl rfl rfl ?_
    intro w34 p34
    have T34 := Hh (T33.out.put 0 rfl p34)
    clear p34)
 | ((with_reducible refine Zf 50 ?_); refine Zb 111 _ 111 g4 _ (T34.out.get 4 rfl) row_ru size_ru rfl rfl rfl ?_)
 | ((with_reducible refine Zf 51 ?_); refine Ui 70 111 _ 51 5 56 _ [.int .i64 (k : Int), .int .i64 0, .int .i64 (tv.line : Int), .int .i64 (tv.col : Int), .slice A5 ac.1.len c5] info_ru rfl (by decide) (by decide) und_rus rfl rfl rfl rfl ?_)
 | (at_builtin; refine Xp (.tmp 49) (.tmp 51) 70 111 5 56 _ und_rus info_ru rfl (by decide) (by decide) w.heap.size (.slice A acc.length cp) acc.length xs [.int .i64 (k : Int), .int .i64 0, .int .i64 (tv.line : Int), .int .i64 (tv.col : Int), .slice A5 ac.1.len c5] ((T34.out.call (Zh w34 (.cells ([.int .i64 (k : Int), .int .i64 0, .int .i64 (tv.line : Int), .int .i64 (tv.col : Int), .slice A5 ac.1.len c5] : List Value).toArray 111))).row _ (List.mem_singleton.2 rfl)) w34.heap.size (Zg.made _ _ _) rfl (by simp [Value.oneCell']) (by have := HM.out; omega) (T34.out.call (Zh w34 (.cells ([.int .i64 (k : Int), .int .i64 0, .int .i64 (tv.line : Int), .int .i64 (tv.col : Int), .slice A5 ac.1.len c5] : List Value).toArray 111))).below.size rfl rfl rfl rfl ?_
    intro v9 w35 o9 g9 at9
    have T35 : Hid (Env w [(g0, 62, v6), (g1, 62, [.slice none 0 0, .int .i64 0, .int .i64 0, .int .i64 0, .int .i64 0, .int .i64 0]), (g2, 65, [.int .i64 tv.k, .string tv.t, .int .i64 tv.n, .int .i64 (tv.line : Int), .int .i64 (tv.col : Int)]), (g3, 62, v4), (g4, 111, [.int .i64 (k : Int), .int .i64 0, .int .i64 (tv.line : Int), .int .i64 (tv.col : Int), .slice A5 ac.1.len c5])] [⟨v9, 111, 5, acc.length + 1, xs ++ [.int .i64 (k : Int), .int .i64 0, .int .i64 (tv.line : Int), .int .i64 (tv.col : Int), .slice A5 ac.1.len c5]⟩] [(Je acc, xs), (.row ac.1.len ac.1.ds .nil, [.slice A5 ac.1.len c5])] w35) := Hh ((T34.out.call (Zh w34 (.cells ([.int .i64 (k : Int), .int .i64 0, .int .i64 (tv.line : Int), .int .i64 (tv.col : Int), .slice A5 ac.1.len c5] : List Value).toArray 111))).push o9 g9 at9)
    clear o9 g9 at9))
         (try go_simp)
         go_roundw
         case rel =>
           first
           | refine ⟨m, acc ++ [⟨(k : Int), 0, (tv.line : Int), (tv.col : Int), ac.1⟩], xs ++ [.int .i64 (k : Int), .int .i64 0, .int .i64 (tv.line : Int), .int .i64 (tv.col : Int), .slice A5 ac.1.len c5], s5, v6, ?_, h6, ?_, ?_, ?_, ?_, ?_⟩
           | (repeat apply Exists.intro; refine ⟨⟨m, acc ++ [⟨(k : Int), 0, (tv.line : Int), (tv.col : Int), ac.1⟩], xs ++ [.int .i64 (k : Int), .int .i64 0, .int .i64 (tv.line : Int), .int .i64 (tv.col : Int), .slice A5 ac.1.len c5], s5, v6, ?_, h6, ?_, ?_, ?_, ?_, ?_⟩, rfl⟩)
           · rw [List.length_append, rusDs_snoc]
             exact T35.out.joinF (bs := [(g0, 62, v6), (g1, 62, [.slice none 0 0, .int .i64 0, .int .i64 0, .int .i64 0, .int .i64 0, .int .i64 0])]) 0 1 rfl rfl fun hD => ⟨_, rfl, _, rfl, _, rfl, _, rfl, hD⟩
           · have := HM.out; omega
           · have := HM.out; omega
           · rw [List.length_append]; simp only [List.length_cons, List.length_nil]; have := HM.out; omega
           · rw [HE.out, HS.out]; simp
           · exact (T35.out.row _ (List.mem_singleton.2 rfl)).1.trans (by simp)
         case measure =>
           have h7 := Uq h6 (T35.out.get 0 rfl)
           have h8 := HB.out
           have := HM.out
           rw [h7, h8]; omega
end Go.Proofs.YtgfkimknnbpmnaaGreat
