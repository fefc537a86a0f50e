/-
  Texts Q4. No conditions but those that each theorem names.
-/
import Derived.Test.YtljdgdphldckhaaGreatQA27
set_option maxRecDepth 20000
set_option maxHeartbeats 12800000
namespace Go.Proofs.YtljdgdphldckhaaGreat
open Go.Great Go.ChangeShapes Go.WideShapes Go.ChangeAt Go.RowKit
set_option linter.unusedVariables false
set_option linter.unusedSimpArgs false
theorem bin_vals {N : Nat → Prop} {w : World} {op : Int} {l r : Ex} {vs : List Value} (hd : Zh N w (Ex.bin op l r).ds vs) :
   vs.length = 12 ∧ vs[0]? = some (.int .i64 7) ∧ vs[1]? = some (.int .i64 op) ∧ ∃ g kc ys us, vs[11]? = some (.slice (some ⟨g, 0, none⟩) 2 kc) ∧ g < w.heap.size ∧ w.rangeAt g 0 ys ∧ w.rangeAt g 12 us ∧ Zh N w l.ds ys ∧ Zh N w r.ds us ∧ ys.length = 12 ∧ us.length = 12 := by
 have hl := hd.len
 rw [Ex.ds_len] at hl
 obtain ⟨_, rfl, _, rfl, h⟩ := hd
 obtain ⟨sv, _, rfl, hs, h⟩ := Zh.split (x := zSe.ds) h
 obtain ⟨_, rfl, _, rfl, _, rfl, C, kc, xs, _, rfl, _, hw, hk, rfl⟩ := h
 have e : sv.length = 6 := by rw [hs.len, Se.ds_len]
 obtain ⟨ys, us, rfl, h1, h2⟩ := Zh.split (x := l.ds) hk
 have l1 : ys.length = 12 := by rw [h1.len, Ex.ds_len]
 have l2 : us.length = 12 := by rw [h2.len, Ex.ds_len]
 obtain ⟨g, rfl, hg, hc⟩ := hw.reads (by rw [List.length_append, l1, l2]; omega)
 refine ⟨hl, rfl, rfl, g, kc, ys, us, by simp [List.getElem?_append, e], hg, fun j v hv => ?_, fun j v hv => ?_, h1, h2, l1, l2⟩
 · have hj : j < ys.length := (List.getElem?_eq_some_iff.1 hv).1
   rw [Nat.zero_add, hc _ (by rw [List.length_append]; omega), List.getElem?_append_left hj, hv]
 · have hj : j < us.length := (List.getElem?_eq_some_iff.1 hv).1
   rw [hc _ (by rw [List.length_append]; omega), List.getElem?_append_right (by omega), show 12 + j - ys.length = j from by omega, hv]
theorem pBinary (w0 : World) (N : Nat → Prop) (op : Int) (l r : Ex) (h1 : 1 ≤ op) (h3 : op ≤ 3) (hvl : VEx l) (hvr : VEx r) (IL : ∀ ys, Zh N w0 l.ds ys → Xa w0 74 (.agg ys.toArray) (kEx l)) (IR : ∀ ys, Zh N w0 r.ds ys → Xa w0 74 (.agg ys.toArray) (kEx r))
   (vs : List Value) (hd : Zh N w0 (Ex.bin op l r).ds vs) : Xa w0 124 (.agg vs.toArray) (kEx (.bin op l r)) := by
 intro b st own x h hr
 have htw := fun w => tight_any (.bin op l r) ⟨⟨h1, h3⟩, hvl, hvr⟩ vs hd w
 obtain ⟨hl, v0, v1, g, kc, ys, us, v11, hg, hy, hu, dy, du, ly, lu⟩ := bin_vals hd
 have e1 : brB (tightE (.bin op l r)) (tightE l) true = must false op l := br_must h1 h3 true l hvl
 have e2 : brB (tightE (.bin op l r)) (tightE r) false = must true op r := br_must h1 h3 false r hvr
 have ke : kEx (.bin op l r) = kB (must false op l) (kEx l) ++ ([wd wSign op] ++ kB (must true op r) (kEx r)) := rfl
 rw [ke] at hr ⊢
 obtain ⟨s1, E1⟩ : ∃ s, s = Zp st (kB (must false op l) (kEx l)) := ⟨_, rfl⟩
 have R1 := Hh (Yk.first hr)
 replace hr := Yk.next hr
 rw [← E1] at hr
 obtain ⟨s2, E2⟩ : ∃ s, s = Zp s1 ([wd wSign op]) := ⟨_, rfl⟩
 have R2 := Hh (Yk.first hr)
 replace hr := Yk.next hr
 rw [← E2] at hr
 obtain ⟨s3, E3⟩ : ∃ s, s = Zp s2 (kB (must true op r) (kEx r)) := ⟨_, rfl⟩
 have R3 := Hh hr
 clear hr
 have EK : Zp st ((kB (must false op l) (kEx l)) ++ (([wd wSign op]) ++ ((kB (must true op r) (kEx r))))) = s3 := by simp only [Yd, E1, E2, E3]
 rw [EK]
 clear EK
 have O1 := Hh (pOpd w0 ys ly (tightE (.bin op l r)) (tightE l) true (kEx l) (IL ys dy) (fun w => tight_any l hvl ys dy w) b (s1 := st) (s2 := s1) (by rw [e1]; exact E1) (by rw [e1]; exact R1.out))
 have P2 := Hh (fun own x => Xd (w0 := w0) (b := b) E2 R2.out (by simp) own x)
 have O3 := Hh (pOpd w0 us lu (tightE (.bin op l r)) (tightE r) false (kEx r) (IR us du) (fun w => tight_any r hvr us du w) b (s1 := s2) (s2 := s3) (by rw [e2]; exact E3) (by rw [e2]; exact R3.out))
 generalize tightE (.bin op l r) = whole at *
 have HT := Hh htw
 have HVL := Hh hl
 have HLY := Hh ly
 have HLU := Hh lu
 have H1 := Hh v1
 have H11 := Hh v11
 have HY := Hh hy
 have HU := Hh hu
 have HDY := Hh dy.one
 have HDU := Hh du.one
 clear hd htw hl v0 v1 v11 hy hu dy du ly lu e1 e2 ke IL IR hvl hvr
 have HE1 := Hh E1
 clear E1
 have HE2 := Hh E2
 clear E2
 have HE3 := Hh E3
 clear E3
 have T := Hh h
 clear h
 go_enter Tryz.func124, Tryz.ntmps124
 go_wp2_with (first
 | ((with_reducible refine Ze 2 ?_); refine wpList_boxP1 T.out 99 _ (.pointer (some ⟨b, 0, none⟩)) rfl rfl rfl rfl ?_; intro wn g2 tn; have T := Hh tn; clear tn)
 | ((with_reducible refine Ze 3 ?_); refine Ya T.out 51 _ (vs) rfl rfl rfl ?_; intro wn g3 tn; have T := Hh tn; clear tn; have c0_1 : wn.cell? ⟨g3, 1, none⟩ = some (.int .i64 op) := (T.out.get 0 rfl).nthQ 1 H1.out; have c0_11 : wn.cell? ⟨g3, 11, none⟩ = some (.slice (some ⟨g, 0, none⟩) 2 kc) := (T.out.get 0 rfl).nthQ 11 H11.out; have c1_0 : wn.cell? ⟨g2, 0, none⟩ = some (.pointer (some ⟨b, 0, none⟩)) := (T.out.get 1 rfl).read 0)
 | ((with_reducible refine Ze 8 ?_); refine Zd 51 _ 51 g3 (vs) (T.out.get 0 rfl) Xu (by rw [HVL.out]; exact Xb) rfl rfl rfl ?_)
 | (go_at_call 164; refine (HT.out _).mono ?_; rintro e wn ⟨rfl, bn⟩; have T := Hh (T.out.call bn); clear bn; have c0_1 : wn.cell? ⟨g3, 1, none⟩ = some (.int .i64 op) := (T.out.get 0 rfl).nthQ 1 H1.out; have c0_11 : wn.cell? ⟨g3, 11, none⟩ = some (.slice (some ⟨g, 0, none⟩) 2 kc) := (T.out.get 0 rfl).nthQ 11 H11.out; have c1_0 : wn.cell? ⟨g2, 0, none⟩ = some (.pointer (some ⟨b, 0, none⟩)) := (T.out.get 1 rfl).read 0)
 | ((with_reducible refine Ze 4 ?_); refine Vg T.out 3 ([.int .i64 0]) rfl rfl qz_int ?_; intro wn g4 tn; have T := Hh tn; clear tn; have c1_1 : wn.cell? ⟨g3, 1, none⟩ = some (.int .i64 op) := (T.out.get 1 rfl).nthQ 1 H1.out; have c1_11 : wn.cell? ⟨g3, 11, none⟩ = some (.slice (some ⟨g, 0, none⟩) 2 kc) := (T.out.get 1 rfl).nthQ 11 H11.out; have c2_0 : wn.cell? ⟨g2, 0, none⟩ = some (.pointer (some ⟨b, 0, none⟩)) := (T.out.get 2 rfl).read 0)
 | ((with_reducible refine Zl 4 9 ?_); refine wpList_storeP1 T.out 0 3 _ _ 3 g4 _ (.int .i64 whole) rfl qsize_int rfl rfl rfl rfl rfl rfl ?_; intro wn tn; have T : Hid (PE w0 b st ((g4, 3, [.int .i64 whole]) :: (g3, 51, vs) :: (g2, 99, [.pointer (some ⟨b, 0, none⟩)]) :: own) wn) := Hh tn; clear tn; have c1_1 : wn.cell? ⟨g3, 1, none⟩ = some (.int .i64 op) := (T.out.get 1 rfl).nthQ 1 H1.out; have c1_11 : wn.cell? ⟨g3, 11, none⟩ = some (.slice (some ⟨g, 0, none⟩) 2 kc) := (T.out.get 1 rfl).nthQ 11 H11.out; have c2_0 : wn.cell? ⟨g2, 0, none⟩ = some (.pointer (some ⟨b, 0, none⟩)) := (T.out.get 2 rfl).read 0))
 go_loopw [14] (fun i wr => ∃ m : Nat, i = .int .i64 m ∧ m ≤ 2 ∧ PE w0 b (if m = 0 then st else if m = 1 then s1 else s3) ((g4, 3, [.int .i64 whole]) :: (g3, 51, vs) :: (g2, 99, [.pointer (some ⟨b, 0, none⟩)]) :: own) wr) (fun i _ => 2 - (intOf i).toNat)
 case atStart => exact ⟨0, by go_num, by omega, T.out⟩
 case round =>
   obtain ⟨m, rfl, hm2, hT⟩ := hrel
   obtain rfl | rfl | rfl : m = 0 ∨ m = 1 ∨ m = 2 := by omega
   · have T : Hid (PE w0 b st ((g4, 3, [.int .i64 whole]) :: (g3, 51, vs) :: (g2, 99, [.pointer (some ⟨b, 0, none⟩)]) :: own) wr) := Hh hT
     clear hT
     go_wp2_with (first
 | ((with_reducible refine Ze 18 ?_); refine Zy 51 _ g (0) (ys) (T.out.ranges HY.out hg) Xu (by rw [HLY.out]; exact Xb) rfl rfl rfl ?_)
 | ((with_reducible refine Ze 7 ?_); refine Vg T.out 51 ([.int .i64 0, .int .i64 0, .int .i64 0, .int .i64 0, .int .i64 0, .int .i64 0, .slice none 0 0, .int .i64 0, .int .i64 0, .int .i64 0, .int .i64 0, .slice none 0 0]) rfl rfl qz_ex ?_; intro wn g7 tn; have T := Hh tn; clear tn)
 | ((with_reducible refine Zl 7 18 ?_); refine Zc 51 _ _ 51 g7 _ (ys) (T.out.get 0 rfl) HLY.out (by rw [HLY.out]; exact Xb) HDY.out rfl rfl rfl rfl rfl ?_; intro wn p; have T := Hh (T.out.put 0 rfl p); clear p)
 | ((with_reducible refine Ze 29 ?_); refine Zd 51 _ 51 g7 (ys) (T.out.get 0 rfl) Xu (by rw [HLY.out]; exact Xb) rfl rfl rfl ?_)
 | (go_at_call 165; refine (O1.out _ _ T.out g4 g2 1 3 _ _ rfl rfl).mono ?_; rintro e wn ⟨rfl, tn⟩; have T := Hh tn; clear tn))
     go_roundw
     case rel => exact ⟨1, by go_num, by omega, T.out.tail⟩
     case measure => simp [intOf]
   · have T : Hid (PE w0 b s1 ((g4, 3, [.int .i64 whole]) :: (g3, 51, vs) :: (g2, 99, [.pointer (some ⟨b, 0, none⟩)]) :: own) wr) := Hh hT
     clear hT
     go_upto_region 7 with (first
 | ((with_reducible refine Ze 18 ?_); refine Zy 51 _ g (12) (us) (T.out.ranges HU.out hg) Xu (by rw [HLU.out]; exact Xb) rfl rfl rfl ?_)
 | ((with_reducible refine Ze 7 ?_); refine Vg T.out 51 ([.int .i64 0, .int .i64 0, .int .i64 0, .int .i64 0, .int .i64 0, .int .i64 0, .slice none 0 0, .int .i64 0, .int .i64 0, .int .i64 0, .int .i64 0, .slice none 0 0]) rfl rfl qz_ex ?_; intro wn g7 tn; have T := Hh tn; clear tn)
 | ((with_reducible refine Zl 7 18 ?_); refine Zc 51 _ _ 51 g7 _ (us) (T.out.get 0 rfl) HLU.out (by rw [HLU.out]; exact Xb) HDU.out rfl rfl rfl rfl rfl ?_; intro wn p; have T := Hh (T.out.put 0 rfl p); clear p; have c2_1 : wn.cell? ⟨g3, 1, none⟩ = some (.int .i64 op) := (T.out.get 2 rfl).nthQ 1 H1.out; have c3_0 : wn.cell? ⟨g2, 0, none⟩ = some (.pointer (some ⟨b, 0, none⟩)) := (T.out.get 3 rfl).read 0))
     go_cut [] from 21 to 27 (fun wx => PE w0 b s2 ((g7, 51, us) :: (g4, 3, [.int .i64 whole]) :: (g3, 51, vs) :: (g2, 99, [.pointer (some ⟨b, 0, none⟩)]) :: own) wx)
     case first =>
       refine wp_region_held_drew (S := fun x => ∃ s, PE w0 b s ((g7, 51, us) :: (g4, 3, [.int .i64 whole]) :: (g3, 51, vs) :: (g2, 99, [.pointer (some ⟨b, 0, none⟩)]) :: own) x) (by kernel_rfl) ⟨_, T.out.drew⟩ (fun hS => ?_)
       have hP := T.out.drew
       generalize wn.drew = wf at *
       refine Xg (i := 0) (v := .pointer (some ⟨b, 0, none⟩)) rfl rfl (by kernel_rfl) (by kernel_rfl) (by kernel_rfl) (fun _ _ _ h => h) (Or.inl ⟨by rfl, fun y hy => by obtain ⟨_, hy⟩ := hy; have c0 := (PE.get hy 3 rfl).read 0; go_simp⟩) hS ?_
       try simp only [Qy1, Qx1]
       refine Xg (i := 1) (v := .pointer (some ⟨g3, 1, none⟩)) rfl rfl (by kernel_rfl) (by kernel_rfl) (by kernel_rfl) (fun _ _ _ h => h) (Or.inl ⟨by rfl, fun y hy => by go_simp⟩) hS ?_
       try simp only [Qy1, Qx1]
       refine Xg (i := 2) (v := .int .i64 op) rfl rfl (by kernel_rfl) (by kernel_rfl) (by kernel_rfl) (fun _ _ _ h => h) (Or.inl ⟨by rfl, fun y hy => by obtain ⟨_, hy⟩ := hy; have c0 := (PE.get hy 2 rfl).nthQ 1 H1.out; go_simp⟩) hS ?_
       try simp only [Qy1, Qx1]
       refine wpAnyH_ready (rs := [3]) (by kernel_rfl) (by simp) (AllReadyH.cons rfl (fun K hK => ?_) AllReadyH.nil)
       clear hS
       go_simp
       have hP2 := hP.call (Za wf (.cells #[.string ⟨#[43]⟩, .string ⟨#[45]⟩, .string ⟨#[42]⟩] 9))
       have hW : Zb (World.alloc wf (.cells #[.string ⟨#[43]⟩, .string ⟨#[45]⟩, .string ⟨#[42]⟩] 9)) wf.heap.size 9 (Zaf wSign) := Zb.made _ _ _
       obtain ⟨q, hq⟩ : ∃ q, q = wf.heap.size := ⟨_, rfl⟩
       rw [← hq] at hW ⊢
       clear hq hP
       generalize World.alloc wf (.cells #[.string ⟨#[43]⟩, .string ⟨#[45]⟩, .string ⟨#[42]⟩] 9) = wf at *
       have hP := hP2
       clear hP2
       refine hK.out _ _ ⟨_, hP⟩ (fun hS => ?_)
       clear hK K
       try simp only [Act.put, Qz1, Qy1, Qx1]
       refine wpAnyH_ready (rs := [4]) (by kernel_rfl) (by simp) (AllReadyH.cons rfl (fun K hK => ?_) AllReadyH.nil)
       clear hS
       go_simp
       go_at_call 117
       refine (vqWordW hP hW op 3 3 rfl h1 (by show _ ≤ ((3 : Nat) : Int); omega) (by decide)).mono ?_
       rintro e wf ⟨rfl, hP2⟩
       clear hW
       clear hP
       have hP := hP2
       clear hP2
       refine hK.out _ _ ⟨_, hP⟩ (fun hS => ?_)
       clear hK K
       try simp only [Act.put, Qz1, Qy1, Qx1]
       refine wpAnyH_ready (rs := [5]) (by kernel_rfl) (by simp) (AllReadyH.cons rfl (fun K hK => ?_) AllReadyH.nil)
       clear hS
       go_simp
       refine hK.out _ _ ⟨_, hP.call (Za wf (.cells #[.string (wd wSign op)] 9))⟩ (fun hS => ?_)
       clear hK K
       try simp only [Act.put, Qz1, Qy1, Qx1]
       refine wpAnyH_ready (rs := [6]) (by kernel_rfl) (by simp) (AllReadyH.cons rfl (fun K hK => ?_) AllReadyH.nil)
       clear hS
       go_simp
       go_at_call 107
       refine (P2.out _ _ _ _ _ hP rfl rfl).mono ?_
       rintro e wf ⟨rfl, hP2⟩
       clear hP
       have hP := hP2
       clear hP2
       refine hK.out _ _ ⟨_, hP⟩ (fun hS => ?_)
       clear hK K
       try simp only [Act.put, Qz1, Qy1, Qx1]
       refine wpAnyH_done (by kernel_rfl) ?_ _
       have T := Hh hP
       clear hP hS
       go_wp2_with fail
       go_meet
       case rel => exact T.out
     case rest =>
       have T := Hh hcut
       clear hcut
       go_wp2_with (first
 | ((with_reducible refine Ze 29 ?_); refine Zd 51 _ 51 g7 (us) (T.out.get 0 rfl) Xu (by rw [HLU.out]; exact Xb) rfl rfl rfl ?_)
 | (go_at_call 165; refine (O3.out _ _ T.out g4 g2 1 3 _ _ rfl rfl).mono ?_; rintro e wn ⟨rfl, tn⟩; have T := Hh tn; clear tn))
       go_roundw
       case rel => exact ⟨2, by go_num, by omega, T.out.tail⟩
       case measure => simp [intOf]
   · have T : Hid (PE w0 b s3 ((g4, 3, [.int .i64 whole]) :: (g3, 51, vs) :: (g2, 99, [.pointer (some ⟨b, 0, none⟩)]) :: own) wr) := Hh hT
     clear hT
     go_wp2
     go_end0
     exact ⟨rfl, T.out.tail.tail.tail⟩
def Ut (k n : Int) (sv : List Value) (sd tk tl : Int) (z : Value) : List Value := .int .i64 k :: .int .i64 n :: (sv ++ [.int .i64 sd, .int .i64 tk, .int .i64 tl, z])
theorem leafV_at {k n sd tk tl : Int} {sv : List Value} {z : Value} (h : sv.length = 6) : (Ut k n sv sd tk tl z).length = 12 ∧ (Ut k n sv sd tk tl z)[0]? = some (.int .i64 k) ∧ (Ut k n sv sd tk tl z)[1]? = some (.int .i64 n) ∧ (Ut k n sv sd tk tl z)[8]? = some (.int .i64 sd) ∧
   (∀ (x : World) (g : Nat) (t : TypeId), Zb x g t (Ut k n sv sd tk tl z).toArray → x.rangeAt g 2 sv) ∧ (∀ (x : World) (g : Nat) (t : TypeId), Zb x g t (Ut k n sv sd tk tl z).toArray → x.rangeAt g 9 [.int .i64 tk, .int .i64 tl]) := by
 refine ⟨by simp [Ut, h], rfl, rfl, by simp [Ut, List.getElem?_append, h], fun x g t hw => ?_, fun x g t hw => ?_⟩
 · have e : Ut k n sv sd tk tl z = [.int .i64 k, .int .i64 n] ++ sv ++ [.int .i64 sd, .int .i64 tk, .int .i64 tl, z] := by simp [Ut]
   rw [e] at hw
   exact hw.range
 · have e : Ut k n sv sd tk tl z = (.int .i64 k :: .int .i64 n :: (sv ++ [.int .i64 sd])) ++ [.int .i64 tk, .int .i64 tl] ++ [z] := by simp [Ut]
   rw [e] at hw
   have := hw.range
   simpa [h] using this
theorem pEx_1 (w0 : World) (n sd tk tl : Int) (sv : List Value) (z : Value) (hsv : sv.length = 6) (h1 : -99 ≤ n) (h2 : n ≤ 99) : Xa w0 74 (.agg (Ut 1 n sv sd tk tl z).toArray) ([putS n]) := by
 intro b st own x h hr
 obtain ⟨s1, E1⟩ : ∃ s, s = Zp st ([putS n]) := ⟨_, rfl⟩
 have R1 := Hh hr
 clear hr
 have EK : Zp st (([putS n])) = s1 := by simp only [Yd, E1]
 rw [EK]
 clear EK
 have P1 := Hh (fun own x => Xd (w0 := w0) (b := b) E1 R1.out (by simp) own x)
 have HE1 := Hh E1
 clear E1
 obtain ⟨l12, a0, a1, a8, rs, rt⟩ := leafV_at (k := 1) (n := n) (sd := sd) (tk := tk) (tl := tl) (z := z) hsv
 have HSV := Hh hsv
 have H0 := Hh a0
 have H1 := Hh a1
 have H8 := Hh a8
 have RS := Hh rs
 have RT := Hh rt
 generalize Ut 1 n sv sd tk tl z = vs at *
 clear l12 a0 a1 a8 rs rt hsv
 have T := Hh h
 clear h
 go_enter Tryz.func74, Tryz.ntmps74
 go_wp2_with (first
 | ((with_reducible refine Ze 3 ?_); refine Ya T.out 51 _ (vs) rfl rfl rfl ?_; intro wn g0 tn; have T := Hh tn; clear tn; have c0_0 : wn.cell? ⟨g0, 0, none⟩ = some (.int .i64 1) := (T.out.get 0 rfl).nthQ 0 H0.out; have c0_1 : wn.cell? ⟨g0, 1, none⟩ = some (.int .i64 n) := (T.out.get 0 rfl).nthQ 1 H1.out; have c0_8 : wn.cell? ⟨g0, 8, none⟩ = some (.int .i64 sd) := (T.out.get 0 rfl).nthQ 8 H8.out)
 | (go_at_call 109; (with_reducible refine (vqNum T.out (n) (h1) (h2)).mono ?_); rintro e wn ⟨rfl, tn⟩; have T := Hh tn; clear tn; have c0_0 : wn.cell? ⟨g0, 0, none⟩ = some (.int .i64 1) := (T.out.get 0 rfl).nthQ 0 H0.out; have c0_1 : wn.cell? ⟨g0, 1, none⟩ = some (.int .i64 n) := (T.out.get 0 rfl).nthQ 1 H1.out; have c0_8 : wn.cell? ⟨g0, 8, none⟩ = some (.int .i64 sd) := (T.out.get 0 rfl).nthQ 8 H8.out)
 | (go_at_call 107; refine (P1.out _ _ _ _ _ T.out rfl rfl).mono ?_; rintro e wn ⟨rfl, tn⟩; have T := Hh tn; clear tn; have c0_0 : wn.cell? ⟨g0, 0, none⟩ = some (.int .i64 1) := (T.out.get 0 rfl).nthQ 0 H0.out; have c0_1 : wn.cell? ⟨g0, 1, none⟩ = some (.int .i64 n) := (T.out.get 0 rfl).nthQ 1 H1.out; have c0_8 : wn.cell? ⟨g0, 8, none⟩ = some (.int .i64 sd) := (T.out.get 0 rfl).nthQ 8 H8.out))
 go_end0
 exact ⟨rfl, T.out.tail⟩
theorem pEx_2 (w0 : World) (n sd tk tl : Int) (sv : List Value) (z : Value) (hsv : sv.length = 6) (KS : List ByteArray) (hsel : Xa w0 65 (.agg sv.toArray) KS) : Xa w0 74 (.agg (Ut 2 n sv sd tk tl z).toArray) ([⟨#[99, 111, 117, 110, 116]⟩] ++ KS) := by
 intro b st own x h hr
 obtain ⟨s1, E1⟩ : ∃ s, s = Zp st ([⟨#[99, 111, 117, 110, 116]⟩]) := ⟨_, rfl⟩
 have R1 := Hh (Yk.first hr)
 replace hr := Yk.next hr
 rw [← E1] at hr
 obtain ⟨s2, E2⟩ : ∃ s, s = Zp s1 (KS) := ⟨_, rfl⟩
 have R2 := Hh hr
 clear hr
 have EK : Zp st (([⟨#[99, 111, 117, 110, 116]⟩]) ++ ((KS))) = s2 := by simp only [Yd, E1, E2]
 rw [EK]
 clear EK
 have P1 := Hh (fun own x => Xd (w0 := w0) (b := b) E1 R1.out (by simp) own x)
 have P2 := Hh (hsel.at_ (b := b) E2 R2.out)
 have HE1 := Hh E1
 clear E1
 have HE2 := Hh E2
 clear E2
 obtain ⟨l12, a0, a1, a8, rs, rt⟩ := leafV_at (k := 2) (n := n) (sd := sd) (tk := tk) (tl := tl) (z := z) hsv
 have HSV := Hh hsv
 have H0 := Hh a0
 have H1 := Hh a1
 have H8 := Hh a8
 have RS := Hh rs
 have RT := Hh rt
 generalize Ut 2 n sv sd tk tl z = vs at *
 clear l12 a0 a1 a8 rs rt hsv
 have T := Hh h
 clear h
 clear hsel
 go_enter Tryz.func74, Tryz.ntmps74
 go_wp2_with (first
 | ((with_reducible refine Ze 3 ?_); refine Ya T.out 51 _ (vs) rfl rfl rfl ?_; intro wn g0 tn; have T := Hh tn; clear tn; have c0_0 : wn.cell? ⟨g0, 0, none⟩ = some (.int .i64 2) := (T.out.get 0 rfl).nthQ 0 H0.out; have c0_1 : wn.cell? ⟨g0, 1, none⟩ = some (.int .i64 n) := (T.out.get 0 rfl).nthQ 1 H1.out; have c0_8 : wn.cell? ⟨g0, 8, none⟩ = some (.int .i64 sd) := (T.out.get 0 rfl).nthQ 8 H8.out)
 | (go_at_call 107; refine (P1.out _ _ _ _ _ T.out rfl rfl).mono ?_; rintro e wn ⟨rfl, tn⟩; have T := Hh tn; clear tn; have c0_0 : wn.cell? ⟨g0, 0, none⟩ = some (.int .i64 2) := (T.out.get 0 rfl).nthQ 0 H0.out; have c0_1 : wn.cell? ⟨g0, 1, none⟩ = some (.int .i64 n) := (T.out.get 0 rfl).nthQ 1 H1.out; have c0_8 : wn.cell? ⟨g0, 8, none⟩ = some (.int .i64 sd) := (T.out.get 0 rfl).nthQ 8 H8.out)
 | ((with_reducible refine Ze 21 ?_); refine Zy 46 _ g0 (2) (sv) (RS.out _ _ _ (T.out.get 0 rfl)) Jl (by rw [HSV.out]; exact Um) rfl rfl rfl ?_)
 | (go_at_call 65; refine (P2.out _ _ T.out).mono ?_; rintro e wn ⟨rfl, tn⟩; have T := Hh tn; clear tn; have c0_0 : wn.cell? ⟨g0, 0, none⟩ = some (.int .i64 2) := (T.out.get 0 rfl).nthQ 0 H0.out; have c0_1 : wn.cell? ⟨g0, 1, none⟩ = some (.int .i64 n) := (T.out.get 0 rfl).nthQ 1 H1.out; have c0_8 : wn.cell? ⟨g0, 8, none⟩ = some (.int .i64 sd) := (T.out.get 0 rfl).nthQ 8 H8.out))
 go_end0
 exact ⟨rfl, T.out.tail⟩
theorem pEx_3 (w0 : World) (n sd tk tl : Int) (sv : List Value) (z : Value) (hsv : sv.length = 6) (KS : List ByteArray) (hsel : Xa w0 65 (.agg sv.toArray) KS) : Xa w0 74 (.agg (Ut 3 n sv sd tk tl z).toArray) ([⟨#[115, 117, 109]⟩] ++ KS) := by
 intro b st own x h hr
 obtain ⟨s1, E1⟩ : ∃ s, s = Zp st ([⟨#[115, 117, 109]⟩]) := ⟨_, rfl⟩
 have R1 := Hh (Yk.first hr)
 replace hr := Yk.next hr
 rw [← E1] at hr
 obtain ⟨s2, E2⟩ : ∃ s, s = Zp s1 (KS) := ⟨_, rfl⟩
 have R2 := Hh hr
 clear hr
 have EK : Zp st (([⟨#[115, 117, 109]⟩]) ++ ((KS))) = s2 := by simp only [Yd, E1, E2]
 rw [EK]
 clear EK
 have P1 := Hh (fun own x => Xd (w0 := w0) (b := b) E1 R1.out (by simp) own x)
 have P2 := Hh (hsel.at_ (b := b) E2 R2.out)
 have HE1 := Hh E1
 clear E1
 have HE2 := Hh E2
 clear E2
 obtain ⟨l12, a0, a1, a8, rs, rt⟩ := leafV_at (k := 3) (n := n) (sd := sd) (tk := tk) (tl := tl) (z := z) hsv
 have HSV := Hh hsv
 have H0 := Hh a0
 have H1 := Hh a1
 have H8 := Hh a8
 have RS := Hh rs
 have RT := Hh rt
 generalize Ut 3 n sv sd tk tl z = vs at *
 clear l12 a0 a1 a8 rs rt hsv
 have T := Hh h
 clear h
 clear hsel
 go_enter Tryz.func74, Tryz.ntmps74
 go_wp2_with (first
 | ((with_reducible refine Ze 3 ?_); refine Ya T.out 51 _ (vs) rfl rfl rfl ?_; intro wn g0 tn; have T := Hh tn; clear tn; have c0_0 : wn.cell? ⟨g0, 0, none⟩ = some (.int .i64 3) := (T.out.get 0 rfl).nthQ 0 H0.out; have c0_1 : wn.cell? ⟨g0, 1, none⟩ = some (.int .i64 n) := (T.out.get 0 rfl).nthQ 1 H1.out; have c0_8 : wn.cell? ⟨g0, 8, none⟩ = some (.int .i64 sd) := (T.out.get 0 rfl).nthQ 8 H8.out)
 | (go_at_call 107; refine (P1.out _ _ _ _ _ T.out rfl rfl).mono ?_; rintro e wn ⟨rfl, tn⟩; have T := Hh tn; clear tn; have c0_0 : wn.cell? ⟨g0, 0, none⟩ = some (.int .i64 3) := (T.out.get 0 rfl).nthQ 0 H0.out; have c0_1 : wn.cell? ⟨g0, 1, none⟩ = some (.int .i64 n) := (T.out.get 0 rfl).nthQ 1 H1.out; have c0_8 : wn.cell? ⟨g0, 8, none⟩ = some (.int .i64 sd) := (T.out.get 0 rfl).nthQ 8 H8.out)
 | ((with_reducible refine Ze 30 ?_); refine Zy 46 _ g0 (2) (sv) (RS.out _ _ _ (T.out.get 0 rfl)) Jl (by rw [HSV.out]; exact Um) rfl rfl rfl ?_)
 | (go_at_call 65; refine (P2.out _ _ T.out).mono ?_; rintro e wn ⟨rfl, tn⟩; have T := Hh tn; clear tn; have c0_0 : wn.cell? ⟨g0, 0, none⟩ = some (.int .i64 3) := (T.out.get 0 rfl).nthQ 0 H0.out; have c0_1 : wn.cell? ⟨g0, 1, none⟩ = some (.int .i64 n) := (T.out.get 0 rfl).nthQ 1 H1.out; have c0_8 : wn.cell? ⟨g0, 8, none⟩ = some (.int .i64 sd) := (T.out.get 0 rfl).nthQ 8 H8.out))
 go_end0
 exact ⟨rfl, T.out.tail⟩
theorem pEx_4 (w0 : World) (n sd tk tl : Int) (sv : List Value) (z : Value) (hsv : sv.length = 6)  : Xa w0 74 (.agg (Ut 4 n sv sd tk tl z).toArray) ([⟨#[114, 111, 117, 110, 100]⟩]) := by
 intro b st own x h hr
 obtain ⟨s1, E1⟩ : ∃ s, s = Zp st ([⟨#[114, 111, 117, 110, 100]⟩]) := ⟨_, rfl⟩
 have R1 := Hh hr
 clear hr
 have EK : Zp st (([⟨#[114, 111, 117, 110, 100]⟩])) = s1 := by simp only [Yd, E1]
 rw [EK]
 clear EK
 have P1 := Hh (fun own x => Xd (w0 := w0) (b := b) E1 R1.out (by simp) own x)
 have HE1 := Hh E1
 clear E1
 obtain ⟨l12, a0, a1, a8, rs, rt⟩ := leafV_at (k := 4) (n := n) (sd := sd) (tk := tk) (tl := tl) (z := z) hsv
 have HSV := Hh hsv
 have H0 := Hh a0
 have H1 := Hh a1
 have H8 := Hh a8
 have RS := Hh rs
 have RT := Hh rt
 generalize Ut 4 n sv sd tk tl z = vs at *
 clear l12 a0 a1 a8 rs rt hsv
 have T := Hh h
 clear h
 go_enter Tryz.func74, Tryz.ntmps74
 go_wp2_with (first
 | ((with_reducible refine Ze 3 ?_); refine Ya T.out 51 _ (vs) rfl rfl rfl ?_; intro wn g0 tn; have T := Hh tn; clear tn; have c0_0 : wn.cell? ⟨g0, 0, none⟩ = some (.int .i64 4) := (T.out.get 0 rfl).nthQ 0 H0.out; have c0_1 : wn.cell? ⟨g0, 1, none⟩ = some (.int .i64 n) := (T.out.get 0 rfl).nthQ 1 H1.out; have c0_8 : wn.cell? ⟨g0, 8, none⟩ = some (.int .i64 sd) := (T.out.get 0 rfl).nthQ 8 H8.out)
 | (go_at_call 107; refine (P1.out _ _ _ _ _ T.out rfl rfl).mono ?_; rintro e wn ⟨rfl, tn⟩; have T := Hh tn; clear tn; have c0_0 : wn.cell? ⟨g0, 0, none⟩ = some (.int .i64 4) := (T.out.get 0 rfl).nthQ 0 H0.out; have c0_1 : wn.cell? ⟨g0, 1, none⟩ = some (.int .i64 n) := (T.out.get 0 rfl).nthQ 1 H1.out; have c0_8 : wn.cell? ⟨g0, 8, none⟩ = some (.int .i64 sd) := (T.out.get 0 rfl).nthQ 8 H8.out))
 go_end0
 exact ⟨rfl, T.out.tail⟩
theorem pEx_5 (w0 : World) (n sd tk tl : Int) (sv : List Value) (z : Value) (hsv : sv.length = 6) (h1 : 1 ≤ sd) (h2 : sd ≤ 3) : Xa w0 74 (.agg (Ut 5 n sv sd tk tl z).toArray) ([⟨#[104, 97, 110, 100]⟩, wd Zt sd]) := by
 intro b st own x h hr
 obtain ⟨s1, E1⟩ : ∃ s, s = Zp st ([⟨#[104, 97, 110, 100]⟩, wd Zt sd]) := ⟨_, rfl⟩
 have R1 := Hh hr
 clear hr
 have EK : Zp st (([⟨#[104, 97, 110, 100]⟩, wd Zt sd])) = s1 := by simp only [Yd, E1]
 rw [EK]
 clear EK
 have P1 := Hh (fun own x => Xd (w0 := w0) (b := b) E1 R1.out (by simp) own x)
 have HE1 := Hh E1
 clear E1
 obtain ⟨l12, a0, a1, a8, rs, rt⟩ := leafV_at (k := 5) (n := n) (sd := sd) (tk := tk) (tl := tl) (z := z) hsv
 have HSV := Hh hsv
 have H0 := Hh a0
 have H1 := Hh a1
 have H8 := Hh a8
 have RS := Hh rs
 have RT := Hh rt
 generalize Ut 5 n sv sd tk tl z = vs at *
 clear l12 a0 a1 a8 rs rt hsv
 have T := Hh h
 clear h
 go_enter Tryz.func74, Tryz.ntmps74
 go_wp2_with (first
 | ((with_reducible refine Ze 3 ?_); refine Ya T.out 51 _ (vs) rfl rfl rfl ?_; intro wn g0 tn; have T := Hh tn; clear tn; have c0_0 : wn.cell? ⟨g0, 0, none⟩ = some (.int .i64 5) := (T.out.get 0 rfl).nthQ 0 H0.out; have c0_1 : wn.cell? ⟨g0, 1, none⟩ = some (.int .i64 n) := (T.out.get 0 rfl).nthQ 1 H1.out; have c0_8 : wn.cell? ⟨g0, 8, none⟩ = some (.int .i64 sd) := (T.out.get 0 rfl).nthQ 8 H8.out)
 | (go_at_call 118; (with_reducible refine (vqSide T.out (sd) (h1) (h2)).mono ?_); rintro e wn ⟨rfl, tn⟩; have T := Hh tn; clear tn; have c0_0 : wn.cell? ⟨g0, 0, none⟩ = some (.int .i64 5) := (T.out.get 0 rfl).nthQ 0 H0.out; have c0_1 : wn.cell? ⟨g0, 1, none⟩ = some (.int .i64 n) := (T.out.get 0 rfl).nthQ 1 H1.out; have c0_8 : wn.cell? ⟨g0, 8, none⟩ = some (.int .i64 sd) := (T.out.get 0 rfl).nthQ 8 H8.out)
 | (go_at_call 107; refine (P1.out _ _ _ _ _ T.out rfl rfl).mono ?_; rintro e wn ⟨rfl, tn⟩; have T := Hh tn; clear tn; have c0_0 : wn.cell? ⟨g0, 0, none⟩ = some (.int .i64 5) := (T.out.get 0 rfl).nthQ 0 H0.out; have c0_1 : wn.cell? ⟨g0, 1, none⟩ = some (.int .i64 n) := (T.out.get 0 rfl).nthQ 1 H1.out; have c0_8 : wn.cell? ⟨g0, 8, none⟩ = some (.int .i64 sd) := (T.out.get 0 rfl).nthQ 8 H8.out))
 go_end0
 exact ⟨rfl, T.out.tail⟩
theorem pEx_6 (w0 : World) (n sd tk tl : Int) (sv : List Value) (z : Value) (hsv : sv.length = 6) (KT : List ByteArray) (h1 : 1 ≤ sd) (h2 : sd ≤ 3) (hto : Xa w0 123 (.agg ([.int .i64 tk, .int .i64 tl] : List Value).toArray) KT) : Xa w0 74 (.agg (Ut 6 n sv sd tk tl z).toArray) ([⟨#[102, 114, 101, 101]⟩, wd Zt sd] ++ KT) := by
 intro b st own x h hr
 obtain ⟨s1, E1⟩ : ∃ s, s = Zp st ([⟨#[102, 114, 101, 101]⟩, wd Zt sd]) := ⟨_, rfl⟩
 have R1 := Hh (Yk.first hr)
 replace hr := Yk.next hr
 rw [← E1] at hr
 obtain ⟨s2, E2⟩ : ∃ s, s = Zp s1 (KT) := ⟨_, rfl⟩
 have R2 := Hh hr
 clear hr
 have EK : Zp st (([⟨#[102, 114, 101, 101]⟩, wd Zt sd]) ++ ((KT))) = s2 := by simp only [Yd, E1, E2]
 rw [EK]
 clear EK
 have P1 := Hh (fun own x => Xd (w0 := w0) (b := b) E1 R1.out (by simp) own x)
 have P2 := Hh (hto.at_ (b := b) E2 R2.out)
 have HE1 := Hh E1
 clear E1
 have HE2 := Hh E2
 clear E2
 obtain ⟨l12, a0, a1, a8, rs, rt⟩ := leafV_at (k := 6) (n := n) (sd := sd) (tk := tk) (tl := tl) (z := z) hsv
 have HSV := Hh hsv
 have H0 := Hh a0
 have H1 := Hh a1
 have H8 := Hh a8
 have RS := Hh rs
 have RT := Hh rt
 generalize Ut 6 n sv sd tk tl z = vs at *
 clear l12 a0 a1 a8 rs rt hsv
 have T := Hh h
 clear h
 clear hto
 go_enter Tryz.func74, Tryz.ntmps74
 go_wp2_with (first
 | ((with_reducible refine Ze 3 ?_); refine Ya T.out 51 _ (vs) rfl rfl rfl ?_; intro wn g0 tn; have T := Hh tn; clear tn; have c0_0 : wn.cell? ⟨g0, 0, none⟩ = some (.int .i64 6) := (T.out.get 0 rfl).nthQ 0 H0.out; have c0_1 : wn.cell? ⟨g0, 1, none⟩ = some (.int .i64 n) := (T.out.get 0 rfl).nthQ 1 H1.out; have c0_8 : wn.cell? ⟨g0, 8, none⟩ = some (.int .i64 sd) := (T.out.get 0 rfl).nthQ 8 H8.out)
 | (go_at_call 118; (with_reducible refine (vqSide T.out (sd) (h1) (h2)).mono ?_); rintro e wn ⟨rfl, tn⟩; have T := Hh tn; clear tn; have c0_0 : wn.cell? ⟨g0, 0, none⟩ = some (.int .i64 6) := (T.out.get 0 rfl).nthQ 0 H0.out; have c0_1 : wn.cell? ⟨g0, 1, none⟩ = some (.int .i64 n) := (T.out.get 0 rfl).nthQ 1 H1.out; have c0_8 : wn.cell? ⟨g0, 8, none⟩ = some (.int .i64 sd) := (T.out.get 0 rfl).nthQ 8 H8.out)
 | (go_at_call 107; refine (P1.out _ _ _ _ _ T.out rfl rfl).mono ?_; rintro e wn ⟨rfl, tn⟩; have T := Hh tn; clear tn; have c0_0 : wn.cell? ⟨g0, 0, none⟩ = some (.int .i64 6) := (T.out.get 0 rfl).nthQ 0 H0.out; have c0_1 : wn.cell? ⟨g0, 1, none⟩ = some (.int .i64 n) := (T.out.get 0 rfl).nthQ 1 H1.out; have c0_8 : wn.cell? ⟨g0, 8, none⟩ = some (.int .i64 sd) := (T.out.get 0 rfl).nthQ 8 H8.out)
 | ((with_reducible refine Ze 55 ?_); refine Zy 48 _ g0 (9) ([.int .i64 tk, .int .i64 tl]) (RT.out _ _ _ (T.out.get 0 rfl)) qrow_to qsize_to rfl rfl rfl ?_)
 | (go_at_call 123; refine (P2.out _ _ T.out).mono ?_; rintro e wn ⟨rfl, tn⟩; have T := Hh tn; clear tn; have c0_0 : wn.cell? ⟨g0, 0, none⟩ = some (.int .i64 6) := (T.out.get 0 rfl).nthQ 0 H0.out; have c0_1 : wn.cell? ⟨g0, 1, none⟩ = some (.int .i64 n) := (T.out.get 0 rfl).nthQ 1 H1.out; have c0_8 : wn.cell? ⟨g0, 8, none⟩ = some (.int .i64 sd) := (T.out.get 0 rfl).nthQ 8 H8.out))
 go_end0
 exact ⟨rfl, T.out.tail⟩
theorem pEx_7 (w0 : World) (vs : List Value) (hvl : vs.length = 12) (h0 : vs[0]? = some (.int .i64 7)) (KB : List ByteArray) (hb : Xa w0 124 (.agg vs.toArray) KB) : Xa w0 74 (.agg vs.toArray) KB := by
 intro b st own x h hr
 obtain ⟨s1, E1⟩ : ∃ s, s = Zp st (KB) := ⟨_, rfl⟩
 have R1 := Hh hr
 clear hr
 have EK : Zp st ((KB)) = s1 := by simp only [Yd, E1]
 rw [EK]
 clear EK
 have P1 := Hh (hb.at_ (b := b) E1 R1.out)
 have HE1 := Hh E1
 clear E1
 have HVL := Hh hvl
 have H0 := Hh h0
 clear hb hvl h0
 have T := Hh h
 clear h
 go_enter Tryz.func74, Tryz.ntmps74
 go_wp2_with (first
 | ((with_reducible refine Ze 3 ?_); refine Ya T.out 51 _ (vs) rfl rfl rfl ?_; intro wn g0 tn; have T := Hh tn; clear tn; have c0_0 : wn.cell? ⟨g0, 0, none⟩ = some (.int .i64 7) := (T.out.get 0 rfl).nthQ 0 H0.out)
 | ((with_reducible refine Ze 60 ?_); refine Zd 51 _ 51 g0 (vs) (T.out.get 0 rfl) Xu (by rw [HVL.out]; exact Xb) rfl rfl rfl ?_)
 | (go_at_call 124; refine (P1.out _ _ T.out).mono ?_; rintro e wn ⟨rfl, tn⟩; have T := Hh tn; clear tn; have c0_0 : wn.cell? ⟨g0, 0, none⟩ = some (.int .i64 7) := (T.out.get 0 rfl).nthQ 0 H0.out))
 go_end0
 exact ⟨rfl, T.out.tail⟩
theorem pEx (w0 : World) (N : Nat → Prop) : ∀ (x : Ex), VEx x → ∀ vs, Zh N w0 x.ds vs → Xa w0 74 (.agg vs.toArray) (kEx x)
 | .leaf k n s sd tk tl, hv, vs, hd => by
   obtain ⟨_, rfl, _, rfl, h⟩ := hd
   obtain ⟨sv, _, rfl, hs, h⟩ := Zh.split (x := s.ds) h
   obtain ⟨_, rfl, _, rfl, _, rfl, C, kc, xs, _, rfl, _, _, _, rfl⟩ := h
   have e : sv.length = 6 := by rw [hs.len, Se.ds_len]
   show Xa w0 _ _ (kLeaf k n s sd tk tl)
   unfold kLeaf
   rcases hv with ⟨rfl, hn, _⟩ | ⟨hk, _, vs, _⟩ | ⟨rfl, _⟩ | ⟨rfl, _, _, hsd, _⟩ | ⟨rfl, _, _, hsd, ht⟩
   · rw [if_pos rfl]
     exact pEx_1 w0 n sd tk tl sv _ e hn.1 hn.2
   · rcases hk with rfl | rfl
     · rw [if_neg (by decide), if_pos (.inl rfl)]
       exact pEx_2 w0 n sd tk tl sv _ e _ (pSel w0 N s vs sv hs)
     · rw [if_neg (by decide), if_pos (.inr rfl)]
       exact pEx_3 w0 n sd tk tl sv _ e _ (pSel w0 N s vs sv hs)
   · rw [if_neg (by decide), if_neg (by decide), if_pos rfl]
     exact pEx_4 w0 n sd tk tl sv _ e
   · rw [if_neg (by decide), if_neg (by decide), if_neg (by decide), if_pos rfl]
     exact pEx_5 w0 n sd tk tl sv _ e hsd.1 hsd.2
   · rw [if_neg (by decide), if_neg (by decide), if_neg (by decide), if_neg (by decide)]
     exact pEx_6 w0 n sd tk tl sv _ e _ hsd.1 hsd.2 (pTo w0 tk tl ht)
 | .bin op l r, hv, vs, hd => by
   obtain ⟨hl, v0, v1, _⟩ := bin_vals hd
   exact pEx_7 w0 vs hl v0 _ (pBinary w0 N op l r hv.1.1 hv.1.2 hv.2.1 hv.2.2 (pEx w0 N l hv.2.1) (pEx w0 N r hv.2.2) vs hd)
end Go.Proofs.YtljdgdphldckhaaGreat
