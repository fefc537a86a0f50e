/-
  Texts Q6. No conditions but those that each theorem names.
-/
import Derived.Test.YtljdgdphldckhaaGreatQA30
set_option maxRecDepth 20000
set_option maxHeartbeats 12800000
namespace Go.Proofs.YtljdgdphldckhaaGreat
open Go.Great Go.ChangeShapes Go.WideShapes Go.ChangeAt Go.RowKit
set_option linter.unusedVariables false
set_option linter.unusedSimpArgs false
def zAcQ : List Value := [.int .i64 0, .int .i64 0, .int .i64 0, .int .i64 0, .int .i64 0, .int .i64 0, .int .i64 0, .slice none 0 0, .int .i64 0, .int .i64 0, .int .i64 0, .int .i64 0, .int .i64 0, .int .i64 0, .int .i64 0, .slice none 0 0, .int .i64 0, .int .i64 0, .int .i64 0, .int .i64 0, .slice none 0 0, .int .i64 0, .int .i64 0, .int .i64 0, .int .i64 0, .string ⟨#[]⟩, .int .i64 0, .int .i64 0, .int .i64 0, .int .i64 0, .int .i64 0, .int .i64 0, .int .i64 0, .slice none 0 0, .int .i64 0, .int .i64 0, .int .i64 0, .int .i64 0, .slice none 0 0, .int .i64 0, .int .i64 0, .int .i64 0, .int .i64 0, .int .i64 0, .int .i64 0, .slice none 0 0, .int .i64 0, .int .i64 0, .int .i64 0, .int .i64 0, .slice none 0 0, .slice none 0 0, .slice none 0 0]
theorem qz_ac : (Tryz.prog.info? 57).map (fun i => i.zero.map Value.cells) = some (some zAcQ.toArray) := by kernel_rfl
theorem qz_ru : (Tryz.prog.info? 66).map (fun i => i.zero.map Value.cells) = some (some ([.int .i64 0, .int .i64 0, .int .i64 0, .int .i64 0, .slice none 0 0] : List Value).toArray) := by kernel_rfl
theorem pBlock (w0 : World) (v : Value) (K : List ByteArray) (ha : Xa w0 71 v K) : Xa w0 154 v (kBlk K) := by
 intro b st own x h hr
 unfold kBlk at hr ⊢
 obtain ⟨s1, E1⟩ : ∃ s, s = Zp st ([Xt]) := ⟨_, rfl⟩
 have R1 := Hh (Yk.first hr)
 replace hr := Yk.next hr
 rw [← E1] at hr
 obtain ⟨s2, E2⟩ : ∃ s, s = Zp s1 (K) := ⟨_, rfl⟩
 have R2 := Hh (Yk.first hr)
 replace hr := Yk.next hr
 rw [← E2] at hr
 obtain ⟨s3, E3⟩ : ∃ s, s = Zp s2 ([We]) := ⟨_, rfl⟩
 have R3 := Hh hr
 clear hr
 have EK : Zp st (([Xt]) ++ ((K) ++ (([We])))) = s3 := by simp only [Yd, E1, E2, E3]
 rw [EK]
 clear EK
 have P1 := Hh (fun own x => Xd (w0 := w0) (b := b) E1 R1.out (by simp) own x)
 have P2 := Hh (ha.at_ (b := b) E2 R2.out)
 have P3 := Hh (fun own x => Xd (w0 := w0) (b := b) E3 R3.out (by simp) own x)
 have HE1 := Hh E1
 clear E1
 have HE2 := Hh E2
 clear E2
 have HE3 := Hh E3
 clear E3
 clear ha
 have T := Hh h
 clear h
 go_enter Tryz.func154, Tryz.ntmps154
 go_wp2_with (first
 | (go_at_call 107; refine (P1.out _ _ _ _ _ T.out rfl rfl).mono ?_; rintro e wn ⟨rfl, tn⟩; have T := Hh tn; clear tn)
 | (go_at_call 71; refine (P2.out _ _ T.out).mono ?_; rintro e wn ⟨rfl, tn⟩; have T := Hh tn; clear tn)
 | (go_at_call 107; refine (P3.out _ _ _ _ _ T.out rfl rfl).mono ?_; rintro e wn ⟨rfl, tn⟩; have T := Hh tn; clear tn))
 go_end0
 exact ⟨rfl, T.out⟩
theorem pAct_10n (w0 : World) (ys sv nv pv : List Value) (sd tk tl how : Int) (nm : ByteArray) (thn els : Value) (V : Option Addr) (vc : Nat) (hv : els = .slice V 0 vc) (ha : ActR ys sv nv pv 10 sd tk tl how nm thn els) (KC : List ByteArray) (hc : Xa w0 162 (.agg pv.toArray) KC) (KT : List ByteArray) (ht : Xa w0 154 thn KT) : Xa w0 120 (.agg ys.toArray) ([wd Xv 10] ++ (KC ++ (KT))) := by
 intro b st own x h hr
 obtain ⟨s1, E1⟩ : ∃ s, s = Zp st ([wd Xv 10]) := ⟨_, rfl⟩
 have R1 := Hh (Yk.first hr)
 replace hr := Yk.next hr
 rw [← E1] at hr
 obtain ⟨s2, E2⟩ : ∃ s, s = Zp s1 (KC) := ⟨_, rfl⟩
 have R2 := Hh (Yk.first hr)
 replace hr := Yk.next hr
 rw [← E2] at hr
 obtain ⟨s3, E3⟩ : ∃ s, s = Zp s2 (KT) := ⟨_, rfl⟩
 have R3 := Hh hr
 clear hr
 have EK : Zp st (([wd Xv 10]) ++ ((KC) ++ ((KT)))) = s3 := by simp only [Yd, E1, E2, E3]
 rw [EK]
 clear EK
 have P1 := Hh (fun own x => Xd (w0 := w0) (b := b) E1 R1.out (by simp) own x)
 have P2 := Hh (hc.at_ (b := b) E2 R2.out)
 have P3 := Hh (ht.at_ (b := b) E3 R3.out)
 have HE1 := Hh E1
 clear E1
 have HE2 := Hh E2
 clear E2
 have HE3 := Hh E3
 clear E3
 have HA := Hh ha
 clear ha hc ht
 subst hv
 have T := Hh h
 clear h
 go_enter Tryz.func120, Tryz.ntmps120
 go_wp2_with (first
 | ((with_reducible refine Ze 3 ?_); refine Ya T.out 57 _ (ys) rfl rfl rfl ?_; intro wn g0 tn; have T := Hh tn; clear tn; have c0_0 : wn.cell? ⟨g0, 0, none⟩ = some (.int .i64 10) := (T.out.get 0 rfl).nthQ 0 HA.out.c0; have c0_51 : wn.cell? ⟨g0, 51, none⟩ = some (thn) := (T.out.get 0 rfl).nthQ 51 HA.out.c51; have c0_52 : wn.cell? ⟨g0, 52, none⟩ = some (.slice V 0 vc) := (T.out.get 0 rfl).nthQ 52 HA.out.c52)
 | (go_at_call 117; refine (vqWord T.out (10) _ 15 15 Xv rfl rfl (by decide) (by decide) (by decide)).mono ?_; rintro e wn ⟨rfl, tn⟩; have T := Hh tn; clear tn; have c0_0 : wn.cell? ⟨g0, 0, none⟩ = some (.int .i64 10) := (T.out.get 0 rfl).nthQ 0 HA.out.c0; have c0_51 : wn.cell? ⟨g0, 51, none⟩ = some (thn) := (T.out.get 0 rfl).nthQ 51 HA.out.c51; have c0_52 : wn.cell? ⟨g0, 52, none⟩ = some (.slice V 0 vc) := (T.out.get 0 rfl).nthQ 52 HA.out.c52)
 | (go_at_call 107; refine (P1.out _ _ _ _ _ T.out rfl rfl).mono ?_; rintro e wn ⟨rfl, tn⟩; have T := Hh tn; clear tn; have c0_0 : wn.cell? ⟨g0, 0, none⟩ = some (.int .i64 10) := (T.out.get 0 rfl).nthQ 0 HA.out.c0; have c0_51 : wn.cell? ⟨g0, 51, none⟩ = some (thn) := (T.out.get 0 rfl).nthQ 51 HA.out.c51; have c0_52 : wn.cell? ⟨g0, 52, none⟩ = some (.slice V 0 vc) := (T.out.get 0 rfl).nthQ 52 HA.out.c52)
 | ((with_reducible refine Ze 23 ?_); refine Zy 55 _ g0 (26) (pv) (HA.out.rc _ _ _ (T.out.get 0 rfl)) qrow_cond (by rw [HA.out.plen]; exact qsize_cond) rfl rfl rfl ?_)
 | (go_at_call 162; refine (P2.out _ _ T.out).mono ?_; rintro e wn ⟨rfl, tn⟩; have T := Hh tn; clear tn; have c0_0 : wn.cell? ⟨g0, 0, none⟩ = some (.int .i64 10) := (T.out.get 0 rfl).nthQ 0 HA.out.c0; have c0_51 : wn.cell? ⟨g0, 51, none⟩ = some (thn) := (T.out.get 0 rfl).nthQ 51 HA.out.c51; have c0_52 : wn.cell? ⟨g0, 52, none⟩ = some (.slice V 0 vc) := (T.out.get 0 rfl).nthQ 52 HA.out.c52)
 | (go_at_call 154; refine (P3.out _ _ T.out).mono ?_; rintro e wn ⟨rfl, tn⟩; have T := Hh tn; clear tn; have c0_0 : wn.cell? ⟨g0, 0, none⟩ = some (.int .i64 10) := (T.out.get 0 rfl).nthQ 0 HA.out.c0; have c0_51 : wn.cell? ⟨g0, 51, none⟩ = some (thn) := (T.out.get 0 rfl).nthQ 51 HA.out.c51; have c0_52 : wn.cell? ⟨g0, 52, none⟩ = some (.slice V 0 vc) := (T.out.get 0 rfl).nthQ 52 HA.out.c52))
 go_end0
 exact ⟨rfl, T.out.tail⟩
theorem pAct_10e (w0 : World) (ys sv nv pv : List Value) (sd tk tl how : Int) (nm : ByteArray) (thn els : Value) (V : Option Addr) (en vc : Nat) (hv : els = .slice V en vc) (hen : 0 < en) (ha : ActR ys sv nv pv 10 sd tk tl how nm thn els) (KC : List ByteArray) (hc : Xa w0 162 (.agg pv.toArray) KC) (KT : List ByteArray) (ht : Xa w0 154 thn KT) (KE : List ByteArray) (he : Xa w0 154 els KE) : Xa w0 120 (.agg ys.toArray) ([wd Xv 10] ++ (KC ++ (KT ++ ([Zah] ++ (KE))))) := by
 intro b st own x h hr
 obtain ⟨s1, E1⟩ : ∃ s, s = Zp st ([wd Xv 10]) := ⟨_, rfl⟩
 have R1 := Hh (Yk.first hr)
 replace hr := Yk.next hr
 rw [← E1] at hr
 obtain ⟨s2, E2⟩ : ∃ s, s = Zp s1 (KC) := ⟨_, rfl⟩
 have R2 := Hh (Yk.first hr)
 replace hr := Yk.next hr
 rw [← E2] at hr
 obtain ⟨s3, E3⟩ : ∃ s, s = Zp s2 (KT) := ⟨_, rfl⟩
 have R3 := Hh (Yk.first hr)
 replace hr := Yk.next hr
 rw [← E3] at hr
 obtain ⟨s4, E4⟩ : ∃ s, s = Zp s3 ([Zah]) := ⟨_, rfl⟩
 have R4 := Hh (Yk.first hr)
 replace hr := Yk.next hr
 rw [← E4] at hr
 obtain ⟨s5, E5⟩ : ∃ s, s = Zp s4 (KE) := ⟨_, rfl⟩
 have R5 := Hh hr
 clear hr
 have EK : Zp st (([wd Xv 10]) ++ ((KC) ++ ((KT) ++ (([Zah]) ++ ((KE)))))) = s5 := by simp only [Yd, E1, E2, E3, E4, E5]
 rw [EK]
 clear EK
 have P1 := Hh (fun own x => Xd (w0 := w0) (b := b) E1 R1.out (by simp) own x)
 have P2 := Hh (hc.at_ (b := b) E2 R2.out)
 have P3 := Hh (ht.at_ (b := b) E3 R3.out)
 have P4 := Hh (fun own x => Xd (w0 := w0) (b := b) E4 R4.out (by simp) own x)
 have P5 := Hh (he.at_ (b := b) E5 R5.out)
 have HE1 := Hh E1
 clear E1
 have HE2 := Hh E2
 clear E2
 have HE3 := Hh E3
 clear E3
 have HE4 := Hh E4
 clear E4
 have HE5 := Hh E5
 clear E5
 have HA := Hh ha
 clear ha hc ht he
 subst hv
 have l0 : (0 : Int) < (en : Int) := by omega
 have T := Hh h
 clear h
 go_enter Tryz.func120, Tryz.ntmps120
 go_wp2_with (first
 | ((with_reducible refine Ze 3 ?_); refine Ya T.out 57 _ (ys) rfl rfl rfl ?_; intro wn g0 tn; have T := Hh tn; clear tn; have c0_0 : wn.cell? ⟨g0, 0, none⟩ = some (.int .i64 10) := (T.out.get 0 rfl).nthQ 0 HA.out.c0; have c0_51 : wn.cell? ⟨g0, 51, none⟩ = some (thn) := (T.out.get 0 rfl).nthQ 51 HA.out.c51; have c0_52 : wn.cell? ⟨g0, 52, none⟩ = some (.slice V en vc) := (T.out.get 0 rfl).nthQ 52 HA.out.c52)
 | (go_at_call 117; refine (vqWord T.out (10) _ 15 15 Xv rfl rfl (by decide) (by decide) (by decide)).mono ?_; rintro e wn ⟨rfl, tn⟩; have T := Hh tn; clear tn; have c0_0 : wn.cell? ⟨g0, 0, none⟩ = some (.int .i64 10) := (T.out.get 0 rfl).nthQ 0 HA.out.c0; have c0_51 : wn.cell? ⟨g0, 51, none⟩ = some (thn) := (T.out.get 0 rfl).nthQ 51 HA.out.c51; have c0_52 : wn.cell? ⟨g0, 52, none⟩ = some (.slice V en vc) := (T.out.get 0 rfl).nthQ 52 HA.out.c52)
 | (go_at_call 107; refine (P1.out _ _ _ _ _ T.out rfl rfl).mono ?_; rintro e wn ⟨rfl, tn⟩; have T := Hh tn; clear tn; have c0_0 : wn.cell? ⟨g0, 0, none⟩ = some (.int .i64 10) := (T.out.get 0 rfl).nthQ 0 HA.out.c0; have c0_51 : wn.cell? ⟨g0, 51, none⟩ = some (thn) := (T.out.get 0 rfl).nthQ 51 HA.out.c51; have c0_52 : wn.cell? ⟨g0, 52, none⟩ = some (.slice V en vc) := (T.out.get 0 rfl).nthQ 52 HA.out.c52)
 | ((with_reducible refine Ze 23 ?_); refine Zy 55 _ g0 (26) (pv) (HA.out.rc _ _ _ (T.out.get 0 rfl)) qrow_cond (by rw [HA.out.plen]; exact qsize_cond) rfl rfl rfl ?_)
 | (go_at_call 162; refine (P2.out _ _ T.out).mono ?_; rintro e wn ⟨rfl, tn⟩; have T := Hh tn; clear tn; have c0_0 : wn.cell? ⟨g0, 0, none⟩ = some (.int .i64 10) := (T.out.get 0 rfl).nthQ 0 HA.out.c0; have c0_51 : wn.cell? ⟨g0, 51, none⟩ = some (thn) := (T.out.get 0 rfl).nthQ 51 HA.out.c51; have c0_52 : wn.cell? ⟨g0, 52, none⟩ = some (.slice V en vc) := (T.out.get 0 rfl).nthQ 52 HA.out.c52)
 | (go_at_call 154; refine (P3.out _ _ T.out).mono ?_; rintro e wn ⟨rfl, tn⟩; have T := Hh tn; clear tn; have c0_0 : wn.cell? ⟨g0, 0, none⟩ = some (.int .i64 10) := (T.out.get 0 rfl).nthQ 0 HA.out.c0; have c0_51 : wn.cell? ⟨g0, 51, none⟩ = some (thn) := (T.out.get 0 rfl).nthQ 51 HA.out.c51; have c0_52 : wn.cell? ⟨g0, 52, none⟩ = some (.slice V en vc) := (T.out.get 0 rfl).nthQ 52 HA.out.c52)
 | (go_at_call 107; refine (P4.out _ _ _ _ _ T.out rfl rfl).mono ?_; rintro e wn ⟨rfl, tn⟩; have T := Hh tn; clear tn; have c0_0 : wn.cell? ⟨g0, 0, none⟩ = some (.int .i64 10) := (T.out.get 0 rfl).nthQ 0 HA.out.c0; have c0_51 : wn.cell? ⟨g0, 51, none⟩ = some (thn) := (T.out.get 0 rfl).nthQ 51 HA.out.c51; have c0_52 : wn.cell? ⟨g0, 52, none⟩ = some (.slice V en vc) := (T.out.get 0 rfl).nthQ 52 HA.out.c52)
 | (go_at_call 154; refine (P5.out _ _ T.out).mono ?_; rintro e wn ⟨rfl, tn⟩; have T := Hh tn; clear tn; have c0_0 : wn.cell? ⟨g0, 0, none⟩ = some (.int .i64 10) := (T.out.get 0 rfl).nthQ 0 HA.out.c0; have c0_51 : wn.cell? ⟨g0, 51, none⟩ = some (thn) := (T.out.get 0 rfl).nthQ 51 HA.out.c51; have c0_52 : wn.cell? ⟨g0, 52, none⟩ = some (.slice V en vc) := (T.out.get 0 rfl).nthQ 52 HA.out.c52))
 go_end0
 exact ⟨rfl, T.out.tail⟩
theorem pAct_11 (w0 : World) (ys sv nv pv : List Value) (sd tk tl how : Int) (nm : ByteArray) (thn els : Value) (ha : ActR ys sv nv pv 11 sd tk tl how nm thn els) (KS : List ByteArray) (hs : Xa w0 65 (.agg sv.toArray) KS) (KT : List ByteArray) (ht : Xa w0 154 thn KT) : Xa w0 120 (.agg ys.toArray) ([wd Xv 11] ++ (KS ++ (KT))) := by
 intro b st own x h hr
 obtain ⟨s1, E1⟩ : ∃ s, s = Zp st ([wd Xv 11]) := ⟨_, rfl⟩
 have R1 := Hh (Yk.first hr)
 replace hr := Yk.next hr
 rw [← E1] at hr
 obtain ⟨s2, E2⟩ : ∃ s, s = Zp s1 (KS) := ⟨_, rfl⟩
 have R2 := Hh (Yk.first hr)
 replace hr := Yk.next hr
 rw [← E2] at hr
 obtain ⟨s3, E3⟩ : ∃ s, s = Zp s2 (KT) := ⟨_, rfl⟩
 have R3 := Hh hr
 clear hr
 have EK : Zp st (([wd Xv 11]) ++ ((KS) ++ ((KT)))) = s3 := by simp only [Yd, E1, E2, E3]
 rw [EK]
 clear EK
 have P1 := Hh (fun own x => Xd (w0 := w0) (b := b) E1 R1.out (by simp) own x)
 have P2 := Hh (hs.at_ (b := b) E2 R2.out)
 have P3 := Hh (ht.at_ (b := b) E3 R3.out)
 have HE1 := Hh E1
 clear E1
 have HE2 := Hh E2
 clear E2
 have HE3 := Hh E3
 clear E3
 have HA := Hh ha
 clear ha hs ht
 have T := Hh h
 clear h
 go_enter Tryz.func120, Tryz.ntmps120
 go_wp2_with (first
 | ((with_reducible refine Ze 3 ?_); refine Ya T.out 57 _ (ys) rfl rfl rfl ?_; intro wn g0 tn; have T := Hh tn; clear tn; have c0_0 : wn.cell? ⟨g0, 0, none⟩ = some (.int .i64 11) := (T.out.get 0 rfl).nthQ 0 HA.out.c0; have c0_51 : wn.cell? ⟨g0, 51, none⟩ = some (thn) := (T.out.get 0 rfl).nthQ 51 HA.out.c51; have c0_52 : wn.cell? ⟨g0, 52, none⟩ = some (els) := (T.out.get 0 rfl).nthQ 52 HA.out.c52)
 | (go_at_call 117; refine (vqWord T.out (11) _ 15 15 Xv rfl rfl (by decide) (by decide) (by decide)).mono ?_; rintro e wn ⟨rfl, tn⟩; have T := Hh tn; clear tn; have c0_0 : wn.cell? ⟨g0, 0, none⟩ = some (.int .i64 11) := (T.out.get 0 rfl).nthQ 0 HA.out.c0; have c0_51 : wn.cell? ⟨g0, 51, none⟩ = some (thn) := (T.out.get 0 rfl).nthQ 51 HA.out.c51; have c0_52 : wn.cell? ⟨g0, 52, none⟩ = some (els) := (T.out.get 0 rfl).nthQ 52 HA.out.c52)
 | (go_at_call 107; refine (P1.out _ _ _ _ _ T.out rfl rfl).mono ?_; rintro e wn ⟨rfl, tn⟩; have T := Hh tn; clear tn; have c0_0 : wn.cell? ⟨g0, 0, none⟩ = some (.int .i64 11) := (T.out.get 0 rfl).nthQ 0 HA.out.c0; have c0_51 : wn.cell? ⟨g0, 51, none⟩ = some (thn) := (T.out.get 0 rfl).nthQ 51 HA.out.c51; have c0_52 : wn.cell? ⟨g0, 52, none⟩ = some (els) := (T.out.get 0 rfl).nthQ 52 HA.out.c52)
 | ((with_reducible refine Ze 44 ?_); refine Zy 46 _ g0 (3) (sv) (HA.out.rs _ _ _ (T.out.get 0 rfl)) Jl (by rw [HA.out.slen]; exact Um) rfl rfl rfl ?_)
 | (go_at_call 65; refine (P2.out _ _ T.out).mono ?_; rintro e wn ⟨rfl, tn⟩; have T := Hh tn; clear tn; have c0_0 : wn.cell? ⟨g0, 0, none⟩ = some (.int .i64 11) := (T.out.get 0 rfl).nthQ 0 HA.out.c0; have c0_51 : wn.cell? ⟨g0, 51, none⟩ = some (thn) := (T.out.get 0 rfl).nthQ 51 HA.out.c51; have c0_52 : wn.cell? ⟨g0, 52, none⟩ = some (els) := (T.out.get 0 rfl).nthQ 52 HA.out.c52)
 | (go_at_call 154; refine (P3.out _ _ T.out).mono ?_; rintro e wn ⟨rfl, tn⟩; have T := Hh tn; clear tn; have c0_0 : wn.cell? ⟨g0, 0, none⟩ = some (.int .i64 11) := (T.out.get 0 rfl).nthQ 0 HA.out.c0; have c0_51 : wn.cell? ⟨g0, 51, none⟩ = some (thn) := (T.out.get 0 rfl).nthQ 51 HA.out.c51; have c0_52 : wn.cell? ⟨g0, 52, none⟩ = some (els) := (T.out.get 0 rfl).nthQ 52 HA.out.c52))
 go_end0
 exact ⟨rfl, T.out.tail⟩
theorem pAct_p (w0 : World) (ys sv nv pv : List Value) (sd tk tl how : Int) (nm : ByteArray) (thn els : Value) (k : Int) (ha : ActR ys sv nv pv k sd tk tl how nm thn els) (k1 : 1 ≤ k) (k2 : k ≤ 15) (k10 : k ≠ 10) (k11 : k ≠ 11) (KA : List ByteArray) (hp : Xa w0 163 (.agg ys.toArray) KA) : Xa w0 120 (.agg ys.toArray) ([wd Xv k] ++ (KA ++ ([sSemi]))) := by
 intro b st own x h hr
 obtain ⟨s1, E1⟩ : ∃ s, s = Zp st ([wd Xv k]) := ⟨_, rfl⟩
 have R1 := Hh (Yk.first hr)
 replace hr := Yk.next hr
 rw [← E1] at hr
 obtain ⟨s2, E2⟩ : ∃ s, s = Zp s1 (KA) := ⟨_, rfl⟩
 have R2 := Hh (Yk.first hr)
 replace hr := Yk.next hr
 rw [← E2] at hr
 obtain ⟨s3, E3⟩ : ∃ s, s = Zp s2 ([sSemi]) := ⟨_, rfl⟩
 have R3 := Hh hr
 clear hr
 have EK : Zp st (([wd Xv k]) ++ ((KA) ++ (([sSemi])))) = s3 := by simp only [Yd, E1, E2, E3]
 rw [EK]
 clear EK
 have P1 := Hh (fun own x => Xd (w0 := w0) (b := b) E1 R1.out (by simp) own x)
 have P2 := Hh (hp.at_ (b := b) E2 R2.out)
 have P3 := Hh (fun own x => Xd (w0 := w0) (b := b) E3 R3.out (by simp) own x)
 have HE1 := Hh E1
 clear E1
 have HE2 := Hh E2
 clear E2
 have HE3 := Hh E3
 clear E3
 have HA := Hh ha
 clear ha hp
 have b10 : (k == 10) = false := by rw [beq_eq_false_iff_ne]; exact k10
 have b11 : (k == 11) = false := by rw [beq_eq_false_iff_ne]; exact k11
 have T := Hh h
 clear h
 go_enter Tryz.func120, Tryz.ntmps120
 go_wp2_with (first
 | ((with_reducible refine Ze 3 ?_); refine Ya T.out 57 _ (ys) rfl rfl rfl ?_; intro wn g0 tn; have T := Hh tn; clear tn; have c0_0 : wn.cell? ⟨g0, 0, none⟩ = some (.int .i64 k) := (T.out.get 0 rfl).nthQ 0 HA.out.c0; have c0_51 : wn.cell? ⟨g0, 51, none⟩ = some (thn) := (T.out.get 0 rfl).nthQ 51 HA.out.c51; have c0_52 : wn.cell? ⟨g0, 52, none⟩ = some (els) := (T.out.get 0 rfl).nthQ 52 HA.out.c52)
 | (go_at_call 117; refine (vqWord T.out (k) _ 15 15 Xv rfl rfl (by omega) (by show _ ≤ ((15 : Nat) : Int); omega) (by decide)).mono ?_; rintro e wn ⟨rfl, tn⟩; have T := Hh tn; clear tn; have c0_0 : wn.cell? ⟨g0, 0, none⟩ = some (.int .i64 k) := (T.out.get 0 rfl).nthQ 0 HA.out.c0; have c0_51 : wn.cell? ⟨g0, 51, none⟩ = some (thn) := (T.out.get 0 rfl).nthQ 51 HA.out.c51; have c0_52 : wn.cell? ⟨g0, 52, none⟩ = some (els) := (T.out.get 0 rfl).nthQ 52 HA.out.c52)
 | (go_at_call 107; refine (P1.out _ _ _ _ _ T.out rfl rfl).mono ?_; rintro e wn ⟨rfl, tn⟩; have T := Hh tn; clear tn; have c0_0 : wn.cell? ⟨g0, 0, none⟩ = some (.int .i64 k) := (T.out.get 0 rfl).nthQ 0 HA.out.c0; have c0_51 : wn.cell? ⟨g0, 51, none⟩ = some (thn) := (T.out.get 0 rfl).nthQ 51 HA.out.c51; have c0_52 : wn.cell? ⟨g0, 52, none⟩ = some (els) := (T.out.get 0 rfl).nthQ 52 HA.out.c52)
 | ((with_reducible refine Ze 14 ?_); refine Zd 57 _ 57 g0 (ys) (T.out.get 0 rfl) qrow_act (by rw [HA.out.len]; exact qsize_act) rfl rfl rfl ?_)
 | (go_at_call 163; refine (P2.out _ _ T.out).mono ?_; rintro e wn ⟨rfl, tn⟩; have T := Hh tn; clear tn; have c0_0 : wn.cell? ⟨g0, 0, none⟩ = some (.int .i64 k) := (T.out.get 0 rfl).nthQ 0 HA.out.c0; have c0_51 : wn.cell? ⟨g0, 51, none⟩ = some (thn) := (T.out.get 0 rfl).nthQ 51 HA.out.c51; have c0_52 : wn.cell? ⟨g0, 52, none⟩ = some (els) := (T.out.get 0 rfl).nthQ 52 HA.out.c52)
 | (go_at_call 107; refine (P3.out _ _ _ _ _ T.out rfl rfl).mono ?_; rintro e wn ⟨rfl, tn⟩; have T := Hh tn; clear tn; have c0_0 : wn.cell? ⟨g0, 0, none⟩ = some (.int .i64 k) := (T.out.get 0 rfl).nthQ 0 HA.out.c0; have c0_51 : wn.cell? ⟨g0, 51, none⟩ = some (thn) := (T.out.get 0 rfl).nthQ 51 HA.out.c51; have c0_52 : wn.cell? ⟨g0, 52, none⟩ = some (els) := (T.out.get 0 rfl).nthQ 52 HA.out.c52))
 go_end0
 exact ⟨rfl, T.out.tail⟩
def PActsOK (w0 : World) (N : Nat → Prop) (l : Acs) : Prop := ∀ v, Zh N w0 (.row l.len l.ds .nil) [v] → Xa w0 71 v (kActs l)
theorem pPlain (w0 : World) (N : Nat → Prop) (d : Nat) (h : AH) (hv : VPlain d h) (ys sv nv pv : List Value)   (thn els : Value) (ha : ActR ys sv nv pv h.kind h.side h.tk h.tl h.how h.name thn els) (hs : Zh N w0 h.sel.ds sv) (hn : Zh N w0 h.num.ds nv) : Xa w0 163 (.agg ys.toArray) (kArgs h) := by
 obtain ⟨k, ln, cl, sel, num, sd, tk, tl, how, nm, cop, c1, c2⟩ := h
 unfold kArgs
 dsimp only at *
 rcases hv with ⟨hk, _, v1, v2, _⟩ | ⟨hk, _, v1⟩ | ⟨hk, _, v1, v2⟩ | ⟨hk, _, v1, v2, v3, v4, _⟩ | ⟨hk, _, v1, v2, _⟩ | ⟨hk, _, v1, v2⟩ | ⟨hk, _, v1, v2⟩
 · dsimp only at hk v1 v2
   rw [if_pos hk]
   have hS := pSel w0 N sel v1 sv hs
   have hN := pEx w0 N num v2 nv hn
   rcases hk with rfl | rfl | rfl
   · exact pPlain_1 w0 ys sv nv pv sd tk tl how nm thn els ha _ hS _ hN
   · exact pPlain_2 w0 ys sv nv pv sd tk tl how nm thn els ha _ hS _ hN
   · exact pPlain_12 w0 ys sv nv pv sd tk tl how nm thn els ha _ hS _ hN
 · dsimp only at hk v1
   rw [if_neg (by omega), if_pos hk]
   have hS := pSel w0 N sel v1 sv hs
   rcases hk with rfl | rfl | rfl
   · exact pPlain_3 w0 ys sv nv pv sd tk tl how nm thn els ha _ hS
   · exact pPlain_5 w0 ys sv nv pv sd tk tl how nm thn els ha _ hS
   · exact pPlain_14 w0 ys sv nv pv sd tk tl how nm thn els ha _ hS
 · dsimp only at hk v1 v2
   rw [if_neg (by omega), if_neg (by omega), if_pos hk]
   subst hk
   exact pPlain_4 w0 ys sv nv pv sd tk tl how nm thn els ha _ (pSel w0 N sel v1 sv hs) _ (pTo w0 tk tl v2)
 · dsimp only at hk v1 v2 v3 v4
   rw [if_neg (by omega), if_neg (by omega), if_neg (by omega), if_pos hk]
   subst hk
   exact pPlain_6 w0 ys sv nv pv sd tk tl how nm thn els ha v2.1 v2.2 _ (pTo w0 tk tl v3) _ (pEx w0 N num v4 nv hn)
 · dsimp only at hk v1 v2
   rw [if_neg (by omega), if_neg (by omega), if_neg (by omega), if_neg (by omega), if_pos hk]
   have hN := pEx w0 N num v2 nv hn
   rcases hk with rfl | rfl
   · exact pPlain_7 w0 ys sv nv pv sd tk tl how nm thn els ha v1.1 v1.2 _ hN
   · exact pPlain_9 w0 ys sv nv pv sd tk tl how nm thn els ha v1.1 v1.2 _ hN
 · dsimp only at hk v1 v2
   rw [if_neg (by omega), if_neg (by omega), if_neg (by omega), if_neg (by omega), if_neg (by omega), if_pos hk]
   subst hk
   exact pPlain_8 w0 ys sv nv pv sd tk tl how nm thn els ha v1.1 v1.2 v2.1 v2.2
 · dsimp only at hk v1 v2
   rw [if_neg (by omega), if_neg (by omega), if_neg (by omega), if_neg (by omega), if_neg (by omega), if_neg (by omega)]
   have hT := pTo w0 tk tl v2
   rcases hk with rfl | rfl
   · exact pPlain_13 w0 ys sv nv pv sd tk tl how nm thn els ha v1.1 v1.2 _ hT
   · exact pPlain_15 w0 ys sv nv pv sd tk tl how nm thn els ha v1.1 v1.2 _ hT
theorem pAct (w0 : World) (N : Nat → Prop) (d : Nat) (h : AH) (t e : Acs) (hv : VActs d (.cons h t e .nil)) (ht : PActsOK w0 N t) (he : PActsOK w0 N e) (ys : List Value) (hd : Zh N w0 (h.dsr t.len t.ds e.len e.ds) ys) :
   Xa w0 120 (.agg ys.toArray) (kAct h (kActs t) (kActs e) e.isNil) := by
 obtain ⟨sel, num, pl, pr, thn, els, rfl, h1, h2, h3, h4, h5, h6⟩ := act_of hd
 have e1 : sel.length = 6 := by rw [h1.len, Se.ds_len]
 have e2 : num.length = 12 := by rw [h2.len, Ex.ds_len]
 have e3 : pl.length = 12 := by rw [h3.len, Ex.ds_len]
 have e4 : pr.length = 12 := by rw [h4.len, Ex.ds_len]
 have ha := actR (k := h.kind) (l := h.line) (c := h.col) (sd := h.side) (tk := h.tk) (tl := h.tl) (how := h.how) (cop := h.cop) (nm := h.name) (thn := thn) (els := els) e1 e2 e3 e4
 have hbt := pBlock w0 thn _ (ht thn h5)
 have hbe := pBlock w0 els _ (he els h6)
 obtain ⟨U, uc, _, eu, _⟩ := h5.inRow
 obtain ⟨V, vc, _, ev, _⟩ := h6.inRow
 generalize Zz h.kind h.line h.col sel num h.side h.tk h.tl h.how h.name h.cop pl pr thn els = ys at *
 have hk := acts_kind hv
 unfold kAct
 rcases hv.1 with ⟨_, vc2, _⟩ | ⟨_, vc2, _, _⟩ | ⟨vp, _, _⟩
 · have h10 := vc2.kind
   obtain ⟨_, vo, vl, vr⟩ := vc2
   have hcd := pCond w0 h.cop pl pr e3 e4 vo.1 vo.2 _ _ (pEx w0 N h.cl vl.1 pl h3) (pEx w0 N h.cr vr.1 pr h4)
   rw [if_pos h10]
   rw [h10] at ha ⊢
   cases e with
   | nil =>
     have := pAct_10n w0 ys sel num _ h.side h.tk h.tl h.how h.name thn els V vc ev ha _ hcd _ hbt
     simpa [kElse, Acs.isNil, kCond] using this
   | cons eh et ee er =>
     have := pAct_10e w0 ys sel num _ h.side h.tk h.tl h.how h.name thn els V _ vc ev (by show 0 < er.len + 1; omega) ha _ hcd _ hbt _ hbe
     simpa [kElse, Acs.isNil, kCond] using this
 · have h11 := vc2.kind
   rw [if_neg (by omega), if_pos h11]
   rw [h11] at ha ⊢
   exact pAct_11 w0 ys sel num _ h.side h.tk h.tl h.how h.name thn els ha _ (pSel w0 N h.sel vc2.2 sel h1) _ hbt
 · have hkp := vp.kind.2.2
   rw [if_neg hkp.1, if_neg hkp.2]
   exact pAct_p w0 ys sel num _ h.side h.tk h.tl h.how h.name thn els h.kind ha hk.1 hk.2 hkp.1 hkp.2 _ (pPlain w0 N d h vp ys sel num _ thn els ha h1 h2)
def Acs.dropQ : Acs → Nat → Acs
 | x, 0 => x
 | .nil, _ => .nil
 | .cons _ _ _ r, n + 1 => r.dropQ n
theorem Acs.dropQ_at : ∀ (l : Acs) (k : Nat) (u : AH × Acs × Acs), l.at? k = some u → l.dropQ k = .cons u.1 u.2.1 u.2.2 (l.dropQ (k + 1))
 | .nil, k, u, h => by cases k <;> cases h
 | .cons h t e r, 0, u, hu => by
   have hu : some (h, t, e) = some u := hu
   injection hu with hu
   subst hu
   show Acs.cons h t e r = .cons h t e (r.dropQ 0)
   cases r <;> rfl
 | .cons h t e r, k + 1, u, hu => Acs.dropQ_at r k u hu
theorem Acs.dropQ_end : ∀ (l : Acs) (k : Nat), l.len ≤ k → l.dropQ k = .nil
 | .nil, 0, _ => rfl
 | .nil, k + 1, _ => rfl
 | .cons h t e r, 0, hl => by unfold Acs.len at hl; omega
 | .cons h t e r, k + 1, hl => Acs.dropQ_end r k (by unfold Acs.len at hl; omega)
theorem Acs.at_valid : ∀ (d : Nat) (l : Acs) (k : Nat) (u : AH × Acs × Acs), VActs d l → l.at? k = some u → VActs d (.cons u.1 u.2.1 u.2.2 .nil)
 | d, .nil, k, u, _, h => by cases k <;> cases h
 | d, .cons h t e r, 0, u, hv, hu => by
   have hu : some (h, t, e) = some u := hu
   injection hu with hu
   subst hu
   exact ⟨hv.1, trivial⟩
 | d, .cons h t e r, k + 1, u, hv, hu => Acs.at_valid d r k u hv.2 hu
theorem pActs_walk (w0 : World) (N : Nat → Prop) (d : Nat) (l : Acs) (hvl : VActs d l) (hall : ∀ k u, l.at? k = some u → PActsOK w0 N u.2.1 ∧ PActsOK w0 N u.2.2) : PActsOK w0 N l := by
 intro v hv b st own x h hr
 obtain ⟨B, bc, xs, rfl, hn, hw, hd⟩ := hv.inRow
 clear hv
 obtain ⟨n, hn0⟩ : ∃ n, n = l.len := ⟨_, rfl⟩
 rw [← hn0] at hn ⊢
 obtain ⟨sF, hF⟩ : ∃ s, s = Zp st (kActs l) := ⟨_, rfl⟩
 rw [← hF]
 have HN := Hh hn0
 have HW := Hh (And.intro hw hd)
 have HX := Hh (fun k u hu ys hy => pAct w0 N d u.1 u.2.1 u.2.2 (Acs.at_valid d l k u hvl hu) (hall k u hu).1 (hall k u hu).2 ys hy)
 have HF := Hh (And.intro hr hF)
 clear hw hd hn0 hall hF hr hvl
 have l63 : (n : Int) ≤ 9223372036854775807 := by omega
 have T := Hh h
 clear h
 go_enter Tryz.func71, Tryz.ntmps71
 go_wp2_with fail
 go_loopw [8] (fun i wr => ∃ (m : Nat) (sm : List Int × Bool), i = .int .i64 m ∧ m ≤ n ∧ PE w0 b sm own wr ∧ Hid (Yk sm (kActs (l.dropQ m)) ∧ sF = Zp sm (kActs (l.dropQ m)))) (fun i _ => n - (intOf i).toNat)
 case atStart => exact ⟨0, st, by go_num, Nat.zero_le _, T.out, Hh (by cases l <;> exact HF.out)⟩
 case round =>
   obtain ⟨m, sm, rfl, hm, hT, hz⟩ := hrel
   have T := Hh hT
   clear hT
   by_cases hlt : m < n
   · obtain ⟨u, hu⟩ := Acs.at_some l m (by rw [← HN.out]; exact hlt)
     obtain ⟨g, ys, rfl, hg, hR, hy⟩ := act_at HW.out.1 HW.out.2 hu
     have hyl : ys.length = 53 := by rw [hy.len, AH.dsr_len]
     have hz2 := hz.out
     rw [Acs.dropQ_at l m u hu] at hz2
     unfold kActs at hz2
     have hx := HX.out m u hu ys hy
     generalize kAct u.1 (kActs u.2.1) (kActs u.2.2) u.2.2.isNil = K at *
     obtain ⟨s1, E1⟩ : ∃ s, s = Zp sm K := ⟨_, rfl⟩
     have P1 := Hh (hx.at_ (b := b) E1 hz2.1.first)
     have HZ : Hid (Yk s1 (kActs (l.dropQ (m + 1))) ∧ sF = Zp s1 (kActs (l.dropQ (m + 1)))) := Hh ⟨by rw [E1]; exact hz2.1.next, by rw [hz2.2, Yd, E1]⟩
     have HR := Hh hR
     have HY := Hh hy.one
     have HYL := Hh hyl
     clear hy hR hu hz hz2 hx E1 hyl
     have lk : (m : Int) < (n : Int) := by omega
     go_wp2_with (first
 | ((with_reducible refine Ze 11 ?_); refine Zy 57 _ g (m * 53) (ys) (T.out.ranges HR.out hg) qrow_act (by rw [HYL.out]; exact qsize_act) rfl rfl rfl ?_)
 | ((with_reducible refine Ze 5 ?_); refine Vg T.out 57 (zAcQ) rfl rfl qz_ac ?_; intro wn g5 tn; have T := Hh tn; clear tn)
 | ((with_reducible refine Zl 5 11 ?_); refine Zc 57 _ _ 57 g5 _ (ys) (T.out.get 0 rfl) HYL.out (by rw [HYL.out]; exact qsize_act) HY.out rfl rfl rfl rfl rfl ?_; intro wn p; have T := Hh (T.out.put 0 rfl p); clear p)
 | ((with_reducible refine Ze 13 ?_); refine Zd 57 _ 57 g5 (ys) (T.out.get 0 rfl) qrow_act (by rw [HYL.out]; exact qsize_act) rfl rfl rfl ?_)
 | (go_at_call 120; refine (P1.out _ _ T.out).mono ?_; rintro e wn ⟨rfl, tn⟩; have T := Hh tn; clear tn))
     go_roundw
     case rel => exact ⟨m + 1, s1, by go_num, by omega, T.out.tail, HZ⟩
     case measure => simp [intOf]; omega
   · have hz2 := hz.out
     rw [Acs.dropQ_end l m (by have := HN.out; omega)] at hz2
     have hz3 : sF = sm := hz2.2
     subst hz3
     clear hz hz2
     go_wp2
     go_end0
     exact ⟨rfl, T.out⟩
theorem pActs_nil (w0 : World) (N : Nat → Prop) : PActsOK w0 N .nil := pActs_walk w0 N 0 .nil trivial (fun k u hu => by cases k <;> cases hu)
theorem pActs (w0 : World) (N : Nat → Prop) (d : Nat) (l : Acs) (hv : VActs d l) : PActsOK w0 N l :=
 pActs_walk w0 N d l hv fun k u hu =>
   have h := Acs.at_lt l k u hu
   have hvs := Acs.at_valid d l k u hv hu
   ⟨by
     rcases hvs.1 with ⟨_, _, v1, _⟩ | ⟨_, _, v1, _⟩ | ⟨_, e1, _⟩
     · exact pActs w0 N (d + 1) u.2.1 v1
     · exact pActs w0 N (d + 1) u.2.1 v1
     · rw [e1]; exact pActs_nil w0 N, by
     rcases hvs.1 with ⟨_, _, _, v2⟩ | ⟨_, _, _, e2⟩ | ⟨_, _, e2⟩
     · exact pActs w0 N (d + 1) u.2.2 v2
     · rw [e2]; exact pActs_nil w0 N
     · rw [e2]; exact pActs_nil w0 N⟩
termination_by SizeOf.sizeOf l
decreasing_by
 all_goals first | exact (Acs.at_lt l k u hu).1 | exact (Acs.at_lt l k u hu).2
end Go.Proofs.YtljdgdphldckhaaGreat
