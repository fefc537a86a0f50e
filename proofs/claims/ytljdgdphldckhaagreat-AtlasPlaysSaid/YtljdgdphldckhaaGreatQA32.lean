/-
  Texts Q7. No conditions but those that each theorem names.
-/
import Derived.Test.YtljdgdphldckhaaGreatQA31
set_option maxRecDepth 20000
set_option maxHeartbeats 12800000
namespace Go.Proofs.YtljdgdphldckhaaGreat
open Go.Great Go.ChangeShapes Go.WideShapes Go.ChangeAt Go.RowKit
set_option linter.unusedVariables false
set_option linter.unusedSimpArgs false
def kRu (r : Ru) : List ByteArray := [wd Xf r.when_] ++ ((if r.when_ = 5 then [putS r.stratum] else []) ++ kBlk (kActs r.acts))
def kBody (l : List Ru) : List ByteArray := [Xt] ++ (l.flatMap kRu ++ [We])
def kPl (p : Pl) : List ByteArray := [wd Ws 2, qN p.name] ++ kBody p.rules
theorem rus_atQ {N : Nat → Prop} {w : World} : ∀ {l : List Ru} {xs : List Value}, Zh N w (Zai l) xs → ∀ (k : Nat) (hk : k < l.length), ∃ pre ys post, xs = pre ++ ys ++ post ∧ pre.length = k * 5 ∧ Zh N w (l[k]'hk).ds ys
 | [], xs, _, k, hk => by cases hk
 | x :: r, xs, h, k, hk => by
   obtain ⟨a, b, rfl, h1, h2⟩ := Zh.split (x := x.ds) h
   cases k with
   | zero => exact ⟨[], a, b, rfl, by simp, h1⟩
   | succ k =>
     obtain ⟨pre, ys, post, rfl, hp, hy⟩ := rus_atQ h2 k (by simpa using hk)
     have hl : a.length = 5 := by rw [h1.len]; rfl
     exact ⟨a ++ pre, ys, post, by simp, by rw [List.length_append, hp, hl]; omega, hy⟩
theorem pRules (w0 : World) (N : Nat → Prop) (l : List Ru) (hv : ∀ r ∈ l, VRu r) (v : Value) (hd : Zh N w0 (.row l.length (Zai l) .nil) [v]) : Xa w0 110 v (kBody l) := by
 intro b st own x h hr
 obtain ⟨B, bc, xs, rfl, hn, hw, hd⟩ := hd.inRow
 obtain ⟨n, hn0⟩ : ∃ n, n = l.length := ⟨_, rfl⟩
 rw [← hn0] at hn ⊢
 unfold kBody at hr ⊢
 obtain ⟨s1, E1⟩ : ∃ s, s = Zp st ([Xt]) := ⟨_, rfl⟩
 have R1 := Hh (Yk.first hr)
 replace hr := Yk.next hr
 rw [← E1] at hr
 obtain ⟨s2, E2⟩ : ∃ s, s = Zp s1 (l.flatMap kRu) := ⟨_, rfl⟩
 have R2 := Hh (Yk.first hr)
 replace hr := Yk.next hr
 rw [← E2] at hr
 obtain ⟨s3, E3⟩ : ∃ s, s = Zp s2 ([We]) := ⟨_, rfl⟩
 have R3 := Hh hr
 clear hr
 have EK : Zp st (([Xt]) ++ ((l.flatMap kRu) ++ (([We])))) = s3 := by simp only [Yd, E1, E2, E3]
 rw [EK]
 clear EK
 have P1 := Hh (fun own x => Xd (w0 := w0) (b := b) E1 R1.out (by simp) own x)
 have P3 := Hh (fun own x => Xd (w0 := w0) (b := b) E3 R3.out (by simp) own x)
 have HE1 := Hh E1
 clear E1
 have HE2 := Hh E2
 clear E2
 have HE3 := Hh E3
 clear E3
 have HN := Hh hn0
 have HW := Hh (And.intro hw hd)
 have HV := Hh hv
 clear hw hd hn0 hv
 have l63 : (n : Int) ≤ 9223372036854775807 := by omega
 have T := Hh h
 clear h
 go_enter Tryz.func110, Tryz.ntmps110
 go_wp2_with (first
 | (go_at_call 107; refine (P1.out _ _ _ _ _ T.out rfl rfl).mono ?_; rintro e wn ⟨rfl, tn⟩; have T := Hh tn; clear tn))
 go_loopw [11] (fun i wr => ∃ m : Nat, i = .int .i64 m ∧ m ≤ n ∧ PE w0 b (midS kRu l s1 m) own wr) (fun i _ => n - (intOf i).toNat)
 case atStart => exact ⟨0, by go_num, Nat.zero_le _, T.out⟩
 case round =>
   obtain ⟨m, rfl, hm, hT⟩ := hrel
   have T := Hh hT
   clear hT
   by_cases hlt : m < n
   · have hk1 : m < l.length := by rw [← HN.out]; exact hlt
     obtain ⟨pre, ys, post, hxs, hp, hy⟩ := rus_atQ HW.out.2 m hk1
     obtain ⟨g, rfl, hg, hc⟩ := HW.out.1.reads (by rw [hxs]; have := hy.len; have e5 : (l[m]'hk1).ds.len = 5 := rfl; simp; omega)
     have hR : w0.rangeAt g (m * 5) ys := Zam (by rw [hxs] at hc; exact hc) hp
     have hvr := HV.out _ (List.getElem_mem hk1)
     have hnx := midS_next kRu l s1 hk1
     have hrm := midS_room R2.out hk1
     generalize l[m]'hk1 = r at *
     generalize hsn : midS kRu l s1 (m + 1) = sn at *
     have HSN := Hh hsn
     clear hsn
     generalize midS kRu l s1 m = sm at *
     obtain ⟨wh, str, rl, rc, acts⟩ := r
     obtain ⟨_, rfl, _, rfl, _, rfl, _, rfl, D, ac, zs, _, rfl, hnn, hwz, hdz, rfl⟩ := hy
     have hrow : Zh N w0 (.row acts.len acts.ds .nil) [.slice D acts.len ac] := ⟨D, ac, zs, [], rfl, hnn, hwz, hdz, rfl⟩
     obtain ⟨hv1, hv2, _, hv4⟩ := hvr
     dsimp only at hv1 hv2 hv4
     have hbl := pBlock w0 _ _ (pActs w0 N 0 acts hv4 _ hrow)
     generalize acts.len = an at *
     unfold kRu at hnx hrm
     dsimp only at hnx hrm
     have w1 := hv1.1
     have w2 := hv1.2
     have q1 : -99 ≤ str := by omega
     have q2 : str ≤ 99 := hv2.2
     generalize kActs acts = KA at *
     have HR := Hh hR
     clear hxs hp hc hR hk1 hrow hnn hwz hdz hv1 hv2 hv4
     have lk : (m : Int) < (n : Int) := by omega
     by_cases hw5 : wh = 5
     · rw [if_pos hw5] at hnx hrm
       subst hw5
       obtain ⟨u1, F1⟩ : ∃ s, s = Zp sm ([wd Xf 5]) := ⟨_, rfl⟩
       have Q1 := Yk.first hrm
       replace hrm := Yk.next hrm
       rw [← F1] at hrm
       obtain ⟨u2, F2⟩ : ∃ s, s = Zp u1 ([putS str]) := ⟨_, rfl⟩
       have Q2 := Yk.first hrm
       replace hrm := Yk.next hrm
       rw [← F2] at hrm
       obtain ⟨u3, F3⟩ : ∃ s, s = Zp u2 (kBlk KA) := ⟨_, rfl⟩
       have EN : u3 = sn := by rw [hnx]; simp only [Yd, F1, F2, F3]
       rw [EN] at F3
       have G1 := Hh (fun own x => Xd (w0 := w0) (b := b) F1 Q1 (by simp) own x)
       have G2 := Hh (fun own x => Xd (w0 := w0) (b := b) F2 Q2 (by simp) own x)
       have G3 := Hh (hbl.at_ (b := b) F3 hrm)
       clear EN hnx hrm hbl F1 F2 F3
       go_wp2_with (first
 | ((with_reducible refine Ze 14 ?_); refine Zy 66 _ g (m * 5) ([.int .i64 5, .int .i64 str, .int .i64 rl, .int .i64 rc, .slice D an ac]) (T.out.ranges HR.out hg) qrow_ru qsize_ru rfl rfl rfl ?_)
 | ((with_reducible refine Ze 5 ?_); refine Vg T.out 66 ([.int .i64 0, .int .i64 0, .int .i64 0, .int .i64 0, .slice none 0 0]) rfl rfl qz_ru ?_; intro wn g5 tn; have T := Hh tn; clear tn)
 | ((with_reducible refine Zl 5 14 ?_); refine Zc 66 _ _ 66 g5 _ ([.int .i64 5, .int .i64 str, .int .i64 rl, .int .i64 rc, .slice D an ac]) (T.out.get 0 rfl) rfl qsize_ru (by simp [Value.oneCell']) rfl rfl rfl rfl rfl ?_; intro wn p; have T := Hh (T.out.put 0 rfl p); clear p; have c0_0 : wn.cell? ⟨g5, 0, none⟩ = some (.int .i64 5) := (T.out.get 0 rfl).read 0; have c0_1 : wn.cell? ⟨g5, 1, none⟩ = some (.int .i64 str) := (T.out.get 0 rfl).read 1; have c0_4 : wn.cell? ⟨g5, 4, none⟩ = some (.slice D an ac) := (T.out.get 0 rfl).read 4)
 | (go_at_call 117; refine (vqWord T.out (5) _ 6 6 Xf rfl rfl (by decide) (by decide) (by decide)).mono ?_; rintro e wn ⟨rfl, tn⟩; have T := Hh tn; clear tn; have c0_0 : wn.cell? ⟨g5, 0, none⟩ = some (.int .i64 5) := (T.out.get 0 rfl).read 0; have c0_1 : wn.cell? ⟨g5, 1, none⟩ = some (.int .i64 str) := (T.out.get 0 rfl).read 1; have c0_4 : wn.cell? ⟨g5, 4, none⟩ = some (.slice D an ac) := (T.out.get 0 rfl).read 4)
 | (go_at_call 107; refine (G1.out _ _ _ _ _ T.out rfl rfl).mono ?_; rintro e wn ⟨rfl, tn⟩; have T := Hh tn; clear tn; have c0_0 : wn.cell? ⟨g5, 0, none⟩ = some (.int .i64 5) := (T.out.get 0 rfl).read 0; have c0_1 : wn.cell? ⟨g5, 1, none⟩ = some (.int .i64 str) := (T.out.get 0 rfl).read 1; have c0_4 : wn.cell? ⟨g5, 4, none⟩ = some (.slice D an ac) := (T.out.get 0 rfl).read 4)
 | (go_at_call 109; (with_reducible refine (vqNum T.out (str) (q1) (q2)).mono ?_); rintro e wn ⟨rfl, tn⟩; have T := Hh tn; clear tn; have c0_0 : wn.cell? ⟨g5, 0, none⟩ = some (.int .i64 5) := (T.out.get 0 rfl).read 0; have c0_1 : wn.cell? ⟨g5, 1, none⟩ = some (.int .i64 str) := (T.out.get 0 rfl).read 1; have c0_4 : wn.cell? ⟨g5, 4, none⟩ = some (.slice D an ac) := (T.out.get 0 rfl).read 4)
 | (go_at_call 107; refine (G2.out _ _ _ _ _ T.out rfl rfl).mono ?_; rintro e wn ⟨rfl, tn⟩; have T := Hh tn; clear tn; have c0_0 : wn.cell? ⟨g5, 0, none⟩ = some (.int .i64 5) := (T.out.get 0 rfl).read 0; have c0_1 : wn.cell? ⟨g5, 1, none⟩ = some (.int .i64 str) := (T.out.get 0 rfl).read 1; have c0_4 : wn.cell? ⟨g5, 4, none⟩ = some (.slice D an ac) := (T.out.get 0 rfl).read 4)
 | (go_at_call 154; refine (G3.out _ _ T.out).mono ?_; rintro e wn ⟨rfl, tn⟩; have T := Hh tn; clear tn; have c0_0 : wn.cell? ⟨g5, 0, none⟩ = some (.int .i64 5) := (T.out.get 0 rfl).read 0; have c0_1 : wn.cell? ⟨g5, 1, none⟩ = some (.int .i64 str) := (T.out.get 0 rfl).read 1; have c0_4 : wn.cell? ⟨g5, 4, none⟩ = some (.slice D an ac) := (T.out.get 0 rfl).read 4))
       go_roundw
       case rel => exact ⟨m + 1, by go_num, by omega, by rw [HSN.out]; exact T.out.tail⟩
       case measure => simp [intOf]; omega
     · rw [if_neg hw5, List.nil_append] at hnx hrm
       have b5 : (wh == 5) = false := by rw [beq_eq_false_iff_ne]; exact hw5
       obtain ⟨u1, F1⟩ : ∃ s, s = Zp sm ([wd Xf wh]) := ⟨_, rfl⟩
       have Q1 := Yk.first hrm
       replace hrm := Yk.next hrm
       rw [← F1] at hrm
       obtain ⟨u2, F2⟩ : ∃ s, s = Zp u1 (kBlk KA) := ⟨_, rfl⟩
       have EN : u2 = sn := by rw [hnx]; simp only [Yd, F1, F2]
       rw [EN] at F2
       have G1 := Hh (fun own x => Xd (w0 := w0) (b := b) F1 Q1 (by simp) own x)
       have G2 := Hh (hbl.at_ (b := b) F2 hrm)
       clear EN hnx hrm hbl F1 F2
       go_wp2_with (first
 | ((with_reducible refine Ze 14 ?_); refine Zy 66 _ g (m * 5) ([.int .i64 wh, .int .i64 str, .int .i64 rl, .int .i64 rc, .slice D an ac]) (T.out.ranges HR.out hg) qrow_ru qsize_ru rfl rfl rfl ?_)
 | ((with_reducible refine Ze 5 ?_); refine Vg T.out 66 ([.int .i64 0, .int .i64 0, .int .i64 0, .int .i64 0, .slice none 0 0]) rfl rfl qz_ru ?_; intro wn g5 tn; have T := Hh tn; clear tn)
 | ((with_reducible refine Zl 5 14 ?_); refine Zc 66 _ _ 66 g5 _ ([.int .i64 wh, .int .i64 str, .int .i64 rl, .int .i64 rc, .slice D an ac]) (T.out.get 0 rfl) rfl qsize_ru (by simp [Value.oneCell']) rfl rfl rfl rfl rfl ?_; intro wn p; have T := Hh (T.out.put 0 rfl p); clear p; have c0_0 : wn.cell? ⟨g5, 0, none⟩ = some (.int .i64 wh) := (T.out.get 0 rfl).read 0; have c0_1 : wn.cell? ⟨g5, 1, none⟩ = some (.int .i64 str) := (T.out.get 0 rfl).read 1; have c0_4 : wn.cell? ⟨g5, 4, none⟩ = some (.slice D an ac) := (T.out.get 0 rfl).read 4)
 | (go_at_call 117; refine (vqWord T.out (wh) _ 6 6 Xf rfl rfl (w1) (by show _ ≤ ((6 : Nat) : Int); omega) (by decide)).mono ?_; rintro e wn ⟨rfl, tn⟩; have T := Hh tn; clear tn; have c0_0 : wn.cell? ⟨g5, 0, none⟩ = some (.int .i64 wh) := (T.out.get 0 rfl).read 0; have c0_1 : wn.cell? ⟨g5, 1, none⟩ = some (.int .i64 str) := (T.out.get 0 rfl).read 1; have c0_4 : wn.cell? ⟨g5, 4, none⟩ = some (.slice D an ac) := (T.out.get 0 rfl).read 4)
 | (go_at_call 107; refine (G1.out _ _ _ _ _ T.out rfl rfl).mono ?_; rintro e wn ⟨rfl, tn⟩; have T := Hh tn; clear tn; have c0_0 : wn.cell? ⟨g5, 0, none⟩ = some (.int .i64 wh) := (T.out.get 0 rfl).read 0; have c0_1 : wn.cell? ⟨g5, 1, none⟩ = some (.int .i64 str) := (T.out.get 0 rfl).read 1; have c0_4 : wn.cell? ⟨g5, 4, none⟩ = some (.slice D an ac) := (T.out.get 0 rfl).read 4)
 | (go_at_call 154; refine (G2.out _ _ T.out).mono ?_; rintro e wn ⟨rfl, tn⟩; have T := Hh tn; clear tn; have c0_0 : wn.cell? ⟨g5, 0, none⟩ = some (.int .i64 wh) := (T.out.get 0 rfl).read 0; have c0_1 : wn.cell? ⟨g5, 1, none⟩ = some (.int .i64 str) := (T.out.get 0 rfl).read 1; have c0_4 : wn.cell? ⟨g5, 4, none⟩ = some (.slice D an ac) := (T.out.get 0 rfl).read 4))
       go_roundw
       case rel => exact ⟨m + 1, by go_num, by omega, by rw [HSN.out]; exact T.out.tail⟩
       case measure => simp [intOf]; omega
   · have hmn : m = l.length := by have := HN.out; omega
     have T3 : PE w0 b s2 own wr := by
       have := T.out
       rw [hmn, midS_end] at this
       rw [HE2.out]
       exact this
     have T := Hh T3
     clear T3 hmn
     have lk : ¬ (m : Int) < (n : Int) := by omega
     go_wp2_with (first
 | (go_at_call 107; refine (P3.out _ _ _ _ _ T.out rfl rfl).mono ?_; rintro e wn ⟨rfl, tn⟩; have T := Hh tn; clear tn))
     go_end0
     exact ⟨rfl, T.out⟩
theorem pPlace_raw (w0 : World) (nm : ByteArray) (ln cl : Int) (v : Value) (KR : List ByteArray) (hv : v.oneCell' = true) (hrl : Xa w0 110 v KR) : Xa w0 59 (.agg ([.string nm, .int .i64 ln, .int .i64 cl, v] : List Value).toArray) ([⟨#[112, 108, 97, 99, 101]⟩, qN nm] ++ KR) := by
 intro b st own x h hr
 have hnm : nm.size ≤ 10000000000 := by have h2 := hr.first; unfold Yk at h2; simp [lenB, qN_size] at h2; omega
 obtain ⟨s1, E1⟩ : ∃ s, s = Zp st ([⟨#[112, 108, 97, 99, 101]⟩, qN nm]) := ⟨_, rfl⟩
 have R1 := Hh (Yk.first hr)
 replace hr := Yk.next hr
 rw [← E1] at hr
 obtain ⟨s2, E2⟩ : ∃ s, s = Zp s1 (KR) := ⟨_, rfl⟩
 have R2 := Hh hr
 clear hr
 have EK : Zp st (([⟨#[112, 108, 97, 99, 101]⟩, qN nm]) ++ ((KR))) = s2 := by simp only [Yd, E1, E2]
 rw [EK]
 clear EK
 have P1 := Hh (fun own x => Xd (w0 := w0) (b := b) E1 R1.out (by simp) own x)
 have P2 := Hh (hrl.at_ (b := b) E2 R2.out)
 have HE1 := Hh E1
 clear E1
 have HE2 := Hh E2
 clear E2
 clear hrl
 have T := Hh h
 clear h
 go_enter Tryz.func59, Tryz.ntmps59
 go_wp2_with (first
 | ((with_reducible refine Ze 3 ?_); refine Ya T.out 38 _ ([.string nm, .int .i64 ln, .int .i64 cl, v]) rfl rfl rfl ?_; intro wn g0 tn; have T := Hh tn; clear tn; have c0_0 : wn.cell? ⟨g0, 0, none⟩ = some (.string nm) := (T.out.get 0 rfl).read 0; have c0_3 : wn.cell? ⟨g0, 3, none⟩ = some (v) := (T.out.get 0 rfl).read 3)
 | (go_at_call 108; (with_reducible refine (vqName T.out (nm) (hnm)).mono ?_); rintro e wn ⟨rfl, tn⟩; have T := Hh tn; clear tn; have c0_0 : wn.cell? ⟨g0, 0, none⟩ = some (.string nm) := (T.out.get 0 rfl).read 0; have c0_3 : wn.cell? ⟨g0, 3, none⟩ = some (v) := (T.out.get 0 rfl).read 3)
 | (go_at_call 107; refine (P1.out _ _ _ _ _ T.out rfl rfl).mono ?_; rintro e wn ⟨rfl, tn⟩; have T := Hh tn; clear tn; have c0_0 : wn.cell? ⟨g0, 0, none⟩ = some (.string nm) := (T.out.get 0 rfl).read 0; have c0_3 : wn.cell? ⟨g0, 3, none⟩ = some (v) := (T.out.get 0 rfl).read 3)
 | (go_at_call 110; refine (P2.out _ _ T.out).mono ?_; rintro e wn ⟨rfl, tn⟩; have T := Hh tn; clear tn; have c0_0 : wn.cell? ⟨g0, 0, none⟩ = some (.string nm) := (T.out.get 0 rfl).read 0; have c0_3 : wn.cell? ⟨g0, 3, none⟩ = some (v) := (T.out.get 0 rfl).read 3))
 go_end0
 exact ⟨rfl, T.out.tail⟩
theorem e_place : wd Ws 2 = ⟨#[112, 108, 97, 99, 101]⟩ := by decide +kernel
theorem pPlace (w0 : World) (N : Nat → Prop) (p : Pl) (hv : VPl p) (vs : List Value) (hd : Zh N w0 p.ds vs) : Xa w0 59 (.agg vs.toArray) (kPl p) := by
 obtain ⟨nm, ln, cl, rules⟩ := p
 obtain ⟨_, rfl, _, rfl, _, rfl, D, c2, zs, _, rfl, hn, hw, hz, rfl⟩ := hd
 have hr := pRules w0 N rules hv.2 (.slice D rules.length c2) ⟨D, c2, zs, [], rfl, hn, hw, hz, rfl⟩
 have := pPlace_raw w0 nm ln cl _ _ rfl hr
 unfold kPl
 rw [e_place]
 exact this
end Go.Proofs.YtljdgdphldckhaaGreat
