/-
  Texts Q2. No conditions but those that each theorem names.
-/
import Derived.Test.YtljdgdphldckhaaGreatQA24
set_option maxRecDepth 20000
set_option maxHeartbeats 12800000
namespace Go.Proofs.YtljdgdphldckhaaGreat
open Go.Great Go.ChangeShapes Go.WideShapes Go.ChangeAt Go.RowKit
set_option linter.unusedVariables false
set_option linter.unusedSimpArgs false
theorem vqWord0 (w : World) (k : Nat) (q n c : Nat) (t : ByteArray) (hk : k < n) (hn : n ≤ 1000) (hq : w.cell? ⟨q, k, none⟩ = some (.string t)) :
   Calls Tryz.prog 117 #[.int .i64 ((k : Int) + 1), .slice (some ⟨q, 0, none⟩) n c] w fun e w' => e = .returned (.string t) ∧ w = w' := by
 have l1 : (1 : Int) ≤ (k : Int) + 1 := by omega
 have l2 : (k : Int) + 1 ≤ (n : Int) := by omega
 have l3 : ((k : Int) + 1 - 1).toNat = k := by omega
 have l4 : (k : Int) < (n : Int) := by omega
 go_enter Tryz.func117, Tryz.ntmps117
 go_wp2
 go_ret
 exact ⟨rfl, rfl⟩
theorem flat_split {α β : Type} (f : α → List β) (l : List α) {m : Nat} (h : m < l.length) : l.flatMap f = (l.take m).flatMap f ++ (f (l[m]'h) ++ (l.drop (m + 1)).flatMap f) := by
 conv => lhs; rw [← List.take_append_drop m l]
 rw [List.flatMap_append, List.drop_eq_getElem_cons h, List.flatMap_cons]
theorem flat_take {α β : Type} (f : α → List β) (l : List α) {m : Nat} (h : m < l.length) : (l.take (m + 1)).flatMap f = (l.take m).flatMap f ++ f (l[m]'h) := by
 rw [List.take_succ_eq_append_getElem h, List.flatMap_append]; simp
def midS {α : Type} (f : α → List ByteArray) (l : List α) (s : List Int × Bool) (m : Nat) : List Int × Bool := Zp s ((l.take m).flatMap f)
theorem midS_end {α : Type} (f : α → List ByteArray) (l : List α) (s : List Int × Bool) : midS f l s l.length = Zp s (l.flatMap f) := by unfold midS; rw [List.take_length]
theorem midS_next {α : Type} (f : α → List ByteArray) (l : List α) (s : List Int × Bool) {m : Nat} (h : m < l.length) : midS f l s (m + 1) = Zp (midS f l s m) (f (l[m]'h)) := by
 unfold midS; rw [flat_take f l h, Yd]
theorem midS_room {α : Type} {f : α → List ByteArray} {l : List α} {s : List Int × Bool} (r : Yk s (l.flatMap f)) {m : Nat} (h : m < l.length) : Yk (midS f l s m) (f (l[m]'h)) := by
 rw [flat_split f l h] at r
 exact r.next.first
section
variable {w0 x : World} {b : Nat} {st : List Int × Bool} {own : List Bk}
theorem vqSideW (h : PE w0 b st own x) {q : Nat} {L : List ByteArray} (hw : Zb x q 9 (Zaf L)) (k : Int) (h1 : 1 ≤ k) (h2 : k ≤ 3) : Calls Tryz.prog 118 #[.int .i64 k] x fun e y => e = .returned (.string (wd Zt k)) ∧ PE w0 b st own y ∧ Zb y q 9 (Zaf L) :=
 (uSide k x h1 h2).mono fun e y ⟨he, hb⟩ => ⟨he, h.call hb, hw.below hb hw.inside⟩
theorem vqWordW (h : PE w0 b st own x) {q : Nat} {L : List ByteArray} (hw : Zb x q 9 (Zaf L)) (k : Int) (n c : Nat) (hn : n = L.length) (h1 : 1 ≤ k) (h2 : k ≤ L.length) (h3 : L.length ≤ 1000) :
   Calls Tryz.prog 117 #[.int .i64 k, .slice (some ⟨q, 0, none⟩) n c] x fun e y => e = .returned (.string (wd L k)) ∧ PE w0 b st own y := by
 subst hn
 obtain ⟨j, hj⟩ : ∃ j : Nat, k = (j : Int) + 1 := ⟨(k - 1).toNat, by omega⟩
 subst hj
 have hjl : j < L.length := by omega
 have hwd : wd L ((j : Int) + 1) = L[j] := by
   have e : ((j : Int) + 1).toNat - 1 = j := by omega
   unfold wd
   rw [e, List.getElem?_eq_getElem hjl]
   rfl
 have hc : x.cell? ⟨q, j, none⟩ = some (.string (wd L ((j : Int) + 1))) := by
   rw [hw.read, hwd]; simp [Zaf, hjl]
 refine (vqWord0 x j q L.length c _ hjl h3 hc).mono ?_
 rintro e y ⟨rfl, rfl⟩
 exact ⟨rfl, h⟩
end
theorem pFilterOK (w0 : World) (f : Fl) (hv : VFl f) : Xa w0 119 (.agg #[.int .i64 f.kind, .int .i64 f.op, .int .i64 f.n, .string f.name]) (kFl f) := fun b st own x h hr => pFilter h f hv hr
theorem pSel_one (w0 : World) (k sd wh ln pk : Int) (fv : Value) (hk : k = 1 ∨ k = 2) : Xa w0 65 (.agg #[.int .i64 k, .int .i64 sd, .int .i64 wh, .int .i64 ln, fv, .int .i64 pk]) [wd Uv k] :=
 fun b st own x h hr => h.print fun a v hb hB => sel_one _ x b a v st k sd wh ln pk fv hk hb hB hr
theorem fls_range {N : Nat → Prop} {w : World} {A : Option Addr} {l : List Fl} {xs : List Value} (hw : Ji N w A xs) (hd : Zh N w (flsDs l) xs) {k : Nat} (hk : k < l.length) :
   ∃ g, A = some ⟨g, 0, none⟩ ∧ g < w.heap.size ∧ w.rangeAt g (k * 4) [.int .i64 (l[k]'hk).kind, .int .i64 (l[k]'hk).op, .int .i64 (l[k]'hk).n, .string (l[k]'hk).name] := by
 have hl := fls_len hd
 obtain ⟨g, hA, hg, hc⟩ := hw.reads (by omega)
 refine ⟨g, hA, hg, fun j v hv => ?_⟩
 have hj : j < 4 := (List.getElem?_eq_some_iff.1 hv).1
 rw [hc _ (by omega), fls_at hd k hk j hj]
 exact hv
theorem e_open : wd Uv 3 = ⟨#[40]⟩ := by decide +kernel
theorem pSel_3 (w0 : World) (N : Nat → Prop) (sd ln pk : Int) (fs : List Fl) (A : Option Addr) (n c : Nat) (xs : List Value) (hw : Ji N w0 A xs) (hd : Zh N w0 (flsDs fs) xs) (hn : n = fs.length) (hm : n ≤ 9223372036854775807) (hfl : ∀ f ∈ fs, VFl f)
   (h1 : 1 ≤ sd) (h2 : sd ≤ 3) (h5 : 0 ≤ ln) (h6 : ln ≤ 99) (h7 : 1 ≤ pk) (h8 : pk ≤ 5) :
   Xa w0 65 (.agg #[.int .i64 3, .int .i64 sd, .int .i64 3, .int .i64 ln, .slice A n c, .int .i64 pk]) ([wd Uv 3] ++ ([wd Zt sd, wd Wr 3] ++ ([putS ln] ++ (kFls fs ++ ([wd wPick pk, ⟨#[41]⟩]))))) := by
 intro b st own x h hr
 obtain ⟨s1, E1⟩ : ∃ s, s = Zp st ([wd Uv 3]) := ⟨_, rfl⟩
 have R1 := Hh (Yk.first hr)
 replace hr := Yk.next hr
 rw [← E1] at hr
 obtain ⟨s2, E2⟩ : ∃ s, s = Zp s1 ([wd Zt sd, wd Wr 3]) := ⟨_, rfl⟩
 have R2 := Hh (Yk.first hr)
 replace hr := Yk.next hr
 rw [← E2] at hr
 obtain ⟨s3, E3⟩ : ∃ s, s = Zp s2 ([putS ln]) := ⟨_, rfl⟩
 have R3 := Hh (Yk.first hr)
 replace hr := Yk.next hr
 rw [← E3] at hr
 obtain ⟨s4, E4⟩ : ∃ s, s = Zp s3 (kFls fs) := ⟨_, rfl⟩
 have R4 := Hh (Yk.first hr)
 replace hr := Yk.next hr
 rw [← E4] at hr
 obtain ⟨s5, E5⟩ : ∃ s, s = Zp s4 ([wd wPick pk, ⟨#[41]⟩]) := ⟨_, rfl⟩
 have R5 := Hh hr
 clear hr
 have EK : Zp st (([wd Uv 3]) ++ (([wd Zt sd, wd Wr 3]) ++ (([putS ln]) ++ ((kFls fs) ++ (([wd wPick pk, ⟨#[41]⟩])))))) = s5 := by simp only [Yd, E1, E2, E3, E4, E5]
 rw [EK]
 clear EK
 have P1 := Hh (fun own x => Xd (w0 := w0) (b := b) E1 R1.out (by simp) own x)
 have P2 := Hh (fun own x => Xd (w0 := w0) (b := b) E2 R2.out (by simp) own x)
 have P3 := Hh (fun own x => Xd (w0 := w0) (b := b) E3 R3.out (by simp) own x)
 have P5 := Hh (fun own x => Xd (w0 := w0) (b := b) E5 R5.out (by simp) own x)
 have HW := Hh (And.intro hw hd)
 have HN := Hh hn
 have HF := Hh hfl
 clear hw hd hn hfl
 have HE1 := Hh E1
 clear E1
 have HE2 := Hh E2
 clear E2
 have HE3 := Hh E3
 clear E3
 have HE4 := Hh E4
 clear E4
 have HE5 := Hh E5
 clear E5
 have T := Hh h
 clear h
 have l63 : (n : Int) ≤ 9223372036854775807 := by omega
 go_enter Tryz.func65, Tryz.ntmps65
 go_upto_region 3 with (first
 | ((with_reducible refine Ze 3 ?_); refine Ya T.out 46 _ ([.int .i64 3, .int .i64 sd, .int .i64 3, .int .i64 ln, .slice A n c, .int .i64 pk]) rfl rfl rfl ?_; intro wn g0 tn; have T := Hh tn; clear tn; have c0_0 : wn.cell? ⟨g0, 0, none⟩ = some (.int .i64 3) := (T.out.get 0 rfl).read 0; have c0_1 : wn.cell? ⟨g0, 1, none⟩ = some (.int .i64 sd) := (T.out.get 0 rfl).read 1; have c0_2 : wn.cell? ⟨g0, 2, none⟩ = some (.int .i64 3) := (T.out.get 0 rfl).read 2; have c0_3 : wn.cell? ⟨g0, 3, none⟩ = some (.int .i64 ln) := (T.out.get 0 rfl).read 3; have c0_4 : wn.cell? ⟨g0, 4, none⟩ = some (.slice A n c) := (T.out.get 0 rfl).read 4; have c0_5 : wn.cell? ⟨g0, 5, none⟩ = some (.int .i64 pk) := (T.out.get 0 rfl).read 5)
 | (go_at_call 117; refine (vqWord T.out (3) _ 3 3 Uv rfl rfl (by decide) (by decide) (by decide)).mono ?_; rintro e wn ⟨rfl, tn⟩; have T := Hh tn; clear tn; have c0_0 : wn.cell? ⟨g0, 0, none⟩ = some (.int .i64 3) := (T.out.get 0 rfl).read 0; have c0_1 : wn.cell? ⟨g0, 1, none⟩ = some (.int .i64 sd) := (T.out.get 0 rfl).read 1; have c0_2 : wn.cell? ⟨g0, 2, none⟩ = some (.int .i64 3) := (T.out.get 0 rfl).read 2; have c0_3 : wn.cell? ⟨g0, 3, none⟩ = some (.int .i64 ln) := (T.out.get 0 rfl).read 3; have c0_4 : wn.cell? ⟨g0, 4, none⟩ = some (.slice A n c) := (T.out.get 0 rfl).read 4; have c0_5 : wn.cell? ⟨g0, 5, none⟩ = some (.int .i64 pk) := (T.out.get 0 rfl).read 5)
 | (go_at_call 107; refine (P1.out _ _ _ _ _ T.out rfl rfl).mono ?_; rintro e wn ⟨rfl, tn⟩; have T := Hh tn; clear tn; have c0_0 : wn.cell? ⟨g0, 0, none⟩ = some (.int .i64 3) := (T.out.get 0 rfl).read 0; have c0_1 : wn.cell? ⟨g0, 1, none⟩ = some (.int .i64 sd) := (T.out.get 0 rfl).read 1; have c0_2 : wn.cell? ⟨g0, 2, none⟩ = some (.int .i64 3) := (T.out.get 0 rfl).read 2; have c0_3 : wn.cell? ⟨g0, 3, none⟩ = some (.int .i64 ln) := (T.out.get 0 rfl).read 3; have c0_4 : wn.cell? ⟨g0, 4, none⟩ = some (.slice A n c) := (T.out.get 0 rfl).read 4; have c0_5 : wn.cell? ⟨g0, 5, none⟩ = some (.int .i64 pk) := (T.out.get 0 rfl).read 5))
 go_cut [] from 16 to 25 (fun wx => PE w0 b s2 ((g0, 46, [.int .i64 3, .int .i64 sd, .int .i64 3, .int .i64 ln, .slice A n c, .int .i64 pk]) :: own) wx)
 case first =>
   refine wp_region_held_drew (S := fun x => ∃ s, PE w0 b s ((g0, 46, [.int .i64 3, .int .i64 sd, .int .i64 3, .int .i64 ln, .slice A n c, .int .i64 pk]) :: own) x) (by kernel_rfl) ⟨_, T.out.drew⟩ (fun hS => ?_)
   have hP := T.out.drew
   generalize wn.drew = wf at *
   refine Xg (i := 0) (v := .pointer (some ⟨b, 0, none⟩)) rfl rfl (by kernel_rfl) (by kernel_rfl) (by kernel_rfl) (fun _ _ _ h => h) (qyMove rfl rfl rfl) hS ?_
   try simp only [Qy1, Qx1]
   refine Xg (i := 1) (v := .pointer (some ⟨g0, 1, none⟩)) rfl rfl (by kernel_rfl) (by kernel_rfl) (by kernel_rfl) (fun _ _ _ h => h) (Or.inl ⟨by rfl, fun y hy => by go_simp⟩) hS ?_
   try simp only [Qy1, Qx1]
   refine Xg (i := 2) (v := .int .i64 sd) rfl rfl (by kernel_rfl) (by kernel_rfl) (by kernel_rfl) (fun _ _ _ h => h) (Or.inl ⟨by rfl, fun y hy => by obtain ⟨_, hy⟩ := hy; have c0 := (PE.get hy 0 rfl).read 1; go_simp⟩) hS ?_
   try simp only [Qy1, Qx1]
   refine Xg (i := 4) (v := .pointer (some ⟨g0, 2, none⟩)) rfl rfl (by kernel_rfl) (by kernel_rfl) (by kernel_rfl) (fun _ _ _ h => h) (Or.inl ⟨by rfl, fun y hy => by go_simp⟩) hS ?_
   try simp only [Qy1, Qx1]
   refine Xg (i := 5) (v := .int .i64 3) rfl rfl (by kernel_rfl) (by kernel_rfl) (by kernel_rfl) (fun _ _ _ h => h) (Or.inl ⟨by rfl, fun y hy => by obtain ⟨_, hy⟩ := hy; have c0 := (PE.get hy 0 rfl).read 2; go_simp⟩) hS ?_
   try simp only [Qy1, Qx1]
   refine wpAnyH_ready (rs := [3, 6]) (by kernel_rfl) (by simp) (AllReadyH.cons rfl (fun K hK => ?_) (AllReadyH.cons rfl (fun K hK => ?_) AllReadyH.nil))
   · clear hS
     go_simp
     go_at_call 118
     refine (vqSide hP sd h1 h2).mono ?_
     rintro e wf ⟨rfl, hP2⟩
     clear hP
     have hP := hP2
     clear hP2
     refine hK.out _ _ ⟨_, hP⟩ (fun hS => ?_)
     clear hK K
     try simp only [Act.put, Qz1, Qy1, Qx1]
     refine wpAnyH_ready (rs := [6]) (by kernel_rfl) (by simp) (AllReadyH.cons rfl (fun K hK => ?_) AllReadyH.nil)
     clear hS
     go_simp
     have hP2 := hP.call (Za wf (.cells #[.string ⟨#[104, 101, 114, 101]⟩, .string ⟨#[97, 119, 97, 121]⟩, .string ⟨#[108, 97, 110, 101]⟩, .string ⟨#[97, 110, 121, 119, 104, 101, 114, 101]⟩] 9))
     have hW : Zb (World.alloc wf (.cells #[.string ⟨#[104, 101, 114, 101]⟩, .string ⟨#[97, 119, 97, 121]⟩, .string ⟨#[108, 97, 110, 101]⟩, .string ⟨#[97, 110, 121, 119, 104, 101, 114, 101]⟩] 9)) wf.heap.size 9 (Zaf Wr) := Zb.made _ _ _
     obtain ⟨q, hq⟩ : ∃ q, q = wf.heap.size := ⟨_, rfl⟩
     rw [← hq] at hW ⊢
     clear hq hP
     generalize World.alloc wf (.cells #[.string ⟨#[104, 101, 114, 101]⟩, .string ⟨#[97, 119, 97, 121]⟩, .string ⟨#[108, 97, 110, 101]⟩, .string ⟨#[97, 110, 121, 119, 104, 101, 114, 101]⟩] 9) = wf at *
     have hP := hP2
     clear hP2
     refine hK.out _ _ ⟨_, hP⟩ (fun hS => ?_)
     clear hK K
     try simp only [Act.put, Qz1, Qy1, Qx1]
     refine wpAnyH_ready (rs := [7]) (by kernel_rfl) (by simp) (AllReadyH.cons rfl (fun K hK => ?_) AllReadyH.nil)
     clear hS
     go_simp
     go_at_call 117
     refine (vqWordW hP hW (3) 4 4 rfl (by decide) (by decide) (by decide)).mono ?_
     rintro e wf ⟨rfl, hP2⟩
     clear hW
     clear hP
     have hP := hP2
     clear hP2
     refine hK.out _ _ ⟨_, hP⟩ (fun hS => ?_)
     clear hK K
     try simp only [Act.put, Qz1, Qy1, Qx1]
     refine wpAnyH_ready (rs := [8]) (by kernel_rfl) (by simp) (AllReadyH.cons rfl (fun K hK => ?_) AllReadyH.nil)
     clear hS
     go_simp
     refine hK.out _ _ ⟨_, hP.call (Za wf (.cells #[.string (wd Zt sd), .string (wd Wr 3)] 9))⟩ (fun hS => ?_)
     clear hK K
     try simp only [Act.put, Qz1, Qy1, Qx1]
     refine wpAnyH_ready (rs := [9]) (by kernel_rfl) (by simp) (AllReadyH.cons rfl (fun K hK => ?_) AllReadyH.nil)
     clear hS
     go_simp
     go_at_call 107
     refine (P2.out _ _ _ _ _ hP rfl rfl).mono ?_
     rintro e wf ⟨rfl, hP2⟩
     clear hP
     have hP := hP2
     clear hP2
     refine hK.out _ _ ⟨_, hP⟩ (fun hS => ?_)
     clear hK K
     try simp only [Act.put, Qz1, Qy1, Qx1]
     refine wpAnyH_done (by kernel_rfl) ?_ _
     have T := Hh hP
     clear hP hS
     go_wp2_with fail
     go_meet
     case rel => exact T.out
   · clear hS
     go_simp
     have hP2 := hP.call (Za wf (.cells #[.string ⟨#[104, 101, 114, 101]⟩, .string ⟨#[97, 119, 97, 121]⟩, .string ⟨#[108, 97, 110, 101]⟩, .string ⟨#[97, 110, 121, 119, 104, 101, 114, 101]⟩] 9))
     have hW : Zb (World.alloc wf (.cells #[.string ⟨#[104, 101, 114, 101]⟩, .string ⟨#[97, 119, 97, 121]⟩, .string ⟨#[108, 97, 110, 101]⟩, .string ⟨#[97, 110, 121, 119, 104, 101, 114, 101]⟩] 9)) wf.heap.size 9 (Zaf Wr) := Zb.made _ _ _
     obtain ⟨q, hq⟩ : ∃ q, q = wf.heap.size := ⟨_, rfl⟩
     rw [← hq] at hW ⊢
     clear hq hP
     generalize World.alloc wf (.cells #[.string ⟨#[104, 101, 114, 101]⟩, .string ⟨#[97, 119, 97, 121]⟩, .string ⟨#[108, 97, 110, 101]⟩, .string ⟨#[97, 110, 121, 119, 104, 101, 114, 101]⟩] 9) = wf at *
     have hP := hP2
     clear hP2
     refine hK.out _ _ ⟨_, hP⟩ (fun hS => ?_)
     clear hK K
     try simp only [Act.put, Qz1, Qy1, Qx1]
     refine wpAnyH_ready (rs := [3]) (by kernel_rfl) (by simp) (AllReadyH.cons rfl (fun K hK => ?_) AllReadyH.nil)
     clear hS
     go_simp
     go_at_call 118
     refine (vqSideW hP hW sd h1 h2).mono ?_
     rintro e wf ⟨rfl, hP2, hW2⟩
     clear hW
     have hW := hW2
     clear hW2
     clear hP
     have hP := hP2
     clear hP2
     refine hK.out _ _ ⟨_, hP⟩ (fun hS => ?_)
     clear hK K
     try simp only [Act.put, Qz1, Qy1, Qx1]
     refine wpAnyH_ready (rs := [7]) (by kernel_rfl) (by simp) (AllReadyH.cons rfl (fun K hK => ?_) AllReadyH.nil)
     clear hS
     go_simp
     go_at_call 117
     refine (vqWordW hP hW (3) 4 4 rfl (by decide) (by decide) (by decide)).mono ?_
     rintro e wf ⟨rfl, hP2⟩
     clear hW
     clear hP
     have hP := hP2
     clear hP2
     refine hK.out _ _ ⟨_, hP⟩ (fun hS => ?_)
     clear hK K
     try simp only [Act.put, Qz1, Qy1, Qx1]
     refine wpAnyH_ready (rs := [8]) (by kernel_rfl) (by simp) (AllReadyH.cons rfl (fun K hK => ?_) AllReadyH.nil)
     clear hS
     go_simp
     refine hK.out _ _ ⟨_, hP.call (Za wf (.cells #[.string (wd Zt sd), .string (wd Wr 3)] 9))⟩ (fun hS => ?_)
     clear hK K
     try simp only [Act.put, Qz1, Qy1, Qx1]
     refine wpAnyH_ready (rs := [9]) (by kernel_rfl) (by simp) (AllReadyH.cons rfl (fun K hK => ?_) AllReadyH.nil)
     clear hS
     go_simp
     go_at_call 107
     refine (P2.out _ _ _ _ _ hP rfl rfl).mono ?_
     rintro e wf ⟨rfl, hP2⟩
     clear hP
     have hP := hP2
     clear hP2
     refine hK.out _ _ ⟨_, hP⟩ (fun hS => ?_)
     clear hK K
     try simp only [Act.put, Qz1, Qy1, Qx1]
     refine wpAnyH_done (by kernel_rfl) ?_ _
     have T := Hh hP
     clear hP hS
     go_wp2_with fail
     go_meet
     case rel => exact T.out
 case rest =>
   have T := Hh hcut
   clear hcut
   have c0_0 : wc.cell? ⟨g0, 0, none⟩ = some (.int .i64 3) := (T.out.get 0 rfl).read 0
   have c0_1 : wc.cell? ⟨g0, 1, none⟩ = some (.int .i64 sd) := (T.out.get 0 rfl).read 1
   have c0_2 : wc.cell? ⟨g0, 2, none⟩ = some (.int .i64 3) := (T.out.get 0 rfl).read 2
   have c0_3 : wc.cell? ⟨g0, 3, none⟩ = some (.int .i64 ln) := (T.out.get 0 rfl).read 3
   have c0_4 : wc.cell? ⟨g0, 4, none⟩ = some (.slice A n c) := (T.out.get 0 rfl).read 4
   have c0_5 : wc.cell? ⟨g0, 5, none⟩ = some (.int .i64 pk) := (T.out.get 0 rfl).read 5
   go_wp2_with (first
 | (go_at_call 109; (with_reducible refine (vqNum T.out (ln) (by omega) (by omega)).mono ?_); rintro e wn ⟨rfl, tn⟩; have T := Hh tn; clear tn; have c0_0 : wn.cell? ⟨g0, 0, none⟩ = some (.int .i64 3) := (T.out.get 0 rfl).read 0; have c0_1 : wn.cell? ⟨g0, 1, none⟩ = some (.int .i64 sd) := (T.out.get 0 rfl).read 1; have c0_2 : wn.cell? ⟨g0, 2, none⟩ = some (.int .i64 3) := (T.out.get 0 rfl).read 2; have c0_3 : wn.cell? ⟨g0, 3, none⟩ = some (.int .i64 ln) := (T.out.get 0 rfl).read 3; have c0_4 : wn.cell? ⟨g0, 4, none⟩ = some (.slice A n c) := (T.out.get 0 rfl).read 4; have c0_5 : wn.cell? ⟨g0, 5, none⟩ = some (.int .i64 pk) := (T.out.get 0 rfl).read 5)
 | (go_at_call 107; refine (P3.out _ _ _ _ _ T.out rfl rfl).mono ?_; rintro e wn ⟨rfl, tn⟩; have T := Hh tn; clear tn; have c0_0 : wn.cell? ⟨g0, 0, none⟩ = some (.int .i64 3) := (T.out.get 0 rfl).read 0; have c0_1 : wn.cell? ⟨g0, 1, none⟩ = some (.int .i64 sd) := (T.out.get 0 rfl).read 1; have c0_2 : wn.cell? ⟨g0, 2, none⟩ = some (.int .i64 3) := (T.out.get 0 rfl).read 2; have c0_3 : wn.cell? ⟨g0, 3, none⟩ = some (.int .i64 ln) := (T.out.get 0 rfl).read 3; have c0_4 : wn.cell? ⟨g0, 4, none⟩ = some (.slice A n c) := (T.out.get 0 rfl).read 4; have c0_5 : wn.cell? ⟨g0, 5, none⟩ = some (.int .i64 pk) := (T.out.get 0 rfl).read 5))
   go_loopw [38] (fun i wr => ∃ m : Nat, i = .int .i64 m ∧ m ≤ n ∧ PE w0 b (midS kFl fs s3 m) ((g0, 46, [.int .i64 3, .int .i64 sd, .int .i64 3, .int .i64 ln, .slice A n c, .int .i64 pk]) :: own) wr) (fun i _ => n - (intOf i).toNat)
   case atStart => exact ⟨0, by go_num, Nat.zero_le _, T.out⟩
   case round =>
     obtain ⟨m, rfl, hm2, hT⟩ := hrel
     have T := Hh hT
     clear hT
     by_cases hlt : m < n
     · have hk1 : m < fs.length := by rw [← HN.out]; exact hlt
       obtain ⟨g, rfl, hg, hR⟩ := fls_range HW.out.1 HW.out.2 hk1
       have F := (pFilterOK w0 (fs[m]'hk1) (HF.out _ (List.getElem_mem hk1))).at_ (b := b) (midS_next kFl fs s3 hk1) (midS_room R4.out hk1)
       have HR := Hh hR
       clear hR
       generalize fs[m]'hk1 = f at *
       obtain ⟨fk, fo, fn, fnm⟩ := f
       dsimp only at F HR
       have FF := Hh F
       clear F hk1
       have lk : (m : Int) < (n : Int) := by omega
       go_wp2_with (first
 | ((with_reducible refine Ze 41 ?_); refine Zy 115 _ g (m * 4) ([.int .i64 fk, .int .i64 fo, .int .i64 fn, .string fnm]) (T.out.ranges HR.out hg) qrow_fil qsize_fil rfl rfl rfl ?_)
 | ((with_reducible refine Ze 5 ?_); refine Vg T.out 115 ([.int .i64 0, .int .i64 0, .int .i64 0, .string ⟨#[]⟩]) rfl rfl qz_fil ?_; intro wn g5 tn; have T := Hh tn; clear tn)
 | ((with_reducible refine Zl 5 41 ?_); refine Zc 115 _ _ 115 g5 _ ([.int .i64 fk, .int .i64 fo, .int .i64 fn, .string fnm]) (T.out.get 0 rfl) rfl qsize_fil (by simp [Value.oneCell']) rfl rfl rfl rfl rfl ?_; intro wn p; have T := Hh (T.out.put 0 rfl p); clear p)
 | ((with_reducible refine Ze 43 ?_); refine Zd 115 _ 115 g5 ([.int .i64 fk, .int .i64 fo, .int .i64 fn, .string fnm]) (T.out.get 0 rfl) qrow_fil qsize_fil rfl rfl rfl ?_)
 | (go_at_call 119; refine (FF.out _ _ T.out).mono ?_; rintro e wn ⟨rfl, tn⟩; have T := Hh tn; clear tn))
       go_roundw
       case rel => exact ⟨m + 1, by go_num, by omega, T.out.tail⟩
       case measure => simp [intOf]; omega
     · have hmn : m = fs.length := by have := HN.out; omega
       have T3 : PE w0 b s4 ((g0, 46, [.int .i64 3, .int .i64 sd, .int .i64 3, .int .i64 ln, .slice A n c, .int .i64 pk]) :: own) wr := by
         have := T.out
         rw [hmn, midS_end] at this
         rw [HE4.out]
         exact this
       have T := Hh T3
       clear T3
       have lk : ¬ (m : Int) < (n : Int) := by omega
       clear hmn
       have c0_5 : wr.cell? ⟨g0, 5, none⟩ = some (.int .i64 pk) := (T.out.get 0 rfl).read 5
       go_wp2_with (first
 | (go_at_call 117; refine (vqWord T.out (pk) _ 5 5 wPick rfl rfl (by omega) (by show _ ≤ ((5 : Nat) : Int); omega) (by decide)).mono ?_; rintro e wn ⟨rfl, tn⟩; have T := Hh tn; clear tn; have c0_5 : wn.cell? ⟨g0, 5, none⟩ = some (.int .i64 pk) := (T.out.get 0 rfl).read 5)
 | (go_at_call 107; refine (P5.out _ _ _ _ _ T.out rfl rfl).mono ?_; rintro e wn ⟨rfl, tn⟩; have T := Hh tn; clear tn; have c0_5 : wn.cell? ⟨g0, 5, none⟩ = some (.int .i64 pk) := (T.out.get 0 rfl).read 5))
       go_end0
       exact ⟨rfl, T.out.tail⟩
theorem pSel_n (w0 : World) (N : Nat → Prop) (sd wh ln pk : Int) (fs : List Fl) (A : Option Addr) (n c : Nat) (xs : List Value) (hw : Ji N w0 A xs) (hd : Zh N w0 (flsDs fs) xs) (hn : n = fs.length) (hm : n ≤ 9223372036854775807) (hfl : ∀ f ∈ fs, VFl f)
   (h1 : 1 ≤ sd) (h2 : sd ≤ 3) (h3 : 1 ≤ wh) (h4 : wh ≤ 4) (hw3 : wh ≠ 3) (h5 : 0 ≤ ln) (h6 : ln ≤ 99) (h7 : 1 ≤ pk) (h8 : pk ≤ 5) :
   Xa w0 65 (.agg #[.int .i64 3, .int .i64 sd, .int .i64 wh, .int .i64 ln, .slice A n c, .int .i64 pk]) ([wd Uv 3] ++ ([wd Zt sd, wd Wr wh] ++ (kFls fs ++ ([wd wPick pk, ⟨#[41]⟩])))) := by
 intro b st own x h hr
 obtain ⟨s1, E1⟩ : ∃ s, s = Zp st ([wd Uv 3]) := ⟨_, rfl⟩
 have R1 := Hh (Yk.first hr)
 replace hr := Yk.next hr
 rw [← E1] at hr
 obtain ⟨s2, E2⟩ : ∃ s, s = Zp s1 ([wd Zt sd, wd Wr wh]) := ⟨_, rfl⟩
 have R2 := Hh (Yk.first hr)
 replace hr := Yk.next hr
 rw [← E2] at hr
 obtain ⟨s3, E3⟩ : ∃ s, s = Zp s2 (kFls fs) := ⟨_, rfl⟩
 have R3 := Hh (Yk.first hr)
 replace hr := Yk.next hr
 rw [← E3] at hr
 obtain ⟨s4, E4⟩ : ∃ s, s = Zp s3 ([wd wPick pk, ⟨#[41]⟩]) := ⟨_, rfl⟩
 have R4 := Hh hr
 clear hr
 have EK : Zp st (([wd Uv 3]) ++ (([wd Zt sd, wd Wr wh]) ++ ((kFls fs) ++ (([wd wPick pk, ⟨#[41]⟩]))))) = s4 := by simp only [Yd, E1, E2, E3, E4]
 rw [EK]
 clear EK
 have P1 := Hh (fun own x => Xd (w0 := w0) (b := b) E1 R1.out (by simp) own x)
 have P2 := Hh (fun own x => Xd (w0 := w0) (b := b) E2 R2.out (by simp) own x)
 have P4 := Hh (fun own x => Xd (w0 := w0) (b := b) E4 R4.out (by simp) own x)
 have HW := Hh (And.intro hw hd)
 have HN := Hh hn
 have HF := Hh hfl
 clear hw hd hn hfl
 have HE1 := Hh E1
 clear E1
 have HE2 := Hh E2
 clear E2
 have HE3 := Hh E3
 clear E3
 have HE4 := Hh E4
 clear E4
 have T := Hh h
 clear h
 have l63 : (n : Int) ≤ 9223372036854775807 := by omega
 have hb3 : (wh == 3) = false := by rw [beq_eq_false_iff_ne]; exact hw3
 go_enter Tryz.func65, Tryz.ntmps65
 go_upto_region 3 with (first
 | ((with_reducible refine Ze 3 ?_); refine Ya T.out 46 _ ([.int .i64 3, .int .i64 sd, .int .i64 wh, .int .i64 ln, .slice A n c, .int .i64 pk]) rfl rfl rfl ?_; intro wn g0 tn; have T := Hh tn; clear tn; have c0_0 : wn.cell? ⟨g0, 0, none⟩ = some (.int .i64 3) := (T.out.get 0 rfl).read 0; have c0_1 : wn.cell? ⟨g0, 1, none⟩ = some (.int .i64 sd) := (T.out.get 0 rfl).read 1; have c0_2 : wn.cell? ⟨g0, 2, none⟩ = some (.int .i64 wh) := (T.out.get 0 rfl).read 2; have c0_3 : wn.cell? ⟨g0, 3, none⟩ = some (.int .i64 ln) := (T.out.get 0 rfl).read 3; have c0_4 : wn.cell? ⟨g0, 4, none⟩ = some (.slice A n c) := (T.out.get 0 rfl).read 4; have c0_5 : wn.cell? ⟨g0, 5, none⟩ = some (.int .i64 pk) := (T.out.get 0 rfl).read 5)
 | (go_at_call 117; refine (vqWord T.out (3) _ 3 3 Uv rfl rfl (by decide) (by decide) (by decide)).mono ?_; rintro e wn ⟨rfl, tn⟩; have T := Hh tn; clear tn; have c0_0 : wn.cell? ⟨g0, 0, none⟩ = some (.int .i64 3) := (T.out.get 0 rfl).read 0; have c0_1 : wn.cell? ⟨g0, 1, none⟩ = some (.int .i64 sd) := (T.out.get 0 rfl).read 1; have c0_2 : wn.cell? ⟨g0, 2, none⟩ = some (.int .i64 wh) := (T.out.get 0 rfl).read 2; have c0_3 : wn.cell? ⟨g0, 3, none⟩ = some (.int .i64 ln) := (T.out.get 0 rfl).read 3; have c0_4 : wn.cell? ⟨g0, 4, none⟩ = some (.slice A n c) := (T.out.get 0 rfl).read 4; have c0_5 : wn.cell? ⟨g0, 5, none⟩ = some (.int .i64 pk) := (T.out.get 0 rfl).read 5)
 | (go_at_call 107; refine (P1.out _ _ _ _ _ T.out rfl rfl).mono ?_; rintro e wn ⟨rfl, tn⟩; have T := Hh tn; clear tn; have c0_0 : wn.cell? ⟨g0, 0, none⟩ = some (.int .i64 3) := (T.out.get 0 rfl).read 0; have c0_1 : wn.cell? ⟨g0, 1, none⟩ = some (.int .i64 sd) := (T.out.get 0 rfl).read 1; have c0_2 : wn.cell? ⟨g0, 2, none⟩ = some (.int .i64 wh) := (T.out.get 0 rfl).read 2; have c0_3 : wn.cell? ⟨g0, 3, none⟩ = some (.int .i64 ln) := (T.out.get 0 rfl).read 3; have c0_4 : wn.cell? ⟨g0, 4, none⟩ = some (.slice A n c) := (T.out.get 0 rfl).read 4; have c0_5 : wn.cell? ⟨g0, 5, none⟩ = some (.int .i64 pk) := (T.out.get 0 rfl).read 5))
 go_cut [] from 16 to 25 (fun wx => PE w0 b s2 ((g0, 46, [.int .i64 3, .int .i64 sd, .int .i64 wh, .int .i64 ln, .slice A n c, .int .i64 pk]) :: own) wx)
 case first =>
   refine wp_region_held_drew (S := fun x => ∃ s, PE w0 b s ((g0, 46, [.int .i64 3, .int .i64 sd, .int .i64 wh, .int .i64 ln, .slice A n c, .int .i64 pk]) :: own) x) (by kernel_rfl) ⟨_, T.out.drew⟩ (fun hS => ?_)
   have hP := T.out.drew
   generalize wn.drew = wf at *
   refine Xg (i := 0) (v := .pointer (some ⟨b, 0, none⟩)) rfl rfl (by kernel_rfl) (by kernel_rfl) (by kernel_rfl) (fun _ _ _ h => h) (qyMove rfl rfl rfl) hS ?_
   try simp only [Qy1, Qx1]
   refine Xg (i := 1) (v := .pointer (some ⟨g0, 1, none⟩)) rfl rfl (by kernel_rfl) (by kernel_rfl) (by kernel_rfl) (fun _ _ _ h => h) (Or.inl ⟨by rfl, fun y hy => by go_simp⟩) hS ?_
   try simp only [Qy1, Qx1]
   refine Xg (i := 2) (v := .int .i64 sd) rfl rfl (by kernel_rfl) (by kernel_rfl) (by kernel_rfl) (fun _ _ _ h => h) (Or.inl ⟨by rfl, fun y hy => by obtain ⟨_, hy⟩ := hy; have c0 := (PE.get hy 0 rfl).read 1; go_simp⟩) hS ?_
   try simp only [Qy1, Qx1]
   refine Xg (i := 4) (v := .pointer (some ⟨g0, 2, none⟩)) rfl rfl (by kernel_rfl) (by kernel_rfl) (by kernel_rfl) (fun _ _ _ h => h) (Or.inl ⟨by rfl, fun y hy => by go_simp⟩) hS ?_
   try simp only [Qy1, Qx1]
   refine Xg (i := 5) (v := .int .i64 wh) rfl rfl (by kernel_rfl) (by kernel_rfl) (by kernel_rfl) (fun _ _ _ h => h) (Or.inl ⟨by rfl, fun y hy => by obtain ⟨_, hy⟩ := hy; have c0 := (PE.get hy 0 rfl).read 2; go_simp⟩) hS ?_
   try simp only [Qy1, Qx1]
   refine wpAnyH_ready (rs := [3, 6]) (by kernel_rfl) (by simp) (AllReadyH.cons rfl (fun K hK => ?_) (AllReadyH.cons rfl (fun K hK => ?_) AllReadyH.nil))
   · clear hS
     go_simp
     go_at_call 118
     refine (vqSide hP sd h1 h2).mono ?_
     rintro e wf ⟨rfl, hP2⟩
     clear hP
     have hP := hP2
     clear hP2
     refine hK.out _ _ ⟨_, hP⟩ (fun hS => ?_)
     clear hK K
     try simp only [Act.put, Qz1, Qy1, Qx1]
     refine wpAnyH_ready (rs := [6]) (by kernel_rfl) (by simp) (AllReadyH.cons rfl (fun K hK => ?_) AllReadyH.nil)
     clear hS
     go_simp
     have hP2 := hP.call (Za wf (.cells #[.string ⟨#[104, 101, 114, 101]⟩, .string ⟨#[97, 119, 97, 121]⟩, .string ⟨#[108, 97, 110, 101]⟩, .string ⟨#[97, 110, 121, 119, 104, 101, 114, 101]⟩] 9))
     have hW : Zb (World.alloc wf (.cells #[.string ⟨#[104, 101, 114, 101]⟩, .string ⟨#[97, 119, 97, 121]⟩, .string ⟨#[108, 97, 110, 101]⟩, .string ⟨#[97, 110, 121, 119, 104, 101, 114, 101]⟩] 9)) wf.heap.size 9 (Zaf Wr) := Zb.made _ _ _
     obtain ⟨q, hq⟩ : ∃ q, q = wf.heap.size := ⟨_, rfl⟩
     rw [← hq] at hW ⊢
     clear hq hP
     generalize World.alloc wf (.cells #[.string ⟨#[104, 101, 114, 101]⟩, .string ⟨#[97, 119, 97, 121]⟩, .string ⟨#[108, 97, 110, 101]⟩, .string ⟨#[97, 110, 121, 119, 104, 101, 114, 101]⟩] 9) = wf at *
     have hP := hP2
     clear hP2
     refine hK.out _ _ ⟨_, hP⟩ (fun hS => ?_)
     clear hK K
     try simp only [Act.put, Qz1, Qy1, Qx1]
     refine wpAnyH_ready (rs := [7]) (by kernel_rfl) (by simp) (AllReadyH.cons rfl (fun K hK => ?_) AllReadyH.nil)
     clear hS
     go_simp
     go_at_call 117
     refine (vqWordW hP hW (wh) 4 4 rfl h3 (by show _ ≤ ((4 : Nat) : Int); omega) (by decide)).mono ?_
     rintro e wf ⟨rfl, hP2⟩
     clear hW
     clear hP
     have hP := hP2
     clear hP2
     refine hK.out _ _ ⟨_, hP⟩ (fun hS => ?_)
     clear hK K
     try simp only [Act.put, Qz1, Qy1, Qx1]
     refine wpAnyH_ready (rs := [8]) (by kernel_rfl) (by simp) (AllReadyH.cons rfl (fun K hK => ?_) AllReadyH.nil)
     clear hS
     go_simp
     refine hK.out _ _ ⟨_, hP.call (Za wf (.cells #[.string (wd Zt sd), .string (wd Wr wh)] 9))⟩ (fun hS => ?_)
     clear hK K
     try simp only [Act.put, Qz1, Qy1, Qx1]
     refine wpAnyH_ready (rs := [9]) (by kernel_rfl) (by simp) (AllReadyH.cons rfl (fun K hK => ?_) AllReadyH.nil)
     clear hS
     go_simp
     go_at_call 107
     refine (P2.out _ _ _ _ _ hP rfl rfl).mono ?_
     rintro e wf ⟨rfl, hP2⟩
     clear hP
     have hP := hP2
     clear hP2
     refine hK.out _ _ ⟨_, hP⟩ (fun hS => ?_)
     clear hK K
     try simp only [Act.put, Qz1, Qy1, Qx1]
     refine wpAnyH_done (by kernel_rfl) ?_ _
     have T := Hh hP
     clear hP hS
     go_wp2_with fail
     go_meet
     case rel => exact T.out
   · clear hS
     go_simp
     have hP2 := hP.call (Za wf (.cells #[.string ⟨#[104, 101, 114, 101]⟩, .string ⟨#[97, 119, 97, 121]⟩, .string ⟨#[108, 97, 110, 101]⟩, .string ⟨#[97, 110, 121, 119, 104, 101, 114, 101]⟩] 9))
     have hW : Zb (World.alloc wf (.cells #[.string ⟨#[104, 101, 114, 101]⟩, .string ⟨#[97, 119, 97, 121]⟩, .string ⟨#[108, 97, 110, 101]⟩, .string ⟨#[97, 110, 121, 119, 104, 101, 114, 101]⟩] 9)) wf.heap.size 9 (Zaf Wr) := Zb.made _ _ _
     obtain ⟨q, hq⟩ : ∃ q, q = wf.heap.size := ⟨_, rfl⟩
     rw [← hq] at hW ⊢
     clear hq hP
     generalize World.alloc wf (.cells #[.string ⟨#[104, 101, 114, 101]⟩, .string ⟨#[97, 119, 97, 121]⟩, .string ⟨#[108, 97, 110, 101]⟩, .string ⟨#[97, 110, 121, 119, 104, 101, 114, 101]⟩] 9) = wf at *
     have hP := hP2
     clear hP2
     refine hK.out _ _ ⟨_, hP⟩ (fun hS => ?_)
     clear hK K
     try simp only [Act.put, Qz1, Qy1, Qx1]
     refine wpAnyH_ready (rs := [3]) (by kernel_rfl) (by simp) (AllReadyH.cons rfl (fun K hK => ?_) AllReadyH.nil)
     clear hS
     go_simp
     go_at_call 118
     refine (vqSideW hP hW sd h1 h2).mono ?_
     rintro e wf ⟨rfl, hP2, hW2⟩
     clear hW
     have hW := hW2
     clear hW2
     clear hP
     have hP := hP2
     clear hP2
     refine hK.out _ _ ⟨_, hP⟩ (fun hS => ?_)
     clear hK K
     try simp only [Act.put, Qz1, Qy1, Qx1]
     refine wpAnyH_ready (rs := [7]) (by kernel_rfl) (by simp) (AllReadyH.cons rfl (fun K hK => ?_) AllReadyH.nil)
     clear hS
     go_simp
     go_at_call 117
     refine (vqWordW hP hW (wh) 4 4 rfl h3 (by show _ ≤ ((4 : Nat) : Int); omega) (by decide)).mono ?_
     rintro e wf ⟨rfl, hP2⟩
     clear hW
     clear hP
     have hP := hP2
     clear hP2
     refine hK.out _ _ ⟨_, hP⟩ (fun hS => ?_)
     clear hK K
     try simp only [Act.put, Qz1, Qy1, Qx1]
     refine wpAnyH_ready (rs := [8]) (by kernel_rfl) (by simp) (AllReadyH.cons rfl (fun K hK => ?_) AllReadyH.nil)
     clear hS
     go_simp
     refine hK.out _ _ ⟨_, hP.call (Za wf (.cells #[.string (wd Zt sd), .string (wd Wr wh)] 9))⟩ (fun hS => ?_)
     clear hK K
     try simp only [Act.put, Qz1, Qy1, Qx1]
     refine wpAnyH_ready (rs := [9]) (by kernel_rfl) (by simp) (AllReadyH.cons rfl (fun K hK => ?_) AllReadyH.nil)
     clear hS
     go_simp
     go_at_call 107
     refine (P2.out _ _ _ _ _ hP rfl rfl).mono ?_
     rintro e wf ⟨rfl, hP2⟩
     clear hP
     have hP := hP2
     clear hP2
     refine hK.out _ _ ⟨_, hP⟩ (fun hS => ?_)
     clear hK K
     try simp only [Act.put, Qz1, Qy1, Qx1]
     refine wpAnyH_done (by kernel_rfl) ?_ _
     have T := Hh hP
     clear hP hS
     go_wp2_with fail
     go_meet
     case rel => exact T.out
 case rest =>
   have T := Hh hcut
   clear hcut
   have c0_0 : wc.cell? ⟨g0, 0, none⟩ = some (.int .i64 3) := (T.out.get 0 rfl).read 0
   have c0_1 : wc.cell? ⟨g0, 1, none⟩ = some (.int .i64 sd) := (T.out.get 0 rfl).read 1
   have c0_2 : wc.cell? ⟨g0, 2, none⟩ = some (.int .i64 wh) := (T.out.get 0 rfl).read 2
   have c0_3 : wc.cell? ⟨g0, 3, none⟩ = some (.int .i64 ln) := (T.out.get 0 rfl).read 3
   have c0_4 : wc.cell? ⟨g0, 4, none⟩ = some (.slice A n c) := (T.out.get 0 rfl).read 4
   have c0_5 : wc.cell? ⟨g0, 5, none⟩ = some (.int .i64 pk) := (T.out.get 0 rfl).read 5
   go_wp2_with fail
   go_loopw [38] (fun i wr => ∃ m : Nat, i = .int .i64 m ∧ m ≤ n ∧ PE w0 b (midS kFl fs s2 m) ((g0, 46, [.int .i64 3, .int .i64 sd, .int .i64 wh, .int .i64 ln, .slice A n c, .int .i64 pk]) :: own) wr) (fun i _ => n - (intOf i).toNat)
   case atStart => exact ⟨0, by go_num, Nat.zero_le _, T.out⟩
   case round =>
     obtain ⟨m, rfl, hm2, hT⟩ := hrel
     have T := Hh hT
     clear hT
     by_cases hlt : m < n
     · have hk1 : m < fs.length := by rw [← HN.out]; exact hlt
       obtain ⟨g, rfl, hg, hR⟩ := fls_range HW.out.1 HW.out.2 hk1
       have F := (pFilterOK w0 (fs[m]'hk1) (HF.out _ (List.getElem_mem hk1))).at_ (b := b) (midS_next kFl fs s2 hk1) (midS_room R3.out hk1)
       have HR := Hh hR
       clear hR
       generalize fs[m]'hk1 = f at *
       obtain ⟨fk, fo, fn, fnm⟩ := f
       dsimp only at F HR
       have FF := Hh F
       clear F hk1
       have lk : (m : Int) < (n : Int) := by omega
       go_wp2_with (first
 | ((with_reducible refine Ze 41 ?_); refine Zy 115 _ g (m * 4) ([.int .i64 fk, .int .i64 fo, .int .i64 fn, .string fnm]) (T.out.ranges HR.out hg) qrow_fil qsize_fil rfl rfl rfl ?_)
 | ((with_reducible refine Ze 5 ?_); refine Vg T.out 115 ([.int .i64 0, .int .i64 0, .int .i64 0, .string ⟨#[]⟩]) rfl rfl qz_fil ?_; intro wn g5 tn; have T := Hh tn; clear tn)
 | ((with_reducible refine Zl 5 41 ?_); refine Zc 115 _ _ 115 g5 _ ([.int .i64 fk, .int .i64 fo, .int .i64 fn, .string fnm]) (T.out.get 0 rfl) rfl qsize_fil (by simp [Value.oneCell']) rfl rfl rfl rfl rfl ?_; intro wn p; have T := Hh (T.out.put 0 rfl p); clear p)
 | ((with_reducible refine Ze 43 ?_); refine Zd 115 _ 115 g5 ([.int .i64 fk, .int .i64 fo, .int .i64 fn, .string fnm]) (T.out.get 0 rfl) qrow_fil qsize_fil rfl rfl rfl ?_)
 | (go_at_call 119; refine (FF.out _ _ T.out).mono ?_; rintro e wn ⟨rfl, tn⟩; have T := Hh tn; clear tn))
       go_roundw
       case rel => exact ⟨m + 1, by go_num, by omega, T.out.tail⟩
       case measure => simp [intOf]; omega
     · have hmn : m = fs.length := by have := HN.out; omega
       have T3 : PE w0 b s3 ((g0, 46, [.int .i64 3, .int .i64 sd, .int .i64 wh, .int .i64 ln, .slice A n c, .int .i64 pk]) :: own) wr := by
         have := T.out
         rw [hmn, midS_end] at this
         rw [HE3.out]
         exact this
       have T := Hh T3
       clear T3
       have lk : ¬ (m : Int) < (n : Int) := by omega
       clear hmn
       have c0_5 : wr.cell? ⟨g0, 5, none⟩ = some (.int .i64 pk) := (T.out.get 0 rfl).read 5
       go_wp2_with (first
 | (go_at_call 117; refine (vqWord T.out (pk) _ 5 5 wPick rfl rfl (by omega) (by show _ ≤ ((5 : Nat) : Int); omega) (by decide)).mono ?_; rintro e wn ⟨rfl, tn⟩; have T := Hh tn; clear tn; have c0_5 : wn.cell? ⟨g0, 5, none⟩ = some (.int .i64 pk) := (T.out.get 0 rfl).read 5)
 | (go_at_call 107; refine (P4.out _ _ _ _ _ T.out rfl rfl).mono ?_; rintro e wn ⟨rfl, tn⟩; have T := Hh tn; clear tn; have c0_5 : wn.cell? ⟨g0, 5, none⟩ = some (.int .i64 pk) := (T.out.get 0 rfl).read 5))
       go_end0
       exact ⟨rfl, T.out.tail⟩
theorem pSel (w0 : World) (N : Nat → Prop) (s : Se) (hv : VSe s) (vs : List Value) (hd : Zh N w0 s.ds vs) : Xa w0 65 (.agg vs.toArray) (kSel s) := by
 obtain ⟨k, sd, wh, ln, fs, pk⟩ := s
 obtain ⟨_, rfl, _, rfl, _, rfl, _, rfl, A, c, xs, _, rfl, hn, hw, hx, _, rfl, rfl⟩ := hd
 unfold kSel
 rcases hv with ⟨hk, _⟩ | ⟨hk, h1, h2, h3, h4, h5, h6⟩
 · rw [if_pos hk]
   exact pSel_one w0 k sd wh ln pk _ hk
 · simp only at hk h1 h2 h3 h4 h5 h6
   subst hk
   rw [if_neg (by simp)]
   by_cases h : wh = 3
   · subst h
     have := pSel_3 w0 N sd ln pk fs A fs.length c xs hw hx rfl hn h5 h1.1 h1.2 h3.1 h3.2 h6.1 h6.2
     rw [e_open] at this
     simpa using this
   · have := pSel_n w0 N sd wh ln pk fs A fs.length c xs hw hx rfl hn h5 h1.1 h1.2 h2.1 h2.2 h h3.1 h3.2 h6.1 h6.2
     rw [e_open] at this
     simpa [h] using this
end Go.Proofs.YtljdgdphldckhaaGreat
