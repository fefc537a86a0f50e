/-
  Texts Q9. No conditions but those that each theorem names.
-/
import Derived.Test.YtljdgdphldckhaaGreatQB33
import Derived.Test.YtljdgdphldckhaaGreatQB37
import Derived.Test.YtljdgdphldckhaaGreatQB44
namespace Go.Proofs.YtljdgdphldckhaaGreat
open Go.Great Go.ChangeShapes Go.WideShapes Go.ChangeAt Go.RowKit
set_option linter.unusedVariables false
set_option linter.unusedSimpArgs false
set_option maxRecDepth 20000
set_option maxHeartbeats 3200000
theorem feed_base (B : Nat) (w : World) (b : Nat) (a v : Value) (st : List Int × Bool) (h : Uz 162 [.bool st.2] B w b a v st.1) (hB : B ≤ w.heap.size) (hl : st.1.length ≤ 68719476736) :
   Calls Tryz.prog 114 #[.pointer (some ⟨b, 0, none⟩)] w (FlPost B w b v (fdS st)) := by
 have H0 := Hh h
 clear h
 go_enter Tryz.func114, Tryz.ntmps114
 go_wp2_with (go_at_call 151; refine (bdByte_w 10 H0.out Zbj hl hB).mono ?_; rintro e w1 ⟨rfl, v1, h1, s1⟩; have H1 := Hh h1; have S1 := Hh s1; have c2 : w1.cell? ⟨b, 2, none⟩ = some (.bool st.2) := (by rw [h1.whole.read]; rfl); have z2 := h1.whole.thawed 2; clear h1 s1)
 go_end0
 exact ⟨rfl, _, v1, H1.out.setLo _, S1.out.setLo _⟩
theorem pFeed {w0 x : World} {b : Nat} {st : List Int × Bool} {own : List Bk} (h : PE w0 b st own x) (hl : st.1.length ≤ 68719476736) : Calls Tryz.prog 114 #[.pointer (some ⟨b, 0, none⟩)] x (QPost w0 b (fdS st) own) :=
 h.print fun a v hb hB => feed_base _ x b a v st hb hB hl
theorem cas_at {N : Nat → Prop} {w : World} : ∀ {l : List Ca} {xs : List Value}, Zg N w (casDs l) xs → ∀ (k : Nat) (hk : k < l.length), ∃ pre ys post, xs = pre ++ ys ++ post ∧ pre.length = k * 6 ∧ Zg N w (l[k]'hk).ds ys
 | [], xs, _, k, hk => by cases hk
 | x :: r, xs, h, k, hk => by
   obtain ⟨a, b, rfl, h1, h2⟩ := Zg.split (x := x.ds) h
   cases k with
   | zero => exact ⟨[], a, b, rfl, by simp, h1⟩
   | succ k =>
     obtain ⟨pre, ys, post, rfl, hp, hy⟩ := cas_at h2 k (by simpa using hk)
     have hl : a.length = 6 := by rw [h1.len]; rfl
     exact ⟨a ++ pre, ys, post, by simp, by rw [List.length_append, hp, hl]; omega, hy⟩
theorem pls_at {N : Nat → Prop} {w : World} : ∀ {l : List Pl} {xs : List Value}, Zg N w (plsDs l) xs → ∀ (k : Nat) (hk : k < l.length), ∃ pre ys post, xs = pre ++ ys ++ post ∧ pre.length = k * 4 ∧ Zg N w (l[k]'hk).ds ys
 | [], xs, _, k, hk => by cases hk
 | x :: r, xs, h, k, hk => by
   obtain ⟨a, b, rfl, h1, h2⟩ := Zg.split (x := x.ds) h
   cases k with
   | zero => exact ⟨[], a, b, rfl, by simp, h1⟩
   | succ k =>
     obtain ⟨pre, ys, post, rfl, hp, hy⟩ := pls_at h2 k (by simpa using hk)
     have hl : a.length = 4 := by rw [h1.len]; rfl
     exact ⟨a ++ pre, ys, post, by simp, by rw [List.length_append, hp, hl]; omega, hy⟩
theorem qz_ca : (Tryz.prog.info? 35).map (fun i => i.zero.map Value.cells) = some (some ([.string ⟨#[]⟩, .int .i64 0, .int .i64 0, .int .i64 0, .int .i64 0, .slice none 0 0] : List Value).toArray) := by kernel_rfl
theorem qz_pl : (Tryz.prog.info? 38).map (fun i => i.zero.map Value.cells) = some (some ([.string ⟨#[]⟩, .int .i64 0, .int .i64 0, .slice none 0 0] : List Value).toArray) := by kernel_rfl
def lnS {α : Type} (k : α → List ByteArray) (l : List α) (s : List Int × Bool) (m : Nat) : List Int × Bool := (l.take m).foldl (lineS k) s
theorem lnS_end {α : Type} (k : α → List ByteArray) (l : List α) (s : List Int × Bool) : lnS k l s l.length = l.foldl (lineS k) s := by unfold lnS; rw [List.take_length]
theorem lnS_next {α : Type} (k : α → List ByteArray) (l : List α) (s : List Int × Bool) {m : Nat} (h : m < l.length) : lnS k l s (m + 1) = fdS (Zl (lnS k l s m) (k (l[m]'h))) := by
 unfold lnS
 rw [List.take_succ_eq_append_getElem h, List.foldl_append]
 rfl
def lnLen {α : Type} (k : α → List ByteArray) (l : List α) : Nat := (l.map fun x => Wl (k x) + 1).sum
theorem lnS_len {α : Type} (k : α → List ByteArray) : ∀ (l : List α) (s : List Int × Bool), (l.foldl (lineS k) s).1.length ≤ s.1.length + lnLen k l
 | [], s => Nat.le_refl _
 | x :: l, s => by
   have h1 := lnS_len k l (lineS k s x)
   have h2 := putsB_len (k x) s
   have h3 : (lineS k s x).1.length = (Zl s (k x)).1.length + 1 := by unfold lineS fdS; simp
   have h4 : lnLen k (x :: l) = Wl (k x) + 1 + lnLen k l := by unfold lnLen; simp
   rw [List.foldl_cons, h4]
   omega
theorem lnS_room {α : Type} {k : α → List ByteArray} {l : List α} {s : List Int × Bool} (r : s.1.length + lnLen k l ≤ 10000000000) {m : Nat} (h : m < l.length) : Ye (lnS k l s m) (k (l[m]'h)) ∧ (Zl (lnS k l s m) (k (l[m]'h))).1.length ≤ 68719476736 := by
 have h1 := lnS_len k (l.take m) s
 have h2 : lnLen k l = lnLen k (l.take m) + (Wl (k (l[m]'h)) + 1) + lnLen k (l.drop (m + 1)) := by
   unfold lnLen
   conv => lhs; rw [← List.take_append_drop m l]
   rw [List.map_append, List.sum_append, List.drop_eq_getElem_cons h, List.map_cons, List.sum_cons]
   omega
 have h3 := putsB_len (k (l[m]'h)) (lnS k l s m)
 unfold Ye lnS at *
 omega
theorem pFile (w0 : World) (N : Nat → Prop) (f : Fi) (hv : VFi f) (vs : List Value) (hd : Zg N w0 f.ds vs) (b : Nat) (st : List Int × Bool) (own : List Bk) (x : World) (h : PE w0 b st own x) (hr : st.1.length + lenFi f ≤ 10000000000) :
   Calls Tryz.prog 61 #[.pointer (some ⟨b, 0, none⟩), .agg vs.toArray] x (QPost w0 b (fileT st f) own) := by
 obtain ⟨cards, places⟩ := f
 obtain ⟨A, ac, xs, _, rfl, hn, hw, hx, B, bc, ys, _, rfl, hk, hw2, hx2, rfl⟩ := hd
 have hlen : lenFi ⟨cards, places⟩ = lnLen kCa cards + lnLen kPl places := rfl
 rw [hlen] at hr
 have r1 : st.1.length + lnLen kCa cards ≤ 10000000000 := by omega
 obtain ⟨s1, e1⟩ : ∃ s, s = cards.foldl (lineS kCa) st := ⟨_, rfl⟩
 have r2 : s1.1.length + lnLen kPl places ≤ 10000000000 := by
   have := lnS_len kCa cards st
   rw [e1]; omega
 have ef : fileT st ⟨cards, places⟩ = lnS kPl places s1 places.length := by rw [lnS_end, e1]; rfl
 have e1' : lnS kCa cards st cards.length = s1 := by rw [lnS_end, e1]
 rw [ef]
 obtain ⟨n, hn0⟩ : ∃ n, n = cards.length := ⟨_, rfl⟩
 obtain ⟨k, hk0⟩ : ∃ k, k = places.length := ⟨_, rfl⟩
 rw [← hn0] at hn ⊢
 rw [← hk0] at hk ⊢
 have R1 := Hh r1
 have R2 := Hh r2
 have E1 := Hh e1'
 have HN := Hh hn0
 have HK := Hh hk0
 have HW1 := Hh (And.intro hw hx)
 have HW2 := Hh (And.intro hw2 hx2)
 have HV1 := Hh hv.1
 have HV2 := Hh hv.2
 clear hr r1 e1 r2 ef e1' hn0 hk0 hw hx hw2 hx2 hv hlen
 have l63 : (n : Int) ≤ 9223372036854775807 := by omega
 have k63 : (k : Int) ≤ 9223372036854775807 := by omega
 have T := Hh h
 clear h
 go_enter Tryz.func61, Tryz.ntmps61
 go_wp2_with (first
 | ((with_reducible refine Zi 3 ?_); refine Ya T.out 26 _ ([.slice A n ac, .slice B k bc]) rfl rfl rfl ?_; intro wn g0 tn; have T := Hh tn; clear tn; have c0_0 : wn.cell? ⟨g0, 0, none⟩ = some (.slice A n ac) := (T.out.get 0 rfl).read 0; have c0_1 : wn.cell? ⟨g0, 1, none⟩ = some (.slice B k bc) := (T.out.get 0 rfl).read 1))
 go_loopw [11] (fun i wr => ∃ m : Nat, i = .int .i64 m ∧ m ≤ n ∧ PE w0 b (lnS kCa cards st m) ((g0, 26, [.slice A n ac, .slice B k bc]) :: own) wr) (fun i _ => n - (intOf i).toNat)
 case atStart => exact ⟨0, by go_num, Nat.zero_le _, T.out⟩
 case round =>
   obtain ⟨m, rfl, hm, hT⟩ := hrel
   have T := Hh hT
   clear hT
   by_cases hlt : m < n
   · have hk1 : m < cards.length := by rw [← HN.out]; exact hlt
     obtain ⟨pre, ys, post, hxs, hp, hy⟩ := cas_at HW1.out.2 m hk1
     have hyl : ys.length = 6 := by rw [hy.len]; rfl
     obtain ⟨g, rfl, hg, hc⟩ := HW1.out.1.reads (by rw [hxs]; simp; omega)
     have hR : w0.rangeAt g (m * 6) ys := range_of (by rw [hxs] at hc; exact hc) hp
     have hnx := lnS_next kCa cards st hk1
     have hrm := lnS_room R1.out hk1
     have P1 := Hh ((pCard w0 N (cards[m]'hk1) (HV1.out _ (List.getElem_mem hk1)) ys hy).at_ (b := b) rfl hrm.1)
     have HF := Hh hrm.2
     have HR := Hh hR
     have HY := Hh hy.one
     have HYL := Hh hyl
     have HNX := Hh hnx
     clear hxs hp hc hR hy hyl hnx hrm
     have lk : (m : Int) < (n : Int) := by omega
     go_wp2_with (first
 | ((with_reducible refine Zi 14 ?_); refine Zx 35 _ g (m * 6) (ys) (T.out.ranges HR.out hg) qrow_ca (by rw [HYL.out]; exact qsize_ca) rfl rfl rfl ?_)
 | ((with_reducible refine Zi 5 ?_); refine Wt T.out 35 ([.string ⟨#[]⟩, .int .i64 0, .int .i64 0, .int .i64 0, .int .i64 0, .slice none 0 0]) rfl rfl qz_ca ?_; intro wn g5 tn; have T := Hh tn; clear tn)
 | ((with_reducible refine Zu 5 14 ?_); refine Ze 35 _ _ 35 g5 _ (ys) (T.out.get 0 rfl) HYL.out (by rw [HYL.out]; exact qsize_ca) HY.out rfl rfl rfl rfl rfl ?_; intro wn p; have T := Hh (T.out.put 0 rfl p); clear p)
 | ((with_reducible refine Zi 16 ?_); refine Zf 35 _ 35 g5 (ys) (T.out.get 0 rfl) qrow_ca (by rw [HYL.out]; exact qsize_ca) rfl rfl rfl ?_)
 | (go_at_call 55; refine (P1.out _ _ T.out).mono ?_; rintro e wn ⟨rfl, tn⟩; have T := Hh tn; clear tn)
 | (go_at_call 114; refine (pFeed T.out HF.out).mono ?_; rintro e wn ⟨rfl, tn⟩; have T := Hh tn; clear tn))
     go_roundw
     case rel => exact ⟨m + 1, by go_num, by omega, by rw [HNX.out]; exact T.out.tail⟩
     case measure => simp [intOf]; omega
   · have hmn : m = cards.length := by have := HN.out; omega
     have T3 : PE w0 b s1 ((g0, 26, [.slice A n ac, .slice B k bc]) :: own) wr := by
       have := T.out
       rw [hmn, E1.out] at this
       exact this
     have T := Hh T3
     clear T3 hmn
     have lk : ¬ (m : Int) < (n : Int) := by omega
     have c0_1 : wr.cell? ⟨g0, 1, none⟩ = some (.slice B k bc) := (T.out.get 0 rfl).read 1
     go_wp2_with fail
     go_loopw [24] (fun i wr => ∃ m : Nat, i = .int .i64 m ∧ m ≤ k ∧ PE w0 b (lnS kPl places s1 m) ((g0, 26, [.slice A n ac, .slice B k bc]) :: own) wr) (fun i _ => k - (intOf i).toNat)
     case atStart => exact ⟨0, by go_num, Nat.zero_le _, T.out⟩
     case round =>
       obtain ⟨m, rfl, hm, hT⟩ := hrel
       have T := Hh hT
       clear hT
       by_cases hlt : m < k
       · have hk1 : m < places.length := by rw [← HK.out]; exact hlt
         obtain ⟨pre, ys, post, hxs, hp, hy⟩ := pls_at HW2.out.2 m hk1
         have hyl : ys.length = 4 := by rw [hy.len]; rfl
         obtain ⟨g, rfl, hg, hc⟩ := HW2.out.1.reads (by rw [hxs]; simp; omega)
         have hR : w0.rangeAt g (m * 4) ys := range_of (by rw [hxs] at hc; exact hc) hp
         have hnx := lnS_next kPl places s1 hk1
         have hrm := lnS_room R2.out hk1
         have P1 := Hh ((pPlace w0 N (places[m]'hk1) (HV2.out _ (List.getElem_mem hk1)) ys hy).at_ (b := b) rfl hrm.1)
         have HF := Hh hrm.2
         have HR := Hh hR
         have HY := Hh hy.one
         have HYL := Hh hyl
         have HNX := Hh hnx
         clear hxs hp hc hR hy hyl hnx hrm
         have lk : (m : Int) < (k : Int) := by omega
         go_wp2_with (first
 | ((with_reducible refine Zi 27 ?_); refine Zx 38 _ g (m * 4) (ys) (T.out.ranges HR.out hg) qrow_pl (by rw [HYL.out]; exact qsize_pl) rfl rfl rfl ?_)
 | ((with_reducible refine Zi 7 ?_); refine Wt T.out 38 ([.string ⟨#[]⟩, .int .i64 0, .int .i64 0, .slice none 0 0]) rfl rfl qz_pl ?_; intro wn g5 tn; have T := Hh tn; clear tn)
 | ((with_reducible refine Zu 7 27 ?_); refine Ze 38 _ _ 38 g5 _ (ys) (T.out.get 0 rfl) HYL.out (by rw [HYL.out]; exact qsize_pl) HY.out rfl rfl rfl rfl rfl ?_; intro wn p; have T := Hh (T.out.put 0 rfl p); clear p)
 | ((with_reducible refine Zi 29 ?_); refine Zf 38 _ 38 g5 (ys) (T.out.get 0 rfl) qrow_pl (by rw [HYL.out]; exact qsize_pl) rfl rfl rfl ?_)
 | (go_at_call 59; refine (P1.out _ _ T.out).mono ?_; rintro e wn ⟨rfl, tn⟩; have T := Hh tn; clear tn)
 | (go_at_call 114; refine (pFeed T.out HF.out).mono ?_; rintro e wn ⟨rfl, tn⟩; have T := Hh tn; clear tn))
         go_roundw
         case rel => exact ⟨m + 1, by go_num, by omega, by rw [HNX.out]; exact T.out.tail⟩
         case measure => simp [intOf]; omega
       · obtain rfl : m = k := by omega
         have lk : ¬ (m : Int) < (m : Int) := by omega
         go_wp2
         go_end0
         exact ⟨rfl, T.out.tail⟩
end Go.Proofs.YtljdgdphldckhaaGreat
