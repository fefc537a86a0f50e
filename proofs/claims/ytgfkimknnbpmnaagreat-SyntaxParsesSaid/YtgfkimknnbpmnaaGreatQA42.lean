/-
  Texts SynR20, SynL1, SynR22, SynN6, SynN7. No conditions but those that each theorem names.
-/
import Derived.Test.YtgfkimknnbpmnaaGreatQA41
namespace Go.Proofs.YtgfkimknnbpmnaaGreat
open Go.ChangeShapes Go.WideShapes Go.ChangeAt Go.RowKit
set_option linter.unusedVariables false
set_option linter.unusedSimpArgs false
def Zbg : List TokV → Ds
 | [] => .nil
 | v :: l => .int v.k (.str v.t (.int v.n (.int (v.line : Int) (.int (v.col : Int) (Zbg l)))))
theorem toks_deep (N : Nat → Prop) (w : World) : ∀ L : List TokV, Zo N w (Zbg L) (Un L)
 | [] => rfl
 | v :: l => ⟨_, rfl, _, rfl, _, rfl, _, rfl, _, rfl, toks_deep N w l⟩
theorem toks_only {N : Nat → Prop} {w : World} : ∀ {L : List TokV} {xs : List Value}, Zo N w (Zbg L) xs → xs = Un L
 | [], xs, h => h
 | v :: l, xs, ⟨t1, e1, t2, e2, t3, e3, t4, e4, t5, e5, h⟩ => by
   have := toks_only h
   subst this e5 e4 e3 e2 e1
   rfl
def RowKnown (r K : Nat) (L : List TokV) (A : Option Addr) : Prop := 0 < L.length → A = some ⟨r, 0, none⟩ ∧ Ends L ∧ L.length ≤ K ∧ K ≤ 9223372036854775807
theorem Zy.of {N : Nat → Prop} {w : World} {r K c : Nat} {L : List TokV} {A : Option Addr} (h : Zo N w (.row L.length (Zbg L) .nil) [.slice A L.length c]) (hA : RowKnown r K L A) : Zy w r K L := by
 intro hl
 obtain ⟨A', c', xs, t, e, hn, hW, hD, ht⟩ := h
 injection e with e1 e2
 injection e1 with e1
 obtain ⟨rfl, h1, h2, h3⟩ := hA hl
 subst e1
 obtain rfl := toks_only hD
 rcases hW with h | ⟨g, hg, _, hin, hc⟩
 · have := tokCs_len L
   rw [h] at this
   simp at this
   omega
 · injection hg with hg
   injection hg with hg
   subst hg
   exact ⟨hc, hin, h1, h2, h3⟩
def QBegin (w : World) (s : ByteArray) (e : Ending) (w' : World) : Prop :=
 ∃ (vs : List Value) (r K : Nat) (A : Option Addr) (c : Nat), e = .returned (.agg vs.toArray) ∧ RPv r K (Wg s) (Jb s) vs ∧ RowKnown r K (Wg s) A ∧ Zo (fun k => w.heap.size ≤ k) w' (.row (Wg s).length (Zbg (Wg s)) .nil) [.slice A (Wg s).length c] ∧ Below w.heap.size w w'
set_option maxRecDepth 20000 in
set_option maxHeartbeats 3200000 in
theorem qbegin (s : ByteArray) (w : World) (hs : s.size ≤ 65536) : Calls Tryz.prog 18 #[.string s] w (QBegin w s) := by
 have hs2 : s.size ≤ 1099511627776 := by omega
 have T0 := Hh (Env.start w)
 rcases text_cases s hs with ⟨E, l, c, hv, hE⟩ | ⟨L, hv, hL, _⟩
 · have hn := fun x => qNew_err s x hs2 E l c hv
   have e1 : Jb s = .bad (E, l, c) := by unfold Jb; rw [hv]; exact if_neg hE
   have e2 : Wg s = [] := by unfold Wg; rw [hv]
   have HE := Hh (And.intro hE (And.intro e1 e2))
   clear hs hs2 hv hE e1 e2
   unfold Zt at hn
   go_enter Tryz.func18, Tryz.ntmps18
   go_wp2_with (first
 | ((with_reducible refine Zf 2 ?_); refine Zc T0.out 62 _ rfl rfl z_P ?_; intro w1 g0 t1
    have T1 := Hh (t1)
    clear t1)
 | (go_at_call 42; refine (hn _).mono ?_; rintro e w2 ⟨A1, k1, rfl, b2⟩
    have T2 := Hh (T1.out.call b2)
    clear b2)
 | ((with_reducible refine Zf 3 ?_); refine Zc T2.out 60 _ rfl rfl z_C ?_; intro w3 g1 t3
    have T3 := Hh (t3)
    clear t3)
 | ((with_reducible refine Zf 4 ?_); refine Zc T3.out 29 _ rfl rfl z_F ?_; intro w4 g2 t4
    have T4 := Hh (t4)
    clear t4)
 | ((with_reducible refine Zj 3 8 ?_); refine Za 60 _ _ 60 g1 _ ([.slice A1 0 k1, .int .i64 0, .int .i64 0]) (T4.out.get 1 rfl) rfl Wm (by simp [Value.oneCell']) rfl rfl rfl rfl rfl ?_
    intro w5 p5
    have T5 := Hh (T4.out.put 1 rfl p5)
    clear p5)
 | ((with_reducible refine Zj 4 9 ?_); refine Za 29 _ _ 29 g2 _ ([.int .i64 E, .int .i64 (l : Int), .int .i64 (c : Int)]) (T5.out.get 2 rfl) rfl Xr (by simp [Value.oneCell']) rfl rfl rfl rfl rfl ?_
    intro w6 p6
    have T6 := Hh (T5.out.put 2 rfl p6)
    clear p6)
 | ((with_reducible refine Zf 10 ?_); refine Zb 60 _ 60 g1 _ (T6.out.get 1 rfl) Zaj Wm rfl rfl rfl ?_)
 | ((with_reducible refine Zf 11 ?_); refine Zb 29 _ 29 g2 _ (T6.out.get 2 rfl) Ux Xr rfl rfl rfl ?_)
 | ((with_reducible refine Zj 2 12 ?_); refine Za 62 _ _ 62 g0 _ ([.slice A1 0 k1, .int .i64 0, .int .i64 0, .int .i64 E, .int .i64 (l : Int), .int .i64 (c : Int)]) (T6.out.get 0 rfl) rfl Yf (by simp [Value.oneCell']) rfl rfl rfl rfl rfl ?_
    intro w7 p7
    have T7 : Hid (Env w [(g0, 62, [.slice A1 0 k1, .int .i64 0, .int .i64 0, .int .i64 E, .int .i64 (l : Int), .int .i64 (c : Int)]), (g1, 60, [.slice A1 0 k1, .int .i64 0, .int .i64 0]), (g2, 29, [.int .i64 E, .int .i64 (l : Int), .int .i64 (c : Int)])] [] [] w7) := Hh (T6.out.put 0 rfl p7)
    clear p7))
   refine Yw 2 62 62 _ _ rfl (T7.out.get 0 rfl) Zp Yf rfl rfl ?_
   refine ⟨_, 0, 0, none, 0, rfl, ?_, ?_, ?_, T7.out.below⟩
   · rw [HE.out.2.1, HE.out.2.2]
     exact RPv.mkBad (F := (E, l, c)) A1 0 k1 0 0 (Nat.zero_le _) HE.out.1
   · rw [HE.out.2.2]; intro h; exact absurd h (Nat.lt_irrefl _)
   · rw [HE.out.2.2]; exact Zi _ _
 · have hn := fun x => qNew_ok s x hs2 L hv hL
   have e1 : Jb s = .ok 0 0 := by unfold Jb; rw [hv]; exact if_pos rfl
   have e2 : Wg s = L := by unfold Wg; rw [hv]
   have hpos := hL.pos
   have HE := Hh (And.intro e1 (And.intro e2 hpos))
   clear hs hs2 hv e1 e2 hL hpos
   go_enter Tryz.func18, Tryz.ntmps18
   go_wp2_with (first
 | ((with_reducible refine Zf 2 ?_); refine Zc T0.out 62 _ rfl rfl z_P ?_; intro w1 g0 t1
    have T1 := Hh (t1)
    clear t1)
 | (go_at_call 42; refine (hn _).mono ?_; rintro e w2 ⟨r, K, rfl, hr, hlo, b2⟩
    have hd : Zo (fun k => w1.heap.size ≤ k) w2 (.row L.length (Zbg L) .nil) [.slice (some ⟨r, 0, none⟩) L.length K] := ⟨_, _, Un L, [], rfl, Nat.le_trans hr.capL hr.capM, .inr ⟨r, rfl, hlo, hr.rin, hr.row⟩, toks_deep _ _ L, rfl⟩
    have HR := Hh hr
    have T2 := Hh (T1.out.tree b2 hd)
    clear hr hlo hd
    clear b2)
 | ((with_reducible refine Zf 3 ?_); refine Zc T2.out 60 _ rfl rfl z_C ?_; intro w3 g1 t3
    have T3 := Hh (t3)
    clear t3)
 | ((with_reducible refine Zf 4 ?_); refine Zc T3.out 29 _ rfl rfl z_F ?_; intro w4 g2 t4
    have T4 := Hh (t4)
    clear t4)
 | ((with_reducible refine Zj 3 8 ?_); refine Za 60 _ _ 60 g1 _ ([.slice (some ⟨r, 0, none⟩) L.length K, .int .i64 0, .int .i64 0]) (T4.out.get 1 rfl) rfl Wm (by simp [Value.oneCell']) rfl rfl rfl rfl rfl ?_
    intro w5 p5
    have T5 := Hh (T4.out.put 1 rfl p5)
    clear p5)
 | ((with_reducible refine Zj 4 9 ?_); refine Za 29 _ _ 29 g2 _ ([.int .i64 0, .int .i64 0, .int .i64 0]) (T5.out.get 2 rfl) rfl Xr (by simp [Value.oneCell']) rfl rfl rfl rfl rfl ?_
    intro w6 p6
    have T6 := Hh (T5.out.put 2 rfl p6)
    clear p6)
 | ((with_reducible refine Zf 10 ?_); refine Zb 60 _ 60 g1 _ (T6.out.get 1 rfl) Zaj Wm rfl rfl rfl ?_)
 | ((with_reducible refine Zf 11 ?_); refine Zb 29 _ 29 g2 _ (T6.out.get 2 rfl) Ux Xr rfl rfl rfl ?_)
 | ((with_reducible refine Zj 2 12 ?_); refine Za 62 _ _ 62 g0 _ ([.slice (some ⟨r, 0, none⟩) L.length K, .int .i64 0, .int .i64 0, .int .i64 0, .int .i64 0, .int .i64 0]) (T6.out.get 0 rfl) rfl Yf (by simp [Value.oneCell']) rfl rfl rfl rfl rfl ?_
    intro w7 p7
    have T7 : Hid (Env w [(g0, 62, [.slice (some ⟨r, 0, none⟩) L.length K, .int .i64 0, .int .i64 0, .int .i64 0, .int .i64 0, .int .i64 0]), (g1, 60, [.slice (some ⟨r, 0, none⟩) L.length K, .int .i64 0, .int .i64 0]), (g2, 29, [.int .i64 0, .int .i64 0, .int .i64 0])] [] [(.row L.length (Zbg L) .nil, [.slice (some ⟨r, 0, none⟩) L.length K])] w7) := Hh (T6.out.put 0 rfl p7)
    clear p7))
   refine Yw 2 62 62 _ _ rfl (T7.out.get 0 rfl) Zp Yf rfl rfl ?_
   refine ⟨_, r, K, some ⟨r, 0, none⟩, K, rfl, ?_, ?_, ?_, T7.out.below⟩
   · rw [HE.out.1, HE.out.2.1]
     exact RPv.mkOk (a := 0) (d := 0) rfl HE.out.2.2 (Nat.zero_le _)
   · rw [HE.out.2.1]; intro _; exact ⟨rfl, HR.out.ends, HR.out.capL, HR.out.capM⟩
   · rw [HE.out.2.1]; exact T7.out.leaf 0 rfl
theorem Ud.rfl_ {pl : Bool} : ∀ x : Acs, Ud pl x x := by
 intro x
 induction x with
 | nil => exact True.intro
 | cons h t e r it ie ir => exact ⟨⟨rfl, fun _ => ⟨rfl, rfl⟩⟩, it, ie, ir⟩
def livesT : ByteArray := ⟨#[112, 111, 119, 101, 114, 32, 109, 101, 32, 45, 50, 59]⟩
def livesA : Acs := .cons { AH.zero 1 1 1 with sel := ⟨1, 0, 0, 0, [], 0⟩, num := .leaf 1 (-2) zSe 0 0 0 } .nil .nil .nil
theorem lives_is : actsP 5 livesT = (livesA, okF) := by kernel_rfl
theorem cell_range {w : World} {g k : Nat} {ys : List Value} (h : w.rangeAt g k ys) (j : Nat) {v : Value} (hv : ys[j]? = some v) : w.cell? ⟨g, k + j, none⟩ = some v := h j v hv
theorem lives_row {N : Nat → Prop} {w : World} {v : Value} (h : Zo N w (.row livesA.len livesA.ds .nil) [v]) : ∃ g c, v = .slice (some ⟨g, 0, none⟩) 1 c ∧ g < w.heap.size ∧
   w.cell? ⟨g, 0, none⟩ = some (.int .i64 1) ∧ w.cell? ⟨g, 3, none⟩ = some (.int .i64 1) ∧ w.cell? ⟨g, 9, none⟩ = some (.int .i64 1) ∧ w.cell? ⟨g, 10, none⟩ = some (.int .i64 (-2)) := by
 obtain ⟨A, c, xs, rfl, _, hw, hd⟩ := h.inRow
 obtain ⟨g, ys, rfl, hg, hr, hy⟩ := act_at hw hd (k := 0) rfl
 obtain ⟨sel, num, cl, cr, thn, els, rfl, h1, h2, _⟩ := act_of hy
 obtain ⟨_, rfl, _, rfl, _, rfl, _, rfl, B, d, zs, _, rfl, _, _, _, _, rfl, hnil⟩ := h1
 obtain ⟨_, rfl, _, rfl, _⟩ := h2
 cases hnil
 rw [Nat.zero_mul] at hr
 exact ⟨g, c, rfl, hg, cell_range (k := 0) hr 0 rfl, cell_range (k := 0) hr 3 rfl, cell_range (k := 0) hr 9 rfl, cell_range (k := 0) hr 10 rfl⟩
set_option maxRecDepth 20000 in
set_option maxHeartbeats 3200000 in
theorem lives_any (w : World) : Calls Tryz.prog 5 #[] w fun e w' => e = .returned (.bool true) ∧ Below w.heap.size w w' := by
 have T0 := Hh (Env.start w)
 have hac : ∀ x, Calls Tryz.prog 9 #[.string ⟨#[112, 111, 119, 101, 114, 32, 109, 101, 32, 45, 50, 59]⟩] x (fun e w' => ∃ v : Value, e = .returned (.tuple #[v, .agg #[.int .i64 0, .int .i64 0, .int .i64 0]]) ∧ Zo (fun k => x.heap.size ≤ k) w' (.row livesA.len livesA.ds .nil) [v] ∧ Below x.heap.size x w') := fun x => by
   have h := xActs livesT x (by decide)
   rw [lives_is] at h
   exact h
 go_enter Tryz.func5, Tryz.ntmps5
 go_wp2_with (first
 | (go_at_call 9; refine (hac _).mono ?_; rintro e w1 ⟨v1, rfl, d1, b1⟩
    have T1 := Hh (T0.out.tree b1 d1)
    clear d1
    clear b1)
 | ((with_reducible refine Zf 2 ?_); refine Zc T1.out 29 _ rfl rfl z_F ?_; intro w2 g0 t2
    have T2 := Hh (t2)
    clear t2)
 | ((with_reducible refine Zj 2 6 ?_); refine Za 29 _ _ 29 g0 _ ([.int .i64 0, .int .i64 0, .int .i64 0]) (T2.out.get 0 rfl) rfl Xr (by simp [Value.oneCell']) rfl rfl rfl rfl rfl ?_
    intro w3 p3
    have T3 : Hid (Env w [(g0, 29, [.int .i64 0, .int .i64 0, .int .i64 0])] [] [(.row livesA.len livesA.ds .nil, [v1])] w3) := Hh (T2.out.put 0 rfl p3)
    obtain ⟨g, c, rfl, hg, c0, c3, c9, c10⟩ := lives_row (T3.out.leaf 0 rfl)
    obtain ⟨f0, f1, f2, _⟩ := Yc (T3.out.get 0 rfl)
    clear p3))
 go_ret
 exact ⟨rfl, T3.out.below⟩
end Go.Proofs.YtgfkimknnbpmnaaGreat
namespace Go.Proofs.YtgfkimknnbpmnaaGreat
open Go Go.RowKit
set_option linter.unusedSimpArgs false
set_option linter.unusedVariables false
section
variable {w x y : World} {bs : List Bk} {ts : List (Ds × List Value)} {ra rb : Rw} {v' : Value} {news : List Value}
theorem Env.pushL (h : Env w bs [ra, rb] ts x) (ho : y.ownsRow w.heap.size ra.e ra.sz v' (ra.n + 1) (ra.xs ++ news)) (hg : x.grownBy y ra.v.ownBlock)
   (hat : v'.ownBlock = ra.v.ownBlock ∨ v'.ownBlock = some x.heap.size) : Env w bs [⟨v', ra.e, ra.sz, ra.n + 1, ra.xs ++ news⟩, rb] ts y := by
 have hk : Zz (fun k => ra.v.ownBlock = some k) x y := Zz.grown (Zz.refl _ _) hg fun k hk => hk
 have ma : ra ∈ [ra, rb] := List.mem_cons_self
 have mb : rb ∈ [ra, rb] := List.mem_cons_of_mem _ (List.mem_singleton.2 rfl)
 have hr := h.row _ ma
 have hrb := h.row _ mb
 have ha := h.apart _ ma
 have hab : ∀ k, ra.v.ownBlock = some k → rb.v.ownBlock ≠ some k := (List.pairwise_cons.1 h.rapart).1 rb (List.mem_singleton.2 rfl)
 refine ⟨fun b hb => hk.whole (h.at_ b hb) (ha b hb), h.lo, h.nod, fun r hr' => ?_, fun r hr' b hb => ?_, ?_, fun u hu => ?_, h.below.trans (hk.below h.below.size fun k e => (hr.lt k e).1)⟩
 · rcases List.mem_cons.1 hr' with rfl | hr'
   · exact ho
   · cases List.mem_singleton.1 hr'
     exact hk.owns hrb fun k hk' c => hab k c hk'
 · rcases List.mem_cons.1 hr' with rfl | hr'
   · show v'.ownBlock ≠ _
     rcases hat with e | e
     · rw [e]; exact ha b hb
     · rw [e]; intro c
       have := (h.at_ b hb).inside
       injection c with c
       omega
   · cases List.mem_singleton.1 hr'
     exact h.apart _ mb b hb
 · refine List.pairwise_cons.2 ⟨fun r hr' k hk' => ?_, List.pairwise_singleton _ _⟩
   cases List.mem_singleton.1 hr'
   have hk'' : v'.ownBlock = some k := hk'
   rcases hat with e | e
   · rw [e] at hk''; exact hab k hk''
   · rw [e] at hk''; injection hk'' with e2
     intro c
     have := (hrb.lt k c).2
     omega
 · refine (h.deep u hu).keeps hk fun k hk' hn => ⟨hn.2.2 _ ma, hn.1, hn.2.1, fun r hr' => ?_⟩
   rcases List.mem_cons.1 hr' with rfl | hr'
   · show v'.ownBlock ≠ _
     rcases hat with e | e
     · rw [e]; exact hn.2.2 _ ma
     · rw [e]; intro c; injection c with c; omega
   · cases List.mem_singleton.1 hr'
     exact hn.2.2 _ mb
theorem Env.turn (h : Env w bs [ra, rb] ts x) : Env w bs [rb, ra] ts x := by
 have ma : ra ∈ [ra, rb] := List.mem_cons_self
 have mb : rb ∈ [ra, rb] := List.mem_cons_of_mem _ (List.mem_singleton.2 rfl)
 have hab : ∀ k, ra.v.ownBlock = some k → rb.v.ownBlock ≠ some k := (List.pairwise_cons.1 h.rapart).1 rb (List.mem_singleton.2 rfl)
 have hm : ∀ r, r ∈ [rb, ra] → r ∈ [ra, rb] := fun r hr => by
   rcases List.mem_cons.1 hr with rfl | hr
   · exact mb
   · cases List.mem_singleton.1 hr; exact ma
 have hm' : ∀ r, r ∈ [ra, rb] → r ∈ [rb, ra] := fun r hr => by
   rcases List.mem_cons.1 hr with rfl | hr
   · exact List.mem_cons_of_mem _ (List.mem_singleton.2 rfl)
   · cases List.mem_singleton.1 hr; exact List.mem_cons_self
 refine ⟨h.at_, h.lo, h.nod, fun r hr => h.row r (hm r hr), fun r hr => h.apart r (hm r hr), ?_, fun u hu => (h.deep u hu).mono fun k _ hn => ⟨hn.1, hn.2.1, fun r hr => hn.2.2 r (hm r hr)⟩, h.below⟩
 refine List.pairwise_cons.2 ⟨fun r hr k hk c => ?_, List.pairwise_singleton _ _⟩
 cases List.mem_singleton.1 hr
 exact hab k c hk
theorem Env.pushR (h : Env w bs [ra, rb] ts x) (ho : y.ownsRow w.heap.size rb.e rb.sz v' (rb.n + 1) (rb.xs ++ news)) (hg : x.grownBy y rb.v.ownBlock)
   (hat : v'.ownBlock = rb.v.ownBlock ∨ v'.ownBlock = some x.heap.size) : Env w bs [ra, ⟨v', rb.e, rb.sz, rb.n + 1, rb.xs ++ news⟩] ts y := (h.turn.pushL ho hg hat).turn
theorem Env.rows2 (h : Env w bs [] ts x) (e1 e2 : TypeId) (s1 s2 : Nat) : Env w bs [⟨.slice none 0 0, e1, s1, 0, []⟩, ⟨.slice none 0 0, e2, s2, 0, []⟩] (ts ++ [(.nil, [])] ++ [(.nil, [])]) x := by
 have hz : ∀ r : Rw, r ∈ [(⟨.slice none 0 0, e1, s1, 0, []⟩ : Rw), ⟨.slice none 0 0, e2, s2, 0, []⟩] → r.v.ownBlock = none ∧ x.ownsRow w.heap.size r.e r.sz r.v r.n r.xs := fun r hr => by
   rcases List.mem_cons.1 hr with rfl | hr
   · exact ⟨rfl, World.ownsRow_nil _ _ _ _⟩
   · cases List.mem_singleton.1 hr; exact ⟨rfl, World.ownsRow_nil _ _ _ _⟩
 have h2 : Env w bs [⟨.slice none 0 0, e1, s1, 0, []⟩, ⟨.slice none 0 0, e2, s2, 0, []⟩] ts x :=
   ⟨h.at_, h.lo, h.nod, fun r hr => (hz r hr).2, fun r hr b hb => by rw [(hz r hr).1]; simp, List.pairwise_cons.2 ⟨fun r hr k hk => (by cases hk), List.pairwise_singleton _ _⟩,
     fun u hu => (h.deep u hu).mono fun k _ hn => ⟨hn.1, hn.2.1, fun r hr => by rw [(hz r hr).1]; simp⟩, h.below⟩
 exact (h2.addT (ds := .nil) (vs := []) rfl).addT (ds := .nil) (vs := []) rfl
end
end Go.Proofs.YtgfkimknnbpmnaaGreat
namespace Go.Proofs.YtgfkimknnbpmnaaGreat
open Go
set_option linter.unusedSimpArgs false
set_option linter.unusedVariables false
theorem AHSim.eq {x y : AH} (h : AHSim true x y) : x = y := by
 obtain ⟨y1, y2, y3, y4, y5, y6, y7, y8, y9, y10, y11, y12, y13⟩ := y
 obtain ⟨x1, x2, x3, x4, x5, x6, x7, x8, x9, x10, x11, x12, x13⟩ := x
 obtain ⟨e, p⟩ := h
 obtain ⟨p1, p2⟩ := p rfl
 have q1 : x2 = y2 := p1
 have q2 : x3 = y3 := p2
 injection e with e1 e2 e3 e4 e5 e6 e7 e8 e9 e10 e11 e12 e13
 subst q1 q2 e1 e4 e5 e6 e7 e8 e9 e10 e11 e12 e13
 rfl
theorem Ud.eq : ∀ (x y : Acs), Ud true x y → x = y := by
 intro x
 induction x with
 | nil =>
   intro y h
   cases y with
   | nil => rfl
   | cons => exact h.elim
 | cons h t e r it ie ir =>
   intro y hy
   cases y with
   | nil => exact hy.elim
   | cons h' t' e' r' =>
     obtain ⟨h1, h2, h3, h4⟩ := hy
     rw [h1.eq, it _ h2, ie _ h3, ir _ h4]
def RuSim (pl : Bool) (x y : Ru) : Prop := x.when_ = y.when_ ∧ x.stratum = y.stratum ∧ (pl = true → x.line = y.line ∧ x.col = y.col) ∧ Ud pl x.acts y.acts
def Uh (pl : Bool) : List Ru → List Ru → Prop
 | [], [] => True
 | x :: l, y :: m => RuSim pl x y ∧ Uh pl l m
 | _, _ => False
def CaSim (pl : Bool) (x y : Ca) : Prop := x.name = y.name ∧ x.cost = y.cost ∧ x.power = y.power ∧ (pl = true → x.line = y.line ∧ x.col = y.col) ∧ Uh pl x.rules y.rules
def PlSim (pl : Bool) (x y : Pl) : Prop := x.name = y.name ∧ (pl = true → x.line = y.line ∧ x.col = y.col) ∧ Uh pl x.rules y.rules
def Zaw (pl : Bool) : List Ca → List Ca → Prop
 | [], [] => True
 | x :: l, y :: m => CaSim pl x y ∧ Zaw pl l m
 | _, _ => False
def Zav (pl : Bool) : List Pl → List Pl → Prop
 | [], [] => True
 | x :: l, y :: m => PlSim pl x y ∧ Zav pl l m
 | _, _ => False
def FiSim (pl : Bool) (x y : Fi) : Prop := Zaw pl x.cards y.cards ∧ Zav pl x.places y.places
theorem good_rules {nk : Int} {L : List TokV} : ∀ {n : Nat} {s : St}, (Wf nk L n s).2.good = true → s.good = true
 | _, .ok a d, _ => rfl
 | 0, .bad F, h => h
 | n + 1, .bad F, h => by
   have h2 : Zk L Wz (.bad F) = 0 := rfl
   rw [Wf, if_pos h2] at h
   exact h
theorem good_file {nk : Int} {L : List TokV} : ∀ {n : Nat} {s : St}, (Ws nk L n s).2.good = true → s.good = true
 | _, .ok a d, _ => rfl
 | 0, .bad F, h => h
 | n + 1, .bad F, h => by
   have h2 : Zk L Wo (.bad F) = 0 := rfl
   rw [Ws, if_pos h2] at h
   exact h
section
variable {pl : Bool} {L M : List TokV} (h : RowSim pl L M) (a b : Int)
include h
theorem place_sim : ∀ {s s' : St}, Xi pl s s' → (pl = true → ((s.tok L).line : Int) = ((s'.tok M).line : Int) ∧ ((s.tok L).col : Int) = ((s'.tok M).col : Int))
 | .ok x d, .ok y e, ⟨h1, h2⟩, hp => by
   subst h1
   obtain ⟨u, v⟩ := (h.tok x).2.2.2 hp
   exact ⟨by show ((Yg L x).line : Int) = ((Yg M x).line : Int); rw [u], by show ((Yg L x).col : Int) = ((Yg M x).col : Int); rw [v]⟩
 | .bad F, .bad G, _, _ => ⟨rfl, rfl⟩
theorem str_sim (k : Nat) {s s' : St} (hs : Xi pl s s') : Xi pl (strS L k s) (strS M k s') ∧ strN L k s = strN M k s' := by
 unfold strS strN
 split
 · exact intS_sim h hs
 · exact ⟨hs, rfl⟩
theorem rules_sim : ∀ (n : Nat) {s s' : St}, Xi pl s s' → Xi pl (Wf a L n s).2 (Wf b M n s').2 ∧ ((Wf a L n s).2.good = true → Uh pl (Wf a L n s).1 (Wf b M n s').1)
 | 0, s, s', hs => ⟨hs, fun _ => trivial⟩
 | n + 1, s, s', hs => by
   rw [Wf, Wf, ← Wd h Wz hs]
   split
   · exact ⟨hs, fun _ => trivial⟩
   · have h1 := str_sim h (Zk L Wz s) (Zbl h Wz hs)
     have h2 := (acts_sim h a b n).1 (Jw h Xe h1.1)
     have h3 := rules_sim n (Jw h Xq h2.1)
     refine ⟨h3.1, fun hg => ⟨⟨rfl, h1.2, place_sim h hs, h2.2 (good_want (good_rules hg))⟩, h3.2 hg⟩⟩
theorem body_sim (n : Nat) {s s' : St} (hs : Xi pl s s') : Xi pl (Zae a L n s).2 (Zae b M n s').2 ∧ ((Zae a L n s).2.good = true → Uh pl (Zae a L n s).1 (Zae b M n s').1) := by
 have h1 := rules_sim h a b n (Jw h Xe hs)
 exact ⟨Jw h Xq h1.1, fun hg => h1.2 (good_want hg)⟩
theorem card_sim (n : Nat) {l l' c c' : Int} (hp : pl = true → l = l' ∧ c = c') {s s' : St} (hs : Xi pl s s') : Xi pl (Jj a L n l c s).2 (Jj b M n l' c' s').2 ∧ ((Jj a L n l c s).2.good = true → CaSim pl (Jj a L n l c s).1 (Jj b M n l' c' s').1) := by
 have h1 := nameS_sim h hs
 have h2 := intS_sim h (Jw h sCost h1.1)
 have h3 := signS_sim h (Jw h sPower h2.1)
 have h4 := body_sim h a b n h3.1
 exact ⟨h4.1, fun hg => ⟨h1.2, h2.2, h3.2, hp, h4.2 hg⟩⟩
theorem pl_sim (n : Nat) {l l' c c' : Int} (hp : pl = true → l = l' ∧ c = c') {s s' : St} (hs : Xi pl s s') : Xi pl (Vt a L n l c s).2 (Vt b M n l' c' s').2 ∧ ((Vt a L n l c s).2.good = true → PlSim pl (Vt a L n l c s).1 (Vt b M n l' c' s').1) := by
 have h1 := nameS_sim h hs
 have h4 := body_sim h a b n h1.1
 exact ⟨h4.1, fun hg => ⟨h1.2, hp, h4.2 hg⟩⟩
theorem file_sim : ∀ (n : Nat) {s s' : St}, Xi pl s s' → Xi pl (Ws a L n s).2 (Ws b M n s').2 ∧ ((Ws a L n s).2.good = true → FiSim pl (Ws a L n s).1 (Ws b M n s').1)
 | 0, s, s', hs => ⟨hs, fun _ => ⟨trivial, trivial⟩⟩
 | n + 1, s, s', hs => by
   rw [Ws, Ws, ← Wd h Wo hs]
   split
   · exact ⟨hs, fun _ => ⟨trivial, trivial⟩⟩
   · split
     · have h1 := card_sim h a b n (place_sim h hs) (Zbl h Wo hs)
       have h2 := file_sim n h1.1
       exact ⟨h2.1, fun hg => ⟨⟨h1.2 (good_file hg), (h2.2 hg).1⟩, (h2.2 hg).2⟩⟩
     · have h1 := pl_sim h a b n (place_sim h hs) (Zbl h Wo hs)
       have h2 := file_sim n h1.1
       exact ⟨h2.1, fun hg => ⟨(h2.2 hg).1, ⟨h1.2 (good_file hg), (h2.2 hg).2⟩⟩⟩
end
end Go.Proofs.YtgfkimknnbpmnaaGreat
