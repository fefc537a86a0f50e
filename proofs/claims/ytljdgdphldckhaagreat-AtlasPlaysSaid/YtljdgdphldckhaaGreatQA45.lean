/-
  Texts Lint15. No conditions but those that each theorem names.
-/
import Derived.Test.YtljdgdphldckhaaGreatQA44
set_option maxRecDepth 20000
set_option maxHeartbeats 12800000
namespace Go.Proofs.YtljdgdphldckhaaGreat
open Go Go.RowKit
set_option linter.unusedVariables false
set_option linter.unusedSimpArgs false
def lCheck (f : Fi) : Fa := orF (lCards (Uw (Yt (f.cards.map Ca.name))) 0 f.cards) (lPlaces (Uw (Yt (f.places.map Pl.name))) 0 f.places)
theorem lCheck_any (f : Fi) (hc : f.cards.length ≤ 1000000) (hp : f.places.length ≤ 1000000) (w : World) (N : Nat → Prop) (vs : List Value) (h : Zh N w f.ds vs) :
   Calls Tryz.prog 32 #[.agg vs.toArray] w fun e w' => e = .returned (faV (lCheck f)) ∧ Below w.heap.size w w' := by
 obtain ⟨cards, places⟩ := f
 obtain ⟨A, ca, xs, _, rfl, n1, w1, d1, B, pb, ys, _, rfl, n2, w2, d2, rfl⟩ := h
 have hcs : Zh N w (.row cards.length (casDs cards) .nil) [.slice A cards.length ca] := ⟨A, ca, xs, [], rfl, n1, w1, d1, rfl⟩
 have hps : Zh N w (.row places.length (plsDs places) .nil) [.slice B places.length pb] := ⟨B, pb, ys, [], rfl, n2, w2, d2, rfl⟩
 have hC := fun x (hb : Below w.heap.size w x) => lListedC cards hc x N _ (hcs.below hb)
 have hP := fun x (hb : Below w.heap.size w x) => lListedP places hp x N _ (hps.below hb)
 unfold lCheck
 dsimp only at *
 generalize lCards (Uw (Yt (cards.map Ca.name))) 0 cards = F at *
 generalize lPlaces (Uw (Yt (places.map Pl.name))) 0 places = G at *
 generalize cards.length = cn at *
 generalize places.length = pn at *
 rw [← orF2]
 have hof := fun x g (hW : Zb x g 29 ([F, G].flatMap faL).toArray) => lOrF [F, G] 2 2 g x rfl (by omega) hW
 generalize Vs [F, G] = R at *
 clear hcs hps n1 n2 w1 w2 d1 d2 hc hp
 have T := Hh (Env.start w)
 go_enter Tryz.func32, Tryz.ntmps32
 go_upto_region 3 with (first
 | ((with_reducible refine Ze 1 ?_); refine Zg T.out 26 _ ([.slice A cn ca, .slice B pn pb]) rfl rfl rfl ?_; intro wa g0 tn; have T := Hh tn; clear tn)
 | ((with_reducible refine Ze 2 ?_); refine Zi T.out 29 _ rfl rfl Jn ?_; intro wb g1 tn; have T := Hh tn; clear tn))
 have h2 := T.out.drew
 refine wp_region_held_drew (S := fun x => Zb x g0 26 ([.slice A cn ca, .slice B pn pb] : List Value).toArray ∧ Below w.heap.size w x) (by kernel_rfl) ⟨h2.get 0 rfl, h2.below⟩ (fun hS => ?_)
 generalize wb.drew = wf at *
 refine Yr (i := 0) (v := .pointer (some ⟨g0, 0, none⟩)) rfl rfl (by kernel_rfl) (by kernel_rfl) (by kernel_rfl) (fun _ _ _ h => h) (Or.inl ⟨by rfl, fun y hy => by go_simp⟩) hS ?_
 try simp only [Qy1, Qx1]
 refine Yr (i := 1) (v := .slice A cn ca) rfl rfl (by kernel_rfl) (by kernel_rfl) (by kernel_rfl) (fun _ _ _ h => h) (Or.inl ⟨by rfl, fun y hy => by have c0 := hy.1.read 0; go_simp⟩) hS ?_
 try simp only [Qy1, Qx1]
 refine Yr (i := 2) (v := .func (.func 86) #[] #[]) rfl rfl (by kernel_rfl) (by kernel_rfl) (by kernel_rfl) (fun _ _ _ h => h) (yield_move rfl rfl rfl) hS ?_
 try simp only [Qy1, Qx1]
 refine Yr (i := 4) (v := .pointer (some ⟨g0, 1, none⟩)) rfl rfl (by kernel_rfl) (by kernel_rfl) (by kernel_rfl) (fun _ _ _ h => h) (Or.inl ⟨by rfl, fun y hy => by go_simp⟩) hS ?_
 try simp only [Qy1, Qx1]
 refine Yr (i := 5) (v := .slice B pn pb) rfl rfl (by kernel_rfl) (by kernel_rfl) (by kernel_rfl) (fun _ _ _ h => h) (Or.inl ⟨by rfl, fun y hy => by have c0 := hy.1.read 1; go_simp⟩) hS ?_
 try simp only [Qy1, Qx1]
 refine Yr (i := 6) (v := .func (.func 87) #[] #[]) rfl rfl (by kernel_rfl) (by kernel_rfl) (by kernel_rfl) (fun _ _ _ h => h) (yield_move rfl rfl rfl) hS ?_
 try simp only [Qy1, Qx1]
 refine wpAnyH_ready (rs := [3]) (by kernel_rfl) (by simp) (AllReadyH.cons rfl (fun K hK => ?_) AllReadyH.nil)
 go_simp
 go_at_call 89
 refine (hC _ h2.below).mono ?_
 rintro e wf ⟨rfl, bn⟩
 try simp only [faV]
 try go_wp2
 have h2 := h2.call bn
 refine hK.out _ _ ⟨h2.get 0 rfl, h2.below⟩ (fun _ => ?_)
 clear hK K bn
 try simp only [Act.put, Qz1, Qy1, Qx1]
 refine wpAnyH_ready (rs := [7]) (by kernel_rfl) (by simp) (AllReadyH.cons rfl (fun K hK => ?_) AllReadyH.nil)
 go_simp
 go_at_call 90
 refine (hP _ h2.below).mono ?_
 rintro e wf ⟨rfl, bn⟩
 try simp only [faV]
 try go_wp2
 have h2 := h2.call bn
 refine hK.out _ _ ⟨h2.get 0 rfl, h2.below⟩ (fun _ => ?_)
 clear hK K bn
 try simp only [Act.put, Qz1, Qy1, Qx1]
 refine wpAnyH_ready (rs := [8]) (by kernel_rfl) (by simp) (AllReadyH.cons rfl (fun K hK => ?_) AllReadyH.nil)
 go_simp
 have hWb : Zb (World.alloc wf (.cells #[.int .i64 F.1, .int .i64 F.2.1, .int .i64 F.2.2, .int .i64 G.1, .int .i64 G.2.1, .int .i64 G.2.2] 29)) wf.heap.size 29 ([F, G].flatMap faL).toArray := Zb.made _ _ _
 have hnb := Za wf (.cells #[.int .i64 F.1, .int .i64 F.2.1, .int .i64 F.2.2, .int .i64 G.1, .int .i64 G.2.1, .int .i64 G.2.2] 29)
 have h2 := h2.call hnb
 generalize World.alloc wf (.cells #[.int .i64 F.1, .int .i64 F.2.1, .int .i64 F.2.2, .int .i64 G.1, .int .i64 G.2.1, .int .i64 G.2.2] 29) = wf at *
 refine hK.out _ _ ⟨h2.get 0 rfl, h2.below⟩ (fun _ => ?_)
 clear hK K hnb
 try simp only [Act.put, Qz1, Qy1, Qx1]
 refine wpAnyH_ready (rs := [9]) (by kernel_rfl) (by simp) (AllReadyH.cons rfl (fun K hK => ?_) AllReadyH.nil)
 go_simp
 go_at_call 88
 refine (hof _ _ hWb).mono ?_
 rintro e wf ⟨rfl, bn⟩
 try simp only [faV]
 try go_wp2
 have h2 := h2.call bn
 refine hK.out _ _ ⟨h2.get 0 rfl, h2.below⟩ (fun _ => ?_)
 clear hK K bn
 try simp only [Act.put, Qz1, Qy1, Qx1]
 refine wpAnyH_ready (rs := [10]) (by kernel_rfl) (by simp) (AllReadyH.cons rfl (fun K hK => ?_) AllReadyH.nil)
 obtain ⟨e0, e1, e2, z0, z1, z2⟩ := Zu (h2.get 1 rfl)
 go_simp
 have h5 := (show Env w [_, _] [] [] _ from h2.put 1 rfl (put3L (h2.get 1 rfl) (.int .i64 R.1) (.int .i64 R.2.1) (.int .i64 R.2.2)))
 refine hK.out _ _ ⟨h5.get 0 rfl, h5.below⟩ (fun hS => ?_)
 clear hK K
 try simp only [Act.put, Qz1, Qy1, Qx1]
 refine wpAnyH_done (by kernel_rfl) ?_ _
 go_wp2
 exact Zs 2 29 29 g1 _ rfl (h5.get 1 rfl) Yh Zj rfl rfl ⟨rfl, h5.below⟩
end Go.Proofs.YtljdgdphldckhaaGreat
