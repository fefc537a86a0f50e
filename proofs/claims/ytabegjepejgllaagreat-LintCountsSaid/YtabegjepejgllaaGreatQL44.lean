/-
  Texts Lint15, SynR10. No conditions but those that each theorem names.
-/
import Derived.Test.YtabegjepejgllaaGreatQL43
namespace Go.Proofs.YtabegjepejgllaaGreat
open Go Go.RowKit
set_option linter.unusedVariables false
set_option linter.unusedSimpArgs false
set_option maxRecDepth 20000
set_option maxHeartbeats 6400000
theorem lrow_fi : (Tryz.prog.underlying 26).map TypeDesc.isRow = some true := by kernel_rfl
def lCheck (f : Fi) : Fa := orF (lCards (Vk (Yl (f.cards.map Ca.name))) 0 f.cards) (lPlaces (Vk (Yl (f.places.map Pl.name))) 0 f.places)
theorem lCheck_any (f : Fi) (hc : f.cards.length ≤ 1000000) (hp : f.places.length ≤ 1000000) (w : World) (N : Nat → Prop) (vs : List Value) (h : Zi N w f.ds vs) :
   Calls Tryz.prog 33 #[.agg vs.toArray] w fun e w' => e = .returned (faV (lCheck f)) ∧ Below w.heap.size w w' := by
 obtain ⟨cards, places⟩ := f
 obtain ⟨A, ca, xs, _, rfl, n1, w1, d1, B, pb, ys, _, rfl, n2, w2, d2, rfl⟩ := h
 have hcs : Zi N w (.row cards.length (casDs cards) .nil) [.slice A cards.length ca] := ⟨A, ca, xs, [], rfl, n1, w1, d1, rfl⟩
 have hps : Zi N w (.row places.length (plsDs places) .nil) [.slice B places.length pb] := ⟨B, pb, ys, [], rfl, n2, w2, d2, rfl⟩
 have hC := fun x (hb : Below w.heap.size w x) => lListedC cards hc x N _ (hcs.below hb)
 have hP := fun x (hb : Below w.heap.size w x) => lListedP places hp x N _ (hps.below hb)
 unfold lCheck
 dsimp only at *
 generalize lCards (Vk (Yl (cards.map Ca.name))) 0 cards = F at *
 generalize lPlaces (Vk (Yl (places.map Pl.name))) 0 places = G at *
 generalize cards.length = cn at *
 generalize places.length = pn at *
 rw [← orF2]
 have hof := fun x g (hW : Zb x g 29 ([F, G].flatMap faL).toArray) => lOrF [F, G] 2 2 g x rfl (by omega) hW
 generalize Wo [F, G] = R at *
 clear hcs hps n1 n2 w1 w2 d1 d2 hc hp
 have T := Hh (Env.start w)
 go_enter Tryz.func33, Tryz.ntmps33
 go_upto_region 3 with (first
 | ((with_reducible refine Zg 1 ?_); refine wpList_boxE T.out 26 _ ([.slice A cn ca, .slice B pn pb]) rfl rfl rfl ?_; intro wa g0 tn; have T := Hh tn; clear tn)
 | ((with_reducible refine Zg 2 ?_); refine wpList_allocE T.out 29 _ rfl rfl Vs ?_; intro wb g1 tn; have T := Hh tn; clear tn))
 have h2 := T.out.drew
 refine wp_region_held_drew (S := fun x => Zb x g0 26 ([.slice A cn ca, .slice B pn pb] : List Value).toArray ∧ Below w.heap.size w x) (by kernel_rfl) ⟨h2.get 0 rfl, h2.below⟩ (fun hS => ?_)
 generalize wb.drew = wf at *
 refine Yi (i := 0) (v := .pointer (some ⟨g0, 0, none⟩)) rfl rfl (by kernel_rfl) (by kernel_rfl) (by kernel_rfl) (fun _ _ _ h => h) (Or.inl ⟨by rfl, fun y hy => by go_simp⟩) hS ?_
 try simp only [List.set_cons_zero, List.set_cons_succ]
 refine Yi (i := 1) (v := .slice A cn ca) rfl rfl (by kernel_rfl) (by kernel_rfl) (by kernel_rfl) (fun _ _ _ h => h) (Or.inl ⟨by rfl, fun y hy => by have c0 := hy.1.read 0; go_simp⟩) hS ?_
 try simp only [List.set_cons_zero, List.set_cons_succ]
 refine Yi (i := 2) (v := .func (.func 87) #[] #[]) rfl rfl (by kernel_rfl) (by kernel_rfl) (by kernel_rfl) (fun _ _ _ h => h) (yield_move rfl rfl rfl) hS ?_
 try simp only [List.set_cons_zero, List.set_cons_succ]
 refine Yi (i := 4) (v := .pointer (some ⟨g0, 1, none⟩)) rfl rfl (by kernel_rfl) (by kernel_rfl) (by kernel_rfl) (fun _ _ _ h => h) (Or.inl ⟨by rfl, fun y hy => by go_simp⟩) hS ?_
 try simp only [List.set_cons_zero, List.set_cons_succ]
 refine Yi (i := 5) (v := .slice B pn pb) rfl rfl (by kernel_rfl) (by kernel_rfl) (by kernel_rfl) (fun _ _ _ h => h) (Or.inl ⟨by rfl, fun y hy => by have c0 := hy.1.read 1; go_simp⟩) hS ?_
 try simp only [List.set_cons_zero, List.set_cons_succ]
 refine Yi (i := 6) (v := .func (.func 88) #[] #[]) rfl rfl (by kernel_rfl) (by kernel_rfl) (by kernel_rfl) (fun _ _ _ h => h) (yield_move rfl rfl rfl) hS ?_
 try simp only [List.set_cons_zero, List.set_cons_succ]
 refine wpAnyH_ready (rs := [3]) (by kernel_rfl) (by simp) (AllReadyH.cons rfl (fun K hK => ?_) AllReadyH.nil)
 go_simp
 go_at_call 90
 refine (hC _ h2.below).mono ?_
 rintro e wf ⟨rfl, bn⟩
 try simp only [faV]
 try go_wp2
 have h2 := h2.call bn
 refine hK.out _ _ ⟨h2.get 0 rfl, h2.below⟩ (fun _ => ?_)
 clear hK K bn
 try simp only [Act.put, List.setIfInBounds_toArray, List.set_cons_zero, List.set_cons_succ]
 refine wpAnyH_ready (rs := [7]) (by kernel_rfl) (by simp) (AllReadyH.cons rfl (fun K hK => ?_) AllReadyH.nil)
 go_simp
 go_at_call 91
 refine (hP _ h2.below).mono ?_
 rintro e wf ⟨rfl, bn⟩
 try simp only [faV]
 try go_wp2
 have h2 := h2.call bn
 refine hK.out _ _ ⟨h2.get 0 rfl, h2.below⟩ (fun _ => ?_)
 clear hK K bn
 try simp only [Act.put, List.setIfInBounds_toArray, List.set_cons_zero, List.set_cons_succ]
 refine wpAnyH_ready (rs := [8]) (by kernel_rfl) (by simp) (AllReadyH.cons rfl (fun K hK => ?_) AllReadyH.nil)
 go_simp
 have hWb : Zb (World.alloc wf (.cells #[.int .i64 F.1, .int .i64 F.2.1, .int .i64 F.2.2, .int .i64 G.1, .int .i64 G.2.1, .int .i64 G.2.2] 29)) wf.heap.size 29 ([F, G].flatMap faL).toArray := Zb.made _ _ _
 have hnb := Za wf (.cells #[.int .i64 F.1, .int .i64 F.2.1, .int .i64 F.2.2, .int .i64 G.1, .int .i64 G.2.1, .int .i64 G.2.2] 29)
 have h2 := h2.call hnb
 generalize World.alloc wf (.cells #[.int .i64 F.1, .int .i64 F.2.1, .int .i64 F.2.2, .int .i64 G.1, .int .i64 G.2.1, .int .i64 G.2.2] 29) = wf at *
 refine hK.out _ _ ⟨h2.get 0 rfl, h2.below⟩ (fun _ => ?_)
 clear hK K hnb
 try simp only [Act.put, List.setIfInBounds_toArray, List.set_cons_zero, List.set_cons_succ]
 refine wpAnyH_ready (rs := [9]) (by kernel_rfl) (by simp) (AllReadyH.cons rfl (fun K hK => ?_) AllReadyH.nil)
 go_simp
 go_at_call 89
 refine (hof _ _ hWb).mono ?_
 rintro e wf ⟨rfl, bn⟩
 try simp only [faV]
 try go_wp2
 have h2 := h2.call bn
 refine hK.out _ _ ⟨h2.get 0 rfl, h2.below⟩ (fun _ => ?_)
 clear hK K bn
 try simp only [Act.put, List.setIfInBounds_toArray, List.set_cons_zero, List.set_cons_succ]
 refine wpAnyH_ready (rs := [10]) (by kernel_rfl) (by simp) (AllReadyH.cons rfl (fun K hK => ?_) AllReadyH.nil)
 obtain ⟨e0, e1, e2, z0, z1, z2⟩ := Zu (h2.get 1 rfl)
 go_simp
 have h5 := (show Env w [_, _] [] [] _ from h2.put 1 rfl (put3L (h2.get 1 rfl) (.int .i64 R.1) (.int .i64 R.2.1) (.int .i64 R.2.2)))
 refine hK.out _ _ ⟨h5.get 0 rfl, h5.below⟩ (fun hS => ?_)
 clear hK K
 try simp only [Act.put, List.setIfInBounds_toArray, List.set_cons_zero, List.set_cons_succ]
 refine wpAnyH_done (by kernel_rfl) ?_ _
 go_wp2
 exact Zo 2 29 29 g1 _ rfl (h5.get 1 rfl) Yc Zj rfl rfl ⟨rfl, h5.below⟩
end Go.Proofs.YtabegjepejgllaaGreat
namespace Go.Proofs.YtabegjepejgllaaGreat
open Go.ChangeShapes Go.WideShapes Go.ChangeAt Go.RowKit
set_option linter.unusedVariables false
set_option linter.unusedSimpArgs false
theorem RPv.up {r K : Nat} {L : List TokV} {st : St} {A : Option Addr} {n k a d : Nat} {f0 : Int} {f1 f2 : Nat} (h : RPv r K L st [.slice A n k, .int .i64 (a : Int), .int .i64 (d : Int), .int .i64 f0, .int .i64 (f1 : Int), .int .i64 (f2 : Int)]) :
   RPv r K L (upS st) [.slice A n k, .int .i64 (a : Int), .int .i64 ((d - 1 : Nat) : Int), .int .i64 f0, .int .i64 (f1 : Int), .int .i64 (f2 : Int)] := by
 obtain ⟨A', n', k', a', d', e, hd, hk⟩ := h.form
 have hF : fltS (upS st) = fltS st := by cases st <;> rfl
 injection e with e1 e
 injection e with e2 e
 injection e with e3 e
 injection e with e4 e
 injection e with e5 e
 injection e with e6 e
 injection e1 with e1 e1' e1''
 injection e2 with _ e2
 injection e3 with _ e3
 have e2' : a = a' := by omega
 have e3' : d = d' := by omega
 subst e1 e1' e1'' e2' e3'
 refine ⟨⟨A, n, k, a, d - 1, ?_, by omega, ?_⟩, ?_⟩
 · rw [hF, ← e4, ← e5, ← e6]
 · intro a1 d1 e
   cases st with
   | bad F => cases e
   | ok b c =>
     cases e
     obtain ⟨h1, h2, h3, h4, h5, h6⟩ := hk _ c rfl
     exact ⟨h1, h2, h3, h4, by rw [h5], h6⟩
 · intro F e
   cases st with
   | ok b c => cases e
   | bad G => cases e; exact h.flt _ rfl
end Go.Proofs.YtabegjepejgllaaGreat
