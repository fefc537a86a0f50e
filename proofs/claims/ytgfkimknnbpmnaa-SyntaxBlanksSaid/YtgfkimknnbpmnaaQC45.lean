/-
  Texts SynR20, SynL1, SynR22, SynN6, SynN7. No conditions but those that each theorem names.
-/
import Derived.Test.YtgfkimknnbpmnaaQC44
namespace Go.Proofs.Ytgfkimknnbpmnaa
open Go.ChangeShapes Go.WideShapes Go.ChangeAt Go.RowKit
set_option linter.unusedVariables false
set_option linter.unusedSimpArgs false
def toksDs : List TokV → Ds
 | [] => .nil
 | v :: l => .int v.k (.str v.t (.int v.n (.int (v.line : Int) (.int (v.col : Int) (toksDs l)))))
theorem toks_deep (N : Nat → Prop) (w : World) : ∀ L : List TokV, Ze N w (toksDs L) (Wx L)
 | [] => rfl
 | v :: l => ⟨_, rfl, _, rfl, _, rfl, _, rfl, _, rfl, toks_deep N w l⟩
theorem toks_only {N : Nat → Prop} {w : World} : ∀ {L : List TokV} {xs : List Value}, Ze N w (toksDs L) xs → xs = Wx L
 | [], xs, h => h
 | v :: l, xs, ⟨t1, e1, t2, e2, t3, e3, t4, e4, t5, e5, h⟩ => by
   have := toks_only h
   subst this e5 e4 e3 e2 e1
   rfl
def livesT : ByteArray := ⟨#[112, 111, 119, 101, 114, 32, 109, 101, 32, 45, 50, 59]⟩
def livesA : Acs := .cons { AH.zero 1 1 1 with sel := ⟨1, 0, 0, 0, [], 0⟩, num := .leaf 1 (-2) zSe 0 0 0 } .nil .nil .nil
theorem lives_is : actsP 5 livesT = (livesA, okF) := by kernel_rfl
theorem cell_range {w : World} {g k : Nat} {ys : List Value} (h : w.rangeAt g k ys) (j : Nat) {v : Value} (hv : ys[j]? = some v) : w.cell? ⟨g, k + j, none⟩ = some v := h j v hv
theorem lives_row {N : Nat → Prop} {w : World} {v : Value} (h : Ze N w (.row livesA.len livesA.ds .nil) [v]) : ∃ g c, v = .slice (some ⟨g, 0, none⟩) 1 c ∧ g < w.heap.size ∧
   w.cell? ⟨g, 0, none⟩ = some (.int .i64 1) ∧ w.cell? ⟨g, 3, none⟩ = some (.int .i64 1) ∧ w.cell? ⟨g, 9, none⟩ = some (.int .i64 1) ∧ w.cell? ⟨g, 10, none⟩ = some (.int .i64 (-2)) := by
 obtain ⟨A, c, xs, rfl, _, hw, hd⟩ := h.inRow
 obtain ⟨g, ys, rfl, hg, hr, hy⟩ := act_at hw hd (k := 0) rfl
 obtain ⟨sel, num, cl, cr, thn, els, rfl, h1, h2, _⟩ := act_of hy
 obtain ⟨_, rfl, _, rfl, _, rfl, _, rfl, B, d, zs, _, rfl, _, _, _, _, rfl, hnil⟩ := h1
 obtain ⟨_, rfl, _, rfl, _⟩ := h2
 cases hnil
 rw [Nat.zero_mul] at hr
 exact ⟨g, c, rfl, hg, cell_range (k := 0) hr 0 rfl, cell_range (k := 0) hr 3 rfl, cell_range (k := 0) hr 9 rfl, cell_range (k := 0) hr 10 rfl⟩
set_option maxRecDepth 20000 in
set_option maxHeartbeats 3200000 in
theorem lives_any (w : World) : Calls Try.prog 4 #[] w fun e w' => e = .returned (.bool true) ∧ Below w.heap.size w w' := by
 have T0 := Hh (Env.start w)
 have hac : ∀ x, Calls Try.prog 8 #[.string ⟨#[112, 111, 119, 101, 114, 32, 109, 101, 32, 45, 50, 59]⟩] x (fun e w' => ∃ v : Value, e = .returned (.tuple #[v, .agg #[.int .i64 0, .int .i64 0, .int .i64 0]]) ∧ Ze (fun k => x.heap.size ≤ k) w' (.row livesA.len livesA.ds .nil) [v] ∧ Below x.heap.size x w') := fun x => by
   have h := xActs livesT x (by decide)
   rw [lives_is] at h
   exact h
 go_enter Try.func4, Try.ntmps4
 go_wp2_with (first
 | (go_at_call 8; refine (hac _).mono ?_; rintro e w1 ⟨v1, rfl, d1, b1⟩
    have T1 := Hh (T0.out.tree b1 d1)
    clear d1
    clear b1)
 | ((with_reducible refine Ye 2 ?_); refine Xr T1.out 26 _ rfl rfl z_F ?_; intro w2 g0 t2
    have T2 := Hh (t2)
    clear t2)
 | ((with_reducible refine Zq 2 6 ?_); refine Zf 26 _ _ 26 g0 _ ([.int .i64 0, .int .i64 0, .int .i64 0]) (T2.out.get 0 rfl) rfl Xl (by simp [Value.oneCell']) rfl rfl rfl rfl rfl ?_
    intro w3 p3
    have T3 : Hid (Env w [(g0, 26, [.int .i64 0, .int .i64 0, .int .i64 0])] [] [(.row livesA.len livesA.ds .nil, [v1])] w3) := Hh (T2.out.put 0 rfl p3)
    obtain ⟨g, c, rfl, hg, c0, c3, c9, c10⟩ := lives_row (T3.out.leaf 0 rfl)
    obtain ⟨f0, f1, f2, _⟩ := Yj (T3.out.get 0 rfl)
    clear p3))
 go_ret
 exact ⟨rfl, T3.out.below⟩
end Go.Proofs.Ytgfkimknnbpmnaa
namespace Go.Proofs.Ytgfkimknnbpmnaa
open Go Go.RowKit
set_option linter.unusedSimpArgs false
set_option linter.unusedVariables false
section
variable {w x y : World} {bs : List Bk} {ts : List (Ds × List Value)} {ra rb : Rw} {v' : Value} {news : List Value}
end
end Go.Proofs.Ytgfkimknnbpmnaa
namespace Go.Proofs.Ytgfkimknnbpmnaa
open Go
set_option linter.unusedSimpArgs false
set_option linter.unusedVariables false
def RuSim (pl : Bool) (x y : Ru) : Prop := x.when_ = y.when_ ∧ x.stratum = y.stratum ∧ (pl = true → x.line = y.line ∧ x.col = y.col) ∧ Vu pl x.acts y.acts
def RusSim (pl : Bool) : List Ru → List Ru → Prop
 | [], [] => True
 | x :: l, y :: m => RuSim pl x y ∧ RusSim pl l m
 | _, _ => False
def CaSim (pl : Bool) (x y : Ca) : Prop := x.name = y.name ∧ x.cost = y.cost ∧ x.power = y.power ∧ (pl = true → x.line = y.line ∧ x.col = y.col) ∧ RusSim pl x.rules y.rules
def PlSim (pl : Bool) (x y : Pl) : Prop := x.name = y.name ∧ (pl = true → x.line = y.line ∧ x.col = y.col) ∧ RusSim pl x.rules y.rules
def CasSim (pl : Bool) : List Ca → List Ca → Prop
 | [], [] => True
 | x :: l, y :: m => CaSim pl x y ∧ CasSim pl l m
 | _, _ => False
def PlsSim (pl : Bool) : List Pl → List Pl → Prop
 | [], [] => True
 | x :: l, y :: m => PlSim pl x y ∧ PlsSim pl l m
 | _, _ => False
def FiSim (pl : Bool) (x y : Fi) : Prop := CasSim pl x.cards y.cards ∧ PlsSim pl x.places y.places
theorem good_rules {nk : Int} {L : List TokV} : ∀ {n : Nat} {s : St}, (Wa nk L n s).2.good = true → s.good = true
 | _, .ok a d, _ => rfl
 | 0, .bad F, h => h
 | n + 1, .bad F, h => by
   have h2 : Zl L Wd (.bad F) = 0 := rfl
   rw [Wa, if_pos h2] at h
   exact h
theorem good_file {nk : Int} {L : List TokV} : ∀ {n : Nat} {s : St}, (Xt nk L n s).2.good = true → s.good = true
 | _, .ok a d, _ => rfl
 | 0, .bad F, h => h
 | n + 1, .bad F, h => by
   have h2 : Zl L Wh (.bad F) = 0 := rfl
   rw [Xt, if_pos h2] at h
   exact h
section
variable {pl : Bool} {L M : List TokV} (h : RowSim pl L M) (a b : Int)
include h
theorem place_sim : ∀ {s s' : St}, Yf pl s s' → (pl = true → ((s.tok L).line : Int) = ((s'.tok M).line : Int) ∧ ((s.tok L).col : Int) = ((s'.tok M).col : Int))
 | .ok x d, .ok y e, ⟨h1, h2⟩, hp => by
   subst h1
   obtain ⟨u, v⟩ := (h.tok x).2.2.2 hp
   exact ⟨by show ((Zz L x).line : Int) = ((Zz M x).line : Int); rw [u], by show ((Zz L x).col : Int) = ((Zz M x).col : Int); rw [v]⟩
 | .bad F, .bad G, _, _ => ⟨rfl, rfl⟩
theorem str_sim (k : Nat) {s s' : St} (hs : Yf pl s s') : Yf pl (strS L k s) (strS M k s') ∧ strN L k s = strN M k s' := by
 unfold strS strN
 split
 · exact intS_sim h hs
 · exact ⟨hs, rfl⟩
theorem rules_sim : ∀ (n : Nat) {s s' : St}, Yf pl s s' → Yf pl (Wa a L n s).2 (Wa b M n s').2 ∧ ((Wa a L n s).2.good = true → RusSim pl (Wa a L n s).1 (Wa b M n s').1)
 | 0, s, s', hs => ⟨hs, fun _ => trivial⟩
 | n + 1, s, s', hs => by
   rw [Wa, Wa, ← Yt h Wd hs]
   split
   · exact ⟨hs, fun _ => trivial⟩
   · have h1 := str_sim h (Zl L Wd s) (Up h Wd hs)
     have h2 := (acts_sim h a b n).1 (Vj h Xv h1.1)
     have h3 := rules_sim n (Vj h Xw h2.1)
     refine ⟨h3.1, fun hg => ⟨⟨rfl, h1.2, place_sim h hs, h2.2 (good_want (good_rules hg))⟩, h3.2 hg⟩⟩
theorem body_sim (n : Nat) {s s' : St} (hs : Yf pl s s') : Yf pl (Vy a L n s).2 (Vy b M n s').2 ∧ ((Vy a L n s).2.good = true → RusSim pl (Vy a L n s).1 (Vy b M n s').1) := by
 have h1 := rules_sim h a b n (Vj h Xv hs)
 exact ⟨Vj h Xw h1.1, fun hg => h1.2 (good_want hg)⟩
theorem card_sim (n : Nat) {l l' c c' : Int} (hp : pl = true → l = l' ∧ c = c') {s s' : St} (hs : Yf pl s s') : Yf pl (Vd a L n l c s).2 (Vd b M n l' c' s').2 ∧ ((Vd a L n l c s).2.good = true → CaSim pl (Vd a L n l c s).1 (Vd b M n l' c' s').1) := by
 have h1 := nameS_sim h hs
 have h2 := intS_sim h (Vj h sCost h1.1)
 have h3 := signS_sim h (Vj h sPower h2.1)
 have h4 := body_sim h a b n h3.1
 exact ⟨h4.1, fun hg => ⟨h1.2, h2.2, h3.2, hp, h4.2 hg⟩⟩
theorem pl_sim (n : Nat) {l l' c c' : Int} (hp : pl = true → l = l' ∧ c = c') {s s' : St} (hs : Yf pl s s') : Yf pl (Wb a L n l c s).2 (Wb b M n l' c' s').2 ∧ ((Wb a L n l c s).2.good = true → PlSim pl (Wb a L n l c s).1 (Wb b M n l' c' s').1) := by
 have h1 := nameS_sim h hs
 have h4 := body_sim h a b n h1.1
 exact ⟨h4.1, fun hg => ⟨h1.2, hp, h4.2 hg⟩⟩
theorem file_sim : ∀ (n : Nat) {s s' : St}, Yf pl s s' → Yf pl (Xt a L n s).2 (Xt b M n s').2 ∧ ((Xt a L n s).2.good = true → FiSim pl (Xt a L n s).1 (Xt b M n s').1)
 | 0, s, s', hs => ⟨hs, fun _ => ⟨trivial, trivial⟩⟩
 | n + 1, s, s', hs => by
   rw [Xt, Xt, ← Yt h Wh hs]
   split
   · exact ⟨hs, fun _ => ⟨trivial, trivial⟩⟩
   · split
     · have h1 := card_sim h a b n (place_sim h hs) (Up h Wh hs)
       have h2 := file_sim n h1.1
       exact ⟨h2.1, fun hg => ⟨⟨h1.2 (good_file hg), (h2.2 hg).1⟩, (h2.2 hg).2⟩⟩
     · have h1 := pl_sim h a b n (place_sim h hs) (Up h Wh hs)
       have h2 := file_sim n h1.1
       exact ⟨h2.1, fun hg => ⟨(h2.2 hg).1, ⟨h1.2 (good_file hg), (h2.2 hg).2⟩⟩⟩
end
end Go.Proofs.Ytgfkimknnbpmnaa
