/-
  Texts UnpB2. No conditions but those that each theorem names.
-/
import Derived.Test.YtljdgdphldckhaaGreatQB46
import Derived.Test.YtljdgdphldckhaaGreatQB47
namespace Go.Proofs.YtljdgdphldckhaaGreat
open Go.Great Go.ChangeShapes Go.WideShapes Go.ChangeAt Go.RowKit
set_option linter.unusedVariables false
set_option linter.unusedSimpArgs false
theorem lFi_len {f : Fi} (hv : VFi f) : (lFi f).length ≤ lenFi f := by
 have e := fileT_is hv
 have h1 := lnS_len kPl f.places (f.cards.foldl (lineS kCa) ([], false))
 have h2 := lnS_len kCa f.cards ([], false)
 have e1 : (fileT ([], false) f).1 = lFi f := by rw [e]
 rw [← e1]
 unfold fileT lenFi
 unfold lnLen at h1 h2
 simp only [List.length_nil] at h2
 omega
structure BackOK (f g : Fi) : Prop where
 vf : VFi f
 vg : VFi g
 lf : lenFi f ≤ 10000000000
 lg : lenFi g ≤ 10000000000
 size : (strOfNums (lFi f)).size ≤ 65536
 parse : parseF 5 (strOfNums (lFi f)) = (g, okF)
 sim : FiSim false f g
 text : lFi g = lFi f
theorem back_of {s : ByteArray} (hs : s.size ≤ 4000) {f : Fi} {F : Int × Nat × Nat} (hp : parseF 5 s = (f, F)) : ∃ g, BackOK f g := by
 have h1 := parse_val 5 s (by omega)
 have h2 := parse_len 5 s (by omega)
 rw [hp] at h1 h2
 dsimp only at h1 h2
 have h3 := lFi_len h1
 have hz : (strOfNums (lFi f)).size ≤ 65536 := by rw [strOfNums_size]; omega
 obtain ⟨g, e, sim⟩ := parse_text h1 hz 5
 have h4 := parse_val 5 (strOfNums (lFi f)) hz
 have h5 := parse_len 5 (strOfNums (lFi f)) hz
 rw [e] at h4 h5
 dsimp only at h4 h5
 exact ⟨g, h1, h4, by omega, by omega, hz, e, sim, (lFi_sim sim).symm⟩
def l12T : ByteArray := ⟨#[49, 32, 45, 32, 40, 50, 32, 45, 32, 51, 41, 32, 42, 32, 40, 52, 41]⟩
def l12E : Ex := .bin 2 (.leaf 1 1 zSe 0 0 0) (.bin 3 (.bin 2 (.leaf 1 2 zSe 0 0 0) (.leaf 1 3 zSe 0 0 0)) (.leaf 1 4 zSe 0 0 0))
theorem l12_is : exprP 5 l12T = (l12E, okF) := by kernel_rfl
theorem l12_text : strOfNums (Zl ([], false) (kEx l12E)).1 = ⟨#[49, 32, 45, 32, 40, 50, 32, 45, 32, 51, 41, 32, 42, 32, 52]⟩ := by kernel_rfl
theorem l12_leaf (n : Int) (h1 : -99 ≤ n) (h2 : n ≤ 99) : VEx (.leaf 1 n zSe 0 0 0) := .inl ⟨rfl, ⟨h1, h2⟩, rfl, rfl, rfl, rfl⟩
theorem l12_val : VEx l12E := ⟨by decide, l12_leaf 1 (by decide) (by decide), by decide, ⟨by decide, l12_leaf 2 (by decide) (by decide), l12_leaf 3 (by decide) (by decide)⟩, l12_leaf 4 (by decide) (by decide)⟩
theorem tExE (w : World) (N : Nat → Prop) (vs : List Value) (hd : Zg N w l12E.ds vs) :
   Calls Tryz.prog 25 #[.agg vs.toArray] w fun e y => e = .returned (.string ⟨#[49, 32, 45, 32, 40, 50, 32, 45, 32, 51, 41, 32, 42, 32, 52]⟩) ∧ Below w.heap.size w y := by
 have h := topExpr w vs hd.len (kEx l12E) (fun x hb => pEx x N l12E l12_val vs (hd.below hb)) (by unfold Ye; decide +kernel) (by decide +kernel)
 rw [l12_text] at h
 exact h
theorem whole12B {w : World} {g : Nat} {t : TypeId} {a0 a1 a2 a3 a4 a5 a6 a7 a8 a9 a10 a11 : Value} (W : Za w g t [a0, a1, a2, a3, a4, a5, a6, a7, a8, a9, a10, a11].toArray) :
   w.cell? ⟨g, 0, none⟩ = some a0 ∧ w.cell? ⟨g, 1, none⟩ = some a1 ∧ w.cell? ⟨g, 2, none⟩ = some a2 ∧ w.cell? ⟨g, 3, none⟩ = some a3 ∧ w.cell? ⟨g, 4, none⟩ = some a4 ∧ w.cell? ⟨g, 5, none⟩ = some a5 ∧ w.cell? ⟨g, 6, none⟩ = some a6 ∧ w.cell? ⟨g, 7, none⟩ = some a7 ∧ w.cell? ⟨g, 8, none⟩ = some a8 ∧ w.cell? ⟨g, 9, none⟩ = some a9 ∧ w.cell? ⟨g, 10, none⟩ = some a10 ∧ w.cell? ⟨g, 11, none⟩ = some a11 :=
 ⟨W.read 0, W.read 1, W.read 2, W.read 3, W.read 4, W.read 5, W.read 6, W.read 7, W.read 8, W.read 9, W.read 10, W.read 11⟩
theorem z_exB : (Tryz.prog.info? 51).map (fun i => i.zero.map Value.cells) = some (some ([.int .i64 0, .int .i64 0, .int .i64 0, .int .i64 0, .int .i64 0, .int .i64 0, .slice none 0 0, .int .i64 0, .int .i64 0, .int .i64 0, .int .i64 0, .slice none 0 0] : List Value).toArray) := by kernel_rfl
theorem z_faB : (Tryz.prog.info? 29).map (fun i => i.zero.map Value.cells) = some (some ([.int .i64 0, .int .i64 0, .int .i64 0] : List Value).toArray) := by kernel_rfl
theorem s_faB : (Tryz.prog.info? 29).map (·.size) = some 3 := by kernel_rfl
set_option maxRecDepth 20000 in
set_option maxHeartbeats 3200000 in
theorem lives12 (w : World) : Calls Tryz.prog 11 #[] w fun e w' => e = .returned (.bool true) ∧ Below w.heap.size w w' := by
 have hx : ∀ x, Calls Tryz.prog 44 #[.string ⟨#[49, 32, 45, 32, 40, 50, 32, 45, 32, 51, 41, 32, 42, 32, 40, 52, 41]⟩] x (fun e w' => ∃ v0 v1 v2 v3 v4 v5 v6 v7 v8 v9 v10 v11 : Value, e = .returned (.tuple #[.agg #[v0, v1, v2, v3, v4, v5, v6, v7, v8, v9, v10, v11], .agg #[.int .i64 0, .int .i64 0, .int .i64 0]]) ∧
     Hid (∀ v ∈ [v0, v1, v2, v3, v4, v5, v6, v7, v8, v9, v10, v11], v.oneCell' = true) ∧ Zg (fun k => x.heap.size ≤ k) w' l12E.ds [v0, v1, v2, v3, v4, v5, v6, v7, v8, v9, v10, v11] ∧ Below x.heap.size x w') := fun x => by
   have h := xExpr l12T x (by decide)
   rw [l12_is] at h
   refine h.mono ?_
   rintro e y ⟨vs, rfl, d, b⟩
   obtain ⟨v0, v1, v2, v3, v4, v5, v6, v7, v8, v9, v10, v11, rfl⟩ := twelve vs d.len
   exact ⟨v0, v1, v2, v3, v4, v5, v6, v7, v8, v9, v10, v11, rfl, Hh d.one, d, b⟩
 have T := Hh (Env.start w)
 go_enter Tryz.func11, Tryz.ntmps11
 go_wp2_with (first
 | (go_at_call 44; refine (hx _).mono ?_; rintro e wn ⟨v0, v1, v2, v3, v4, v5, v6, v7, v8, v9, v10, v11, rfl, ho, d, bn⟩; have T := Hh (T.out.tree bn d); clear bn d)
 | ((with_reducible refine Zi 1 ?_); refine Wu T.out 51 ([.int .i64 0, .int .i64 0, .int .i64 0, .int .i64 0, .int .i64 0, .int .i64 0, .slice none 0 0, .int .i64 0, .int .i64 0, .int .i64 0, .int .i64 0, .slice none 0 0]) rfl rfl z_exB ?_; intro wn g1 tn; have T := Hh tn; clear tn)
 | ((with_reducible refine Zi 2 ?_); refine Wu T.out 29 ([.int .i64 0, .int .i64 0, .int .i64 0]) rfl rfl z_faB ?_; intro wn g2 tn; have T := Hh tn; clear tn)
 | ((with_reducible refine Zu 1 5 ?_); refine Ze 51 _ _ 51 g1 _ ([v0, v1, v2, v3, v4, v5, v6, v7, v8, v9, v10, v11]) (T.out.get 0 rfl) rfl Xb ho.out rfl rfl rfl rfl rfl ?_; intro wn p; have T := Hh (T.out.put 0 rfl p); clear p)
 | ((with_reducible refine Zu 2 6 ?_); refine Ze 29 _ _ 29 g2 _ ([.int .i64 0, .int .i64 0, .int .i64 0]) (T.out.get 1 rfl) rfl s_faB (by simp [Value.oneCell']) rfl rfl rfl rfl rfl ?_; intro wn p; have T := Hh (T.out.put 1 rfl p); clear p; have c1_0 : wn.cell? ⟨g2, 0, none⟩ = some (.int .i64 0) := (T.out.get 1 rfl).read 0; obtain ⟨c0, c1, c2, c3, c4, c5, c6, c7, c8, c9, c10, c11⟩ := whole12B (T.out.get 0 rfl))
 | (go_at_call 25; refine (tExE _ _ _ (T.out.leaf 0 rfl)).mono ?_; rintro e wn ⟨rfl, bn⟩; have T := Hh (T.out.call bn); clear bn))
 go_ret
 exact ⟨rfl, T.out.below⟩
end Go.Proofs.YtljdgdphldckhaaGreat
