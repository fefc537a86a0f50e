/-
  Texts UnparseBack. No conditions but those that each theorem names.
-/
import Derived.Test.YtljdgdphldckhaaGreatQB48
import Derived.Test.YtljdgdphldckhaaGreatQB51
namespace Go.Proofs.YtljdgdphldckhaaGreat
open Go.Great Go.ChangeShapes Go.WideShapes Go.ChangeAt Go.RowKit
set_option linter.unusedVariables false
set_option linter.unusedSimpArgs false
theorem z_fiB : (Tryz.prog.info? 26).map (fun i => i.zero.map Value.cells) = some (some ([.slice none 0 0, .slice none 0 0] : List Value).toArray) := by kernel_rfl
set_option maxRecDepth 20000 in
set_option maxHeartbeats 6400000 in
theorem walk_UnparseBack (s : ByteArray) (w : World) (hs : s.size ≤ maxLen) : Calls Tryz.prog 6 #[.string s] w fun e w' => e = .returned (.bool true) ∧ Below w.heap.size w w' := by
 unfold maxLen at hs
 have T := Hh (Env.start w)
 by_cases hle : 4000 < s.size
 · go_enter Tryz.func6, Tryz.ntmps6
   go_wp2_with (go_at_call 11; refine (lives12 _).mono ?_; rintro e wn ⟨rfl, bn⟩; have T := Hh (T.out.call bn); clear bn)
   go_ret
   exact ⟨rfl, T.out.below⟩
 · have hle' : s.size ≤ 4000 := by omega
   obtain ⟨f, E, F1, F2, hp⟩ : ∃ (f : Fi) (E : Int) (F1 F2 : Nat), parseF 5 s = (f, E, F1, F2) := ⟨_, _, _, _, rfl⟩
   have hP1 : ∀ x, Calls Tryz.prog 30 #[.string s] x (fun e w' => ∃ v0 v1 : Value, e = .returned (.tuple #[.agg ([v0, v1] : List Value).toArray, .agg ([.int .i64 E, .int .i64 (F1 : Int), .int .i64 (F2 : Int)] : List Value).toArray]) ∧ Hid (∀ v ∈ [v0, v1], v.oneCell' = true) ∧ Zg (fun k => x.heap.size ≤ k) w' f.ds [v0, v1] ∧ Below x.heap.size x w') := fun x => by
     have h := xParse s x (by omega)
     rw [hp] at h
     refine h.mono ?_
     rintro e y ⟨vs, rfl, d, b⟩
     obtain ⟨v0, v1, rfl⟩ := two_vals vs d.len
     exact ⟨v0, v1, rfl, Hh d.one, d, b⟩
   by_cases hE : E = 0
   · obtain ⟨g, hB⟩ := back_of hle' hp
     have hT1 : ∀ x (vs : List Value), Below w.heap.size w x → Zg (fun k => w.heap.size ≤ k) x f.ds vs → Calls Tryz.prog 17 #[.agg vs.toArray] x (fun e y => e = .returned (.string (strOfNums (lFi f))) ∧ Below x.heap.size x y) := fun x vs _ d => tFile x _ f hB.vf vs d hB.lf
     have hT2 : ∀ x (vs : List Value), Below w.heap.size w x → Zg (fun k => w.heap.size ≤ k) x g.ds vs → Calls Tryz.prog 17 #[.agg vs.toArray] x (fun e y => e = .returned (.string (strOfNums (lFi f))) ∧ Below x.heap.size x y) := fun x vs _ d => by
       have h := tFile x _ g hB.vg vs d hB.lg
       rw [hB.text] at h
       exact h
     have hP2 : ∀ x, Calls Tryz.prog 30 #[.string (strOfNums (lFi f))] x (fun e w' => ∃ v0 v1 : Value, e = .returned (.tuple #[.agg ([v0, v1] : List Value).toArray, .agg ([.int .i64 0, .int .i64 0, .int .i64 0] : List Value).toArray]) ∧ Hid (∀ v ∈ [v0, v1], v.oneCell' = true) ∧ Zg (fun k => x.heap.size ≤ k) w' g.ds [v0, v1] ∧ Below x.heap.size x w') := fun x => by
       have h := xParse _ x hB.size
       rw [hB.parse] at h
       refine h.mono ?_
       rintro e y ⟨vs, rfl, d, b⟩
       obtain ⟨v0, v1, rfl⟩ := two_vals vs d.len
       exact ⟨v0, v1, rfl, Hh d.one, d, b⟩
     have hS := fun (x : World) (N M : Nat → Prop) (vs us : List Value) (d1 : Zg N x f.ds vs) (d2 : Zg M x g.ds us) => sSame false f g x N M vs us hB.sim d1 d2
     clear hp hB
     subst hE
     generalize strOfNums (lFi f) = t at *
     have htt : (t.toList == t.toList) = true := by simp
     have hP1 := Hh hP1
     go_enter Tryz.func6, Tryz.ntmps6
     go_wp2_with (first
 | (go_at_call 30; (with_reducible refine (hP1.out _).mono ?_); rintro e wn ⟨v0, v1, rfl, ho, d, bn⟩; have T := Hh (T.out.tree bn d); clear bn d)
 | ((with_reducible refine Zi 3 ?_); refine Wu T.out 26 ([.slice none 0 0, .slice none 0 0]) rfl rfl z_fiB ?_; intro wn g3 tn; have T := Hh tn; clear tn)
 | ((with_reducible refine Zi 4 ?_); refine Wu T.out 29 ([.int .i64 0, .int .i64 0, .int .i64 0]) rfl rfl z_faB ?_; intro wn g4 tn; have T := Hh tn; clear tn)
 | ((with_reducible refine Zu 3 15 ?_); refine Ze 26 _ _ 26 g3 _ ([v0, v1]) (T.out.get 0 rfl) rfl qsize_fi ho.out rfl rfl rfl rfl rfl ?_; intro wn p; have T := Hh (T.out.put 0 rfl p); clear p)
 | ((with_reducible refine Zu 4 16 ?_); refine Ze 29 _ _ 29 g4 _ ([.int .i64 0, .int .i64 F1, .int .i64 F2]) (T.out.get 1 rfl) rfl s_faB (by simp [Value.oneCell']) rfl rfl rfl rfl rfl ?_; intro wn p; have T := Hh (T.out.put 1 rfl p); clear p; have c0_0 : wn.cell? ⟨g3, 0, none⟩ = some v0 := (T.out.get 0 rfl).read 0; have c0_1 : wn.cell? ⟨g3, 1, none⟩ = some v1 := (T.out.get 0 rfl).read 1; have c1_0 : wn.cell? ⟨g4, 0, none⟩ = some (.int .i64 0) := (T.out.get 1 rfl).read 0)
 | (go_at_call 17; (with_reducible refine (hT1 _ _ T.out.below (T.out.leaf 0 rfl)).mono ?_); rintro e wn ⟨rfl, bn⟩; have T := Hh (T.out.call bn); clear bn; have c0_0 : wn.cell? ⟨g3, 0, none⟩ = some v0 := (T.out.get 0 rfl).read 0; have c0_1 : wn.cell? ⟨g3, 1, none⟩ = some v1 := (T.out.get 0 rfl).read 1; have c1_0 : wn.cell? ⟨g4, 0, none⟩ = some (.int .i64 0) := (T.out.get 1 rfl).read 0)
 | (go_at_call 30; (with_reducible refine (hP2 _).mono ?_); rintro e wn ⟨u0, u1, rfl, ho2, d, bn⟩; have T := Hh (T.out.tree bn d); clear bn d)
 | ((with_reducible refine Zi 6 ?_); refine Wu T.out 26 ([.slice none 0 0, .slice none 0 0]) rfl rfl z_fiB ?_; intro wn g6 tn; have T := Hh tn; clear tn)
 | ((with_reducible refine Zi 7 ?_); refine Wu T.out 29 ([.int .i64 0, .int .i64 0, .int .i64 0]) rfl rfl z_faB ?_; intro wn g7 tn; have T := Hh tn; clear tn)
 | ((with_reducible refine Zu 6 26 ?_); refine Ze 26 _ _ 26 g6 _ ([u0, u1]) (T.out.get 2 rfl) rfl qsize_fi ho2.out rfl rfl rfl rfl rfl ?_; intro wn p; have T := Hh (T.out.put 2 rfl p); clear p)
 | ((with_reducible refine Zu 7 27 ?_); refine Ze 29 _ _ 29 g7 _ ([.int .i64 0, .int .i64 0, .int .i64 0]) (T.out.get 3 rfl) rfl s_faB (by simp [Value.oneCell']) rfl rfl rfl rfl rfl ?_; intro wn p; have T := Hh (T.out.put 3 rfl p); clear p; have c0_0 : wn.cell? ⟨g3, 0, none⟩ = some v0 := (T.out.get 0 rfl).read 0; have c0_1 : wn.cell? ⟨g3, 1, none⟩ = some v1 := (T.out.get 0 rfl).read 1; have c1_0 : wn.cell? ⟨g4, 0, none⟩ = some (.int .i64 0) := (T.out.get 1 rfl).read 0; have c2_0 : wn.cell? ⟨g6, 0, none⟩ = some u0 := (T.out.get 2 rfl).read 0; have c2_1 : wn.cell? ⟨g6, 1, none⟩ = some u1 := (T.out.get 2 rfl).read 1; have c3_0 : wn.cell? ⟨g7, 0, none⟩ = some (.int .i64 0) := (T.out.get 3 rfl).read 0)
 | (go_at_call 28; (with_reducible refine (hS _ _ _ _ _ (T.out.leaf 0 rfl) (T.out.leaf 1 rfl)).mono ?_); rintro e wn ⟨rfl, bn⟩; have T := Hh (T.out.call bn); clear bn; have c0_0 : wn.cell? ⟨g3, 0, none⟩ = some v0 := (T.out.get 0 rfl).read 0; have c0_1 : wn.cell? ⟨g3, 1, none⟩ = some v1 := (T.out.get 0 rfl).read 1; have c1_0 : wn.cell? ⟨g4, 0, none⟩ = some (.int .i64 0) := (T.out.get 1 rfl).read 0; have c2_0 : wn.cell? ⟨g6, 0, none⟩ = some u0 := (T.out.get 2 rfl).read 0; have c2_1 : wn.cell? ⟨g6, 1, none⟩ = some u1 := (T.out.get 2 rfl).read 1; have c3_0 : wn.cell? ⟨g7, 0, none⟩ = some (.int .i64 0) := (T.out.get 3 rfl).read 0)
 | (go_at_call 17; (with_reducible refine (hT2 _ _ T.out.below (T.out.leaf 1 rfl)).mono ?_); rintro e wn ⟨rfl, bn⟩; have T := Hh (T.out.call bn); clear bn)
 | (go_at_call 11; refine (lives12 _).mono ?_; rintro e wn ⟨rfl, bn⟩; have T := Hh (T.out.call bn); clear bn))
     go_ret
     exact ⟨rfl, T.out.below⟩
   · have bE : (E != 0) = true := by simpa using hE
     clear hp
     go_enter Tryz.func6, Tryz.ntmps6
     go_wp2_with (first
 | (go_at_call 30; (with_reducible refine (hP1 _).mono ?_); rintro e wn ⟨v0, v1, rfl, ho, d, bn⟩; have T := Hh (T.out.tree bn d); clear bn d)
 | ((with_reducible refine Zi 3 ?_); refine Wu T.out 26 ([.slice none 0 0, .slice none 0 0]) rfl rfl z_fiB ?_; intro wn g3 tn; have T := Hh tn; clear tn)
 | ((with_reducible refine Zi 4 ?_); refine Wu T.out 29 ([.int .i64 0, .int .i64 0, .int .i64 0]) rfl rfl z_faB ?_; intro wn g4 tn; have T := Hh tn; clear tn)
 | ((with_reducible refine Zu 3 15 ?_); refine Ze 26 _ _ 26 g3 _ ([v0, v1]) (T.out.get 0 rfl) rfl qsize_fi ho.out rfl rfl rfl rfl rfl ?_; intro wn p; have T := Hh (T.out.put 0 rfl p); clear p)
 | ((with_reducible refine Zu 4 16 ?_); refine Ze 29 _ _ 29 g4 _ ([.int .i64 E, .int .i64 F1, .int .i64 F2]) (T.out.get 1 rfl) rfl s_faB (by simp [Value.oneCell']) rfl rfl rfl rfl rfl ?_; intro wn p; have T := Hh (T.out.put 1 rfl p); clear p; have c0_0 : wn.cell? ⟨g3, 0, none⟩ = some v0 := (T.out.get 0 rfl).read 0; have c0_1 : wn.cell? ⟨g3, 1, none⟩ = some v1 := (T.out.get 0 rfl).read 1; have c1_0 : wn.cell? ⟨g4, 0, none⟩ = some (.int .i64 E) := (T.out.get 1 rfl).read 0)
 | (go_at_call 11; refine (lives12 _).mono ?_; rintro e wn ⟨rfl, bn⟩; have T := Hh (T.out.call bn); clear bn))
     go_ret
     exact ⟨rfl, T.out.below⟩
end Go.Proofs.YtljdgdphldckhaaGreat
