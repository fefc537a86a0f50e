/-
  Texts SyntaxParses. No conditions but those that each theorem names.
-/
import Derived.Test.YtgfkimknnbpmnaaGreatQA46
namespace Go.Proofs.YtgfkimknnbpmnaaGreat
open Go.ChangeShapes Go.WideShapes Go.ChangeAt Go.RowKit
set_option linter.unusedVariables false
set_option linter.unusedSimpArgs false
theorem Uh.rfl_ {pl : Bool} : ∀ x : List Ru, Uh pl x x
 | [] => True.intro
 | x :: l => ⟨⟨rfl, rfl, fun _ => ⟨rfl, rfl⟩, Ud.rfl_ _⟩, Uh.rfl_ l⟩
theorem Zaw.rfl_ {pl : Bool} : ∀ x : List Ca, Zaw pl x x
 | [] => True.intro
 | x :: l => ⟨⟨rfl, rfl, rfl, fun _ => ⟨rfl, rfl⟩, Uh.rfl_ _⟩, Zaw.rfl_ l⟩
theorem Zav.rfl_ {pl : Bool} : ∀ x : List Pl, Zav pl x x
 | [] => True.intro
 | x :: l => ⟨⟨rfl, fun _ => ⟨rfl, rfl⟩, Uh.rfl_ _⟩, Zav.rfl_ l⟩
theorem FiSim.rfl_ {pl : Bool} (x : Fi) : FiSim pl x x := ⟨Zaw.rfl_ _, Zav.rfl_ _⟩
set_option maxRecDepth 20000 in
set_option maxHeartbeats 3200000 in
theorem walk_SyntaxParses (s : ByteArray) (w : World) (hs : s.size ≤ maxLen) : Calls Tryz.prog 3 #[.string s] w fun e w' => e = .returned (.bool true) ∧ Below w.heap.size w w' := by
 unfold maxLen at hs
 by_cases hle : 4000 < s.size
 · go_enter Tryz.func3, Tryz.ntmps3
   go_wp2_with (go_at_call 5; refine (lives_any _).mono ?_; rintro e w1 ⟨rfl, b1⟩)
   go_ret
   exact ⟨rfl, b1⟩
 · have hle' : s.size ≤ 4000 := by omega
   have T0 := Hh (Env.start w)
   have h1 : ∀ y, Calls Tryz.prog 6 #[.string s] y (TopPost y (parseF 3 s).1.ds (parseF 3 s).2) := fun y => by
     have h := xParse s y (by omega)
     rw [parse_nk] at h
     exact h
   have h2 : ∀ y, Calls Tryz.prog 7 #[.string s] y (TopPost y (parseF 3 s).1.ds (parseF 3 s).2) := fun y => qFile s y (by omega)
   generalize parseF 3 s = R at *
   obtain ⟨x, F0, F1, F2⟩ := R
   have h3 : ∀ y (v1 v2 : List Value), Zo (fun k => w.heap.size ≤ k) y x.ds v1 → Zo (fun k => w.heap.size ≤ k) y x.ds v2 → Calls Tryz.prog 8 #[.agg v1.toArray, .agg v2.toArray, .bool true] y fun e w' => e = .returned (.bool true) ∧ Below y.heap.size y w' := fun y v1 v2 d1 d2 => sSame true x x y _ _ v1 v2 (FiSim.rfl_ x) d1 d2
   unfold TopPost Zt at h1 h2
   dsimp only at h1 h2
   go_enter Tryz.func3, Tryz.ntmps3
   go_wp2_with (first
 | (go_at_call 6; refine (h1 _).mono ?_; rintro e w1 ⟨v1, rfl, d1, b1⟩
    have T1 := Hh (T0.out.tree b1 d1)
    have l1 := Hh (d1.len.trans (show x.ds.len = 2 from rfl))
    have o1 := Hh d1.one
    clear d1
    clear b1)
 | ((with_reducible refine Zf 3 ?_); refine Zc T1.out 26 _ rfl rfl z_fi ?_; intro w2 g0 t2
    have T2 := Hh (t2)
    clear t2)
 | ((with_reducible refine Zf 4 ?_); refine Zc T2.out 29 _ rfl rfl z_F ?_; intro w3 g1 t3
    have T3 := Hh (t3)
    clear t3)
 | ((with_reducible refine Zj 3 14 ?_); refine Za 26 _ _ 26 g0 _ (v1) (T3.out.get 0 rfl) l1.out (by rw [l1.out]; exact Wx) o1.out rfl rfl rfl rfl rfl ?_
    intro w4 p4
    have T4 := Hh (T3.out.put 0 rfl p4)
    clear p4)
 | ((with_reducible refine Zj 4 15 ?_); refine Za 29 _ _ 29 g1 _ ([.int .i64 F0, .int .i64 (F1 : Int), .int .i64 (F2 : Int)]) (T4.out.get 1 rfl) rfl Xr (by simp [Value.oneCell']) rfl rfl rfl rfl rfl ?_
    intro w5 p5
    have T5 := Hh (T4.out.put 1 rfl p5)
    clear p5)
 | (go_at_call 7; refine (h2 _).mono ?_; rintro e w6 ⟨v2, rfl, d2, b6⟩
    have T6 := Hh (T5.out.tree b6 d2)
    have l2 := Hh (d2.len.trans (show x.ds.len = 2 from rfl))
    have o2 := Hh d2.one
    clear d2
    clear b6)
 | ((with_reducible refine Zf 5 ?_); refine Zc T6.out 26 _ rfl rfl z_fi ?_; intro w7 g2 t7
    have T7 := Hh (t7)
    clear t7)
 | ((with_reducible refine Zf 6 ?_); refine Zc T7.out 29 _ rfl rfl z_F ?_; intro w8 g3 t8
    have T8 := Hh (t8)
    clear t8)
 | ((with_reducible refine Zj 5 19 ?_); refine Za 26 _ _ 26 g2 _ (v2) (T8.out.get 2 rfl) l2.out (by rw [l2.out]; exact Wx) o2.out rfl rfl rfl rfl rfl ?_
    intro w9 p9
    have T9 := Hh (T8.out.put 2 rfl p9)
    clear p9)
 | ((with_reducible refine Zj 6 20 ?_); refine Za 29 _ _ 29 g3 _ ([.int .i64 F0, .int .i64 (F1 : Int), .int .i64 (F2 : Int)]) (T9.out.get 3 rfl) rfl Xr (by simp [Value.oneCell']) rfl rfl rfl rfl rfl ?_
    intro w10 p10
    have T10 := Hh (T9.out.put 3 rfl p10)
    clear p10)
 | ((with_reducible refine Zf 21 ?_); refine Zb 26 _ 26 g0 _ (T10.out.get 0 rfl) Zas (by rw [l1.out]; exact Wx) rfl rfl rfl ?_)
 | ((with_reducible refine Zf 22 ?_); refine Zb 26 _ 26 g2 _ (T10.out.get 2 rfl) Zas (by rw [l2.out]; exact Wx) rfl rfl rfl ?_)
 | (go_at_call 8; refine (h3 _ v1 v2 (T10.out.leaf 0 rfl) (T10.out.leaf 1 rfl)).mono ?_; rintro e w11 ⟨rfl, b11⟩
    have T11 := Hh (T10.out.call b11)
    obtain ⟨p0, p1, p2, _⟩ := Yc (T11.out.get 1 rfl)
    obtain ⟨q0, q1, q2, _⟩ := Yc (T11.out.get 3 rfl)
    clear b11)
 | (go_at_call 5; refine (lives_any _).mono ?_; rintro e w12 ⟨rfl, b12⟩
    have T12 : Hid (Env w [(g0, 26, v1), (g1, 29, [.int .i64 F0, .int .i64 (F1 : Int), .int .i64 (F2 : Int)]), (g2, 26, v2), (g3, 29, [.int .i64 F0, .int .i64 (F1 : Int), .int .i64 (F2 : Int)])] [] [(x.ds, v1), (x.ds, v2)] w12) := Hh (T11.out.call b12)
    clear b12))
   go_ret
   exact ⟨rfl, T12.out.below⟩
end Go.Proofs.YtgfkimknnbpmnaaGreat
