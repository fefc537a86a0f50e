/-
  Texts Gen3. No conditions but those that each theorem names.
-/
import Derived.Test.YtjacgcjjdebbbaaGreatQD17
namespace Go.Proofs.YtjacgcjjdebbbaaGreat
open Go.ChangeShapes Go.WideShapes Go.ChangeAt Go.RowKit
set_option linter.unusedVariables false
set_option linter.unusedSimpArgs false
def insOf (k : Int) (L : List Int) : Int := if k < 0 ∨ (L.length : Int) ≤ k then 0 else L.getD k.toNat 0
theorem gOfKind (k : Int) (w : World) (g : Nat) (T : TypeId) (L : List Int) (hl : L.length ≤ 1000) (h : Zb w g T (L.map (Value.int .i64)).toArray) :
   Calls Tryz.prog 124 #[.int .i64 k, .slice (some ⟨g, 0, none⟩) L.length L.length] w fun e w' => e = .returned (.int .i64 (insOf k L)) ∧ w = w' := by
 have hk : Hid (insOf k L = if k < 0 ∨ (L.length : Int) ≤ k then 0 else L.getD k.toNat 0) := Hh rfl
 generalize insOf k L = G at *
 by_cases h1 : k < 0
 · have HG : Hid (0 = G) := Hh (by rw [hk.out, if_pos (.inl h1)])
   clear hk h
   go_enter Tryz.func124, Tryz.ntmps124
   go_wp2
   go_ret
   exact ⟨rI HG.out, rfl⟩
 · by_cases h2 : (L.length : Int) ≤ k
   · have HG : Hid (0 = G) := Hh (by rw [hk.out, if_pos (.inr h2)])
     have h1' : 0 ≤ k := by omega
     clear hk h h1
     go_enter Tryz.func124, Tryz.ntmps124
     go_wp2
     go_ret
     exact ⟨rI HG.out, rfl⟩
   · obtain ⟨j, rfl⟩ := Int.eq_ofNat_of_zero_le (show 0 ≤ k by omega)
     have hj : j < L.length := by omega
     have hj2 : ((j : Int)).toNat = j := by omega
     have HG : Hid (L[j] = G) := Hh (by rw [hk.out, if_neg (by omega), hj2, List.getD_eq_getElem?_getD, List.getElem?_eq_getElem hj]; rfl)
     have hc : w.cell? ⟨g, j, none⟩ = some (.int .i64 (L[j])) := by rw [h.read]; simp [hj]
     have l1 : decide ((L.length : Int) ≤ (j : Int)) = false := decide_eq_false (by omega)
     have l2 : (j : Int) < (L.length : Int) := by omega
     generalize L[j] = q at *
     clear hk h h1 h2 hj2
     go_enter Tryz.func124, Tryz.ntmps124
     go_wp2
     go_ret
     exact ⟨rI HG.out, rfl⟩
def ofActL : List Int := [0, 10, 11, 12, 13, 14, 15, 16, 17, 18, 0, 0, 23, 24, 25, 26]
theorem z_ofAct : (Tryz.prog.info? 191).map (fun i => i.zero.map Value.cells) = some (some ([.int .i64 0, .int .i64 0, .int .i64 0, .int .i64 0, .int .i64 0, .int .i64 0, .int .i64 0, .int .i64 0, .int .i64 0, .int .i64 0, .int .i64 0, .int .i64 0, .int .i64 0, .int .i64 0, .int .i64 0, .int .i64 0] : List Value).toArray) := by kernel_rfl
theorem size_ofAct : (Tryz.prog.info? 191).map (·.size) = some ([.int .i64 0, .int .i64 10, .int .i64 11, .int .i64 12, .int .i64 13, .int .i64 14, .int .i64 15, .int .i64 16, .int .i64 17, .int .i64 18, .int .i64 0, .int .i64 0, .int .i64 23, .int .i64 24, .int .i64 25, .int .i64 26] : List Value).length := by kernel_rfl
set_option maxRecDepth 20000 in
set_option maxHeartbeats 1600000 in
theorem ofAct_any (k : Int) (w : World) : Calls Tryz.prog 96 #[.int .i64 k] w fun e w' => e = .returned (.int .i64 (insOf k ofActL)) ∧ Below w.heap.size w w' := by
 have T0 := Hh (Env.start w)
 go_enter Tryz.func96, Tryz.ntmps96
 go_wp2_with (first
 | ((with_reducible refine Yf 4 ?_); refine wpList_buildC rfl 191 _ rfl #[.int .i64 0, .int .i64 10, .int .i64 11, .int .i64 12, .int .i64 13, .int .i64 14, .int .i64 15, .int .i64 16, .int .i64 17, .int .i64 18, .int .i64 0, .int .i64 0, .int .i64 23, .int .i64 24, .int .i64 25, .int .i64 26] (by kernel_rfl) ?_)
 | ((with_reducible refine Yf 3 ?_); refine Xe T0.out 191 [.int .i64 0, .int .i64 0, .int .i64 0, .int .i64 0, .int .i64 0, .int .i64 0, .int .i64 0, .int .i64 0, .int .i64 0, .int .i64 0, .int .i64 0, .int .i64 0, .int .i64 0, .int .i64 0, .int .i64 0, .int .i64 0] rfl rfl z_ofAct ?_; intro w2 g t2
    have T2 := Hh t2
    clear t2)
 | ((with_reducible refine Zr 3 4 ?_); refine Ze 191 _ _ 191 g _ [.int .i64 0, .int .i64 10, .int .i64 11, .int .i64 12, .int .i64 13, .int .i64 14, .int .i64 15, .int .i64 16, .int .i64 17, .int .i64 18, .int .i64 0, .int .i64 0, .int .i64 23, .int .i64 24, .int .i64 25, .int .i64 26] (T2.out.get 0 rfl) rfl size_ofAct (by simp [Value.oneCell']) rfl rfl rfl rfl rfl ?_
    intro w3 p3
    have T3 : Hid (Env w [(g, 191, [.int .i64 0, .int .i64 10, .int .i64 11, .int .i64 12, .int .i64 13, .int .i64 14, .int .i64 15, .int .i64 16, .int .i64 17, .int .i64 18, .int .i64 0, .int .i64 0, .int .i64 23, .int .i64 24, .int .i64 25, .int .i64 26])] [] [] w3) := Hh (T2.out.put 0 rfl p3)
    clear p3)
 | (go_at_call 124; refine (gOfKind k w3 g 191 ofActL (by decide) (T3.out.get 0 rfl)).mono ?_; rintro e w4 ⟨rfl, rfl⟩))
 go_ret
 exact ⟨rfl, T3.out.below⟩
def ofExprL : List Int := [0, 1, 2, 3, 4, 5, 6]
theorem z_ofExpr : (Tryz.prog.info? 208).map (fun i => i.zero.map Value.cells) = some (some ([.int .i64 0, .int .i64 0, .int .i64 0, .int .i64 0, .int .i64 0, .int .i64 0, .int .i64 0] : List Value).toArray) := by kernel_rfl
theorem size_ofExpr : (Tryz.prog.info? 208).map (·.size) = some ([.int .i64 0, .int .i64 1, .int .i64 2, .int .i64 3, .int .i64 4, .int .i64 5, .int .i64 6] : List Value).length := by kernel_rfl
set_option maxRecDepth 20000 in
set_option maxHeartbeats 1600000 in
theorem ofExpr_any (k : Int) (w : World) : Calls Tryz.prog 121 #[.int .i64 k] w fun e w' => e = .returned (.int .i64 (insOf k ofExprL)) ∧ Below w.heap.size w w' := by
 have T0 := Hh (Env.start w)
 go_enter Tryz.func121, Tryz.ntmps121
 go_wp2_with (first
 | ((with_reducible refine Yf 4 ?_); refine wpList_buildC rfl 208 _ rfl #[.int .i64 0, .int .i64 1, .int .i64 2, .int .i64 3, .int .i64 4, .int .i64 5, .int .i64 6] (by kernel_rfl) ?_)
 | ((with_reducible refine Yf 3 ?_); refine Xe T0.out 208 [.int .i64 0, .int .i64 0, .int .i64 0, .int .i64 0, .int .i64 0, .int .i64 0, .int .i64 0] rfl rfl z_ofExpr ?_; intro w2 g t2
    have T2 := Hh t2
    clear t2)
 | ((with_reducible refine Zr 3 4 ?_); refine Ze 208 _ _ 208 g _ [.int .i64 0, .int .i64 1, .int .i64 2, .int .i64 3, .int .i64 4, .int .i64 5, .int .i64 6] (T2.out.get 0 rfl) rfl size_ofExpr (by simp [Value.oneCell']) rfl rfl rfl rfl rfl ?_
    intro w3 p3
    have T3 : Hid (Env w [(g, 208, [.int .i64 0, .int .i64 1, .int .i64 2, .int .i64 3, .int .i64 4, .int .i64 5, .int .i64 6])] [] [] w3) := Hh (T2.out.put 0 rfl p3)
    clear p3)
 | (go_at_call 124; refine (gOfKind k w3 g 208 ofExprL (by decide) (T3.out.get 0 rfl)).mono ?_; rintro e w4 ⟨rfl, rfl⟩))
 go_ret
 exact ⟨rfl, T3.out.below⟩
def ofSignL : List Int := [0, 7, 8, 9]
theorem z_ofSign : (Tryz.prog.info? 209).map (fun i => i.zero.map Value.cells) = some (some ([.int .i64 0, .int .i64 0, .int .i64 0, .int .i64 0] : List Value).toArray) := by kernel_rfl
theorem size_ofSign : (Tryz.prog.info? 209).map (·.size) = some ([.int .i64 0, .int .i64 7, .int .i64 8, .int .i64 9] : List Value).length := by kernel_rfl
set_option maxRecDepth 20000 in
set_option maxHeartbeats 1600000 in
theorem ofSign_any (k : Int) (w : World) : Calls Tryz.prog 122 #[.int .i64 k] w fun e w' => e = .returned (.int .i64 (insOf k ofSignL)) ∧ Below w.heap.size w w' := by
 have T0 := Hh (Env.start w)
 go_enter Tryz.func122, Tryz.ntmps122
 go_wp2_with (first
 | ((with_reducible refine Yf 4 ?_); refine wpList_buildC rfl 209 _ rfl #[.int .i64 0, .int .i64 7, .int .i64 8, .int .i64 9] (by kernel_rfl) ?_)
 | ((with_reducible refine Yf 3 ?_); refine Xe T0.out 209 [.int .i64 0, .int .i64 0, .int .i64 0, .int .i64 0] rfl rfl z_ofSign ?_; intro w2 g t2
    have T2 := Hh t2
    clear t2)
 | ((with_reducible refine Zr 3 4 ?_); refine Ze 209 _ _ 209 g _ [.int .i64 0, .int .i64 7, .int .i64 8, .int .i64 9] (T2.out.get 0 rfl) rfl size_ofSign (by simp [Value.oneCell']) rfl rfl rfl rfl rfl ?_
    intro w3 p3
    have T3 : Hid (Env w [(g, 209, [.int .i64 0, .int .i64 7, .int .i64 8, .int .i64 9])] [] [] w3) := Hh (T2.out.put 0 rfl p3)
    clear p3)
 | (go_at_call 124; refine (gOfKind k w3 g 209 ofSignL (by decide) (T3.out.get 0 rfl)).mono ?_; rintro e w4 ⟨rfl, rfl⟩))
 go_ret
 exact ⟨rfl, T3.out.below⟩
end Go.Proofs.YtjacgcjjdebbbaaGreat
