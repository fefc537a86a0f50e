/-
  Texts Lint16. No conditions but those that each theorem names.
-/
import Derived.Test.YtabegjepejgllaaGreatQL53
namespace Go.Proofs.YtabegjepejgllaaGreat
open Go Go.RowKit
set_option linter.unusedVariables false
set_option linter.unusedSimpArgs false
set_option maxRecDepth 20000
set_option maxHeartbeats 6400000
def millT : ByteArray := ⟨#[112, 108, 97, 99, 101, 32, 34, 77, 105, 108, 108, 34, 32, 123, 32, 101, 110, 100, 32, 123, 32, 100, 114, 97, 119, 32, 109, 105, 110, 101, 32, 49, 59, 32, 125, 32, 125]⟩
def millF : Fi := ⟨[], [⟨⟨#[77, 105, 108, 108]⟩, 1, 1, [⟨4, 0, 1, 16, .cons { AH.zero 7 1 22 with side := 1, num := .leaf 1 1 zSe 0 0 0 } .nil .nil .nil⟩]⟩]⟩
theorem mill_is : parseF 5 millT = (millF, okF) := by kernel_rfl
theorem twice_one (s : ByteArray) : Vk (Yl [s]) = -1 := by
 unfold Vk
 rw [show (Yl [s]).length = 1 from by rw [Xr]; rfl]
 have h : isF (Yl [s]) 0 = true := by simp [isF, Ve, Uj, Yl, List.findIdx_cons]
 simp [List.range_succ, h]
theorem mill_lint : lCheck millF = (24, 1, 22) := by
 show orF (lCards (Vk (Yl [])) 0 []) (lPlaces (Vk (Yl [_])) 0 _) = _
 rw [twice_one]
 kernel_rfl
theorem lives13 (w : World) : Calls Tryz.prog 32 #[] w fun e w' => e = .returned (.bool true) ∧ Below w.heap.size w w' := by
 have T := Hh (Env.start w)
 have hpa : ∀ x, Calls Tryz.prog 31 #[.string ⟨#[112, 108, 97, 99, 101, 32, 34, 77, 105, 108, 108, 34, 32, 123, 32, 101, 110, 100, 32, 123, 32, 100, 114, 97, 119, 32, 109, 105, 110, 101, 32, 49, 59, 32, 125, 32, 125]⟩] x (fun e w' => ∃ vs : List Value, e = .returned (.tuple #[.agg vs.toArray, .agg #[.int .i64 0, .int .i64 0, .int .i64 0]]) ∧ Zi (fun k => x.heap.size ≤ k) w' millF.ds vs ∧ Below x.heap.size x w') := fun x => by
   have h := xParse millT x (by decide)
   rw [mill_is] at h
   exact h
 have hck := fun x N vs h => lCheck_any millF (by decide) (by decide) x N vs h
 rw [mill_lint] at hck
 unfold faV at hck
 dsimp only at hck
 go_enter Tryz.func32, Tryz.ntmps32
 go_wp2_with (first
 | (go_at_call 31; refine (hpa _).mono ?_; rintro e w1 ⟨vs, rfl, d1, b1⟩; obtain ⟨v0, v1, rfl⟩ := two_vals vs d1.len; have O1 := Hh d1.one; have T := Hh (T.out.tree b1 d1); clear d1 b1)
 | ((with_reducible refine Zg 1 ?_); refine wpList_allocE T.out 26 _ rfl rfl z_fi ?_; intro wa g0 tn; have T := Hh tn; clear tn)
 | ((with_reducible refine Zg 2 ?_); refine wpList_allocE T.out 29 _ rfl rfl Vs ?_; intro wb g1 tn; have T := Hh tn; clear tn)
 | ((with_reducible refine Zl 1 5 ?_); refine wpList_storeW 26 _ _ 26 g0 _ [v0, v1] (T.out.get 0 rfl) rfl size_fi O1.out rfl rfl rfl rfl rfl ?_; intro wc p; have T := Hh (T.out.put 0 rfl p); clear p)
 | ((with_reducible refine Zl 2 6 ?_); refine wpList_storeW 29 _ _ 29 g1 _ ([.int .i64 0, .int .i64 0, .int .i64 0]) (T.out.get 1 rfl) rfl Zj (by simp [Value.oneCell']) rfl rfl rfl rfl rfl ?_; intro wd p; have T := Hh (T.out.put 1 rfl p); clear p; obtain ⟨f0, f1, f2, _, _, _⟩ := Zu (T.out.get 1 rfl); obtain ⟨j0, j1, _, _⟩ := whole2 (T.out.get 0 rfl))
 | (go_at_call 33; refine (hck _ _ [v0, v1] (T.out.leaf 0 rfl)).mono ?_; rintro e we ⟨rfl, bn⟩; have T := Hh (T.out.call bn); clear bn))
 go_ret
 exact ⟨rfl, T.out.below⟩
end Go.Proofs.YtabegjepejgllaaGreat
