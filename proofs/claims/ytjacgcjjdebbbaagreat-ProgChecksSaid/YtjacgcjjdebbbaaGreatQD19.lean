/-
  Texts Gen4. No conditions but those that each theorem names.
-/
import Derived.Test.YtjacgcjjdebbbaaGreatQD18
namespace Go.Proofs.YtjacgcjjdebbbaaGreat
open Go.ChangeShapes Go.WideShapes Go.ChangeAt Go.RowKit
set_option linter.unusedVariables false
set_option linter.unusedSimpArgs false
def ExNum : Ex → Prop
 | .leaf k _ _ _ _ _ => k = 1
 | .bin _ l r => ExNum l ∧ ExNum r
def Wp : Ex → List IV
 | .leaf k n _ _ _ _ => [⟨1, n, 0, 0⟩]
 | .bin op l r => Wp l ++ Wp r ++ [⟨insOf op ofSignL, 0, 0, 0⟩]
theorem z_ins : (Tryz.prog.info? 93).map (fun i => i.zero.map Value.cells) = some (some ([.int .i64 0, .int .i64 0, .int .i64 0, .int .i64 0] : List Value).toArray) := by kernel_rfl
def GPost (B : Nat) (w : World) (p : Nat) (C S N : Value) (l : List IV) (k : Nat) (xs ns : List Value) (e : Ending) (w' : World) : Prop :=
 e = .returned (.tuple #[]) ∧ ∃ C', GAt B w' p C' S N l k xs ns ∧ Xm p C S N w C' S N w'
set_option maxRecDepth 20000 in
set_option maxHeartbeats 3200000 in
theorem gLeaf (B : Nat) (w : World) (p : Nat) (C S N : Value) (l : List IV) (k : Nat) (xs ns : List Value) (n s0 s1 s2 s3 s5 sd tk tl : Int) (s4 kd : Value) (h : GAt B w p C S N l k xs ns) (hl : l.length ≤ 1000000) (hB : B ≤ w.heap.size) (o4 : s4.oneCell' = true) (o11 : kd.oneCell' = true) :
   Calls Tryz.prog 92 #[.pointer (some ⟨p, 0, none⟩), .agg #[.int .i64 1, .int .i64 n, .int .i64 s0, .int .i64 s1, .int .i64 s2, .int .i64 s3, s4, .int .i64 s5, .int .i64 sd, .int .i64 tk, .int .i64 tl, kd]] w (GPost B w p C S N (l ++ [⟨1, n, 0, 0⟩]) k xs ns) := by
 have T0 := Hh (Env.start w)
 have HG := Hh h
 clear h
 go_enter Tryz.func92, Tryz.ntmps92
 go_wp2_with (first
 | ((with_reducible refine Yf 3 ?_); refine wpList_boxE T0.out 123 _ [.int .i64 1, .int .i64 n, .int .i64 s0, .int .i64 s1, .int .i64 s2, .int .i64 s3, s4, .int .i64 s5, .int .i64 sd, .int .i64 tk, .int .i64 tl, kd] rfl rfl rfl ?_; intro w1 g1 t1
    have T1 := Hh t1
    have k0 : w1.cell? ⟨g1, 0, none⟩ = some (.int .i64 1) := by rw [(t1.get 0 rfl).read]; rfl
    clear t1)
 | (go_at_call 121; refine (ofExpr_any 1 w1).mono ?_; rintro e w2 ⟨rfl, b2⟩
    have T2 := Hh (T1.out.call b2)
    clear b2)
 | ((with_reducible refine Yf 4 ?_); refine Xe T2.out 93 _ rfl rfl z_ins ?_; intro w3 g3 t3
    have T3 := Hh t3
    clear t3)
 | ((with_reducible refine Zr 4 10 ?_); refine Ze 93 _ _ 93 g3 _ [.int .i64 1, .int .i64 0, .int .i64 0, .int .i64 0] (T3.out.get 1 rfl) rfl size_ins (by simp [Value.oneCell']) rfl rfl rfl rfl rfl ?_
    intro w4 p4
    have T4 : Hid (Env w [(g1, 123, [.int .i64 1, .int .i64 n, .int .i64 s0, .int .i64 s1, .int .i64 s2, .int .i64 s3, s4, .int .i64 s5, .int .i64 sd, .int .i64 tk, .int .i64 tl, kd]), (g3, 93, [.int .i64 1, .int .i64 0, .int .i64 0, .int .i64 0])] [] [] w4) := Hh (T3.out.put 1 rfl p4)
    obtain ⟨i0, i1, i2, i3⟩ := Yj (T4.out.get 1 rfl)
    have k0 : w4.cell? ⟨g1, 0, none⟩ = some (.int .i64 1) := by rw [(T4.out.get 0 rfl).read]; rfl
    have k1 : w4.cell? ⟨g1, 1, none⟩ = some (.int .i64 n) := by rw [(T4.out.get 0 rfl).read]; rfl
    have z1 := (T4.out.get 1 rfl).thawed 1
    have T5 : Hid (Env w [(g1, 123, [.int .i64 1, .int .i64 n, .int .i64 s0, .int .i64 s1, .int .i64 s2, .int .i64 s3, s4, .int .i64 s5, .int .i64 sd, .int .i64 tk, .int .i64 tl, kd]), (g3, 93, [.int .i64 1, .int .i64 n, .int .i64 0, .int .i64 0])] [] [] (w4.setCell ⟨g3, 1, none⟩ (.int .i64 n))) := Hh (T4.out.set1 1 rfl 1 (.int .i64 n))
    obtain ⟨j0, j1, j2, j3⟩ := Yj (T5.out.get 1 rfl)
    clear p4)
 | (go_at_call 93; refine (gPut B _ p C S N l k xs ns ⟨1, n, 0, 0⟩ (HG.out.below T5.out.below) hl (Nat.le_trans hB T5.out.below.size)).mono ?_; rintro e w6 ⟨rfl, C', g6, s6⟩
    have G6 := Hh g6
    have S6 := Hh ((Xm.of_below T5.out.below).trans s6)
    clear g6 s6))
 exact bodyPost_ret (v := .tuple #[]) (by simp [results, Tryz.results92, go_sem]) rfl ⟨rfl, _, G6.out, S6.out⟩
end Go.Proofs.YtjacgcjjdebbbaaGreat
