/-
  Texts PrgP. No conditions but those that each theorem names.
-/
import Derived.Test.YtjacgcjjdebbbaaGreatQD14
namespace Go.Proofs.YtjacgcjjdebbbaaGreat
open Go.ChangeShapes Go.WideShapes Go.ChangeAt Go.RowKit
set_option linter.unusedVariables false
set_option linter.unusedSimpArgs false
theorem und_ses : Tryz.prog.underlying 24 = some (.slice 60) := by kernel_rfl
theorem info_sel : (Tryz.prog.info? 60).map (fun i => (i.zero, i.size, i.bytes)) = some (some (.agg #[.int .i64 0, .int .i64 0, .int .i64 0, .int .i64 0, .slice none 0 0, .int .i64 0]), 6, 64) := by kernel_rfl
theorem info_str : (Tryz.prog.info? 9).map (fun i => (i.zero, i.size, i.bytes)) = some (some (.string ⟨#[]⟩), 1, 16) := by kernel_rfl
theorem size_prg : (Tryz.prog.info? 27).map (·.size) = some 3 := by kernel_rfl
theorem row_prg : (Tryz.prog.underlying 27).map TypeDesc.isRow = some true := by kernel_rfl
theorem Env.set1 {w x : World} {bs : List Bk} {rs : List Rw} {ts : List (Ds × List Value)} (h : Env w bs rs ts x) (i : Nat) {g : Nat} {t : TypeId} {old : List Value} (hi : bs[i]? = some (g, t, old)) (j : Nat) (v : Value) :
   Env w (bs.set i (g, t, old.set j v)) rs ts (x.setCell ⟨g, j, none⟩ v) :=
 h.put i hi ⟨by have := (h.get i hi).write j v; simpa using this, (Zg.refl (fun k => k = g) x).setCell (p := ⟨g, j, none⟩) rfl v⟩
theorem Env.norow {w x : World} {bs : List Bk} {rs : List Rw} (h : Env w bs rs [] x) : Env w bs [] [] x :=
 ⟨h.at_, h.lo, h.nod, (fun r hr => nomatch hr), (fun r hr => nomatch hr), List.Pairwise.nil, (fun _ h => nomatch h), h.below⟩
def seL : List Value := [.int .i64 1, .int .i64 0, .int .i64 0, .int .i64 0, .slice none 0 0, .int .i64 0]
def oxL : List Value := [.string ⟨#[79, 120]⟩]
set_option maxRecDepth 20000 in
set_option maxHeartbeats 3200000 in
theorem rProgram (w : World) (A : Option Addr) (n c s m : Nat) (hs : s ≤ 5) (hm : m ≤ 5) :
   Calls Tryz.prog 6 #[.slice A n c, .int .i64 (s : Int), .int .i64 (m : Int)] w fun e w' => ∃ B C d g, e = .returned (Vf A B C n s m c d g) ∧ Below w.heap.size w w' := by
 have T0 := Hh (Env.start w)
 have t1 : Env w [(w.heap.size, 27, [.slice none 0 0, .slice none 0 0, .slice none 0 0]), (w.heap.size + 1, 27, [.slice A n c, .slice none 0 0, .slice none 0 0])] [] []
     ((w.alloc (.cells #[.slice none 0 0, .slice none 0 0, .slice none 0 0] 27)).alloc (.cells #[.slice A n c, .slice none 0 0, .slice none 0 0] 27)) := by
   simpa using ((Env.start w).box 27 [.slice none 0 0, .slice none 0 0, .slice none 0 0]).box 27 [.slice A n c, .slice none 0 0, .slice none 0 0]
 have R1 := Hh (t1.row1 60 6)
 clear t1
 go_enter Tryz.func6, Tryz.ntmps6
 go_wp2
 go_loopw [8] (fun i wr => ∃ (k : Nat) (V : Option Addr) (d : Nat) (xs : List Value), i = .int .i64 (k : Int) ∧ k ≤ s ∧ Env w [(w.heap.size, 27, [.slice none 0 0, .slice none 0 0, .slice none 0 0]), (w.heap.size + 1, 27, [.slice A n c, .slice V k d, .slice none 0 0])] [⟨.slice V k d, 60, 6, k, xs⟩] [] wr) (fun i _ => s - (intOf i).toNat)
 case atStart => exact ⟨0, none, 0, [], rfl, by omega, R1.out⟩
 case round =>
   obtain ⟨k, V, d, xs, rfl, hk, hE⟩ := hrel
   have TE := Hh hE
   obtain ⟨c0, c1, c2, _⟩ := Zq (hE.get 1 rfl)
   clear hE
   by_cases hks : k < s
   · have l1 : decide ((k : Int) < s) = true := by simp [hks]
     go_wp2_with (first
 | (at_builtin; refine Xu (.tmp 18) (.tmp 20) 24 60 6 64 _ und_ses info_sel rfl (by decide) (by decide) w.heap.size (.slice V k d) k xs seL ((TE.out.call (Zd _ (.cells (seL).toArray 60))).row _ (List.mem_singleton.2 rfl)) wr.heap.size (Zb.made _ _ _) rfl (by simp [seL, Value.oneCell']) (by omega) (by have := TE.out.below.size; simp; omega) rfl rfl rfl rfl ?_
    intro v9 w9 o9 g9 at9
    obtain ⟨V9, d9, rfl, _⟩ := Xn o9
    have T9 := Hh ((TE.out.call (Zd _ (.cells (seL).toArray 60))).push o9 g9 at9)
    have T10 := Hh (T9.out.set1 1 rfl 1 (.slice V9 (k + 1) d9))
    obtain ⟨e0, e1, e2, z0, z1, z2⟩ := Zq (T9.out.get 1 rfl)
    clear o9 g9 at9))
     go_roundw
     case rel => exact ⟨k + 1, V9, d9, xs ++ seL, by go_num, by omega, by simpa using T10.out⟩
     case measure => simp [intOf]; omega
   · obtain rfl : s = k := by omega
     have R2 := Hh (TE.out.norow.row1 9 1)
     clear TE
     obtain ⟨U, u, rfl, rfl⟩ : ∃ U u, U = V ∧ u = d := ⟨V, d, rfl, rfl⟩
     go_wp2
     go_loopw [9] (fun i wr => ∃ (k : Nat) (V : Option Addr) (d : Nat) (xs : List Value), i = .int .i64 (k : Int) ∧ k ≤ m ∧ Env w [(w.heap.size, 27, [.slice none 0 0, .slice none 0 0, .slice none 0 0]), (w.heap.size + 1, 27, [.slice A n c, .slice U s u, .slice V k d])] [⟨.slice V k d, 9, 1, k, xs⟩] [] wr) (fun i _ => m - (intOf i).toNat)
     case atStart => exact ⟨0, none, 0, [], rfl, by omega, R2.out⟩
     case round =>
       obtain ⟨k, V, d, xs, rfl, hk, hE⟩ := hrel
       have TE := Hh hE
       obtain ⟨c0, c1, c2, _⟩ := Zq (hE.get 1 rfl)
       clear hE
       by_cases hks : k < m
       · have l1 : decide ((k : Int) < m) = true := by simp [hks]
         go_wp2_with (first
 | (at_builtin; refine Xu (.tmp 29) (.tmp 30) 25 9 1 16 _ und_strs info_str rfl (by decide) (by decide) w.heap.size (.slice V k d) k xs oxL ((TE.out.call (Zd _ (.cells (oxL).toArray 9))).row _ (List.mem_singleton.2 rfl)) wr.heap.size (Zb.made _ _ _) rfl (by simp [oxL, Value.oneCell']) (by omega) (by have := TE.out.below.size; simp; omega) rfl rfl rfl rfl ?_
    intro v9 w9 o9 g9 at9
    obtain ⟨V9, d9, rfl, _⟩ := Xn o9
    have T9 := Hh ((TE.out.call (Zd _ (.cells (oxL).toArray 9))).push o9 g9 at9)
    have T10 := Hh (T9.out.set1 1 rfl 2 (.slice V9 (k + 1) d9))
    obtain ⟨e0, e1, e2, z0, z1, z2⟩ := Zq (T9.out.get 1 rfl)
    clear o9 g9 at9))
         go_roundw
         case rel => exact ⟨k + 1, V9, d9, xs ++ oxL, by go_num, by omega, by simpa using T10.out⟩
         case measure => simp [intOf]; omega
       · obtain rfl : k = m := by omega
         have N3 := Hh TE.out.norow
         go_wp2_with (first
 | ((with_reducible refine Yf 33 ?_); refine Zj 27 _ 27 (w.heap.size + 1) ([.slice A n c, .slice U s u, .slice V k d]) (N3.out.get 1 rfl) row_prg size_prg rfl rfl rfl ?_)
 | ((with_reducible refine Zr 6 33 ?_); refine Ze 27 _ _ 27 w.heap.size _ ([.slice A n c, .slice U s u, .slice V k d]) (N3.out.get 0 rfl) rfl size_prg (by simp [Value.oneCell']) rfl rfl rfl rfl rfl ?_
    intro w3 p3
    have N4 := Hh (N3.out.put 0 rfl p3)
    clear p3))
         exact Yc 6 27 27 w.heap.size _ rfl (N4.out.get 0 rfl) row_prg size_prg rfl rfl ⟨U, V, u, d, rfl, N4.out.below⟩
end Go.Proofs.YtjacgcjjdebbbaaGreat
