/-
  Texts Line. No conditions but those that each theorem names.
-/
import Derived.Deep.RegionWith
import Derived.Test.YtjacgcjjdebbbaaGreatQD27
namespace Go.Proofs.YtjacgcjjdebbbaaGreat
open Go.ChangeShapes Go.WideShapes Go.ChangeAt Go.RowKit
set_option linter.unusedVariables false
set_option linter.unusedSimpArgs false
def joinS (l : List ByteArray) : ByteArray := ⟨(Lib.join (l.map (·.data.toList)) [32]).toArray⟩
set_option maxRecDepth 20000 in
set_option maxHeartbeats 6400000 in
theorem lLine (w : World) (A B C : Option Addr) (n s m c d g k : Nat) (f : Nat → IV) (hI : Vx w A n f) (hk : k < n) (hn : n ≤ 1000) (mn : ByteArray) (ex : List ByteArray) (hex : ex.length ≤ 10) (hjl : (joinS ([Vq (k : Int), mn] ++ ex)).size ≤ 1000000)
   (hmn : ∀ y, Calls Tryz.prog 52 #[.int .i64 (f k).op] y fun e y' => e = .returned (.string mn) ∧ y = y')
   (hop : ∀ (y : World) (p : Nat) (v : Value), LsAt w.heap.size y p v false [Vq (k : Int), mn] → Below w.heap.size w y → Calls Tryz.prog 53 #[.pointer (some ⟨p, 0, none⟩), Vf A B C n s m c d g, .agg #[.int .i64 (f k).op, .int .i64 (f k).a, .int .i64 (f k).b, .int .i64 (f k).c]] y fun e y' =>
     e = .returned (.tuple #[]) ∧ ∃ v', LsAt w.heap.size y' p v' false ([Vq (k : Int), mn] ++ ex) ∧ Yv p v y v' y') :
   Calls Tryz.prog 29 #[Vf A B C n s m c d g, .int .i64 (k : Int)] w fun e w' => e = .returned (.string (joinS ([Vq (k : Int), mn] ++ ex))) ∧ Below w.heap.size w w' := by
 have b2 := Yk (Yk (Below.refl _ w) (.cells #[.slice A n c, .slice B s d, .slice C m g] 27)) (.cells #[.slice none 0 0, .bool false] 113)
 obtain ⟨x, rfl, hx, q0, q1, q2, q3, _⟩ := hI.get hk b2
 unfold Vf at hop ⊢
 generalize f k = y at *
 obtain ⟨x0, x1, x2, x3⟩ := y
 simp only at q0 q1 q2 q3 hmn hop
 have t3 : Env w [(w.heap.size, 27, [.slice (some x) n c, .slice B s d, .slice C m g]), (w.heap.size + 1, 113, [.slice none 0 0, .bool false]), (w.heap.size + 1 + 1, 93, [.int .i64 x0, .int .i64 x1, .int .i64 x2, .int .i64 x3])] [] [] (((w.alloc (.cells #[.slice (some x) n c, .slice B s d, .slice C m g] 27)).alloc (.cells #[.slice none 0 0, .bool false] 113)).alloc (.cells #[.int .i64 x0, .int .i64 x1, .int .i64 x2, .int .i64 x3] 93)) := by
   simpa using (((Env.start w).box 27 [.slice (some x) n c, .slice B s d, .slice C m g]).box 113 [.slice none 0 0, .bool false]).box 93 [.int .i64 x0, .int .i64 x1, .int .i64 x2, .int .i64 x3]
 have T3 := Hh t3
 have HM := Hh hmn
 have HO := Hh hop
 have HJL : Hid ((Lib.join (([Vq (k : Int), mn] ++ ex).map (·.data.toList)) (⟨#[32]⟩ : ByteArray).data.toList).length ≤ 140737488355328) := Hh (by have h2 := hjl; unfold joinS at h2; rw [size_of_list] at h2; exact Nat.le_trans h2 (by omega))
 clear t3 b2 hmn hop hjl
 go_enter Tryz.func29, Tryz.ntmps29
 go_wp2_with fail
 go_region_with (first
 | (go_at_call 51; refine (dPut_any (k : Int) (by omega) (by omega) _).mono ?_; rintro e w5 ⟨rfl, b5⟩
    have T5 := Hh (T3.out.drew.call b5)
    have HQ : Hid (∀ j u, (strV [Vq (k : Int), mn])[j]? = some u → (w5.alloc (.cells #[.string (Vq (k : Int)), .string mn] 9)).cell? ⟨w5.heap.size, j, none⟩ = some u) := Hh fun j u hj => by rw [(Zb.made w5 9 #[.string (Vq (k : Int)), .string mn]).read]; simpa [strV] using hj
    have i0 : w5.cell? ⟨w.heap.size + 1 + 1, 0, none⟩ = some (.int .i64 x0) := by rw [(T5.out.get 2 rfl).read]; rfl
    clear b5)
 | (go_at_call 52; refine (HM.out _).mono ?_; rintro e w6 ⟨rfl, rfl⟩)
 | (go_at_call 50; refine (lPut w.heap.size _ (w.heap.size + 1) (.slice none 0 0) false [] [Vq (k : Int), mn] w5.heap.size 2 ⟨(T5.out.call (Zd w5 (.cells #[.string (Vq (k : Int)), .string mn] 9))).get 1 rfl, World.ownsRow_nil _ _ _ _, Nat.le_succ _, by simp [Value.ownBlock]⟩ (by simp) (by simp) (by simp) (Nat.le_trans T5.out.below.size (Zd w5 (.cells #[.string (Vq (k : Int)), .string mn] 9)).size) (fun j u hj => HQ.out j u hj)).mono ?_; rintro e w7 ⟨rfl, v7, l7, s7⟩
    have HL7 := Hh l7
    have E6 := Hh (T5.out.call (Zd w5 (.cells #[.string (Vq (k : Int)), .string mn] 9)))
    have P7 := Hh (s7.keeps.whole (E6.out.get 0 rfl) (fun c => c.elim (by omega) (by simp [Value.ownBlock])))
    have I7 := Hh (s7.keeps.whole (E6.out.get 2 rfl) (fun c => c.elim (by omega) (by simp [Value.ownBlock])))
    have B7 := Hh (E6.out.below.trans (s7.keeps.below (B := w.heap.size) E6.out.below.size (by rintro q (rfl | c) <;> first | omega | (simp [Value.ownBlock] at c))))
    obtain ⟨p0, p1, p2, _, _, _⟩ := Zq P7.out
    obtain ⟨j0, j1, j2, j3⟩ := Yj I7.out
    clear l7 s7))
 all_goals
   go_wp2_with (first
 | (go_at_call 53; refine (HO.out _ _ _ HL7.out B7.out).mono ?_; rintro e w8 ⟨rfl, v8, l8, s8⟩
    have B8 := Hh (B7.out.trans (s8.keeps.below (B := w.heap.size) B7.out.size (by rintro q (rfl | c); omega; exact (HL7.out.row.lt q c).1)))
    obtain ⟨r0, r1, _, _⟩ := whole2 l8.whole
    have hrow := l8.row
    obtain ⟨A8, d8, rfl, hnd, hdm, hcl⟩ := Xn hrow
    obtain ⟨g8, o8, rfl, hg8, hc8⟩ := hcl.at_ (by simp [strV])
    have HC8 : Hid (∀ (j : Nat) x, ([Vq (k : Int), mn] ++ ex)[j]? = some x → w8.cell? ⟨g8, o8 + j, none⟩ = some (.string x)) := Hh fun j x hj => by
      have hlt := (List.getElem?_eq_some_iff.1 hj).1
      rw [hc8 j (by simpa [strV] using hlt), strV, List.getElem?_map, hj]; rfl
    have HND := Hh hnd
    clear l8 s8 hrow hcl hc8 hnd)
 | (go_at_call 54; refine (bJoin g8 o8 d8 ([Vq (k : Int), mn] ++ ex) ⟨#[32]⟩ w8 HC8.out hg8 (by simp; omega) HND.out HJL.out).mono ?_; rintro e w9 ⟨rfl, b9⟩
    have B9 := Hh (B8.out.trans (b9.mono B8.out.size))
    clear b9))
   go_ret
   exact ⟨rfl, B9.out⟩
end Go.Proofs.YtjacgcjjdebbbaaGreat
