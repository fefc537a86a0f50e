/-
  What stands in memory while the law WireBack walks. No conditions.
-/
import Derived.Test.YtnflahkpccfhaaaWireR3
import Derived.Test.YtnflahkpccfhaaaWireActs
import Derived.Test.YtnflahkpccfhaaaWireBackMath
namespace Go.Proofs.Ytnflahkpccfhaaa
open Go.ChangeShapes Go.WideShapes Go.ChangeAt Go.RowKit
set_option linter.unusedVariables false
set_option linter.unusedSimpArgs false
theorem WAt.kept {w w' : World} {B g : Nat} {q : Int × List Int} {v : Value} (h : WAt w B g q v) {S : Nat → Prop} (hk : Keeps S w w') (hg : ¬ S g) (hr : ∀ k, v.ownBlock = some k → ¬ S k) : WAt w' B g q v :=
  ⟨hk.whole h.whole hg, hk.owns h.row hr, h.by_, h.lo, Nat.le_trans h.hi hk.size⟩
theorem RAt.lower {w w' : World} {g : Nat} {S : ByteArray} {a E : Int} (h : RAt w g S a E) (hb : Below w.heap.size w w') : RAt w' g S a E := ⟨h.whole.below hb h.whole.inside, h.lo, h.hi⟩
/-- The bytes of the first acts. -/
def encTo (f : Nat → AV) : Nat → List Int
  | 0 => []
  | k + 1 => encTo f k ++ encV (f k).k (f k).n (f k).s
theorem encTo_by (f : Nat → AV) (k : Nat) : ∀ x ∈ encTo f k, 0 ≤ x ∧ x < 256 := by
  induction k with
  | zero => simp [encTo]
  | succ k ih =>
    intro x hx
    rcases List.mem_append.1 hx with hx | hx
    · exact ih x hx
    · exact encV_by _ _ _ x hx
theorem encTo_parts (f : Nat → AV) {k n : Nat} (h : k < n) : ∃ R, encTo f n = encTo f k ++ (encV (f k).k (f k).n (f k).s ++ R) := by
  induction n with
  | zero => omega
  | succ n ih =>
    by_cases hk : k = n
    · subst hk
      exact ⟨[], by rw [List.append_nil]; rfl⟩
    · obtain ⟨R, hR⟩ := ih (by omega)
      exact ⟨R ++ encV (f n).k (f n).n (f n).s, by rw [encTo, hR]; simp⟩
/-- What stands in a round of the first loop: two writers, a reader. -/
structure BRound (w : World) (s : ByteArray) (q1 q2 : Int × List Int) (u1 u2 : Value) (a E : Int) (x : World) : Prop where
  w1 : WAt x (w.heap.size + 3) w.heap.size q1 u1
  w2 : WAt x (w.heap.size + 3) (w.heap.size + 1) q2 u2
  rd : RAt x (w.heap.size + 2) s a E
  ap : Apart u1 u2
  below : Below w.heap.size w x
theorem BRound.step1 {w x y : World} {s : ByteArray} {q1 q2 q : Int × List Int} {u1 u2 u : Value} {a E : Int} (h : BRound w s q1 q2 u1 u2 a E x) (hw : WAt y (w.heap.size + 3) w.heap.size q u) (hs : WStep w.heap.size u1 x u y) : BRound w s q q2 u u2 a E y := by
  refine ⟨hw, h.w2.kept hs.keeps ?_ ?_, h.rd.keeps hs.keeps ?_, fun k hk c => ?_, h.below.trans (hs.keeps.below h.below.size ?_)⟩
  · rintro (c | c)
    · omega
    · exact h.w1.not_row _ (by omega) c
  · rintro k hk (c | c)
    · have := h.w2.rowAt k hk; omega
    · exact h.ap k c hk
  · rintro (c | c)
    · omega
    · exact h.w1.not_row _ (by omega) c
  · rcases hs.fresh k hk with e | e
    · exact h.ap k e c
    · have := (h.w2.row.lt k c).2; omega
  · rintro k (c | c)
    · omega
    · have := h.w1.rowAt k c; omega
theorem BRound.step2 {w x y : World} {s : ByteArray} {q1 q2 q : Int × List Int} {u1 u2 u : Value} {a E : Int} (h : BRound w s q1 q2 u1 u2 a E x) (hw : WAt y (w.heap.size + 3) (w.heap.size + 1) q u) (hs : WStep (w.heap.size + 1) u2 x u y) : BRound w s q1 q u1 u a E y := by
  refine ⟨h.w1.kept hs.keeps ?_ ?_, hw, h.rd.keeps hs.keeps ?_, fun k hk c => ?_, h.below.trans (hs.keeps.below h.below.size ?_)⟩
  · rintro (c | c)
    · omega
    · exact h.w2.not_row _ (by omega) c
  · rintro k hk (c | c)
    · have := h.w1.rowAt k hk; omega
    · exact h.ap k hk c
  · rintro (c | c)
    · omega
    · exact h.w2.not_row _ (by omega) c
  · rcases hs.fresh k c with e | e
    · exact h.ap k hk e
    · have := (h.w1.row.lt k hk).2; omega
  · rintro k (c | c)
    · omega
    · have := h.w2.rowAt k c; omega
theorem BRound.read {w x y : World} {s : ByteArray} {q1 q2 : Int × List Int} {u1 u2 : Value} {a E a' E' : Int} (h : BRound w s q1 q2 u1 u2 a E x) (hr : RAt y (w.heap.size + 2) s a' E') (hk : Keeps (fun k => k = w.heap.size + 2) x y) : BRound w s q1 q2 u1 u2 a' E' y :=
  ⟨h.w1.kept hk (by omega) (fun k c => by have := h.w1.rowAt k c; omega), h.w2.kept hk (by omega) (fun k c => by have := h.w2.rowAt k c; omega), hr, h.ap, h.below.trans (hk.below h.below.size (fun k c => by omega))⟩
theorem BRound.start (w : World) (s : ByteArray) : BRound w s (0, []) (0, []) (.slice none 0 0) (.slice none 0 0) 0 0
    (((w.alloc (.cells #[.bool true, .int .i64 0, .slice none 0 0] 64)).alloc (.cells #[.bool true, .int .i64 0, .slice none 0 0] 64)).alloc (.cells #[.bool true, .int .i64 0, .string s] 66)) := by
  have t := Two.start w 64 #[.bool true, .int .i64 0, .slice none 0 0] 64 #[.bool true, .int .i64 0, .slice none 0 0]
  have b := below_more (Below.refl _ ((w.alloc (.cells #[.bool true, .int .i64 0, .slice none 0 0] 64)).alloc (.cells #[.bool true, .int .i64 0, .slice none 0 0] 64))) (.cells #[.bool true, .int .i64 0, .string s] 66)
  have t2 := t.next b
  have r := RAt.made ((w.alloc (.cells #[.bool true, .int .i64 0, .slice none 0 0] 64)).alloc (.cells #[.bool true, .int .i64 0, .slice none 0 0] 64)) s
  have e : ((w.alloc (.cells #[.bool true, .int .i64 0, .slice none 0 0] 64)).alloc (.cells #[.bool true, .int .i64 0, .slice none 0 0] 64)).heap.size = w.heap.size + 2 := by simp
  rw [e] at r
  exact ⟨⟨t2.k0, World.ownsRow_nil _ _ _ _, by simp, by omega, by simp⟩, ⟨t2.k1, World.ownsRow_nil _ _ _ _, by simp, by omega, by simp⟩, r, Apart.nil _, t2.below⟩
/-- What stands in a round of the second loop: the second writer, its reader, the reader of what was written. -/
structure CRound (w : World) (s T : ByteArray) (q2 : Int × List Int) (u2 : Value) (a E : Int) (g : Nat) (b : Int) (x : World) : Prop where
  w2 : WAt x (w.heap.size + 3) (w.heap.size + 1) q2 u2
  rd : RAt x (w.heap.size + 2) s a E
  r4 : RAt x g T b 0
  far : u2.ownBlock ≠ some g
  past : w.heap.size + 3 ≤ g
  below : Below w.heap.size w x
theorem BRound.next {w x y : World} {s : ByteArray} {q1 q2 : Int × List Int} {u1 u2 : Value} {a E : Int} (h : BRound w s q1 q2 u1 u2 a E x) (hb : Below x.heap.size x y) : BRound w s q1 q2 u1 u2 a E y :=
  ⟨h.w1.below hb, h.w2.below hb, h.rd.lower hb, h.ap, h.below.trans (hb.mono h.below.size)⟩
theorem CRound.start {w x : World} {s T : ByteArray} {q1 q2 : Int × List Int} {u1 u2 : Value} {a E : Int} (h : BRound w s q1 q2 u1 u2 a E x) :
    CRound w s T q2 u2 a E x.heap.size 0 (x.alloc (.cells #[.bool true, .int .i64 0, .string T] 66)) := by
  have b := below_more (Below.refl _ x) (.cells #[.bool true, .int .i64 0, .string T] 66)
  have h2 := h.next b
  refine ⟨h2.w2, h2.rd, RAt.made x T, fun c => ?_, h.w1.hi, h2.below⟩
  have := (h.w2.row.lt _ c).2
  omega
theorem CRound.step {w x y : World} {s T : ByteArray} {q2 : Int × List Int} {u2 : Value} {a E : Int} {g : Nat} {b b' : Int} (h : CRound w s T q2 u2 a E g b x) (hr : RAt y g T b' 0) (hk : Keeps (fun k => k = g) x y) : CRound w s T q2 u2 a E g b' y :=
  ⟨h.w2.kept hk (by have := h.past; omega) (fun k c e => h.far (by rw [c, e])), h.rd.keeps hk (by have := h.past; omega), hr, h.far, h.past, h.below.trans (hk.below h.below.size (fun k c => by have := h.past; omega))⟩
theorem CRound.next {w x y : World} {s T : ByteArray} {q2 : Int × List Int} {u2 : Value} {a E : Int} {g : Nat} {b : Int} (h : CRound w s T q2 u2 a E g b x) (hb : Below x.heap.size x y) : CRound w s T q2 u2 a E g b y :=
  ⟨h.w2.below hb, h.rd.lower hb, h.r4.lower hb, h.far, h.past, h.below.trans (hb.mono h.below.size)⟩
theorem CRound.drew {w x : World} {s T : ByteArray} {q2 : Int × List Int} {u2 : Value} {a E : Int} {g : Nat} {b : Int} (h : CRound w s T q2 u2 a E g b x) : CRound w s T q2 u2 a E g b x.drew :=
  ⟨⟨h.w2.whole, h.w2.row, h.w2.by_, h.w2.lo, h.w2.hi⟩, ⟨h.rd.whole, h.rd.lo, h.rd.hi⟩, ⟨h.r4.whole, h.r4.lo, h.r4.hi⟩, h.far, h.past, h.below.drew⟩
end Go.Proofs.Ytnflahkpccfhaaa
