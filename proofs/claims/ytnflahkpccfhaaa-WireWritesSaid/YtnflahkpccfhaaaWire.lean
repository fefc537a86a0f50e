/-
  The contracts of package wire's writer. Conditions: what was written stays below 2^40 bytes.
-/
import Derived.Test.YtnflahkpccfhaaaVariRef2
import Derived.Test.YtnflahkpccfhaaaPush
import Derived.Test.YtnflahkpccfhaaaWireMath
import Derived.BigQuiet
namespace Go.Proofs.Ytnflahkpccfhaaa
open Go.ChangeShapes Go.WideShapes Go.ChangeAt Go.RowKit
set_option linter.unusedVariables false
set_option linter.unusedSimpArgs false
theorem und_b : Try.prog.underlying 62 = some (.slice 5) := by kernel_rfl
theorem info_b : (Try.prog.info? 5).map (fun i => (i.zero, i.size, i.bytes)) = some (some (.int .u8 0), 1, 1) := by kernel_rfl
/-- Block g holds a writer with error q.1 that has written the bytes q.2 into the row v; its rows lie from B on. -/
structure WAt (w : World) (B g : Nat) (q : Int × List Int) (v : Value) : Prop where
  whole : Whole w g 64 #[.bool true, .int .i64 q.1, v]
  row : w.ownsRow B 5 1 v q.2.length (q.2.map (Value.int .u8))
  by_ : ∀ x ∈ q.2, 0 ≤ x ∧ x < 256
  lo : g < B
  hi : B ≤ w.heap.size
def WS (g : Nat) (v : Value) (k : Nat) : Prop := k = g ∨ v.ownBlock = some k
/-- The writer at g, whose row was v and is v': nothing else that was there has changed. -/
structure WStep (g : Nat) (v : Value) (w : World) (v' : Value) (w' : World) : Prop where
  keeps : Keeps (WS g v) w w'
  fresh : ∀ k, v'.ownBlock = some k → v.ownBlock = some k ∨ w.heap.size ≤ k
theorem WStep.refl (g : Nat) (v : Value) (w : World) : WStep g v w v w := ⟨Keeps.refl _ _, fun k h => .inl h⟩
theorem WStep.trans {g : Nat} {v v' v'' : Value} {w w' w'' : World} (h : WStep g v w v' w') (k : WStep g v' w' v'' w'') : WStep g v w v'' w'' := by
  refine ⟨⟨k.keeps.os.trans h.keeps.os, k.keeps.tape.trans h.keeps.tape, k.keeps.output.trans h.keeps.output, Nat.le_trans h.keeps.size k.keeps.size, fun i hi hn => ?_⟩, fun i hi => ?_⟩
  · refine (k.keeps.block i (Nat.lt_of_lt_of_le hi h.keeps.size) fun c => ?_).trans (h.keeps.block i hi hn)
    rcases c with c | c
    · exact hn (.inl c)
    · rcases h.fresh i c with c | c
      · exact hn (.inr c)
      · omega
  · rcases k.fresh i hi with c | c
    · exact h.fresh i c
    · exact .inr (Nat.le_trans h.keeps.size c)
theorem WStep.of_below {g : Nat} {v : Value} {w w' : World} (h : Below w.heap.size w w') : WStep g v w v w' := ⟨Keeps.of_below h, fun k hk => .inl hk⟩
theorem WAt.below {w w' : World} {B g : Nat} {q : Int × List Int} {v : Value} (h : WAt w B g q v) (hb : Below w.heap.size w w') : WAt w' B g q v :=
  ⟨h.whole.below hb h.whole.inside, own_below h.row hb, h.by_, h.lo, Nat.le_trans h.hi hb.size⟩
theorem WAt.rowAt {w : World} {B g : Nat} {q : Int × List Int} {v : Value} (h : WAt w B g q v) (k : Nat) (hk : v.ownBlock = some k) : B ≤ k := (h.row.lt k hk).1
theorem WAt.not_row {w : World} {B g : Nat} {q : Int × List Int} {v : Value} (h : WAt w B g q v) (k : Nat) (hk : k < B) : v.ownBlock ≠ some k := fun c => by have := h.rowAt k c; omega
theorem WAt.pushed {w w2 : World} {B g : Nat} {l m : List Int} {v v' : Value} (h : WAt w B g (0, l) v) (hm : ∀ x ∈ m, 0 ≤ x ∧ x < 256) (g2 : w.grownBy w2 v.ownBlock)
    (o2 : w2.ownsRow B 5 1 v' (l.length + m.length) ((l ++ m).map (Value.int .u8))) (at2 : v'.ownBlock = v.ownBlock ∨ v'.ownBlock = some w.heap.size) :
    WAt (w2.setCell ⟨g, 2, none⟩ v') B g (0, l ++ m) v' ∧ WStep g v w v' (w2.setCell ⟨g, 2, none⟩ v') := by
  have hg := h.whole.inside
  have hW := (grown_whole g2 h.whole (h.not_row g h.lo)).write 2 v'
  refine ⟨⟨hW, owns_aside (by rw [List.length_append]; exact o2) ?_ _, fun x hx => ?_, h.lo, ?_⟩, ⟨((Keeps.refl _ _).grown g2 fun k hk => .inr hk).setCell (.inl rfl) _, fun k hk => ?_⟩⟩
  · rcases at2 with e | e
    · rw [e]; exact h.not_row g h.lo
    · rw [e]; intro c; injection c with c; exact absurd c (Nat.ne_of_gt hg)
  · rcases List.mem_append.1 hx with hx | hx
    · exact h.by_ x hx
    · exact hm x hx
  · have := g2.size
    have := h.hi
    simp only [World.setCell, Array.size_modify]
    omega
  · rcases at2 with e | e
    · exact .inl (e ▸ hk)
    · rw [e] at hk; injection hk with hk; exact .inr (by omega)
theorem WAt.failed {w : World} {B g : Nat} {E : Int} {l : List Int} {v : Value} (h : WAt w B g (E, l) v) (x : Int) : WAt (w.setCell ⟨g, 1, none⟩ (.int .i64 x)) B g (x, l) v ∧ WStep g v w v (w.setCell ⟨g, 1, none⟩ (.int .i64 x)) := by
  have hW := h.whole.write 1 (.int .i64 x)
  refine ⟨⟨hW, owns_aside h.row (h.not_row g h.lo) _, h.by_, h.lo, ?_⟩, ⟨(Keeps.refl _ _).setCell (.inl rfl) _, fun k hk => .inl hk⟩⟩
  have := h.hi
  simpa [World.setCell] using this
/-- What a call on a writer leaves. -/
def WPost (w : World) (B g : Nat) (v : Value) (q : Int × List Int) (e : Ending) (w' : World) : Prop := e = .returned (.tuple #[]) ∧ ∃ v', WAt w' B g q v' ∧ WStep g v w v' w'
theorem goesOn_any (g : Nat) (E : Int) (w : World) (c0 : w.cell? ⟨g, 0, none⟩ = some (.bool true)) (c1 : w.cell? ⟨g, 1, none⟩ = some (.int .i64 E)) :
    Calls Try.prog 44 #[.pointer (some ⟨g, 0, none⟩)] w fun e w' => e = .returned (.bool (E == 0)) ∧ w = w' := by
  go_enter Try.func44, Try.ntmps44
  go_wp2
  go_ret
  exact ⟨rfl, rfl⟩
theorem fail_do (g : Nat) (x : Int) (w : World) (c0 : w.cell? ⟨g, 0, none⟩ = some (.bool true)) (c1 : w.cell? ⟨g, 1, none⟩ = some (.int .i64 0)) (z0 : w.frozen? ⟨g, 1, none⟩ = false) :
    Calls Try.prog 45 #[.pointer (some ⟨g, 0, none⟩), .int .i64 x] w fun e w' => e = .returned (.tuple #[]) ∧ w' = w.setCell ⟨g, 1, none⟩ (.int .i64 x) := by
  go_enter Try.func45, Try.ntmps45
  go_wp2_with (go_at_call 44; refine (goesOn_any _ _ _ c0 c1).mono ?_; rintro e w1 ⟨rfl, rfl⟩)
  go_end0
  exact ⟨rfl, rfl⟩
theorem fail_no (g : Nat) (x E : Int) (w : World) (hE : (E == 0) = false) (c0 : w.cell? ⟨g, 0, none⟩ = some (.bool true)) (c1 : w.cell? ⟨g, 1, none⟩ = some (.int .i64 E)) :
    Calls Try.prog 45 #[.pointer (some ⟨g, 0, none⟩), .int .i64 x] w fun e w' => e = .returned (.tuple #[]) ∧ w = w' := by
  go_enter Try.func45, Try.ntmps45
  go_wp2_with (go_at_call 44; refine (goesOn_any _ _ _ c0 c1).mono ?_; rintro e w1 ⟨rfl, rfl⟩)
  go_end0
  exact ⟨rfl, rfl⟩
theorem add_nil (s : ByteArray) (w : World) : Calls Try.prog 37 #[.pointer none, .string s] w fun e w' => e = .returned (.tuple #[]) ∧ w = w' := by
  go_enter Try.func37, Try.ntmps37
  go_wp2
  go_end0
  exact ⟨rfl, rfl⟩
theorem add_any (w : World) (B g : Nat) (q : Int × List Int) (v : Value) (h : WAt w B g q v) (m : List Int) (hm : ∀ x ∈ m, 0 ≤ x ∧ x < 256) (hn : q.2.length + m.length ≤ 1099511627776) :
    Calls Try.prog 37 #[.pointer (some ⟨g, 0, none⟩), .string (strOfNums m)] w (WPost w B g v (wadd q m)) := by
  obtain ⟨E, l⟩ := q
  simp only at hn
  have H := Lib.hid h
  have c0 : w.cell? ⟨g, 0, none⟩ = some (.bool true) := by rw [h.whole.read]; rfl
  have c1 : w.cell? ⟨g, 1, none⟩ = some (.int .i64 E) := by rw [h.whole.read]; rfl
  have c2 : w.cell? ⟨g, 2, none⟩ = some v := by rw [h.whole.read]; rfl
  have HN := Lib.hid (h.not_row g h.lo)
  by_cases hE : E = 0
  · subst hE
    have P := Lib.hid (show wadd ((0 : Int), l) m = (0, l ++ m) from wadd_ok m rfl)
    have R := Lib.hid h.row
    have HI := Lib.hid h.hi
    have HM := Lib.hid hm
    clear h hm
    go_enter Try.func37, Try.ntmps37
    go_wp2_with (first
      | (go_at_call 44; refine (goesOn_any _ _ _ c0 c1).mono ?_; rintro e w1 ⟨rfl, rfl⟩)
      | (at_builtin; refine wpList_pushAt (.tmp 16) (.tmp 17) 62 9 5 und_b (by kernel_rfl) info_b rfl rfl B _ _ l m rfl R.out rfl HM.out hn HI.out ?_; intro v2 w2 o2 g2 at2
         obtain ⟨A2, k2, rfl, _⟩ := own_form o2
         have W2 := Lib.hid (grown_whole g2 H.out.whole HN.out)
         have F2 := Lib.hid (H.out.pushed HM.out g2 o2 at2)
         have d2 : w2.cell? ⟨g, 2, none⟩ = some v := by rw [W2.out.read]; rfl
         have z2 := W2.out.thawed 2
         clear o2 g2 at2))
    go_end0
    refine ⟨rfl, _, ?_, F2.out.2⟩
    rw [P.out]
    exact F2.out.1
  · have hE2 : (E == 0) = false := by rw [beq_eq_false_iff_ne]; exact hE
    have P := Lib.hid (show wadd (E, l) m = (E, l) from wadd_bad m hE)
    clear h
    go_enter Try.func37, Try.ntmps37
    go_wp2_with (go_at_call 44; refine (goesOn_any _ _ _ c0 c1).mono ?_; rintro e w1 ⟨rfl, rfl⟩)
    go_end0
    refine ⟨rfl, v, ?_, WStep.refl _ _ _⟩
    rw [P.out]
    exact H.out
theorem number_nil (s : ByteArray) (w : World) : Calls Try.prog 33 #[.pointer none, .string s] w fun e w' => e = .returned (.tuple #[]) ∧ w = w' := by
  go_enter Try.func33, Try.ntmps33
  go_wp2_with (go_at_call 37; refine (add_nil _ _).mono ?_; rintro e w1 ⟨rfl, rfl⟩)
  go_end0
  exact ⟨rfl, rfl⟩
theorem number_any (w : World) (B g : Nat) (q : Int × List Int) (v : Value) (h : WAt w B g q v) (m : List Int) (hm : ∀ x ∈ m, 0 ≤ x ∧ x < 256) (hn : q.2.length + m.length ≤ 1099511627776) :
    Calls Try.prog 33 #[.pointer (some ⟨g, 0, none⟩), .string (strOfNums m)] w (WPost w B g v (wput q m)) := by
  have c0 : w.cell? ⟨g, 0, none⟩ = some (.bool true) := by rw [h.whole.read]; rfl
  have c1 : w.cell? ⟨g, 1, none⟩ = some (.int .i64 q.1) := by rw [h.whole.read]; rfl
  have z1 := h.whole.thawed 1
  have H := Lib.hid h
  by_cases hz : m = []
  · subst hz
    have e0 : ((strOfNums []).toList == []) = true := by decide +kernel
    have hs : (strOfNums [] == ByteArray.empty) = true := by decide +kernel
    obtain ⟨E, l⟩ := q
    by_cases hE : E = 0
    · subst hE
      have F := Lib.hid (h.failed 12)
      have ha := add_any _ B g ((12 : Int), l) v (h.failed 12).1 [] hm hn
      have P := Lib.hid (show wadd ((12 : Int), l) [] = wput ((0 : Int), l) [] by rw [wadd_bad _ (show (12 : Int) ≠ 0 by decide), wput_no rfl])
      rw [P.out] at ha
      clear h hm
      go_enter Try.func33, Try.ntmps33
      go_wp2_with (first
        | (go_at_call 45; refine (fail_do _ _ _ c0 c1 z1).mono ?_; rintro e w1 ⟨rfl, rfl⟩)
        | (go_at_call 37; refine ha.mono ?_; rintro e w1 ⟨rfl, v1, h1, s1⟩))
      go_end0
      exact ⟨rfl, _, h1, F.out.2.trans s1⟩
    · have hE2 : (E == 0) = false := by rw [beq_eq_false_iff_ne]; exact hE
      have ha := add_any _ B g (E, l) v h [] hm hn
      have P := Lib.hid (show wadd (E, l) [] = wput (E, l) [] by rw [wadd_bad _ hE, wput_bad _ hE])
      rw [P.out] at ha
      clear h hm
      go_enter Try.func33, Try.ntmps33
      go_wp2_with (first
        | (go_at_call 45; refine (fail_no _ _ _ _ hE2 c0 c1).mono ?_; rintro e w1 ⟨rfl, rfl⟩)
        | (go_at_call 37; refine ha.mono ?_; rintro e w1 ⟨rfl, v1, h1, s1⟩))
      go_end0
      exact ⟨rfl, _, h1, s1⟩
  · have ha := add_any _ B g q v h m hm hn
    rw [← wput_wadd hz] at ha
    have e0 : ((strOfNums m).toList == []) = false := by
      have e1 := str_eq_iff m [] hm (by simp)
      rw [decide_eq_false hz, show (strOfNums []).toList = [] by decide +kernel] at e1
      exact e1
    clear h hm
    go_enter Try.func33, Try.ntmps33
    go_wp2_with (first
      | (go_at_call 37; refine ha.mono ?_; rintro e w1 ⟨rfl, v1, h1, s1⟩))
    go_end0
    exact ⟨rfl, _, h1, s1⟩
theorem Num_nil (n : Int) (n1 : -9223372036854775808 ≤ n) (n2 : n ≤ 9223372036854775807) (w : World) : Calls Try.prog 9 #[.pointer none, .int .i64 n] w fun e w' => e = .returned (.tuple #[]) ∧ Below w.heap.size w w' := by
  have hp := Put_any n n1 n2
  go_enter Try.func9, Try.ntmps9
  go_wp2_with (first
    | (go_at_call 34; refine (hp _).mono ?_; rintro e w1 ⟨rfl, b1⟩)
    | (go_at_call 33; refine (number_nil _ _).mono ?_; rintro e w1 ⟨rfl, rfl⟩))
  go_end0
  exact ⟨rfl, b1⟩
theorem Num_any (w : World) (B g : Nat) (q : Int × List Int) (v : Value) (h : WAt w B g q v) (n : Int) (n1 : -9223372036854775808 ≤ n) (n2 : n ≤ 9223372036854775807) (hn : q.2.length ≤ 1000000) :
    Calls Try.prog 9 #[.pointer (some ⟨g, 0, none⟩), .int .i64 n] w (WPost w B g v (wput q (bytesL n))) := by
  have hp := Put_any n n1 n2
  unfold bytesS at hp
  have H := Lib.hid h
  have hl := bytesL_len n
  have hb := Lib.hid (bytesL_by n)
  have hs : q.2.length + (bytesL n).length ≤ 1099511627776 := by omega
  clear h
  go_enter Try.func9, Try.ntmps9
  go_wp2_with (first
    | (go_at_call 34; refine (hp _).mono ?_; rintro e w1 ⟨rfl, b1⟩; have H1 := Lib.hid (H.out.below b1); have B1 := Lib.hid b1; clear b1)
    | (go_at_call 33; refine (number_any _ B g q v H1.out _ hb.out hs).mono ?_; rintro e w2 ⟨rfl, v2, h2, s2⟩))
  go_end0
  exact ⟨rfl, _, h2, (WStep.of_below B1.out).trans s2⟩
theorem Signed_nil (n : Int) (n1 : -9223372036854775808 ≤ n) (n2 : n ≤ 9223372036854775807) (w : World) : Calls Try.prog 12 #[.pointer none, .int .i64 n] w fun e w' => e = .returned (.tuple #[]) ∧ Below w.heap.size w w' := by
  have hp := PutSigned_any n n1 n2
  go_enter Try.func12, Try.ntmps12
  go_wp2_with (first
    | (go_at_call 36; refine (hp _).mono ?_; rintro e w1 ⟨rfl, b1⟩)
    | (go_at_call 33; refine (number_nil _ _).mono ?_; rintro e w1 ⟨rfl, rfl⟩))
  go_end0
  exact ⟨rfl, b1⟩
theorem Signed_any (w : World) (B g : Nat) (q : Int × List Int) (v : Value) (h : WAt w B g q v) (n : Int) (n1 : -9223372036854775808 ≤ n) (n2 : n ≤ 9223372036854775807) (hn : q.2.length ≤ 1000000) :
    Calls Try.prog 12 #[.pointer (some ⟨g, 0, none⟩), .int .i64 n] w (WPost w B g v (wput q (signedL n))) := by
  have hp := PutSigned_any n n1 n2
  unfold signedS at hp
  have H := Lib.hid h
  have hl := signedL_len n
  have hb := Lib.hid (signedL_by n)
  have hs : q.2.length + (signedL n).length ≤ 1099511627776 := by omega
  clear h
  go_enter Try.func12, Try.ntmps12
  go_wp2_with (first
    | (go_at_call 36; refine (hp _).mono ?_; rintro e w1 ⟨rfl, b1⟩; have H1 := Lib.hid (H.out.below b1); have B1 := Lib.hid b1; clear b1)
    | (go_at_call 33; refine (number_any _ B g q v H1.out _ hb.out hs).mono ?_; rintro e w2 ⟨rfl, v2, h2, s2⟩))
  go_end0
  exact ⟨rfl, _, h2, (WStep.of_below B1.out).trans s2⟩
theorem Bool_nil (b : Bool) (w : World) : Calls Try.prog 14 #[.pointer none, .bool b] w fun e w' => e = .returned (.tuple #[]) ∧ w = w' := by
  cases b <;> (
    go_enter Try.func14, Try.ntmps14
    go_wp2_with (go_at_call 37; refine (add_nil _ _).mono ?_; rintro e w1 ⟨rfl, rfl⟩)
    go_end0
    exact ⟨rfl, rfl⟩)
theorem Bool_any (w : World) (B g : Nat) (q : Int × List Int) (v : Value) (h : WAt w B g q v) (b : Bool) (hn : q.2.length ≤ 1000000) :
    Calls Try.prog 14 #[.pointer (some ⟨g, 0, none⟩), .bool b] w (WPost w B g v (wput q [if b then 1 else 0])) := by
  cases b
  · have ha := add_any w B g q v h [0] (by simp) (by simp; omega)
    rw [← wput_wadd (by simp)] at ha
    have e0 : strOfNums [0] = { data := #[0] } := by decide +kernel
    rw [e0] at ha
    go_enter Try.func14, Try.ntmps14
    go_wp2_with (go_at_call 37; refine ha.mono ?_; rintro e w1 ⟨rfl, v2, h2, s2⟩)
    go_end0
    exact ⟨rfl, _, h2, s2⟩
  · have ha := add_any w B g q v h [1] (by simp) (by simp; omega)
    rw [← wput_wadd (by simp)] at ha
    have e0 : strOfNums [1] = { data := #[1] } := by decide +kernel
    rw [e0] at ha
    go_enter Try.func14, Try.ntmps14
    go_wp2_with (go_at_call 37; refine ha.mono ?_; rintro e w1 ⟨rfl, v2, h2, s2⟩)
    go_end0
    exact ⟨rfl, _, h2, s2⟩
theorem Text_nil (s : ByteArray) (hs : s.size ≤ 9223372036854775807) (w : World) : Calls Try.prog 15 #[.pointer none, .string s] w fun e w' => e = .returned (.tuple #[]) ∧ Below w.heap.size w w' := by
  have hp := Num_nil (s.size : Int) (by omega) (by omega)
  go_enter Try.func15, Try.ntmps15
  go_wp2_with (first
    | (go_at_call 9; refine (hp _).mono ?_; rintro e w1 ⟨rfl, b1⟩)
    | (go_at_call 37; refine (add_nil _ _).mono ?_; rintro e w2 ⟨rfl, rfl⟩))
  go_end0
  exact ⟨rfl, b1⟩
theorem Text_any (w : World) (B g : Nat) (q : Int × List Int) (v : Value) (h : WAt w B g q v) (m : List Int) (hm : ∀ x ∈ m, 0 ≤ x ∧ x < 256) (hl : m.length ≤ 1000000) (hn : q.2.length ≤ 1000000) :
    Calls Try.prog 15 #[.pointer (some ⟨g, 0, none⟩), .string (strOfNums m)] w (WPost w B g v (wtext q m)) := by
  have hsz : (strOfNums m).size = m.length := strOfNums_size m
  have hp := Num_any w B g q v h (m.length : Int) (by omega) (by omega) hn
  rw [← hsz] at hp
  have hk := wput_len q (bytesL m.length)
  have hk5 := bytesL_len (m.length : Int)
  have hs : (strOfNums m).size ≤ 1000000 := by omega
  have hk2 : (wput q (bytesL (strOfNums m).size)).2.length + m.length ≤ 1099511627776 := by rw [hsz]; omega
  have HM := Lib.hid hm
  have W := Lib.hid (show wadd (wput q (bytesL (strOfNums m).size)) m = wtext q m by rw [hsz]; rfl)
  clear hk hk5 hsz h hm
  go_enter Try.func15, Try.ntmps15
  go_wp2_with (first
    | (go_at_call 9; refine hp.mono ?_; rintro e w1 ⟨rfl, v1, h1, s1⟩)
    | (go_at_call 37; refine (add_any _ B g _ v1 h1 m HM.out hk2).mono ?_; rintro e w2 ⟨rfl, v2, h2, s2⟩))
  go_end0
  rw [W.out] at h2
  exact ⟨rfl, _, h2, s1.trans s2⟩
def wendS (q : Int × List Int) : ByteArray := if q.1 = 0 then strOfNums q.2 else ByteArray.empty
theorem End_nil (w : World) : Calls Try.prog 17 #[.pointer none] w fun e w' => e = .returned (.tuple #[.string ByteArray.empty, .int .i64 1]) ∧ w = w' := by
  go_enter Try.func17, Try.ntmps17
  go_wp2
  go_ret2
  exact ⟨rfl, rfl⟩
theorem End_any (w : World) (B g : Nat) (q : Int × List Int) (v : Value) (h : WAt w B g q v) :
    Calls Try.prog 17 #[.pointer (some ⟨g, 0, none⟩)] w fun e w' => e = .returned (.tuple #[.string (wendS q), .int .i64 q.1]) ∧ Below w.heap.size w w' := by
  obtain ⟨E, l⟩ := q
  have c1 : w.cell? ⟨g, 1, none⟩ = some (.int .i64 E) := by rw [h.whole.read]; rfl
  have c2 : w.cell? ⟨g, 2, none⟩ = some v := by rw [h.whole.read]; rfl
  have hcv := conv_own (P := Try.prog) (w := w) (src := 62) und_b (by kernel_rfl) h.row rfl
  by_cases hE : E = 0
  · subst hE
    have W := Lib.hid (show wendS ((0 : Int), l) = strOfNums l from if_pos rfl)
    simp only at hcv
    clear h
    go_enter Try.func17, Try.ntmps17
    go_wp2
    go_ret2
    exact ⟨by rw [W.out]; rfl, Below.refl _ _⟩
  · have hE2 : (E == 0) = false := by rw [beq_eq_false_iff_ne]; exact hE
    have hE3 : (E != 0) = true := by rw [bne_iff_ne]; exact hE
    have W := Lib.hid (show wendS (E, l) = ByteArray.empty from if_neg hE)
    clear h hcv
    go_enter Try.func17, Try.ntmps17
    go_wp2
    go_quiet (fail)
    go_wp2
    go_ret2
    exact ⟨by rw [W.out]; rfl, ⟨rfl, rfl, rfl, Nat.le_refl _, fun _ _ => rfl⟩⟩
theorem Write_any (w : World) : Calls Try.prog 7 #[] w fun e w' => e = .returned (.pointer (some ⟨w.heap.size, 0, none⟩)) ∧ w' = w.alloc (.cells #[.bool true, .int .i64 0, .slice none 0 0] 64) := by
  go_enter Try.func7, Try.ntmps7
  go_wp2
  go_ret
  exact ⟨rfl, rfl⟩
/-- A writer just laid. -/
theorem WAt.made (w : World) (B : Nat) (h1 : w.heap.size < B) (h2 : B ≤ (w.alloc (.cells #[.bool true, .int .i64 0, .slice none 0 0] 64)).heap.size) :
    WAt (w.alloc (.cells #[.bool true, .int .i64 0, .slice none 0 0] 64)) B w.heap.size (0, []) (.slice none 0 0) :=
  ⟨Whole.made _ _ _, World.ownsRow_nil _ _ _ _, by simp, h1, h2⟩
theorem WAt.later {w w' : World} {B g : Nat} {q : Int × List Int} {v : Value} (h : WAt w B g q v) (B' : Nat) (hv : v.ownBlock = none) (hB : g < B') (hb : B' ≤ w.heap.size) : WAt w B' g q v := by
  refine ⟨h.whole, ?_, h.by_, hB, hb⟩
  obtain ⟨h1, h2⟩ := h.row
  refine ⟨h1, ?_⟩
  rcases h2 with h2 | ⟨g, cap, cur, rfl, hg, hh, r⟩
  · exact .inl h2
  · cases hv
theorem lives_any (w : World) : Calls Try.prog 8 #[] w fun e w' => e = .returned (.bool true) ∧ Below w.heap.size w w' := by
  have H0 := Lib.hid (WAt.made w (w.heap.size + 1) (by omega) (by simp))
  generalize hw0 : w.alloc (.cells #[.bool true, .int .i64 0, .slice none 0 0] 64) = w0 at H0
  have HW := Lib.hid hw0
  have B0 := Lib.hid (show Below w.heap.size w w0 from hw0 ▸ (Below.refl _ _).alloc (Nat.le_refl _) _)
  have e300 : bytesL 300 = [172, 2] := by rw [bytesL_in (by omega) (by omega)]; simp [encL]
  have e2 : bytesL 2 = [2] := by rw [bytesL_in (by omega) (by omega)]; simp [encL]
  have q1 : wput ((0 : Int), []) (bytesL 300) = (0, [172, 2]) := by rw [e300]; rfl
  have q2 : wtext ((0 : Int), [172, 2]) [104, 105] = (0, [172, 2, 2, 104, 105]) := by unfold wtext; rw [show (([104, 105] : List Int).length : Int) = 2 from rfl, e2]; rfl
  have q3 : wput ((0 : Int), [172, 2, 2, 104, 105]) [if true then 1 else 0] = (0, [172, 2, 2, 104, 105, 1]) := rfl
  have q4 : wendS ((0 : Int), [172, 2, 2, 104, 105, 1]) = { data := #[172, 2, 2, 104, 105, 1] } := by decide +kernel
  have q5 : strOfNums [104, 105] = { data := #[104, 105] } := by decide +kernel
  have n1 := Num_any w0 (w.heap.size + 1) w.heap.size (0, []) (.slice none 0 0) H0.out 300 (by omega) (by omega) (by simp)
  rw [q1] at n1
  have t1 := fun w1 v1 h1 => Text_any w1 (w.heap.size + 1) w.heap.size (0, [172, 2]) v1 h1 [104, 105] (by simp) (by simp) (by simp)
  rw [q2, q5] at t1
  have b1 := fun w1 v1 h1 => Bool_any w1 (w.heap.size + 1) w.heap.size (0, [172, 2, 2, 104, 105]) v1 h1 true (by simp)
  rw [q3] at b1
  have d1 := fun w1 v1 h1 => End_any w1 (w.heap.size + 1) w.heap.size (0, [172, 2, 2, 104, 105, 1]) v1 h1
  rw [q4] at d1
  clear hw0 e300 e2 q1 q2 q3 q4 q5
  go_enter Try.func8, Try.ntmps8
  go_wp2_with (first
    | (go_at_call 7; refine (Write_any _).mono ?_; rintro e w1 ⟨rfl, hw1⟩; rw [HW.out] at hw1; subst hw1)
    | (go_at_call 9; refine n1.mono ?_; rintro e w1 ⟨rfl, v1, h1, s1⟩; have H1 := Lib.hid h1; clear h1)
    | (go_at_call 15; refine (t1 _ _ H1.out).mono ?_; rintro e w2 ⟨rfl, v2, h2, s2⟩; have H2 := Lib.hid h2; clear h2)
    | (go_at_call 14; refine (b1 _ _ H2.out).mono ?_; rintro e w3 ⟨rfl, v3, h3, s3⟩; have H3 := Lib.hid h3; clear h3)
    | (go_at_call 17; refine (d1 _ _ H3.out).mono ?_; rintro e w4 ⟨rfl, b4⟩))
  go_ret
  refine ⟨rfl, (B0.out.trans (((s1.trans s2).trans s3).keeps.below B0.out.size ?_)).trans (b4.mono ?_)⟩
  · rintro k (rfl | hk)
    · exact Nat.le_refl _
    · cases hk
  · have := H3.out.hi; omega
end Go.Proofs.Ytnflahkpccfhaaa
