/-
  Texts CurNil, SynP, SynP2, SynP3, SynP4, SynP5, SynP6, SynP7. No conditions but those that each theorem names.
-/
import Derived.OwnWalk
import Derived.Maps.AppendAt
import Derived.Test.YtljdgdphldckhaaGreatQA17
set_option maxRecDepth 20000
set_option maxHeartbeats 12800000
namespace Go.Proofs.YtljdgdphldckhaaGreat
open Go.ChangeShapes Go.WideShapes Go.ChangeAt Go.RowKit
set_option linter.unusedVariables false
set_option linter.unusedSimpArgs false
def Uq : Int × Nat × Nat := (1, 0, 0)
theorem nStands (w : World) : Calls Tryz.prog 172 #[.pointer none] w fun e w' => e = .returned (.bool false) ∧ w = w' := by
 go_enter Tryz.func172, Tryz.ntmps172
 go_wp2
 go_ret
 exact ⟨rfl, rfl⟩
theorem nPeek (w : World) : Calls Tryz.prog 133 #[.pointer none] w fun e w' => e = .returned (Ub zTok) ∧ Below w.heap.size w w' := by
 go_enter Tryz.func133, Tryz.ntmps133
 go_wp2_with (go_at_call 172; refine (nStands _).mono ?_; rintro e w1 ⟨rfl, rfl⟩)
 refine bodyPost_ret (v := Ub zTok) (by simp [results, Tryz.results133, go_sem, Ub, zTok]) rfl ⟨rfl, ?_⟩
 exact Za _ _
theorem nHere (w : World) (E : Int) : Calls Tryz.prog 173 #[.pointer none, .int .i64 E] w fun e w' => e = .returned (Zr Uq) ∧ Below w.heap.size w w' := by
 go_enter Tryz.func173, Tryz.ntmps173
 go_wp2
 refine bodyPost_ret (v := Zr Uq) (by simp [results, Tryz.results173, go_sem, Zr, Uq]) rfl ⟨rfl, ?_⟩
 exact Za _ _
theorem nIs (w : World) (t : ByteArray) : Calls Tryz.prog 174 #[.pointer none, .string t] w fun e w' => e = .returned (.bool false) ∧ Below w.heap.size w w' := by
 go_enter Tryz.func174, Tryz.ntmps174
 go_wp2_with (go_at_call 133; refine (nPeek _).mono ?_; rintro e w2 ⟨rfl, b2⟩; have B2 := Hh b2; clear b2; simp only [Ub, zTok])
 go_ret
 exact ⟨rfl, B2.out.alloc B2.out.size _⟩
theorem nTake (w : World) (t : ByteArray) : Calls Tryz.prog 136 #[.pointer none, .string t] w fun e w' => e = .returned (.bool false) ∧ Below w.heap.size w w' := by
 go_enter Tryz.func136, Tryz.ntmps136
 go_wp2_with (go_at_call 174; refine (nIs _ _).mono ?_; rintro e w2 ⟨rfl, b2⟩; have B2 := Hh b2; clear b2)
 go_ret
 exact ⟨rfl, B2.out⟩
theorem nWrong (w : World) : Calls Tryz.prog 135 #[.pointer none] w fun e w' => e = .returned (Zr Uq) ∧ Below w.heap.size w w' := by
 have F := Hh (Zb.made w 29 #[.int .i64 0, .int .i64 0, .int .i64 0])
 have hfd := fun w => tok_field 0 0 0 0 ⟨#[]⟩ w
 go_enter Tryz.func135, Tryz.ntmps135
 go_wp2_with (first
 | (go_at_call 133; refine (nPeek _).mono ?_; rintro e w2 ⟨rfl, b2⟩; have W2 := Hh (F.out.below b2 (by simp)); have B2 := Hh (Xr (Za _ _) b2); clear b2; simp only [Ub, zTok, Int.ofNat_zero, Int.natCast_zero])
 | (go_at_call 173; refine (nHere _ _).mono ?_; rintro e w3 ⟨rfl, b3⟩; have W3 := Hh (W2.out.below b3 W2.out.inside); obtain ⟨k0, k1, k2, f0, f1, f2⟩ := Zu W3.out; have hz := W3.out.inside; have B3 := Hh (Xr B2.out b3); clear b3; simp only [Zr, Uq]))
 have hF := Zu (Zb.set3 W3.out (.int .i64 1) (.int .i64 0) (.int .i64 0))
 refine bodyPost_ret (v := Zr Uq) (by simp [results, Tryz.results135, go_sem, hF, Zr, Uq]) rfl ⟨rfl, ?_⟩
 exact Below.set3 B3.out (Nat.le_refl _) _ _ _
theorem nWant (w : World) (t : ByteArray) : Calls Tryz.prog 210 #[.pointer none, .string t] w fun e w' => e = .returned (Zr Uq) ∧ Below w.heap.size w w' := by
 have F := Hh (Zb.made w 29 #[.int .i64 0, .int .i64 0, .int .i64 0])
 go_enter Tryz.func210, Tryz.ntmps210
 go_wp2_with (first
 | (go_at_call 136; refine (nTake _ _).mono ?_; rintro e w2 ⟨rfl, b2⟩; have W2 := Hh (F.out.below b2 (by simp)); have B2 := Hh (Xr (Za _ _) b2); clear b2)
 | (go_at_call 135; refine (nWrong _).mono ?_; rintro e w3 ⟨rfl, b3⟩; have W3 := Hh (W2.out.below b3 W2.out.inside); obtain ⟨k0, k1, k2, f0, f1, f2⟩ := Zu W3.out; have hz := W3.out.inside; have B3 := Hh (Xr B2.out b3); clear b3; simp only [Zr, Uq]))
 have hF := Zu (Zb.set3 W3.out (.int .i64 1) (.int .i64 0) (.int .i64 0))
 refine bodyPost_ret (v := Zr Uq) (by simp [results, Tryz.results210, go_sem, hF, Zr, Uq]) rfl ⟨rfl, ?_⟩
 exact Below.set3 B3.out (Nat.le_refl _) _ _ _
theorem nKind (w : World) (k : Int) (hk : 0 < k) : Calls Tryz.prog 209 #[.pointer none, .int .i64 k] w fun e w' => e = .returned (.tuple #[Ub zTok, Zr Uq]) ∧ Below w.heap.size w w' := by
 have T0 := Hh (Two.start w 85 #[.int .i64 0, .string ⟨#[]⟩, .int .i64 0, .int .i64 0, .int .i64 0] 29 #[.int .i64 0, .int .i64 0, .int .i64 0])
 have hfd := fun w => tok_field 0 0 0 0 ⟨#[]⟩ w
 have q0 : ((0 : Int) != k) = true := by rw [bne_iff_ne]; omega
 go_enter Tryz.func209, Tryz.ntmps209
 go_wp2_with (first
 | (go_at_call 133; refine (nPeek _).mono ?_; rintro e w2 ⟨rfl, b2⟩; have T2 := Hh (T0.out.next b2); clear b2; simp only [Ub, zTok, Int.ofNat_zero, Int.natCast_zero])
 | (go_at_call 135; refine (nWrong _).mono ?_; rintro e w3 ⟨rfl, b3⟩; have T3 := Hh (T2.out.next b3); obtain ⟨k0, k1, k2, k3, k4, f0, f1, f2, f3, f4⟩ := Ur T3.out.k0; obtain ⟨g0, g1, g2, z0, z1, z2⟩ := Zu T3.out.k1; have hz := T3.out.k1.inside; clear b3; simp only [Zr, Uq]))
 have hFG := two_set T3.out.k0 T3.out.k1 (.int .i64 0) (.string ⟨#[]⟩) (.int .i64 0) (.int .i64 0) (.int .i64 0) (.int .i64 1) (.int .i64 0) (.int .i64 0)
 have hF := Jt hFG.1
 have hG := Zu hFG.2
 refine bodyPost_ret (v := .tuple #[Ub zTok, Zr Uq]) (by simp [results, Tryz.results209, go_sem, hF, hG, Zr, Uq, zTok, Ub]) rfl ⟨rfl, ?_⟩
 exact Below.set3 (Below.set5 T3.out.below (Nat.le_refl _) _ _ _ _ _) (Nat.le_succ _) _ _ _
theorem nInt (w : World) : Calls Tryz.prog 180 #[.pointer none] w fun e w' => e = .returned (.tuple #[.int .i64 0, Zr Uq]) ∧ Below w.heap.size w w' := by
 have F := Hh (Zb.made w 29 #[.int .i64 0, .int .i64 0, .int .i64 0])
 go_enter Tryz.func180, Tryz.ntmps180
 go_wp2_with (go_at_call 209; refine (nKind _ _ (by decide)).mono ?_; rintro e w3 ⟨rfl, b3⟩; have W0 := Hh (F.out.below b3 (by simp)); obtain ⟨g0, g1, g2, z0, z1, z2⟩ := Zu W0.out; have hz := W0.out.inside; have B3 := Hh (Xr (Za _ _) b3); clear b3; simp only [Ub, zTok, Zr, Uq])
 go_region
 all_goals
   go_wp2
   have hF := Zu ((((Zb.set3 W0.out (.int .i64 1) (.int .i64 0) (.int .i64 0)).alloc (.cells #[.int .i64 0, .string ⟨#[]⟩, .int .i64 0, .int .i64 0, .int .i64 0] 85)).alloc (.cells #[.int .i64 1, .int .i64 0, .int .i64 0] 29)).drew)
   refine bodyPost_ret (v := .tuple #[.int .i64 0, Zr Uq]) (by simp [results, Tryz.results180, go_sem, hF, Zr, Uq]) rfl ⟨rfl, ?_⟩
   have hb := Below.set3 B3.out (Nat.le_refl _) (.int .i64 1) (.int .i64 0) (.int .i64 0)
   exact below_drew1 ((hb.alloc hb.size _).alloc (by have := hb.size; simp at this ⊢; omega) _)
theorem nName (w : World) : Calls Tryz.prog 177 #[.pointer none] w fun e w' => e = .returned (.tuple #[.string ⟨#[]⟩, Zr Uq]) ∧ Below w.heap.size w w' := by
 have F := Hh (Zb.made w 29 #[.int .i64 0, .int .i64 0, .int .i64 0])
 go_enter Tryz.func177, Tryz.ntmps177
 go_wp2_with (go_at_call 209; refine (nKind _ _ (by decide)).mono ?_; rintro e w3 ⟨rfl, b3⟩; have W0 := Hh (F.out.below b3 (by simp)); obtain ⟨g0, g1, g2, z0, z1, z2⟩ := Zu W0.out; have hz := W0.out.inside; have B3 := Hh (Xr (Za _ _) b3); clear b3; simp only [Ub, zTok, Zr, Uq])
 go_region
 all_goals
   go_wp2
   have hF := Zu ((((Zb.set3 W0.out (.int .i64 1) (.int .i64 0) (.int .i64 0)).alloc (.cells #[.int .i64 0, .string ⟨#[]⟩, .int .i64 0, .int .i64 0, .int .i64 0] 85)).alloc (.cells #[.int .i64 1, .int .i64 0, .int .i64 0] 29)).drew)
   refine bodyPost_ret (v := .tuple #[.string ⟨#[]⟩, Zr Uq]) (by simp [results, Tryz.results177, go_sem, hF, Zr, Uq]) rfl ⟨rfl, ?_⟩
   have hb := Below.set3 B3.out (Nat.le_refl _) (.int .i64 1) (.int .i64 0) (.int .i64 0)
   exact below_drew1 ((hb.alloc hb.size _).alloc (by have := hb.size; simp at this ⊢; omega) _)
theorem nSigned (w : World) : Calls Tryz.prog 181 #[.pointer none] w fun e w' => e = .returned (.tuple #[.int .i64 0, Zr Uq]) ∧ Below w.heap.size w w' := by
 have F := Hh (Zb.made w 29 #[.int .i64 0, .int .i64 0, .int .i64 0])
 go_enter Tryz.func181, Tryz.ntmps181
 go_wp2_with (first
 | (go_at_call 174; refine (nIs _ _).mono ?_; rintro e w2 ⟨rfl, b2⟩; have W2 := Hh (F.out.below b2 (by simp)); have B2 := Hh (Xr (Za _ _) b2); clear b2)
 | (go_at_call 180; refine (nInt _).mono ?_; rintro e w3 ⟨rfl, b3⟩; have W0 := Hh (W2.out.below b3 W2.out.inside); obtain ⟨g0, g1, g2, z0, z1, z2⟩ := Zu W0.out; have hz := W0.out.inside; have B3 := Hh (Xr B2.out b3); clear b3; simp only [Zr, Uq]))
 have hF := Zu (Zb.set3 W0.out (.int .i64 1) (.int .i64 0) (.int .i64 0))
 refine bodyPost_ret (v := .tuple #[.int .i64 0, Zr Uq]) (by simp [results, Tryz.results181, go_sem, hF, Zr, Uq]) rfl ⟨rfl, ?_⟩
 exact Below.set3 B3.out (Nat.le_refl _) _ _ _
theorem nDown (w : World) : Calls Tryz.prog 278 #[.pointer none] w fun e w' => e = .returned (Zr Uq) ∧ Below w.heap.size w w' := by
 have F := Hh (Zb.made w 29 #[.int .i64 0, .int .i64 0, .int .i64 0])
 go_enter Tryz.func278, Tryz.ntmps278
 go_wp2_with (first
 | (go_at_call 172; refine (nStands _).mono ?_; rintro e w1 ⟨rfl, rfl⟩)
 | (go_at_call 173; refine (nHere _ _).mono ?_; rintro e w3 ⟨rfl, b3⟩; have W3 := Hh (F.out.below b3 (by simp)); obtain ⟨k0, k1, k2, f0, f1, f2⟩ := Zu W3.out; have hz := W3.out.inside; have B3 := Hh (Xr (Za _ _) b3); clear b3; simp only [Zr, Uq]))
 have hF := Zu (Zb.set3 W3.out (.int .i64 1) (.int .i64 0) (.int .i64 0))
 refine bodyPost_ret (v := Zr Uq) (by simp [results, Tryz.results278, go_sem, hF, Zr, Uq]) rfl ⟨rfl, ?_⟩
 exact Below.set3 B3.out (Nat.le_refl _) _ _ _
theorem nUp (w : World) : Calls Tryz.prog 279 #[.pointer none] w fun e w' => e = .returned (.tuple #[]) ∧ w = w' := by
 go_enter Tryz.func279, Tryz.ntmps279
 go_wp2
 go_end0
 exact ⟨rfl, rfl⟩
def Xz (c : Nat) : St → Value
 | .ok _ _ => .pointer (some ⟨c, 0, none⟩)
 | .bad _ => .pointer none
def fltS : St → Int × Nat × Nat
 | .ok _ _ => okF
 | .bad F => F
structure PAt (w : World) (q c r K : Nat) (L : List TokV) (st : St) : Prop where
 whole : Zb w q 185 #[Xz c st, .int .i64 (fltS st).1, .int .i64 ((fltS st).2.1 : Int), .int .i64 ((fltS st).2.2 : Int)]
 cur : ∀ a d, st = .ok a d → q ≠ c ∧ q ≠ r ∧ Wo w c r K L a d
 flt : ∀ F, st = .bad F → F.1 ≠ 0
 cin : c < w.heap.size
 rin : r < w.heap.size
theorem PAt.keeps {w w' : World} {q c r K : Nat} {L : List TokV} {st : St} (h : PAt w q c r K L st) {S : Nat → Prop} (hk : Zo S w w') (hq : ¬ S q) (hc : ¬ S c) (hr : ¬ S r) : PAt w' q c r K L st :=
 ⟨hk.whole h.whole hq, fun a d e => ⟨(h.cur a d e).1, (h.cur a d e).2.1, (h.cur a d e).2.2.keeps hk hc hr⟩, h.flt, Nat.lt_of_lt_of_le h.cin hk.size, Nat.lt_of_lt_of_le h.rin hk.size⟩
theorem PAt.below {w w' : World} {q c r K : Nat} {L : List TokV} {st : St} (h : PAt w q c r K L st) (hb : Below w.heap.size w w') : PAt w' q c r K L st :=
 h.keeps (S := fun _ => False) (Zo.of_below hb) id id id
structure Yo (w w' : World) (q c r K : Nat) (L : List TokV) (st : St) : Prop where
 at_ : PAt w' q c r K L st
 keeps : Zo (fun k => k = q ∨ k = c) w w'
def Yg (w : World) (q c r K : Nat) (L : List TokV) (st : St) (val : Value) (e : Ending) (w' : World) : Prop := e = .returned val ∧ Yo w w' q c r K L st
theorem Yo.start {w : World} {q c r K : Nat} {L : List TokV} {st : St} (h : PAt w q c r K L st) : Yo w w q c r K L st := ⟨h, Zo.refl _ _⟩
theorem Yo.next {w x y : World} {q c r K : Nat} {L : List TokV} {st : St} (m : Yo w x q c r K L st) (hb : Below x.heap.size x y) : Yo w y q c r K L st :=
 ⟨m.at_.below hb, m.keeps.trans (Zo.of_below hb)⟩
theorem Yo.then {w x y : World} {q c r K : Nat} {L : List TokV} {st st' : St} (m : Yo w x q c r K L st) (h : Yo x y q c r K L st') : Yo w y q c r K L st' :=
 ⟨h.at_, m.keeps.trans h.keeps⟩
theorem Yo.on {w x y : World} {q c r K : Nat} {L : List TokV} {st : St} (m : Yo w x q c r K L st) {G : Nat} (hk : Zo (fun k => k = G) x y) (hG : w.heap.size ≤ G) (hq : q < w.heap.size) (hc : c < w.heap.size) (hr : r < w.heap.size) : Yo w y q c r K L st := by
 refine ⟨m.at_.keeps hk (by omega) (by omega) (by omega), ?_⟩
 have h1 : Zo (fun k => (k = q ∨ k = c) ∨ k = G) w x := m.keeps.mono fun k h => .inl h
 have h2 : Zo (fun k => (k = q ∨ k = c) ∨ k = G) x y := hk.mono fun k h => .inr h
 exact (h1.trans h2).inner fun k hk h => by omega
def wrongV (L : List TokV) : St → Int × Nat × Nat
 | .ok a _ => wrF (Ye L a)
 | .bad _ => Uq
def wantV (L : List TokV) (t : ByteArray) : St → Int × Nat × Nat
 | .ok a _ => wantF L a t
 | .bad _ => Uq
def downV (L : List TokV) : St → Int × Nat × Nat
 | .ok a d => downF L a d
 | .bad _ => Uq
def deeperS : St → St
 | .ok a d => .ok a (downD d)
 | .bad F => .bad F
theorem PAt.step {w x : World} {q c r K : Nat} {L : List TokV} {a d b e : Nat} (h : PAt w q c r K L (.ok a d)) (m : Vu w x c r K L b e) : Yo w x q c r K L (.ok b e) := by
 obtain ⟨h1, h2, h3⟩ := h.cur a d rfl
 refine ⟨⟨m.keeps.whole h.whole h1, fun a' d' e' => ?_, fun F e' => (by cases e'), Nat.lt_of_lt_of_le h.cin m.keeps.size, Nat.lt_of_lt_of_le h.rin m.keeps.size⟩, m.keeps.mono fun k hk => .inr hk⟩
 cases e'
 exact ⟨h1, h2, m.at_⟩
theorem xPeek (w : World) (q c r K : Nat) (L : List TokV) (st : St) (h : PAt w q c r K L st) :
   Calls Tryz.prog 133 #[Xz c st] w fun e w' => e = .returned (Ub (st.tok L)) ∧ Below w.heap.size w w' := by
 cases st with
 | ok a d => exact cPeek w c _ _ _ _ _ _ (h.cur a d rfl).2.2.look
 | bad F => exact nPeek w
theorem xIs (w : World) (q c r K : Nat) (L : List TokV) (st : St) (t : ByteArray) (h : PAt w q c r K L st) :
   Calls Tryz.prog 174 #[Xz c st, .string t] w fun e w' => e = .returned (.bool (isS L t st)) ∧ Below w.heap.size w w' := by
 cases st with
 | ok a d => exact cIs w c _ _ _ _ _ _ t (h.cur a d rfl).2.2.look
 | bad F => exact nIs w t
theorem xWrong (w : World) (q c r K : Nat) (L : List TokV) (st : St) (h : PAt w q c r K L st) :
   Calls Tryz.prog 135 #[Xz c st] w fun e w' => e = .returned (Zr (wrongV L st)) ∧ Below w.heap.size w w' := by
 cases st with
 | ok a d => exact cWrong w c _ _ _ _ _ _ (h.cur a d rfl).2.2.look
 | bad F => exact nWrong w
theorem Vf (w : World) (q c r K : Nat) (L : List TokV) (st : St) (t : ByteArray) (h : PAt w q c r K L st) :
   Calls Tryz.prog 136 #[Xz c st, .string t] w (Yg w q c r K L (Wc L t st) (.bool (isS L t st))) := by
 cases st with
 | ok a d => exact (cTake w c r K L a d t (h.cur a d rfl).2.2).mono fun e w' p => ⟨p.1, h.step p.2⟩
 | bad F => exact (nTake w t).mono fun e w' p => ⟨p.1, (Yo.start h).next p.2⟩
theorem xWant (w : World) (q c r K : Nat) (L : List TokV) (st : St) (t : ByteArray) (h : PAt w q c r K L st) :
   Calls Tryz.prog 210 #[Xz c st, .string t] w (Yg w q c r K L (Wc L t st) (Zr (wantV L t st))) := by
 cases st with
 | ok a d => exact (cWant w c r K L a d t (h.cur a d rfl).2.2).mono fun e w' p => ⟨p.1, h.step p.2⟩
 | bad F => exact (nWant w t).mono fun e w' p => ⟨p.1, (Yo.start h).next p.2⟩
theorem xDown (w : World) (q c r K : Nat) (L : List TokV) (st : St) (h : PAt w q c r K L st) :
   Calls Tryz.prog 278 #[Xz c st] w (Yg w q c r K L (deeperS st) (Zr (downV L st))) := by
 cases st with
 | ok a d => exact (cDown w c r K L a d (h.cur a d rfl).2.2).mono fun e w' p => ⟨p.1, h.step p.2⟩
 | bad F => exact (nDown w).mono fun e w' p => ⟨p.1, (Yo.start h).next p.2⟩
theorem xUp (w : World) (q c r K : Nat) (L : List TokV) (st : St) (h : PAt w q c r K L st) :
   Calls Tryz.prog 279 #[Xz c st] w (Yg w q c r K L (upS st) (.tuple #[])) := by
 cases st with
 | ok a d => exact (cUp w c r K L a d (h.cur a d rfl).2.2).mono fun e w' p => ⟨p.1, h.step p.2⟩
 | bad F => exact (nUp w).mono fun e w' p => ⟨p.1, by obtain ⟨_, rfl⟩ := p; exact Yo.start h⟩
theorem PAt.cell {w : World} {q c r K : Nat} {L : List TokV} {st : St} (h : PAt w q c r K L st) : w.cell? ⟨q, 0, none⟩ = some (Xz c st) := h.whole.read 0
theorem xNote (w : World) (q c r K : Nat) (L : List TokV) (st : St) (F : Int × Nat × Nat) (h : PAt w q c r K L st) :
   Calls Tryz.prog 134 #[.pointer (some ⟨q, 0, none⟩), Zr F] w (Yg w q c r K L (Ug F st) (.tuple #[])) := by
 obtain ⟨f0, f1, f2⟩ := F
 have nb := Za w (.cells #[.int .i64 f0, .int .i64 (f1 : Int), .int .i64 (f2 : Int)] 29)
 have h1 := h.below nb
 have hc := h1.cell
 have HM := Hh ((Yo.start h).next nb)
 have H := Hh h
 have H1 := Hh h1
 clear h h1 nb
 unfold Zr
 cases st with
 | bad G =>
   have hc' : (w.alloc (.cells #[.int .i64 f0, .int .i64 (f1 : Int), .int .i64 (f2 : Int)] 29)).cell? ⟨q, 0, none⟩ = some (.pointer none) := hc
   clear hc
   go_enter Tryz.func134, Tryz.ntmps134
   go_wp2
   go_end0
   exact ⟨rfl, HM.out⟩
 | ok a d =>
   have hc' : (w.alloc (.cells #[.int .i64 f0, .int .i64 (f1 : Int), .int .i64 (f2 : Int)] 29)).cell? ⟨q, 0, none⟩ = some (.pointer (some ⟨c, 0, none⟩)) := hc
   clear hc
   by_cases hz : f0 = 0
   · subst hz
     have hn : Ug (0, f1, f2) (.ok a d) = .ok a d := by simp [Ug]
     rw [hn]
     clear hn
     go_enter Tryz.func134, Tryz.ntmps134
     go_wp2
     go_end0
     exact ⟨rfl, HM.out⟩
   · have hn : Ug (f0, f1, f2) (.ok a d) = .bad (f0, f1, f2) := if_neg hz
     rw [hn]
     have q1 : (f0 != 0) = true := by rw [bne_iff_ne]; exact hz
     have z0 := H1.out.whole.thawed 0
     have z1 := H1.out.whole.thawed 1
     have z2 := H1.out.whole.thawed 2
     have z3 := H1.out.whole.thawed 3
     have y1 := H1.out.whole.read 1
     have y2 := H1.out.whole.read 2
     have y3 := H1.out.whole.read 3
     have HZ := Hh hz
     clear hn hz
     go_enter Tryz.func134, Tryz.ntmps134
     go_wp2
     go_end0
     refine ⟨rfl, ⟨⟨?_, fun _ _ e => (by cases e), fun F e => (by cases e; exact HZ.out), ?_, ?_⟩, ?_⟩⟩
     · exact (((H1.out.whole.write 1 (.int .i64 f0)).write 2 (.int .i64 (f1 : Int))).write 3 (.int .i64 (f2 : Int))).write 0 (.pointer none)
     · have := H1.out.cin; simpa [World.setCell] using this
     · have := H1.out.rin; simpa [World.setCell] using this
     · exact (((HM.out.keeps.setCell (p := ⟨q, 1, none⟩) (.inl rfl) _).setCell (p := ⟨q, 2, none⟩) (.inl rfl) _).setCell (p := ⟨q, 3, none⟩) (.inl rfl) _).setCell (p := ⟨q, 0, none⟩) (.inl rfl) _
theorem want_note (L : List TokV) (t : ByteArray) (st : St) : Ug (wantV L t st) (Wc L t st) = Yz L t st := by
 cases st with
 | ok a d =>
   unfold Yz
   show Ug (wantF L a t) (.ok (wantA L a t) d) = if isT (Ye L a) t = true then .ok (wantA L a t) d else .bad (wrF (Ye L a))
   unfold wantF wantA
   by_cases h : isT (Ye L a) t = true
   · rw [if_pos h, if_pos h, if_pos h]; rfl
   · rw [if_neg h, if_neg h, if_neg h]; exact if_neg (wrF_ne _)
 | bad F => rfl
theorem wrong_note (L : List TokV) (st : St) : Ug (wrongV L st) st = wrongS L st := by
 cases st with
 | ok a d => exact if_neg (wrF_ne _)
 | bad F => rfl
theorem xwant (w : World) (q c r K : Nat) (L : List TokV) (st : St) (t : ByteArray) (h : PAt w q c r K L st) :
   Calls Tryz.prog 178 #[.pointer (some ⟨q, 0, none⟩), .string t] w (Yg w q c r K L (Yz L t st) (.tuple #[])) := by
 have hc := h.cell
 have H := Hh h
 rw [← want_note]
 generalize hv : wantV L t st = v
 have hw : ∀ w, PAt w q c r K L st → Calls Tryz.prog 210 #[Xz c st, .string t] w (Yg w q c r K L (Wc L t st) (Zr v)) := fun w h => by rw [← hv]; exact xWant w q c r K L st t h
 clear h hv
 go_enter Tryz.func178, Tryz.ntmps178
 go_wp2_with (first
 | (go_at_call 210; refine (hw _ H.out).mono ?_; rintro e w1 ⟨rfl, m1⟩; have M1 := Hh m1; clear m1)
 | (go_at_call 134; refine (xNote _ q c r K L _ v M1.out.at_).mono ?_; rintro e w2 ⟨rfl, m2⟩; have M2 := Hh (M1.out.then m2); clear m2))
 go_end0
 exact ⟨rfl, M2.out⟩
theorem idx_hit (v : TokV) : ∀ (ws : List ByteArray) (k : Nat) (hk : k < ws.length), (∀ j, j < k → isT v (ws.getD j ⟨#[]⟩) = false) → isT v (ws.getD k ⟨#[]⟩) = true → idxW v ws = k + 1
 | [], k, hk, _, _ => by cases hk
 | t :: r, 0, hk, _, h => if_pos h
 | t :: r, k + 1, hk, hj, h => by
   have h0 : isT v t = false := hj 0 (by omega)
   have ih := idx_hit v r k (by rw [List.length_cons] at hk; omega) (fun j hjk => hj (j + 1) (by omega)) h
   unfold idxW
   rw [if_neg (by rw [h0]; decide), if_neg (by rw [ih]; omega), ih]
theorem idx_miss (v : TokV) : ∀ (ws : List ByteArray), (∀ j, j < ws.length → isT v (ws.getD j ⟨#[]⟩) = false) → idxW v ws = 0
 | [], _ => rfl
 | t :: r, hj => by
   have h0 : isT v t = false := hj 0 (by rw [List.length_cons]; omega)
   have ih := idx_miss v r (fun j hjk => hj (j + 1) (by rw [List.length_cons]; omega))
   unfold idxW
   rw [if_neg (by rw [h0]; decide), if_pos ih]
theorem find_hit (L : List TokV) (ws : List ByteArray) (st : St) (k : Nat) (hk : k < ws.length) (hj : ∀ j, j < k → isS L (ws.getD j ⟨#[]⟩) st = false) (h : isS L (ws.getD k ⟨#[]⟩) st = true) :
   Zm L ws st = k + 1 ∧ Yf L ws st = Wc L (ws.getD k ⟨#[]⟩) st := by
 cases st with
 | ok a d =>
   have hi := idx_hit (Ye L a) ws k hk hj h
   refine ⟨hi, ?_⟩
   rw [show Yf L ws (.ok a d) = .ok (onA L a) d from if_neg (by rw [hi]; omega)]
   show St.ok (onA L a) d = .ok (wantA L a (ws.getD k ⟨#[]⟩)) d
   unfold wantA
   rw [if_pos (show isT (Ye L a) (ws.getD k ⟨#[]⟩) = true from h)]
 | bad F => cases h
theorem find_miss (L : List TokV) (ws : List ByteArray) (st : St) (hj : ∀ j, j < ws.length → isS L (ws.getD j ⟨#[]⟩) st = false) : Zm L ws st = 0 := by
 cases st with
 | ok a d => exact idx_miss (Ye L a) ws hj
 | bad F => rfl
theorem Xq {L : List TokV} {t : ByteArray} {st : St} (h : isS L t st = false) : Wc L t st = st := by
 cases st with
 | ok a d =>
   show St.ok (wantA L a t) d = .ok a d
   unfold wantA
   rw [if_neg (by rw [show isT (Ye L a) t = false from h]; decide)]
 | bad F => rfl
def Words (w : World) (g : Nat) (ws : List ByteArray) : Prop := Zb w g 9 (ws.map Value.string).toArray
theorem Words.at_ {w : World} {g : Nat} {ws : List ByteArray} (h : Words w g ws) {k : Nat} (hk : k < ws.length) : w.cell? ⟨g, k, none⟩ = some (.string (ws.getD k ⟨#[]⟩)) := by
 rw [Zb.read h k]
 simp [List.getD, hk]
theorem xfind (w : World) (q c r K : Nat) (L : List TokV) (st : St) (ws : List ByteArray) (g n m : Nat) (h : PAt w q c r K L st) (hw : Words w g ws) (hq : g ≠ q) (hc : g ≠ c) (hn : n = ws.length) (hl : n ≤ 64) :
   Calls Tryz.prog 147 #[.pointer (some ⟨q, 0, none⟩), .slice (some ⟨g, 0, none⟩) n m] w (Yg w q c r K L (Yf L ws st) (.int .i64 (Zm L ws st))) := by
 have H := Hh (And.intro hw (And.intro hq (And.intro hc hn)))
 have hP := Hh (Yo.start h)
 clear h hw hq hc hn
 have l64 : (n : Int) ≤ 64 := by omega
 go_enter Tryz.func147, Tryz.ntmps147
 go_wp2
 go_loopw [9] (fun i wr => ∃ k : Nat, i = .int .i64 k ∧ k ≤ n ∧ Yo w wr q c r K L st ∧ ∀ j, j < k → isS L (ws.getD j ⟨#[]⟩) st = false) (fun i _ => n - (intOf i).toNat)
 case atStart => exact ⟨0, by go_num, Nat.zero_le _, hP.out, fun j hj => by omega⟩
 case round =>
   obtain ⟨k, rfl, hk, hm, hj⟩ := hrel
   obtain ⟨H1, H2, H3, H4⟩ := H.out
   have HJ := Hh hj
   have HM := Hh hm
   have hcell := hm.at_.cell
   have HW : Words wr g ws := hm.keeps.whole H1 (by omega)
   have HN := Hh H4
   have hnw : k < n → k < ws.length := fun h => by omega
   have hwn : ¬ k < n → ∀ j, j < ws.length → j < k := fun h j hj => by omega
   clear H4
   by_cases hlt : k < n
   · have hx := HW.at_ (k := k) (hnw hlt)
     have hi := HW.inside
     generalize hv : isS L (ws.getD k ⟨#[]⟩) st = b
     have ht : ∀ w, PAt w q c r K L st → Calls Tryz.prog 136 #[Xz c st, .string (ws.getD k ⟨#[]⟩)] w (Yg w q c r K L (Wc L (ws.getD k ⟨#[]⟩) st) (.bool b)) := fun w h => by rw [← hv]; exact Vf w q c r K L st _ h
     generalize hX : ws.getD k ⟨#[]⟩ = x at *
     have HV := Hh hv
     have HX := Hh hX
     clear hX
     have hlt' : (k : Int) < (n : Int) := by omega
     have HK := Hh (hnw hlt)
     clear hm hj H1 H2 H3 HW hv hk hnw hwn
     cases b
     · go_wp2_with (go_at_call 136; refine (ht _ HM.out.at_).mono ?_; rintro e w1 ⟨rfl, m1⟩; have M1 := Hh (HM.out.then m1); clear m1)
       go_roundw
       case rel =>
         have m := M1.out
         rw [Xq HV.out] at m
         refine ⟨k + 1, by go_num, by omega, m, fun j hj => ?_⟩
         by_cases e : j = k
         · subst e; rw [HX.out]; exact HV.out
         · exact HJ.out j (by omega)
       case measure => simp [intOf]; omega
     · go_wp2_with (go_at_call 136; refine (ht _ HM.out.at_).mono ?_; rintro e w1 ⟨rfl, m1⟩; have M1 := Hh (HM.out.then m1); clear m1)
       go_ret
       obtain ⟨e1, e2⟩ := find_hit L ws st k HK.out HJ.out (by rw [HX.out]; exact HV.out)
       rw [e1, e2, HX.out]
       exact ⟨rI (by omega), M1.out⟩
   · have e := find_miss L ws st (fun j hj => HJ.out j (hwn hlt j hj))
     have HE := Hh e
     have hge : (n : Int) ≤ (k : Int) := by omega
     clear hm hj H1 H2 H3 HW e hnw hwn
     go_wp2
     go_ret
     rw [HE.out, Jz L HE.out]
     exact ⟨rfl, HM.out⟩
theorem xone (w : World) (q c r K : Nat) (L : List TokV) (st : St) (ws : List ByteArray) (g n m : Nat) (h : PAt w q c r K L st) (hw : Words w g ws) (hq : g ≠ q) (hc : g ≠ c) (hn : n = ws.length) (hl : n ≤ 64) :
   Calls Tryz.prog 257 #[.pointer (some ⟨q, 0, none⟩), .slice (some ⟨g, 0, none⟩) n m] w (Yg w q c r K L (Yu L ws st) (.int .i64 (Zm L ws st))) := by
 have hf := xfind w q c r K L st ws g n m h hw hq hc hn hl
 have hb := idxW_le
 have hF : Zm L ws st = 0 → Yf L ws st = st := Jz L
 unfold Yu
 generalize hk : Zm L ws st = k at *
 have HF := Hh hF
 have HK := Hh hk
 clear h hw hq hc hn hl hb hF hk
 by_cases h0 : k = 0
 · subst h0
   rw [if_pos rfl]
   rw [HF.out rfl] at hf
   rw [← wrong_note]
   generalize hv : wrongV L st = v
   have hw : ∀ w, PAt w q c r K L st → Calls Tryz.prog 135 #[Xz c st] w fun e w' => e = .returned (Zr v) ∧ Below w.heap.size w w' := fun w h => by rw [← hv]; exact xWrong w q c r K L st h
   clear hv
   go_enter Tryz.func257, Tryz.ntmps257
   go_wp2_with (first
 | (go_at_call 147; refine hf.mono ?_; rintro e w1 ⟨rfl, m1⟩; have hcell := m1.at_.cell; have M1 := Hh m1; clear m1)
 | (go_at_call 135; refine (hw _ M1.out.at_).mono ?_; rintro e w2 ⟨rfl, b2⟩; have M2 := Hh (M1.out.next b2); clear b2)
 | (go_at_call 134; refine (xNote _ q c r K L _ v M2.out.at_).mono ?_; rintro e w3 ⟨rfl, m3⟩; have M3 := Hh (M2.out.then m3); clear m3))
   go_ret
   exact ⟨rfl, M3.out⟩
 · rw [if_neg h0]
   have q0 : ((k : Int) == 0) = false := by rw [beq_eq_false_iff_ne]; omega
   clear h0
   go_enter Tryz.func257, Tryz.ntmps257
   go_wp2_with (go_at_call 147; refine hf.mono ?_; rintro e w1 ⟨rfl, m1⟩; have M1 := Hh m1; clear m1)
   go_ret
   exact ⟨rfl, M1.out⟩
theorem xoneB (W : World) (q c r K G : Nat) (L : List TokV) (st : St) (ws : List ByteArray) (n m : Nat) (cs : Array Value) (hcs : cs = (ws.map Value.string).toArray) (hG : G = W.heap.size) (h : PAt W q c r K L st) (hn : n = ws.length) (hl : n ≤ 64) :
   Calls Tryz.prog 257 #[.pointer (some ⟨q, 0, none⟩), .slice (some ⟨G, 0, none⟩) n m] (W.alloc (.cells cs 9)) fun e w' => e = .returned (.int .i64 (Zm L ws st)) ∧ Yo W w' q c r K L (Yu L ws st) := by
 subst hcs hG
 have M1 := (Yo.start h).next (Za W (.cells (ws.map Value.string).toArray 9))
 have hq := h.whole.inside
 refine (xone _ q c r K L st ws W.heap.size n m M1.at_ (Zb.made _ _ _) (by omega) (by have := h.cin; omega) hn hl).mono ?_
 rintro e w' ⟨h1, h2⟩
 exact ⟨h1, M1.then h2⟩
theorem xfindB (W : World) (q c r K G : Nat) (L : List TokV) (st : St) (ws : List ByteArray) (n m : Nat) (cs : Array Value) (hcs : cs = (ws.map Value.string).toArray) (hG : G = W.heap.size) (h : PAt W q c r K L st) (hn : n = ws.length) (hl : n ≤ 64) :
   Calls Tryz.prog 147 #[.pointer (some ⟨q, 0, none⟩), .slice (some ⟨G, 0, none⟩) n m] (W.alloc (.cells cs 9)) fun e w' => e = .returned (.int .i64 (Zm L ws st)) ∧ Yo W w' q c r K L (Yf L ws st) := by
 subst hcs hG
 have M1 := (Yo.start h).next (Za W (.cells (ws.map Value.string).toArray 9))
 have hq := h.whole.inside
 refine (xfind _ q c r K L st ws W.heap.size n m M1.at_ (Zb.made _ _ _) (by omega) (by have := h.cin; omega) hn hl).mono ?_
 rintro e w' ⟨h1, h2⟩
 exact ⟨h1, M1.then h2⟩
def intF (L : List TokV) : St → Int × Nat × Nat
 | .ok a _ => Zao L a 2
 | .bad _ => Uq
def intM (L : List TokV) : St → St
 | .ok a d => .ok (kindA L a 2) d
 | .bad F => .bad F
def nameF (L : List TokV) : St → Int × Nat × Nat
 | .ok a _ => Zao L a 3
 | .bad _ => Uq
def nameM (L : List TokV) : St → St
 | .ok a d => .ok (kindA L a 3) d
 | .bad F => .bad F
def sigF (L : List TokV) : St → Int × Nat × Nat
 | .ok a _ => signF L a
 | .bad _ => Uq
def sigM (L : List TokV) : St → St
 | .ok a d => .ok (signA L a) d
 | .bad F => .bad F
theorem int_note (L : List TokV) (st : St) : Ug (intF L st) (intM L st) = intS L st := by cases st <;> rfl
theorem name_note (L : List TokV) (st : St) : Ug (nameF L st) (nameM L st) = Wm L st := by cases st <;> rfl
theorem sig_note (L : List TokV) (st : St) : Ug (sigF L st) (sigM L st) = Jx L st := by cases st <;> rfl
theorem xInt (w : World) (q c r K : Nat) (L : List TokV) (st : St) (h : PAt w q c r K L st) :
   Calls Tryz.prog 180 #[Xz c st] w (Yg w q c r K L (intM L st) (.tuple #[.int .i64 (intN L st), Zr (intF L st)])) := by
 cases st with
 | ok a d => exact (cInt w c r K L a d (h.cur a d rfl).2.2).mono fun e w' p => ⟨p.1, h.step p.2⟩
 | bad F => exact (nInt w).mono fun e w' p => ⟨p.1, (Yo.start h).next p.2⟩
theorem xName (w : World) (q c r K : Nat) (L : List TokV) (st : St) (h : PAt w q c r K L st) :
   Calls Tryz.prog 177 #[Xz c st] w (Yg w q c r K L (nameM L st) (.tuple #[.string (nameN L st), Zr (nameF L st)])) := by
 cases st with
 | ok a d => exact (cName w c r K L a d (h.cur a d rfl).2.2).mono fun e w' p => ⟨p.1, h.step p.2⟩
 | bad F => exact (nName w).mono fun e w' p => ⟨p.1, (Yo.start h).next p.2⟩
theorem xSigned (w : World) (q c r K : Nat) (L : List TokV) (st : St) (h : PAt w q c r K L st) :
   Calls Tryz.prog 181 #[Xz c st] w (Yg w q c r K L (sigM L st) (.tuple #[.int .i64 (signN L st), Zr (sigF L st)])) := by
 cases st with
 | ok a d => exact (cSigned w c r K L a d (h.cur a d rfl).2.2).mono fun e w' p => ⟨p.1, h.step p.2⟩
 | bad F => exact (nSigned w).mono fun e w' p => ⟨p.1, (Yo.start h).next p.2⟩
theorem xreadInt (w : World) (q c r K : Nat) (L : List TokV) (st : St) (h : PAt w q c r K L st) :
   Calls Tryz.prog 179 #[.pointer (some ⟨q, 0, none⟩), .func (.func 180) #[Xz c st] #[]] w (Yg w q c r K L (intS L st) (.int .i64 (intN L st))) := by
 have H := Hh h
 rw [← int_note]
 have hi := xInt w q c r K L st h
 generalize intF L st = F at *
 obtain ⟨f0, f1, f2⟩ := F
 have qin := h.whole.inside
 have cin := h.cin
 have rin := h.rin
 clear h
 unfold Zr at hi
 go_enter Tryz.func179, Tryz.ntmps179
 go_wp2_with (first
 | (go_at_call 180; refine hi.mono ?_; rintro e w1 ⟨rfl, m1⟩; have M1 := Hh (m1.next (Za w1 (.cells #[.int .i64 f0, .int .i64 (f1 : Int), .int .i64 (f2 : Int)] 29))); clear m1)
 | (go_at_call 134; refine (xNote _ q c r K L _ (f0, f1, f2) M1.out.at_).mono ?_; rintro e w2 ⟨rfl, m2⟩; have M2 := Hh (M1.out.then m2); clear m2))
 go_ret
 exact ⟨rfl, M2.out⟩
theorem xreadName (w : World) (q c r K : Nat) (L : List TokV) (st : St) (h : PAt w q c r K L st) :
   Calls Tryz.prog 176 #[.pointer (some ⟨q, 0, none⟩), .func (.func 177) #[Xz c st] #[]] w (Yg w q c r K L (Wm L st) (.string (nameN L st))) := by
 have H := Hh h
 rw [← name_note]
 have hi := xName w q c r K L st h
 generalize nameF L st = F at *
 obtain ⟨f0, f1, f2⟩ := F
 have qin := h.whole.inside
 have cin := h.cin
 have rin := h.rin
 clear h
 unfold Zr at hi
 go_enter Tryz.func176, Tryz.ntmps176
 go_wp2_with (first
 | (go_at_call 177; refine hi.mono ?_; rintro e w1 ⟨rfl, m1⟩; have M1 := Hh (m1.next (Za w1 (.cells #[.int .i64 f0, .int .i64 (f1 : Int), .int .i64 (f2 : Int)] 29))); clear m1)
 | (go_at_call 134; refine (xNote _ q c r K L _ (f0, f1, f2) M1.out.at_).mono ?_; rintro e w2 ⟨rfl, m2⟩; have M2 := Hh (M1.out.then m2); clear m2))
 go_ret
 exact ⟨rfl, M2.out⟩
theorem xreadSigned (w : World) (q c r K : Nat) (L : List TokV) (st : St) (h : PAt w q c r K L st) :
   Calls Tryz.prog 179 #[.pointer (some ⟨q, 0, none⟩), .func (.func 181) #[Xz c st] #[]] w (Yg w q c r K L (Jx L st) (.int .i64 (signN L st))) := by
 have H := Hh h
 rw [← sig_note]
 have hi := xSigned w q c r K L st h
 generalize sigF L st = F at *
 obtain ⟨f0, f1, f2⟩ := F
 have qin := h.whole.inside
 have cin := h.cin
 have rin := h.rin
 clear h
 unfold Zr at hi
 go_enter Tryz.func179, Tryz.ntmps179
 go_wp2_with (first
 | (go_at_call 181; refine hi.mono ?_; rintro e w1 ⟨rfl, m1⟩; have M1 := Hh (m1.next (Za w1 (.cells #[.int .i64 f0, .int .i64 (f1 : Int), .int .i64 (f2 : Int)] 29))); clear m1)
 | (go_at_call 134; refine (xNote _ q c r K L _ (f0, f1, f2) M1.out.at_).mono ?_; rintro e w2 ⟨rfl, m2⟩; have M2 := Hh (M1.out.then m2); clear m2))
 go_ret
 exact ⟨rfl, M2.out⟩
theorem deep_note (L : List TokV) (t : ByteArray) (st : St) (h : isS L t st = true) : Ug (downV L st) (deeperS st) = deepS L t st := by
 cases st with
 | ok a d => exact (if_pos h).symm
 | bad F => cases h
theorem deep_not (L : List TokV) (t : ByteArray) (st : St) (h : isS L t st = false) : deepS L t st = st := by
 cases st with
 | ok a d => exact if_neg (by rw [show isT (Ye L a) t = false from h]; decide)
 | bad F => rfl
theorem xdescend (w : World) (q c r K : Nat) (L : List TokV) (st : St) (t : ByteArray) (h : PAt w q c r K L st) :
   Calls Tryz.prog 255 #[.pointer (some ⟨q, 0, none⟩), .string t] w (Yg w q c r K L (Jc L t st) (.tuple #[])) := by
 have hc := h.cell
 have H := Hh h
 have hi := xIs w q c r K L st t h
 unfold Jc
 cases hb : isS L t st
 · rw [deep_not L t st hb]
   rw [hb] at hi
   clear hb h
   go_enter Tryz.func255, Tryz.ntmps255
   go_wp2_with (first
 | (go_at_call 174; refine hi.mono ?_; rintro e w1 ⟨rfl, b1⟩; have M1 := Hh ((Yo.start H.out).next b1); clear b1)
 | (go_at_call 178; refine (xwant _ q c r K L _ t M1.out.at_).mono ?_; rintro e w2 ⟨rfl, m2⟩; have M2 := Hh (M1.out.then m2); clear m2))
   go_end0
   exact ⟨rfl, M2.out⟩
 · rw [hb] at hi
   rw [← deep_note L t st hb]
   generalize hv : downV L st = v
   have hd : ∀ w, PAt w q c r K L st → Calls Tryz.prog 278 #[Xz c st] w (Yg w q c r K L (deeperS st) (Zr v)) := fun w h => by rw [← hv]; exact xDown w q c r K L st h
   clear hb h hv
   go_enter Tryz.func255, Tryz.ntmps255
   go_wp2_with (first
 | (go_at_call 174; refine hi.mono ?_; rintro e w1 ⟨rfl, b1⟩; have hc1 := (H.out.below b1).cell; have M1 := Hh ((Yo.start H.out).next b1); clear b1)
 | (go_at_call 278; refine (hd _ M1.out.at_).mono ?_; rintro e w2 ⟨rfl, m2⟩; have M2 := Hh (M1.out.then m2); clear m2)
 | (go_at_call 134; refine (xNote _ q c r K L _ v M2.out.at_).mono ?_; rintro e w3 ⟨rfl, m3⟩; have M3 := Hh (M2.out.then m3); clear m3)
 | (go_at_call 178; refine (xwant _ q c r K L _ t M3.out.at_).mono ?_; rintro e w4 ⟨rfl, m4⟩; have M4 := Hh (M3.out.then m4); clear m4))
   go_end0
   exact ⟨rfl, M4.out⟩
theorem xascend (w : World) (q c r K : Nat) (L : List TokV) (st : St) (t : ByteArray) (h : PAt w q c r K L st) :
   Calls Tryz.prog 256 #[.pointer (some ⟨q, 0, none⟩), .string t] w (Yg w q c r K L (riseS L t st) (.tuple #[])) := by
 have H := Hh h
 have hw := xwant w q c r K L st t h
 unfold riseS
 generalize Yz L t st = s at *
 clear h
 go_enter Tryz.func256, Tryz.ntmps256
 go_wp2_with (first
 | (go_at_call 178; refine hw.mono ?_; rintro e w1 ⟨rfl, m1⟩; have hcell := m1.at_.cell; have M1 := Hh m1; clear m1)
 | (go_at_call 279; refine (xUp _ q c r K L _ M1.out.at_).mono ?_; rintro e w2 ⟨rfl, m2⟩; have M2 := Hh (M1.out.then m2); clear m2))
 go_end0
 exact ⟨rfl, M2.out⟩
theorem xside (w : World) (q c r K : Nat) (L : List TokV) (st : St) (h : PAt w q c r K L st) :
   Calls Tryz.prog 220 #[.pointer (some ⟨q, 0, none⟩)] w (Yg w q c r K L (Yu L Zt st) (.int .i64 (Zm L Zt st))) := by
 have qin := h.whole.inside
 have hf := xoneB w q c r K _ L st Zt 3 3 _ rfl rfl h rfl (by decide)
 clear h
 go_enter Tryz.func220, Tryz.ntmps220
 go_wp2_with (go_at_call 257; refine hf.mono ?_; rintro e w1 ⟨rfl, m1⟩; have M1 := Hh m1; clear m1)
 go_ret
 exact ⟨rfl, M1.out⟩
theorem xop (w : World) (q c r K : Nat) (L : List TokV) (st : St) (h : PAt w q c r K L st) :
   Calls Tryz.prog 280 #[.pointer (some ⟨q, 0, none⟩)] w (Yg w q c r K L (Yu L wOp st) (.int .i64 (Zm L wOp st))) := by
 have qin := h.whole.inside
 have hf := xoneB w q c r K _ L st wOp 6 6 _ rfl rfl h rfl (by decide)
 clear h
 go_enter Tryz.func280, Tryz.ntmps280
 go_wp2_with (go_at_call 257; refine hf.mono ?_; rintro e w1 ⟨rfl, m1⟩; have M1 := Hh m1; clear m1)
 go_ret
 exact ⟨rfl, M1.out⟩
theorem row_to : (Tryz.prog.underlying 48).map TypeDesc.isRow = some true := by kernel_rfl
theorem size_to : (Tryz.prog.info? 48).map (·.size) = some 2 := by kernel_rfl
theorem Yy : (Tryz.prog.info? 3).map (·.size) = some 1 := by kernel_rfl
theorem Yo.put {w x y : World} {q c r K : Nat} {L : List TokV} {st : St} (m : Yo w x q c r K L st) {G : Nat} {t : TypeId} {vs : List Value} (p : Put x y G t vs) (hG : w.heap.size ≤ G) (hq : q < w.heap.size) (hc : c < w.heap.size) (hr : r < w.heap.size) : Yo w y q c r K L st := m.on p.keeps hG hq hc hr
theorem xto (w : World) (q c r K : Nat) (L : List TokV) (st : St) (h : PAt w q c r K L st) :
   Calls Tryz.prog 221 #[.pointer (some ⟨q, 0, none⟩)] w (Yg w q c r K L (toS L st) (.agg #[.int .i64 (toK L st), .int .i64 (toL L st)])) := by
 have qin := h.whole.inside
 have cin := h.cin
 have rin := h.rin
 have nb := Za w (.cells #[.int .i64 0, .int .i64 0] 48)
 have M0 := Hh ((Yo.start h).next nb)
 have R0 := Hh (Zb.made w 48 #[.int .i64 0, .int .i64 0])
 have hf := xoneB _ q c r K (w.heap.size + 1) L st wTo 4 4 _ rfl (by simp) M0.out.at_ rfl (by decide)
 clear h
 unfold toS toK toL
 generalize hk : Zm L wTo st = k at *
 generalize Yu L wTo st = s1 at *
 clear hk
 by_cases h4 : k = 4
 · subst h4
   rw [if_pos rfl, if_pos rfl]
   rw [show ((4 : Nat) : Int) = 4 from rfl] at hf ⊢
   go_enter Tryz.func221, Tryz.ntmps221
   go_wp2_with (first
 | (go_at_call 257; refine hf.mono ?_; rintro e w1 ⟨rfl, m1⟩
    have nb := Za w1 (.cells #[.int .i64 4, .int .i64 0] 48)
    have hcell := (m1.at_.below nb).cell
    have hz1 : w.heap.size + 1 ≤ w1.heap.size := by have := m1.keeps.size; simp at this; omega
    have T1 := Hh (Zb.made w1 48 #[.int .i64 4, .int .i64 0])
    have R1 := Hh ((m1.keeps.whole R0.out (by omega)).below nb (by omega))
    have M1 := Hh ((M0.out.then m1).next nb); clear m1 nb)
 | (go_at_call 179; refine (xreadInt _ q c r K L _ M1.out.at_).mono ?_; rintro e w2 ⟨rfl, m2⟩
    have hz2 : w1.heap.size + 1 ≤ w2.heap.size := by have := m2.keeps.size; simp at this; omega
    have T2 := Hh (m2.keeps.whole T1.out (by omega))
    have R2 := Hh (m2.keeps.whole R1.out (by omega))
    have M2 := Hh (M1.out.then m2); clear m2)
 | ((with_reducible refine Zl 18 17 ?_); refine Zn 3 _ _ 48 w1.heap.size 1 [.int .i64 4] (.int .i64 0) (.int .i64 (intN L s1)) [] T2.out rfl Yy rfl rfl rfl rfl rfl rfl ?_
    intro w3 p3
    have T3 := Hh (show Zb w3 w1.heap.size 48 [.int .i64 4, .int .i64 (intN L s1)].toArray from p3.whole)
    have R3 := Hh (p3.keeps.whole R2.out (by omega))
    have M3 := Hh (M2.out.put p3 (by omega) qin cin rin)
    clear p3)
 | ((with_reducible refine Ze 19 ?_); refine Zd 48 _ 48 w1.heap.size _ T3.out row_to size_to rfl rfl rfl ?_)
 | ((with_reducible refine Zl 2 19 ?_); refine Zc 48 _ _ 48 w.heap.size _ [.int .i64 4, .int .i64 (intN L s1)] R3.out rfl size_to (by simp [Value.oneCell']) rfl rfl rfl rfl rfl ?_
    intro w4 p4
    have R4 := Hh p4.whole
    have M4 := Hh (M3.out.put p4 (Nat.le_refl _) qin cin rin)
    clear p4))
   exact Zs 2 48 48 w.heap.size _ rfl R4.out row_to size_to rfl rfl ⟨rfl, M4.out⟩
 · rw [if_neg h4, if_neg h4]
   have q4 : ((k : Int) == 4) = false := by rw [beq_eq_false_iff_ne]; omega
   clear h4
   go_enter Tryz.func221, Tryz.ntmps221
   go_wp2_with (first
 | (go_at_call 257; refine hf.mono ?_; rintro e w1 ⟨rfl, m1⟩
    have nb := Za w1 (.cells #[.int .i64 (k : Int), .int .i64 0] 48)
    have hz1 : w.heap.size + 1 ≤ w1.heap.size := by have := m1.keeps.size; simp at this; omega
    have T1 := Hh (Zb.made w1 48 #[.int .i64 (k : Int), .int .i64 0])
    have R1 := Hh ((m1.keeps.whole R0.out (by omega)).below nb (by omega))
    have M1 := Hh ((M0.out.then m1).next nb); clear m1 nb)
 | ((with_reducible refine Ze 19 ?_); refine Zd 48 _ 48 w1.heap.size _ T1.out row_to size_to rfl rfl rfl ?_)
 | ((with_reducible refine Zl 2 19 ?_); refine Zc 48 _ _ 48 w.heap.size _ [.int .i64 (k : Int), .int .i64 0] R1.out rfl size_to (by simp [Value.oneCell']) rfl rfl rfl rfl rfl ?_
    intro w4 p4
    have R4 := Hh p4.whole
    have M4 := Hh (M1.out.put p4 (Nat.le_refl _) qin cin rin)
    clear p4))
   exact Zs 2 48 48 w.heap.size _ rfl R4.out row_to size_to rfl rfl ⟨rfl, M4.out⟩
def remW (q c : Nat) (w : World) : Nat :=
 match w.cell? ⟨q, 0, none⟩ with
 | some (.pointer (some _)) => match w.cell? ⟨c, 0, none⟩ with | some v => lenV v | none => 0
 | _ => 0
theorem PAt.rem {w : World} {q c r K : Nat} {L : List TokV} {st : St} (h : PAt w q c r K L st) : remW q c w = Zw L st := by
 have h0 := h.cell
 cases st with
 | ok a d =>
   have h1 : w.cell? ⟨q, 0, none⟩ = some (.pointer (some ⟨c, 0, none⟩)) := h0
   unfold remW
   rw [h1]
   dsimp only
   rw [(h.cur a d rfl).2.2.look.c0]
   rfl
 | bad F =>
   have h1 : w.cell? ⟨q, 0, none⟩ = some (.pointer none) := h0
   unfold remW
   rw [h1]
   rfl
def Fl.cells (f : Fl) : List Value := [.int .i64 f.kind, .int .i64 f.op, .int .i64 f.n, .string f.name]
def flsV (l : List Fl) : List Value := l.flatMap Fl.cells
theorem flsV_snoc (l : List Fl) (f : Fl) : flsV (l ++ [f]) = flsV l ++ f.cells := by unfold flsV; simp
theorem und_fls : Tryz.prog.underlying 44 = some (.slice 115) := by kernel_rfl
theorem info_fl : (Tryz.prog.info? 115).map (fun i => (i.zero, i.size, i.bytes)) = some (some (.agg #[.int .i64 0, .int .i64 0, .int .i64 0, .string ⟨#[]⟩]), 4, 40) := by kernel_rfl
theorem row_fl : (Tryz.prog.underlying 115).map TypeDesc.isRow = some true := by kernel_rfl
theorem size_fl : (Tryz.prog.info? 115).map (·.size) = some 4 := by kernel_rfl
theorem size_str : (Tryz.prog.info? 9).map (·.size) = some 1 := by kernel_rfl
structure RowW (w : World) (q c r K : Nat) (L : List TokV) (e : TypeId) (sz : Nat) (st : St) (n : Nat) (xs : List Value) (v : Value) (wr : World) : Prop where
 mv : Yo w wr q c r K L st
 row : wr.ownsRow w.heap.size e sz v n xs
 qin : q < w.heap.size
 cin : c < w.heap.size
 rin : r < w.heap.size
theorem RowW.then {w x y : World} {q c r K n sz : Nat} {L : List TokV} {e : TypeId} {st st' : St} {xs : List Value} {v : Value} (h : RowW w q c r K L e sz st n xs v x) (m : Yo x y q c r K L st') : RowW w q c r K L e sz st' n xs v y :=
 ⟨h.mv.then m, m.keeps.owns h.row (fun k hk c => by have := (h.row.lt k hk).1; have := h.qin; have := h.cin; omega), h.qin, h.cin, h.rin⟩
theorem RowW.next {w x y : World} {q c r K n sz : Nat} {L : List TokV} {e : TypeId} {st : St} {xs : List Value} {v : Value} (h : RowW w q c r K L e sz st n xs v x) (hb : Below x.heap.size x y) : RowW w q c r K L e sz st n xs v y :=
 ⟨h.mv.next hb, Un h.row hb, h.qin, h.cin, h.rin⟩
theorem RowW.put {w x y : World} {q c r K n sz : Nat} {L : List TokV} {e t : TypeId} {st : St} {xs vs : List Value} {v : Value} (h : RowW w q c r K L e sz st n xs v x) {G : Nat} (p : Put x y G t vs) (hG : w.heap.size ≤ G) (hn : v.ownBlock ≠ some G) : RowW w q c r K L e sz st n xs v y :=
 ⟨h.mv.put p hG h.qin h.cin h.rin, p.keeps.owns h.row (fun k hk c => hn (by rw [hk, c])), h.qin, h.cin, h.rin⟩
theorem RowW.push {w x y : World} {q c r K n sz : Nat} {L : List TokV} {e : TypeId} {st : St} {xs ys : List Value} {v v' : Value} (h : RowW w q c r K L e sz st n xs v x) (ho : y.ownsRow w.heap.size e sz v' (n + 1) ys) (hg : x.grownBy y v.ownBlock) : RowW w q c r K L e sz st (n + 1) ys v' y := by
 have hk : Zo (fun k => v.ownBlock = some k) x y := Zo.grown (Zo.refl _ _) hg fun k hk => hk
 have hb : ∀ k, v.ownBlock = some k → w.heap.size ≤ k := fun k hk => (h.row.lt k hk).1
 refine ⟨⟨h.mv.at_.keeps hk (fun e => ?_) (fun e => ?_) (fun e => ?_), ?_⟩, ho, h.qin, h.cin, h.rin⟩
 · have := hb _ e; have := h.qin; omega
 · have := hb _ e; have := h.cin; omega
 · have := hb _ e; have := h.rin; omega
 · have h1 : Zo (fun k => (k = q ∨ k = c) ∨ v.ownBlock = some k) w x := h.mv.keeps.mono fun k h => .inl h
   have h2 : Zo (fun k => (k = q ∨ k = c) ∨ v.ownBlock = some k) x y := hk.mono fun k h => .inr h
   exact (h1.trans h2).inner fun k hk' h => h.elim id fun e => by have := hb k e; omega
theorem RowW.fresh {w x : World} {q c r K n sz : Nat} {L : List TokV} {e : TypeId} {st : St} {xs : List Value} {v : Value} (h : RowW w q c r K L e sz st n xs v x) {G : Nat} (hG : x.heap.size ≤ G) : v.ownBlock ≠ some G := fun c => by
 have := (h.row.lt _ c).2; omega
theorem findN_le (L : List TokV) (ws : List ByteArray) (st : St) : Zm L ws st ≤ ws.length := by
 cases st with
 | ok a d => exact idxW_le _ ws
 | bad F => exact Nat.zero_le _
theorem meit_me (L : List TokV) (s : St) (h : isS L sMe s = true) (nk : Int) : Ve nk L 4 s = (⟨4, 0, 0, ⟨#[]⟩⟩, Wc L sMe s) := by
 obtain ⟨h1, h2⟩ := find_hit L Us s 0 (by decide) (fun j hj => by omega) h
 have h3 : Yu L Us s = Wc L sMe s := by unfold Yu; rw [if_neg (by rw [h1]; decide), h2]; rfl
 show ((⟨if Zm L Us s = 0 then nk else 3 + (Zm L Us s : Int), 0, 0, ⟨#[]⟩⟩ : Fl), Yu L Us s) = _
 rw [h1, h3]
 rfl
theorem meit_it (L : List TokV) (s : St) (h : isS L sMe s = false) : Ve 5 L 4 s = (⟨5, 0, 0, ⟨#[]⟩⟩, Yz L sIt s) := by
 show ((⟨if Zm L Us s = 0 then 5 else 3 + (Zm L Us s : Int), 0, 0, ⟨#[]⟩⟩ : Fl), Yu L Us s) = _
 unfold Yz Yu
 by_cases hi : isS L sIt s = true
 · obtain ⟨h1, h2⟩ := find_hit L Us s 1 (by decide) (fun j hj => (by have e : j = 0 := (by omega); rw [e]; exact h)) hi
   rw [if_pos hi, h1, h2]
   rfl
 · have h1 := find_miss L Us s (fun j hj => by
     have hj' : j < 2 := hj
     have : j = 0 ∨ j = 1 := by omega
     rcases this with rfl | rfl
     · exact h
     · exact (by simpa using hi : isS L sIt s = false))
   rw [if_neg hi, h1]
   rfl
theorem Wa {P : Program} {ops : Array Oper} {rest : List Oper} {T : TypeId} {t : TypeId} {ps : String} {af : Array Edge} {gd : Option (Nat × Bool)} {a : Act} {w : World} {Q : Exit → Act → World → Prop} {x : Nat} {v : Value}
   (h : wpList P ops Q (⟨none, .store T (.tmp x) (.const v), t, ps, af, gd⟩ :: rest) a w) : wpList P ops Q (⟨none, .store T (.tmp x) (.const v), t, ps, af, gd⟩ :: rest) a w := h
def FiltersPost (w : World) (q c r K : Nat) (L : List TokV) (x : List Fl × St) (e : Ending) (w' : World) : Prop :=
 ∃ v, e = .returned v ∧ RowW w q c r K L 115 4 x.2 x.1.length (flsV x.1) v w'
theorem filters_step (nk : Int) (L : List TokV) (m : Nat) (st : St) (h : ¬ Zm L Yn st = 0) : Xc nk L (m + 1) st =
   ((Ve nk L (Zm L Yn st) (Yf L Yn st)).1 :: (Xc nk L m (Ve nk L (Zm L Yn st) (Yf L Yn st)).2).1, (Xc nk L m (Ve nk L (Zm L Yn st) (Yf L Yn st)).2).2) := by
 rw [Xc, if_neg h]
theorem filters_stop (nk : Int) (L : List TokV) (m : Nat) (st : St) (h : Zm L Yn st = 0) : Xc nk L (m + 1) st = ([], st) := by
 rw [Xc, if_pos h]
theorem xfilters (w : World) (q c r K : Nat) (L : List TokV) (st : St) (n : Nat) (h : PAt w q c r K L st) (hn : Zw L st + 1 ≤ n) (hLn : Zw L st ≤ 68719476736) :
   Calls Tryz.prog 258 #[.pointer (some ⟨q, 0, none⟩)] w (FiltersPost w q c r K L (Xc 5 L n st)) := by
 have H0 := Hh (show RowW w q c r K L 115 4 st 0 [] (.slice none 0 0) w from ⟨Yo.start h, World.ownsRow_nil _ _ _ _, h.whole.inside, h.cin, h.rin⟩)
 have HN := Hh hn
 have HL := Hh hLn
 clear hn h hLn
 go_enter Tryz.func258, Tryz.ntmps258
 go_wp2
 go_loopw [3] (fun v wr => ∃ (m : Nat) (acc : List Fl) (s : St), RowW w q c r K L 115 4 s acc.length (flsV acc) v wr ∧ Zw L s + 1 ≤ m ∧ acc.length + Zw L s ≤ Zw L st ∧ Xc 5 L n st = (acc ++ (Xc 5 L m s).1, (Xc 5 L m s).2)) (fun _ wr => remW q c wr)
 case atStart => exact ⟨n, [], st, H0.out, HN.out, by simp, by simp⟩
 case round =>
   obtain ⟨m, acc, s, hR, hm, hacc, heq⟩ := hrel
   obtain ⟨m, rfl⟩ : ∃ m', m = m' + 1 := ⟨m - 1, by omega⟩
   obtain ⟨A, cp, rfl, _, _, _⟩ := Xx hR.row
   have hrem := hR.mv.at_.rem
   have hf := xfindB _ q c r K _ L s Yn 4 4 _ rfl rfl hR.mv.at_ rfl (by decide)
   have hle := findN_le L Yn s
   have hz := hR.mv.keeps.size
   have hfr := Ul (L := L) (ws := Yn) (st := s)
   have hfn := Jz L (ws := Yn) (st := s)
   have hst := filters_step 5 L m s
   have hsp := filters_stop 5 L m s
   have hrf := rem_filter L 5 (Zm L Yn s) (Yf L Yn s)
   generalize hk : Zm L Yn s = k at *
   generalize hs1 : Yf L Yn s = s1 at *
   have R0 := Hh hR
   have HA := Hh (And.intro hacc (And.intro hm (And.intro hrem hfr)))
   have HE := Hh heq
   have HS := Hh (And.intro hst (And.intro hsp (And.intro hfn hrf)))
   clear hR hm hacc heq hrem hfr hst hsp hfn hrf hk hs1
   have hle4 : k ≤ 4 := hle
   clear hle
   have h5 : k = 0 ∨ k = 1 ∨ k = 2 ∨ k = 3 ∨ k = 4 := by omega
   clear hle4
   rcases h5 with rfl | rfl | rfl | rfl | rfl
   · rw [show ((0 : Nat) : Int) = 0 from rfl] at hf
     go_wp2_with (first
 | (go_at_call 147; refine hf.mono ?_; rintro e w1 ⟨rfl, m1⟩
    have nb := Za w1 (.cells #[.int .i64 0, .int .i64 0, .int .i64 0, .string ⟨#[]⟩] 115)
    have hcell := (m1.at_.below nb).cell
    have hz1 : w.heap.size ≤ w1.heap.size := by have := m1.keeps.size; omega
    have G1 := Hh (Zb.made w1 115 #[.int .i64 0, .int .i64 0, .int .i64 0, .string ⟨#[]⟩])
    have R1 := Hh ((R0.out.then m1).next nb)
    have V1 := Hh ((R0.out.then m1).fresh (Nat.le_refl w1.heap.size)); clear m1 nb))
     go_ret
     have hs := HS.out.2.2.1 (by first | rfl | trivial)
     refine ⟨_, rfl, ?_⟩
     rw [HE.out, HS.out.2.1 (by first | rfl | trivial)]
     have R := R1.out
     rw [hs] at R
     simpa using R
   · rw [show ((1 : Nat) : Int) = 1 from rfl] at hf
     have HF := Hh (show Ve 5 L 1 s1 = ((⟨1, Zm L wOp s1, signN L (Yu L wOp s1), ⟨#[]⟩⟩ : Fl), Jx L (Yu L wOp s1)) from rfl)
     generalize hop : Zm L wOp s1 = op at *
     generalize hs2 : Yu L wOp s1 = s2 at *
     generalize hsg : signN L s2 = sg at *
     have hopc : ∀ w, PAt w q c r K L s1 → Calls Tryz.prog 280 #[.pointer (some ⟨q, 0, none⟩)] w (Yg w q c r K L s2 (.int .i64 (op : Int))) := fun w h => by rw [← hop, ← hs2]; exact xop w q c r K L s1 h
     have hrd : ∀ w, PAt w q c r K L s2 → Calls Tryz.prog 179 #[.pointer (some ⟨q, 0, none⟩), .func (.func 181) #[Xz c s2] #[]] w (Yg w q c r K L (Jx L s2) (.int .i64 sg)) := fun w h => by rw [← hsg]; exact xreadSigned w q c r K L s2 h
     clear hop hs2 hsg
     go_wp2_with (first
 | (go_at_call 147; refine hf.mono ?_; rintro e w1 ⟨rfl, m1⟩
    have nb := Za w1 (.cells #[.int .i64 1, .int .i64 0, .int .i64 0, .string ⟨#[]⟩] 115)
    have hcell := (m1.at_.below nb).cell
    have hz1 : w.heap.size ≤ w1.heap.size := by have := m1.keeps.size; omega
    have G1 := Hh (Zb.made w1 115 #[.int .i64 1, .int .i64 0, .int .i64 0, .string ⟨#[]⟩])
    have R1 := Hh ((R0.out.then m1).next nb)
    have V1 := Hh ((R0.out.then m1).fresh (Nat.le_refl w1.heap.size)); clear m1 nb)
 | (go_at_call 280; refine (hopc _ R1.out.mv.at_).mono ?_; rintro e w2 ⟨rfl, m2⟩
    have hz2 : w1.heap.size + 1 ≤ w2.heap.size := by have := m2.keeps.size; (try simp at this); omega
    have G2 := Hh (m2.keeps.whole G1.out (by have := R1.out.qin; have := R1.out.cin; omega))
    have R2 := Hh (R1.out.then m2)
    have hcell := R2.out.mv.at_.cell; clear m2)
 | ((with_reducible refine Zl 17 16 ?_); refine Zn 3 _ _ 115 w1.heap.size 1 [.int .i64 1] (.int .i64 0) (.int .i64 (op : Int)) [.int .i64 0, .string ⟨#[]⟩] G2.out rfl Yy rfl rfl rfl rfl rfl rfl ?_
    intro w3 p3
    have G3 := Hh (show Zb w3 w1.heap.size 115 [.int .i64 1, .int .i64 (op : Int), .int .i64 0, .string ⟨#[]⟩].toArray from p3.whole)
    have R3 := Hh (R2.out.put p3 hz1 V1.out)
    have hcell := R3.out.mv.at_.cell
    have hz3 := Nat.le_trans hz2 p3.keeps.size
    clear p3)
 | (go_at_call 179; refine (hrd _ R3.out.mv.at_).mono ?_; rintro e w4 ⟨rfl, m4⟩
    have hz4 := Nat.le_trans hz3 m4.keeps.size
    have G4 := Hh (m4.keeps.whole G3.out (by have := R3.out.qin; have := R3.out.cin; omega))
    have R4 := Hh (R3.out.then m4)
    have hcell := R4.out.mv.at_.cell; clear m4)
 | ((with_reducible refine Zl 25 24 ?_); refine Zn 3 _ _ 115 w1.heap.size 2 [.int .i64 1, .int .i64 (op : Int)] (.int .i64 0) (.int .i64 sg) [.string ⟨#[]⟩] G4.out rfl Yy rfl rfl rfl rfl rfl rfl ?_
    intro w5 p5
    have G5 := Hh (show Zb w5 w1.heap.size 115 [.int .i64 1, .int .i64 (op : Int), .int .i64 sg, .string ⟨#[]⟩].toArray from p5.whole)
    have R5 := Hh (R4.out.put p5 hz1 V1.out)
    have hcell := R5.out.mv.at_.cell
    have hz5 := Nat.le_trans hz4 p5.keeps.size
    clear p5)
 | ((with_reducible refine Ze 48 ?_); refine Zd 115 _ 115 w1.heap.size _ G5.out row_fl size_fl rfl rfl rfl ?_)
 | (at_builtin; refine Xm (.tmp 47) (.tmp 49) 44 115 4 40 _ und_fls info_fl rfl (by decide) (by decide) w.heap.size (.slice A acc.length cp) acc.length (flsV acc) [.int .i64 1, .int .i64 (op : Int), .int .i64 sg, .string ⟨#[]⟩] (Un R5.out.row (Za w5 (.cells [.int .i64 1, .int .i64 (op : Int), .int .i64 sg, .string ⟨#[]⟩].toArray 115))) w5.heap.size (Zb.made _ _ _) rfl (by simp [Value.oneCell']) (by have := HA.out.1; have := HL.out; omega) (by simp; omega) rfl rfl rfl rfl ?_
    intro v9 w9 o9 g9 at9
    have R9 := Hh ((R5.out.next (Za w5 (.cells [.int .i64 1, .int .i64 (op : Int), .int .i64 sg, .string ⟨#[]⟩].toArray 115))).push o9 g9); clear o9 g9 at9))
     go_roundw
     case rel =>
       refine ⟨m, acc ++ [⟨1, op, sg, ⟨#[]⟩⟩], Jx L s2, ?_, ?_, ?_, ?_⟩
       · rw [List.length_append, flsV_snoc]; exact R9.out
       · have := HA.out.2.1; have := HA.out.2.2.2 (by decide); have h4 := HS.out.2.2.2; rw [HF.out] at h4; dsimp only at h4; omega
       · have := HA.out.1; have := HA.out.2.2.2 (by decide); have h4 := HS.out.2.2.2; rw [HF.out] at h4; dsimp only at h4; rw [List.length_append]; simp only [List.length_cons, List.length_nil]; omega
       · rw [HE.out, HS.out.1 (by decide), HF.out]; simp
     case measure =>
       have h1 := R9.out.mv.at_.rem
       have h2 := HA.out.2.2.1
       have := HA.out.2.2.2 (by decide)
       have h4 := HS.out.2.2.2
       rw [HF.out] at h4; dsimp only at h4
       rw [h1, h2]; omega
   · rw [show ((2 : Nat) : Int) = 2 from rfl] at hf
     have HF := Hh (show Ve 5 L 2 s1 = ((⟨2, Zm L wOp s1, signN L (Yu L wOp s1), ⟨#[]⟩⟩ : Fl), Jx L (Yu L wOp s1)) from rfl)
     generalize hop : Zm L wOp s1 = op at *
     generalize hs2 : Yu L wOp s1 = s2 at *
     generalize hsg : signN L s2 = sg at *
     have hopc : ∀ w, PAt w q c r K L s1 → Calls Tryz.prog 280 #[.pointer (some ⟨q, 0, none⟩)] w (Yg w q c r K L s2 (.int .i64 (op : Int))) := fun w h => by rw [← hop, ← hs2]; exact xop w q c r K L s1 h
     have hrd : ∀ w, PAt w q c r K L s2 → Calls Tryz.prog 179 #[.pointer (some ⟨q, 0, none⟩), .func (.func 181) #[Xz c s2] #[]] w (Yg w q c r K L (Jx L s2) (.int .i64 sg)) := fun w h => by rw [← hsg]; exact xreadSigned w q c r K L s2 h
     clear hop hs2 hsg
     go_wp2_with (first
 | (go_at_call 147; refine hf.mono ?_; rintro e w1 ⟨rfl, m1⟩
    have nb := Za w1 (.cells #[.int .i64 2, .int .i64 0, .int .i64 0, .string ⟨#[]⟩] 115)
    have hcell := (m1.at_.below nb).cell
    have hz1 : w.heap.size ≤ w1.heap.size := by have := m1.keeps.size; omega
    have G1 := Hh (Zb.made w1 115 #[.int .i64 2, .int .i64 0, .int .i64 0, .string ⟨#[]⟩])
    have R1 := Hh ((R0.out.then m1).next nb)
    have V1 := Hh ((R0.out.then m1).fresh (Nat.le_refl w1.heap.size)); clear m1 nb)
 | (go_at_call 280; refine (hopc _ R1.out.mv.at_).mono ?_; rintro e w2 ⟨rfl, m2⟩
    have hz2 : w1.heap.size + 1 ≤ w2.heap.size := by have := m2.keeps.size; (try simp at this); omega
    have G2 := Hh (m2.keeps.whole G1.out (by have := R1.out.qin; have := R1.out.cin; omega))
    have R2 := Hh (R1.out.then m2)
    have hcell := R2.out.mv.at_.cell; clear m2)
 | ((with_reducible refine Zl 17 16 ?_); refine Zn 3 _ _ 115 w1.heap.size 1 [.int .i64 2] (.int .i64 0) (.int .i64 (op : Int)) [.int .i64 0, .string ⟨#[]⟩] G2.out rfl Yy rfl rfl rfl rfl rfl rfl ?_
    intro w3 p3
    have G3 := Hh (show Zb w3 w1.heap.size 115 [.int .i64 2, .int .i64 (op : Int), .int .i64 0, .string ⟨#[]⟩].toArray from p3.whole)
    have R3 := Hh (R2.out.put p3 hz1 V1.out)
    have hcell := R3.out.mv.at_.cell
    have hz3 := Nat.le_trans hz2 p3.keeps.size
    clear p3)
 | (go_at_call 179; refine (hrd _ R3.out.mv.at_).mono ?_; rintro e w4 ⟨rfl, m4⟩
    have hz4 := Nat.le_trans hz3 m4.keeps.size
    have G4 := Hh (m4.keeps.whole G3.out (by have := R3.out.qin; have := R3.out.cin; omega))
    have R4 := Hh (R3.out.then m4)
    have hcell := R4.out.mv.at_.cell; clear m4)
 | ((with_reducible refine Zl 25 24 ?_); refine Zn 3 _ _ 115 w1.heap.size 2 [.int .i64 2, .int .i64 (op : Int)] (.int .i64 0) (.int .i64 sg) [.string ⟨#[]⟩] G4.out rfl Yy rfl rfl rfl rfl rfl rfl ?_
    intro w5 p5
    have G5 := Hh (show Zb w5 w1.heap.size 115 [.int .i64 2, .int .i64 (op : Int), .int .i64 sg, .string ⟨#[]⟩].toArray from p5.whole)
    have R5 := Hh (R4.out.put p5 hz1 V1.out)
    have hcell := R5.out.mv.at_.cell
    have hz5 := Nat.le_trans hz4 p5.keeps.size
    clear p5)
 | ((with_reducible refine Ze 48 ?_); refine Zd 115 _ 115 w1.heap.size _ G5.out row_fl size_fl rfl rfl rfl ?_)
 | (at_builtin; refine Xm (.tmp 47) (.tmp 49) 44 115 4 40 _ und_fls info_fl rfl (by decide) (by decide) w.heap.size (.slice A acc.length cp) acc.length (flsV acc) [.int .i64 2, .int .i64 (op : Int), .int .i64 sg, .string ⟨#[]⟩] (Un R5.out.row (Za w5 (.cells [.int .i64 2, .int .i64 (op : Int), .int .i64 sg, .string ⟨#[]⟩].toArray 115))) w5.heap.size (Zb.made _ _ _) rfl (by simp [Value.oneCell']) (by have := HA.out.1; have := HL.out; omega) (by simp; omega) rfl rfl rfl rfl ?_
    intro v9 w9 o9 g9 at9
    have R9 := Hh ((R5.out.next (Za w5 (.cells [.int .i64 2, .int .i64 (op : Int), .int .i64 sg, .string ⟨#[]⟩].toArray 115))).push o9 g9); clear o9 g9 at9))
     go_roundw
     case rel =>
       refine ⟨m, acc ++ [⟨2, op, sg, ⟨#[]⟩⟩], Jx L s2, ?_, ?_, ?_, ?_⟩
       · rw [List.length_append, flsV_snoc]; exact R9.out
       · have := HA.out.2.1; have := HA.out.2.2.2 (by decide); have h4 := HS.out.2.2.2; rw [HF.out] at h4; dsimp only at h4; omega
       · have := HA.out.1; have := HA.out.2.2.2 (by decide); have h4 := HS.out.2.2.2; rw [HF.out] at h4; dsimp only at h4; rw [List.length_append]; simp only [List.length_cons, List.length_nil]; omega
       · rw [HE.out, HS.out.1 (by decide), HF.out]; simp
     case measure =>
       have h1 := R9.out.mv.at_.rem
       have h2 := HA.out.2.2.1
       have := HA.out.2.2.2 (by decide)
       have h4 := HS.out.2.2.2
       rw [HF.out] at h4; dsimp only at h4
       rw [h1, h2]; omega
   · rw [show ((3 : Nat) : Int) = 3 from rfl] at hf
     have HF := Hh (show Ve 5 L 3 s1 = ((⟨3, 0, 0, nameN L s1⟩ : Fl), Wm L s1) from rfl)
     generalize hnm : nameN L s1 = nm at *
     have hrd : ∀ w, PAt w q c r K L s1 → Calls Tryz.prog 176 #[.pointer (some ⟨q, 0, none⟩), .func (.func 177) #[Xz c s1] #[]] w (Yg w q c r K L (Wm L s1) (.string nm)) := fun w h => by rw [← hnm]; exact xreadName w q c r K L s1 h
     clear hnm
     go_wp2_with (first
 | (go_at_call 147; refine hf.mono ?_; rintro e w1 ⟨rfl, m1⟩
    have nb := Za w1 (.cells #[.int .i64 3, .int .i64 0, .int .i64 0, .string ⟨#[]⟩] 115)
    have hcell := (m1.at_.below nb).cell
    have hz1 : w.heap.size ≤ w1.heap.size := by have := m1.keeps.size; omega
    have G1 := Hh (Zb.made w1 115 #[.int .i64 3, .int .i64 0, .int .i64 0, .string ⟨#[]⟩])
    have R1 := Hh ((R0.out.then m1).next nb)
    have V1 := Hh ((R0.out.then m1).fresh (Nat.le_refl w1.heap.size)); clear m1 nb)
 | (go_at_call 176; refine (hrd _ R1.out.mv.at_).mono ?_; rintro e w2 ⟨rfl, m2⟩
    have hz2 : w1.heap.size + 1 ≤ w2.heap.size := by have := m2.keeps.size; (try simp at this); omega
    have G2 := Hh (m2.keeps.whole G1.out (by have := R1.out.qin; have := R1.out.cin; omega))
    have R2 := Hh (R1.out.then m2)
    have hcell := R2.out.mv.at_.cell; clear m2)
 | ((with_reducible refine Zl 35 34 ?_); refine Zn 9 _ _ 115 w1.heap.size 3 [.int .i64 3, .int .i64 0, .int .i64 0] (.string ⟨#[]⟩) (.string nm) [] G2.out rfl size_str rfl rfl rfl rfl rfl rfl ?_
    intro w3 p3
    have G3 := Hh (show Zb w3 w1.heap.size 115 [.int .i64 3, .int .i64 0, .int .i64 0, .string nm].toArray from p3.whole)
    have R3 := Hh (R2.out.put p3 hz1 V1.out)
    have hcell := R3.out.mv.at_.cell
    have hz3 := Nat.le_trans hz2 p3.keeps.size
    clear p3)
 | ((with_reducible refine Ze 48 ?_); refine Zd 115 _ 115 w1.heap.size _ G3.out row_fl size_fl rfl rfl rfl ?_)
 | (at_builtin; refine Xm (.tmp 47) (.tmp 49) 44 115 4 40 _ und_fls info_fl rfl (by decide) (by decide) w.heap.size (.slice A acc.length cp) acc.length (flsV acc) [.int .i64 3, .int .i64 0, .int .i64 0, .string nm] (Un R3.out.row (Za w3 (.cells [.int .i64 3, .int .i64 0, .int .i64 0, .string nm].toArray 115))) w3.heap.size (Zb.made _ _ _) rfl (by simp [Value.oneCell']) (by have := HA.out.1; have := HL.out; omega) (by simp; omega) rfl rfl rfl rfl ?_
    intro v9 w9 o9 g9 at9
    have R9 := Hh ((R3.out.next (Za w3 (.cells [.int .i64 3, .int .i64 0, .int .i64 0, .string nm].toArray 115))).push o9 g9); clear o9 g9 at9))
     go_roundw
     case rel =>
       refine ⟨m, acc ++ [⟨3, 0, 0, nm⟩], Wm L s1, ?_, ?_, ?_, ?_⟩
       · rw [List.length_append, flsV_snoc]; exact R9.out
       · have := HA.out.2.1; have := HA.out.2.2.2 (by decide); have h4 := HS.out.2.2.2; rw [HF.out] at h4; dsimp only at h4; omega
       · have := HA.out.1; have := HA.out.2.2.2 (by decide); have h4 := HS.out.2.2.2; rw [HF.out] at h4; dsimp only at h4; rw [List.length_append]; simp only [List.length_cons, List.length_nil]; omega
       · rw [HE.out, HS.out.1 (by decide), HF.out]; simp
     case measure =>
       have h1 := R9.out.mv.at_.rem
       have h2 := HA.out.2.2.1
       have := HA.out.2.2.2 (by decide)
       have h4 := HS.out.2.2.2
       rw [HF.out] at h4; dsimp only at h4
       rw [h1, h2]; omega
   · rw [show ((4 : Nat) : Int) = 4 from rfl] at hf
     by_cases hme : isS L sMe s1 = true
     · have HF := Hh (show Ve 5 L 4 s1 = ((⟨4, 0, 0, ⟨#[]⟩⟩ : Fl), Wc L sMe s1) from meit_me L s1 hme 5)
       have htk : ∀ w, PAt w q c r K L s1 → Calls Tryz.prog 136 #[Xz c s1, .string ⟨#[109, 101]⟩] w (Yg w q c r K L (Wc L sMe s1) (.bool true)) := fun w h => by rw [← hme]; exact Vf w q c r K L s1 sMe h
       clear hme
       go_wp2_with (first
 | (go_at_call 147; refine hf.mono ?_; rintro e w1 ⟨rfl, m1⟩
    have nb := Za w1 (.cells #[.int .i64 4, .int .i64 0, .int .i64 0, .string ⟨#[]⟩] 115)
    have hcell := (m1.at_.below nb).cell
    have hz1 : w.heap.size ≤ w1.heap.size := by have := m1.keeps.size; omega
    have G1 := Hh (Zb.made w1 115 #[.int .i64 4, .int .i64 0, .int .i64 0, .string ⟨#[]⟩])
    have R1 := Hh ((R0.out.then m1).next nb)
    have V1 := Hh ((R0.out.then m1).fresh (Nat.le_refl w1.heap.size)); clear m1 nb)
 | (go_at_call 136; refine (htk _ R1.out.mv.at_).mono ?_; rintro e w2 ⟨rfl, m2⟩
    have hz2 : w1.heap.size + 1 ≤ w2.heap.size := by have := m2.keeps.size; (try simp at this); omega
    have G2 := Hh (m2.keeps.whole G1.out (by have := R1.out.qin; have := R1.out.cin; omega))
    have R2 := Hh (R1.out.then m2)
    have hcell := R2.out.mv.at_.cell; clear m2)
 | ((with_reducible refine Ze 48 ?_); refine Zd 115 _ 115 w1.heap.size _ G2.out row_fl size_fl rfl rfl rfl ?_)
 | (at_builtin; refine Xm (.tmp 47) (.tmp 49) 44 115 4 40 _ und_fls info_fl rfl (by decide) (by decide) w.heap.size (.slice A acc.length cp) acc.length (flsV acc) [.int .i64 4, .int .i64 0, .int .i64 0, .string ⟨#[]⟩] (Un R2.out.row (Za w2 (.cells [.int .i64 4, .int .i64 0, .int .i64 0, .string ⟨#[]⟩].toArray 115))) w2.heap.size (Zb.made _ _ _) rfl (by simp [Value.oneCell']) (by have := HA.out.1; have := HL.out; omega) (by simp; omega) rfl rfl rfl rfl ?_
    intro v9 w9 o9 g9 at9
    have R9 := Hh ((R2.out.next (Za w2 (.cells [.int .i64 4, .int .i64 0, .int .i64 0, .string ⟨#[]⟩].toArray 115))).push o9 g9); clear o9 g9 at9))
       go_roundw
       case rel =>
         refine ⟨m, acc ++ [⟨4, 0, 0, ⟨#[]⟩⟩], Wc L sMe s1, ?_, ?_, ?_, ?_⟩
         · rw [List.length_append, flsV_snoc]; exact R9.out
         · have := HA.out.2.1; have := HA.out.2.2.2 (by decide); have h4 := HS.out.2.2.2; rw [HF.out] at h4; dsimp only at h4; omega
         · have := HA.out.1; have := HA.out.2.2.2 (by decide); have h4 := HS.out.2.2.2; rw [HF.out] at h4; dsimp only at h4; rw [List.length_append]; simp only [List.length_cons, List.length_nil]; omega
         · rw [HE.out, HS.out.1 (by decide), HF.out]; simp
       case measure =>
         have h1 := R9.out.mv.at_.rem
         have h2 := HA.out.2.2.1
         have := HA.out.2.2.2 (by decide)
         have h4 := HS.out.2.2.2
         rw [HF.out] at h4; dsimp only at h4
         rw [h1, h2]; omega
     · have hme' : isS L sMe s1 = false := by simpa using hme
       have HF := Hh (show Ve 5 L 4 s1 = ((⟨5, 0, 0, ⟨#[]⟩⟩ : Fl), Yz L sIt s1) from meit_it L s1 hme')
       have htk : ∀ w, PAt w q c r K L s1 → Calls Tryz.prog 136 #[Xz c s1, .string ⟨#[109, 101]⟩] w (Yg w q c r K L s1 (.bool false)) := fun w h => by have h1 := Vf w q c r K L s1 sMe h; rw [hme', Xq hme'] at h1; exact h1
       clear hme hme'
       go_wp2_with (first
 | (go_at_call 147; refine hf.mono ?_; rintro e w1 ⟨rfl, m1⟩
    have nb := Za w1 (.cells #[.int .i64 4, .int .i64 0, .int .i64 0, .string ⟨#[]⟩] 115)
    have hcell := (m1.at_.below nb).cell
    have hz1 : w.heap.size ≤ w1.heap.size := by have := m1.keeps.size; omega
    have G1 := Hh (Zb.made w1 115 #[.int .i64 4, .int .i64 0, .int .i64 0, .string ⟨#[]⟩])
    have R1 := Hh ((R0.out.then m1).next nb)
    have V1 := Hh ((R0.out.then m1).fresh (Nat.le_refl w1.heap.size)); clear m1 nb)
 | (go_at_call 136; refine (htk _ R1.out.mv.at_).mono ?_; rintro e w2 ⟨rfl, m2⟩
    have hz2 : w1.heap.size + 1 ≤ w2.heap.size := by have := m2.keeps.size; (try simp at this); omega
    have G2 := Hh (m2.keeps.whole G1.out (by have := R1.out.qin; have := R1.out.cin; omega))
    have R2 := Hh (R1.out.then m2)
    have hcell := R2.out.mv.at_.cell; clear m2)
 | (go_at_call 178; refine (xwant _ q c r K L _ sIt R2.out.mv.at_).mono ?_; rintro e w3 ⟨rfl, m3⟩
    have hz3 := Nat.le_trans hz2 m3.keeps.size
    have G3 := Hh (m3.keeps.whole G2.out (by have := R2.out.qin; have := R2.out.cin; omega))
    have R3 := Hh (R2.out.then m3)
    have hcell := R3.out.mv.at_.cell; clear m3)
 | ((with_reducible refine Wa ?_); refine Zn 3 (.tmp 46) (.const (.int .i64 5)) 115 w1.heap.size 0 [] (.int .i64 4) (.int .i64 5) [.int .i64 0, .int .i64 0, .string ⟨#[]⟩] G3.out rfl Yy rfl rfl rfl rfl rfl rfl ?_
    intro w4 p4
    have G4 := Hh (show Zb w4 w1.heap.size 115 [.int .i64 5, .int .i64 0, .int .i64 0, .string ⟨#[]⟩].toArray from p4.whole)
    have R4 := Hh (R3.out.put p4 hz1 V1.out)
    have hz4 : w1.heap.size + 1 ≤ w4.heap.size := by have := p4.keeps.size; omega
    clear p4)
 | ((with_reducible refine Ze 48 ?_); refine Zd 115 _ 115 w1.heap.size _ G4.out row_fl size_fl rfl rfl rfl ?_)
 | (at_builtin; refine Xm (.tmp 47) (.tmp 49) 44 115 4 40 _ und_fls info_fl rfl (by decide) (by decide) w.heap.size (.slice A acc.length cp) acc.length (flsV acc) [.int .i64 5, .int .i64 0, .int .i64 0, .string ⟨#[]⟩] (Un R4.out.row (Za w4 (.cells [.int .i64 5, .int .i64 0, .int .i64 0, .string ⟨#[]⟩].toArray 115))) w4.heap.size (Zb.made _ _ _) rfl (by simp [Value.oneCell']) (by have := HA.out.1; have := HL.out; omega) (by simp; omega) rfl rfl rfl rfl ?_
    intro v9 w9 o9 g9 at9
    have R9 := Hh ((R4.out.next (Za w4 (.cells [.int .i64 5, .int .i64 0, .int .i64 0, .string ⟨#[]⟩].toArray 115))).push o9 g9); clear o9 g9 at9))
       go_roundw
       case rel =>
         refine ⟨m, acc ++ [⟨5, 0, 0, ⟨#[]⟩⟩], Yz L sIt s1, ?_, ?_, ?_, ?_⟩
         · rw [List.length_append, flsV_snoc]; exact R9.out
         · have := HA.out.2.1; have := HA.out.2.2.2 (by decide); have h4 := HS.out.2.2.2; rw [HF.out] at h4; dsimp only at h4; omega
         · have := HA.out.1; have := HA.out.2.2.2 (by decide); have h4 := HS.out.2.2.2; rw [HF.out] at h4; dsimp only at h4; rw [List.length_append]; simp only [List.length_cons, List.length_nil]; omega
         · rw [HE.out, HS.out.1 (by decide), HF.out]; simp
       case measure =>
         have h1 := R9.out.mv.at_.rem
         have h2 := HA.out.2.2.1
         have := HA.out.2.2.2 (by decide)
         have h4 := HS.out.2.2.2
         rw [HF.out] at h4; dsimp only at h4
         rw [h1, h2]; omega
def flsDs : List Fl → Ds
 | [] => .nil
 | f :: r => .int f.kind (.int f.op (.int f.n (.str f.name (flsDs r))))
def Se.ds (s : Se) : Ds := .int s.kind (.int s.side (.int s.wh (.int s.lane (.row s.fs.length (flsDs s.fs) (.int s.pick .nil)))))
theorem fls_deep (N : Nat → Prop) (w : World) : ∀ l : List Fl, Zh N w (flsDs l) (flsV l)
 | [] => rfl
 | f :: r => ⟨_, rfl, _, rfl, _, rfl, _, rfl, fls_deep N w r⟩
theorem row_sel : (Tryz.prog.underlying 46).map TypeDesc.isRow = some true := by kernel_rfl
theorem Vn : (Tryz.prog.info? 46).map (·.size) = some 6 := by kernel_rfl
theorem size_fls : (Tryz.prog.info? 44).map (·.size) = some 1 := by kernel_rfl
def Yl (w : World) (q c r K : Nat) (L : List TokV) (st : St) (ds : Ds) (e : Ending) (w' : World) : Prop :=
 ∃ vs : List Value, e = .returned (.agg vs.toArray) ∧ Zh (fun k => w.heap.size ≤ k) w' ds vs ∧ Yo w w' q c r K L st
theorem Zh.move {B : Nat} {w w' : World} {q c r K : Nat} {L : List TokV} {st : St} {ds : Ds} {vs : List Value} (h : Zh (fun k => B ≤ k) w ds vs) (m : Yo w w' q c r K L st) (hq : q < B) (hc : c < B) : Zh (fun k => B ≤ k) w' ds vs :=
 h.keeps m.keeps fun k _ hk => ⟨fun e => by omega, hk⟩
theorem Zh.put {B : Nat} {w w' : World} {g : Nat} {t : TypeId} {cs : List Value} {ds : Ds} {vs : List Value} (h : Zh (fun k => B ≤ k) w ds vs) (p : Put w w' g t cs) (hg : g < B) : Zh (fun k => B ≤ k) w' ds vs :=
 h.keeps p.keeps fun k _ hk => ⟨fun e => by omega, hk⟩
theorem Zh.lower {B C : Nat} {w : World} {ds : Ds} {vs : List Value} (h : Zh (fun k => B ≤ k) w ds vs) (hc : C ≤ B) : Zh (fun k => C ≤ k) w ds vs := h.mono fun k _ hk => by omega
theorem xsel (w : World) (q c r K : Nat) (L : List TokV) (st : St) (n : Nat) (h : PAt w q c r K L st) (hn : Zw L st + 1 ≤ n) (hLn : Zw L st ≤ 68719476736) :
   Calls Tryz.prog 219 #[.pointer (some ⟨q, 0, none⟩)] w (Yl w q c r K L (Wt 5 L n st).2 (Wt 5 L n st).1.ds) := by
 have qin := h.whole.inside
 have cin := h.cin
 have rin := h.rin
 have nb := Za w (.cells #[.int .i64 0, .int .i64 0, .int .i64 0, .int .i64 0, .slice none 0 0, .int .i64 0] 46)
 have M0 := Hh ((Yo.start h).next nb)
 have R0 := Hh (Zb.made w 46 #[.int .i64 0, .int .i64 0, .int .i64 0, .int .i64 0, .slice none 0 0, .int .i64 0])
 have hf : Calls Tryz.prog 257 #[.pointer (some ⟨q, 0, none⟩), .slice (some ⟨w.heap.size + 1, 0, none⟩) 3 3] ((w.alloc (.cells #[.int .i64 0, .int .i64 0, .int .i64 0, .int .i64 0, .slice none 0 0, .int .i64 0] 46)).alloc (.cells #[.string ⟨#[109, 101]⟩, .string ⟨#[105, 116]⟩, .string ⟨#[40]⟩] 9)) fun e w' => e = .returned (.int .i64 (Zm L Uv st)) ∧ Yo (w.alloc (.cells #[.int .i64 0, .int .i64 0, .int .i64 0, .int .i64 0, .slice none 0 0, .int .i64 0] 46)) w' q c r K L (Yu L Uv st) := xoneB _ q c r K (w.heap.size + 1) L st Uv 3 3 _ rfl (by simp) M0.out.at_ rfl (by decide)
 have hr1 := Xk L Uv st
 clear h nb
 unfold Wt
 generalize hk : Zm L Uv st = k at *
 generalize hs1 : Yu L Uv st = s1 at *
 clear hk hs1
 by_cases h3 : k = 3
 · subst h3
   rw [if_pos rfl]
   unfold whereN whereS
   have hr2 := Xk L Zt s1
   have hr3 := Xk L Wr (Yu L Zt s1)
   generalize hsd : Zm L Zt s1 = sd at *
   generalize hs2 : Yu L Zt s1 = s2 at *
   have hside : ∀ w, PAt w q c r K L s1 → Calls Tryz.prog 220 #[.pointer (some ⟨q, 0, none⟩)] w (Yg w q c r K L s2 (.int .i64 (sd : Int))) := fun w h => by rw [← hsd, ← hs2]; exact xside w q c r K L s1 h
   generalize hwh : Zm L Wr s2 = wh at *
   generalize hs3 : Yu L Wr s2 = s3 at *
   have hwhe : ∀ W G, G = W.heap.size → PAt W q c r K L s2 → Calls Tryz.prog 257 #[.pointer (some ⟨q, 0, none⟩), .slice (some ⟨G, 0, none⟩) 4 4] (W.alloc (.cells #[.string ⟨#[104, 101, 114, 101]⟩, .string ⟨#[97, 119, 97, 121]⟩, .string ⟨#[108, 97, 110, 101]⟩, .string ⟨#[97, 110, 121, 119, 104, 101, 114, 101]⟩] 9)) fun e w' => e = .returned (.int .i64 (wh : Int)) ∧ Yo W w' q c r K L s3 := fun W G h2 h => by rw [← hwh, ← hs3]; exact xoneB W q c r K G L s2 Wr 4 4 _ rfl h2 h rfl (by decide)
   clear hsd hs2 hwh hs3
   rw [show ((3 : Nat) : Int) = 3 from rfl] at hf
   have hwi : (wh : Int) = 3 ↔ wh = 3 := by omega
   have hii := rem_int L s3
   by_cases hw3 : wh = 3
   · rw [if_pos hw3, if_pos hw3]
     have hw3' : ((wh : Int) == 3) = true := by rw [hw3]; rfl
     generalize hln : intN L s3 = ln at *
     have hrd : ∀ w, PAt w q c r K L s3 → Calls Tryz.prog 179 #[.pointer (some ⟨q, 0, none⟩), .func (.func 180) #[Xz c s3] #[]] w (Yg w q c r K L (intS L s3) (.int .i64 ln)) := fun w h => by rw [← hln]; exact xreadInt w q c r K L s3 h
     generalize hs4 : intS L s3 = s4 at *
     have hfi : ∀ w, PAt w q c r K L s4 → Calls Tryz.prog 258 #[.pointer (some ⟨q, 0, none⟩)] w (FiltersPost w q c r K L (Xc 5 L n s4)) := fun w h => xfilters w q c r K L s4 n h (by omega) (by omega)
     generalize hfs : Xc 5 L n s4 = fs at *
     generalize hpk : Zm L wPick fs.2 = pk at *
     generalize hs5 : Yu L wPick fs.2 = s5 at *
     have hpi : ∀ W G, G = W.heap.size → PAt W q c r K L fs.2 → Calls Tryz.prog 257 #[.pointer (some ⟨q, 0, none⟩), .slice (some ⟨G, 0, none⟩) 5 5] (W.alloc (.cells #[.string ⟨#[97, 108, 108]⟩, .string ⟨#[102, 105, 114, 115, 116]⟩, .string ⟨#[108, 97, 115, 116]⟩, .string ⟨#[119, 101, 97, 107, 101, 115, 116]⟩, .string ⟨#[115, 116, 114, 111, 110, 103, 101, 115, 116]⟩] 9)) fun e w' => e = .returned (.int .i64 (pk : Int)) ∧ Yo W w' q c r K L s5 := fun W G h2 h => by rw [← hpk, ← hs5]; exact xoneB W q c r K G L fs.2 wPick 5 5 _ rfl h2 h rfl (by decide)
     clear hln hs4 hfs hpk hs5 hr1 hr2 hr3 hii hwi hn hLn hw3
     go_enter Tryz.func219, Tryz.ntmps219
     go_wp2_with (first
 | (go_at_call 257; (with_reducible refine hf.mono ?_); rintro e w1 ⟨rfl, m1⟩
    have nb := Za w1 (.cells #[.int .i64 3, .int .i64 0, .int .i64 0, .int .i64 0, .slice none 0 0, .int .i64 0] 46)
    have hz0 : w.heap.size + 1 ≤ w1.heap.size := by have := m1.keeps.size; simp at this; omega
    have T1 := Hh (Zb.made w1 46 #[.int .i64 3, .int .i64 0, .int .i64 0, .int .i64 0, .slice none 0 0, .int .i64 0])
    have R1 := Hh ((m1.keeps.whole R0.out (by omega)).below nb (by omega))
    have M1 := Hh ((M0.out.then m1).next nb); clear m1 nb)
 | (go_at_call 220; refine (hside _ M1.out.at_).mono ?_; rintro e w2 ⟨rfl, m2⟩
    have hz2 : w1.heap.size + 1 ≤ w2.heap.size := by have := m2.keeps.size; (try simp at this); omega
    have T2 := Hh (m2.keeps.whole T1.out (by omega))
    have R2 := Hh (m2.keeps.whole R1.out (by omega))
    have M2 := Hh (M1.out.then m2)
    have hcell := M2.out.at_.cell
    clear m2)
 | ((with_reducible refine Zl 14 13 ?_); refine Zn 3 _ _ 46 w1.heap.size 1 [.int .i64 3] (.int .i64 0) (.int .i64 (sd : Int)) [.int .i64 0, .int .i64 0, .slice none 0 0, .int .i64 0] T2.out rfl Yy rfl rfl rfl rfl rfl rfl ?_
    intro w3 p3
    have T3 := Hh (show Zb w3 w1.heap.size 46 [.int .i64 3, .int .i64 (sd : Int), .int .i64 0, .int .i64 0, .slice none 0 0, .int .i64 0].toArray from p3.whole)
    have R3 := Hh (p3.keeps.whole R2.out (by omega))
    have M3 := Hh (M2.out.put p3 (by omega) qin cin rin)
    have hcell := M3.out.at_.cell
    have hz3 : w1.heap.size + 1 ≤ w3.heap.size := by have := p3.keeps.size; omega
    clear p3)
 | (go_at_call 257; (with_reducible refine (hwhe _ _ ?_ ?_).mono ?_); rfl; exact M3.out.at_; rintro e w4 ⟨rfl, m4⟩
    have hz4 := Nat.le_trans hz3 m4.keeps.size
    have T4 := Hh (m4.keeps.whole T3.out (by omega))
    have R4 := Hh (m4.keeps.whole R3.out (by omega))
    have M4 := Hh (M3.out.then m4)
    have hcell := M4.out.at_.cell
    clear m4)
 | ((with_reducible refine Zl 18 17 ?_); refine Zn 3 _ _ 46 w1.heap.size 2 [.int .i64 3, .int .i64 (sd : Int)] (.int .i64 0) (.int .i64 (wh : Int)) [.int .i64 0, .slice none 0 0, .int .i64 0] T4.out rfl Yy rfl rfl rfl rfl rfl rfl ?_
    intro w5 p5
    have T5 := Hh (show Zb w5 w1.heap.size 46 [.int .i64 3, .int .i64 (sd : Int), .int .i64 (wh : Int), .int .i64 0, .slice none 0 0, .int .i64 0].toArray from p5.whole)
    have R5 := Hh (p5.keeps.whole R4.out (by omega))
    have M5 := Hh (M4.out.put p5 (by omega) qin cin rin)
    have hcell := M5.out.at_.cell
    have hz5 : w1.heap.size + 1 ≤ w5.heap.size := by have := p5.keeps.size; omega
    have hw2 : w5.cell? ⟨w1.heap.size, 2, none⟩ = some (.int .i64 (wh : Int)) := T5.out.read 2
    clear p5)
 | (go_at_call 179; refine (hrd _ M5.out.at_).mono ?_; rintro e w6 ⟨rfl, m6⟩
    have hz6 := Nat.le_trans hz5 m6.keeps.size
    have T6 := Hh (m6.keeps.whole T5.out (by omega))
    have R6 := Hh (m6.keeps.whole R5.out (by omega))
    have M6 := Hh (M5.out.then m6)
    have hcell := M6.out.at_.cell
    clear m6)
 | ((with_reducible refine Zl 29 28 ?_); refine Zn 3 _ _ 46 w1.heap.size 3 [.int .i64 3, .int .i64 (sd : Int), .int .i64 (wh : Int)] (.int .i64 0) (.int .i64 ln) [.slice none 0 0, .int .i64 0] T6.out rfl Yy rfl rfl rfl rfl rfl rfl ?_
    intro w7 p7
    have T7 := Hh (show Zb w7 w1.heap.size 46 [.int .i64 3, .int .i64 (sd : Int), .int .i64 (wh : Int), .int .i64 ln, .slice none 0 0, .int .i64 0].toArray from p7.whole)
    have R7 := Hh (p7.keeps.whole R6.out (by omega))
    have M7 := Hh (M6.out.put p7 (by omega) qin cin rin)
    have hcell := M7.out.at_.cell
    have hz7 : w1.heap.size + 1 ≤ w7.heap.size := by have := p7.keeps.size; omega
    clear p7)
 | (go_at_call 258; refine (hfi _ M7.out.at_).mono ?_; rintro e w8 ⟨v8, rfl, r8⟩
    have m8 := r8.mv
    have hz8 := Nat.le_trans hz7 m8.keeps.size
    have T8 := Hh (m8.keeps.whole T7.out (by omega))
    have R8 := Hh (m8.keeps.whole R7.out (by omega))
    have M8 := Hh (M7.out.then m8)
    have hcell := M8.out.at_.cell
    obtain ⟨A8, c8, rfl, hn8, hw8⟩ := own_within r8.row
    have D8 := Hh (show Zh (fun k => w1.heap.size + 1 ≤ k) w8 (.row fs.1.length (flsDs fs.1) .nil) [.slice A8 fs.1.length c8] from Zh.rowOf r8.row (fun k hk => by omega) (fls_deep _ _ _))
    clear m8 r8 hw8 hn8)
 | ((with_reducible refine Zl 32 31 ?_); refine Zn 44 _ _ 46 w1.heap.size 4 [.int .i64 3, .int .i64 (sd : Int), .int .i64 (wh : Int), .int .i64 ln] (.slice none 0 0) (.slice A8 fs.1.length c8) [.int .i64 0] T8.out rfl size_fls rfl rfl rfl rfl rfl rfl ?_
    intro w9 p9
    have T9 := Hh (show Zb w9 w1.heap.size 46 [.int .i64 3, .int .i64 (sd : Int), .int .i64 (wh : Int), .int .i64 ln, .slice A8 fs.1.length c8, .int .i64 0].toArray from p9.whole)
    have R9 := Hh (p9.keeps.whole R8.out (by omega))
    have M9 := Hh (M8.out.put p9 (by omega) qin cin rin)
    have hcell := M9.out.at_.cell
    have hz9 : w1.heap.size + 1 ≤ w9.heap.size := by have := p9.keeps.size; omega
    have D9 := Hh (D8.out.put p9 (by omega))
    clear p9)
 | (go_at_call 257; (with_reducible refine (hpi _ _ ?_ ?_).mono ?_); rfl; exact M9.out.at_; rintro e w10 ⟨rfl, m10⟩
    have hz10 := Nat.le_trans hz9 m10.keeps.size
    have T10 := Hh (m10.keeps.whole T9.out (by omega))
    have R10 := Hh (m10.keeps.whole R9.out (by omega))
    have M10 := Hh (M9.out.then m10)
    have hcell := M10.out.at_.cell
    have D10 := Hh (D9.out.move m10 (by omega) (by omega))
    clear m10)
 | ((with_reducible refine Zl 36 35 ?_); refine Zn 3 _ _ 46 w1.heap.size 5 [.int .i64 3, .int .i64 (sd : Int), .int .i64 (wh : Int), .int .i64 ln, .slice A8 fs.1.length c8] (.int .i64 0) (.int .i64 (pk : Int)) [] T10.out rfl Yy rfl rfl rfl rfl rfl rfl ?_
    intro w11 p11
    have T11 := Hh (show Zb w11 w1.heap.size 46 [.int .i64 3, .int .i64 (sd : Int), .int .i64 (wh : Int), .int .i64 ln, .slice A8 fs.1.length c8, .int .i64 (pk : Int)].toArray from p11.whole)
    have R11 := Hh (p11.keeps.whole R10.out (by omega))
    have M11 := Hh (M10.out.put p11 (by omega) qin cin rin)
    have hcell := M11.out.at_.cell
    have hz11 : w1.heap.size + 1 ≤ w11.heap.size := by have := p11.keeps.size; omega
    have D11 := Hh (D10.out.put p11 (by omega))
    clear p11)
 | (go_at_call 178; refine (xwant _ q c r K L _ Uz M11.out.at_).mono ?_; rintro e w12 ⟨rfl, m12⟩
    have hz12 := Nat.le_trans hz11 m12.keeps.size
    have T12 := Hh (m12.keeps.whole T11.out (by omega))
    have R12 := Hh (m12.keeps.whole R11.out (by omega))
    have M12 := Hh (M11.out.then m12)
    have hcell := M12.out.at_.cell
    have D12 := Hh (D11.out.move m12 (by omega) (by omega))
    clear m12)
 | ((with_reducible refine Ze 39 ?_); refine Zd 46 _ 46 w1.heap.size _ T12.out row_sel Vn rfl rfl rfl ?_)
 | ((with_reducible refine Zl 2 39 ?_); refine Zc 46 _ _ 46 w.heap.size _ [.int .i64 3, .int .i64 (sd : Int), .int .i64 (wh : Int), .int .i64 ln, .slice A8 fs.1.length c8, .int .i64 (pk : Int)] R12.out rfl Vn (by simp [Value.oneCell']) rfl rfl rfl rfl rfl ?_
    intro w13 p13
    have R13 := Hh p13.whole
    have M13 := Hh (M12.out.put p13 (Nat.le_refl _) qin cin rin)
    have D13 := Hh (D12.out.put p13 (by omega))
    clear p13))
     refine Zs 2 46 46 w.heap.size _ rfl R13.out row_sel Vn rfl rfl ⟨_, rfl, ?_, M13.out⟩
     obtain ⟨A, c', xs, t, e1, e2, e3, e4, e5⟩ := D13.out
     injection e1 with e1 e6
     injection e1 with e7 _ e8
     subst e7 e8
     exact ⟨_, rfl, _, rfl, _, rfl, _, rfl, A8, c8, xs, _, rfl, e2, (e3.keeps (S := fun _ => False) (Zo.refl _ _) fun k _ hk => ⟨id, by omega⟩), e4.lower (by omega), _, rfl, rfl⟩
   · rw [if_neg hw3, if_neg hw3]
     have hw3' : ((wh : Int) == 3) = false := by rw [beq_eq_false_iff_ne]; omega
     obtain ⟨s4, hs4, hii⟩ : ∃ s4, s3 = s4 ∧ Zw L s4 ≤ Zw L s3 := ⟨s3, rfl, Nat.le_refl _⟩
     subst hs4
     have hfi : ∀ w, PAt w q c r K L s3 → Calls Tryz.prog 258 #[.pointer (some ⟨q, 0, none⟩)] w (FiltersPost w q c r K L (Xc 5 L n s3)) := fun w h => xfilters w q c r K L s3 n h (by omega) (by omega)
     generalize hfs : Xc 5 L n s3 = fs at *
     generalize hpk : Zm L wPick fs.2 = pk at *
     generalize hs5 : Yu L wPick fs.2 = s5 at *
     have hpi : ∀ W G, G = W.heap.size → PAt W q c r K L fs.2 → Calls Tryz.prog 257 #[.pointer (some ⟨q, 0, none⟩), .slice (some ⟨G, 0, none⟩) 5 5] (W.alloc (.cells #[.string ⟨#[97, 108, 108]⟩, .string ⟨#[102, 105, 114, 115, 116]⟩, .string ⟨#[108, 97, 115, 116]⟩, .string ⟨#[119, 101, 97, 107, 101, 115, 116]⟩, .string ⟨#[115, 116, 114, 111, 110, 103, 101, 115, 116]⟩] 9)) fun e w' => e = .returned (.int .i64 (pk : Int)) ∧ Yo W w' q c r K L s5 := fun W G h2 h => by rw [← hpk, ← hs5]; exact xoneB W q c r K G L fs.2 wPick 5 5 _ rfl h2 h rfl (by decide)
     clear hfs hpk hs5 hr1 hr2 hr3 hii hwi hn hLn hw3
     go_enter Tryz.func219, Tryz.ntmps219
     go_wp2_with (first
 | (go_at_call 257; (with_reducible refine hf.mono ?_); rintro e w1 ⟨rfl, m1⟩
    have nb := Za w1 (.cells #[.int .i64 3, .int .i64 0, .int .i64 0, .int .i64 0, .slice none 0 0, .int .i64 0] 46)
    have hz0 : w.heap.size + 1 ≤ w1.heap.size := by have := m1.keeps.size; simp at this; omega
    have T1 := Hh (Zb.made w1 46 #[.int .i64 3, .int .i64 0, .int .i64 0, .int .i64 0, .slice none 0 0, .int .i64 0])
    have R1 := Hh ((m1.keeps.whole R0.out (by omega)).below nb (by omega))
    have M1 := Hh ((M0.out.then m1).next nb); clear m1 nb)
 | (go_at_call 220; refine (hside _ M1.out.at_).mono ?_; rintro e w2 ⟨rfl, m2⟩
    have hz2 : w1.heap.size + 1 ≤ w2.heap.size := by have := m2.keeps.size; (try simp at this); omega
    have T2 := Hh (m2.keeps.whole T1.out (by omega))
    have R2 := Hh (m2.keeps.whole R1.out (by omega))
    have M2 := Hh (M1.out.then m2)
    have hcell := M2.out.at_.cell
    clear m2)
 | ((with_reducible refine Zl 14 13 ?_); refine Zn 3 _ _ 46 w1.heap.size 1 [.int .i64 3] (.int .i64 0) (.int .i64 (sd : Int)) [.int .i64 0, .int .i64 0, .slice none 0 0, .int .i64 0] T2.out rfl Yy rfl rfl rfl rfl rfl rfl ?_
    intro w3 p3
    have T3 := Hh (show Zb w3 w1.heap.size 46 [.int .i64 3, .int .i64 (sd : Int), .int .i64 0, .int .i64 0, .slice none 0 0, .int .i64 0].toArray from p3.whole)
    have R3 := Hh (p3.keeps.whole R2.out (by omega))
    have M3 := Hh (M2.out.put p3 (by omega) qin cin rin)
    have hcell := M3.out.at_.cell
    have hz3 : w1.heap.size + 1 ≤ w3.heap.size := by have := p3.keeps.size; omega
    clear p3)
 | (go_at_call 257; (with_reducible refine (hwhe _ _ ?_ ?_).mono ?_); rfl; exact M3.out.at_; rintro e w4 ⟨rfl, m4⟩
    have hz4 := Nat.le_trans hz3 m4.keeps.size
    have T4 := Hh (m4.keeps.whole T3.out (by omega))
    have R4 := Hh (m4.keeps.whole R3.out (by omega))
    have M4 := Hh (M3.out.then m4)
    have hcell := M4.out.at_.cell
    clear m4)
 | ((with_reducible refine Zl 18 17 ?_); refine Zn 3 _ _ 46 w1.heap.size 2 [.int .i64 3, .int .i64 (sd : Int)] (.int .i64 0) (.int .i64 (wh : Int)) [.int .i64 0, .slice none 0 0, .int .i64 0] T4.out rfl Yy rfl rfl rfl rfl rfl rfl ?_
    intro w5 p5
    have T5 := Hh (show Zb w5 w1.heap.size 46 [.int .i64 3, .int .i64 (sd : Int), .int .i64 (wh : Int), .int .i64 0, .slice none 0 0, .int .i64 0].toArray from p5.whole)
    have R5 := Hh (p5.keeps.whole R4.out (by omega))
    have M5 := Hh (M4.out.put p5 (by omega) qin cin rin)
    have hcell := M5.out.at_.cell
    have hz5 : w1.heap.size + 1 ≤ w5.heap.size := by have := p5.keeps.size; omega
    have hw2 : w5.cell? ⟨w1.heap.size, 2, none⟩ = some (.int .i64 (wh : Int)) := T5.out.read 2
    clear p5)
 | (go_at_call 258; refine (hfi _ M5.out.at_).mono ?_; rintro e w8 ⟨v8, rfl, r8⟩
    have m8 := r8.mv
    have hz8 := Nat.le_trans hz5 m8.keeps.size
    have T8 := Hh (m8.keeps.whole T5.out (by omega))
    have R8 := Hh (m8.keeps.whole R5.out (by omega))
    have M8 := Hh (M5.out.then m8)
    have hcell := M8.out.at_.cell
    obtain ⟨A8, c8, rfl, hn8, hw8⟩ := own_within r8.row
    have D8 := Hh (show Zh (fun k => w1.heap.size + 1 ≤ k) w8 (.row fs.1.length (flsDs fs.1) .nil) [.slice A8 fs.1.length c8] from Zh.rowOf r8.row (fun k hk => by omega) (fls_deep _ _ _))
    clear m8 r8 hw8 hn8)
 | ((with_reducible refine Zl 32 31 ?_); refine Zn 44 _ _ 46 w1.heap.size 4 [.int .i64 3, .int .i64 (sd : Int), .int .i64 (wh : Int), .int .i64 0] (.slice none 0 0) (.slice A8 fs.1.length c8) [.int .i64 0] T8.out rfl size_fls rfl rfl rfl rfl rfl rfl ?_
    intro w9 p9
    have T9 := Hh (show Zb w9 w1.heap.size 46 [.int .i64 3, .int .i64 (sd : Int), .int .i64 (wh : Int), .int .i64 0, .slice A8 fs.1.length c8, .int .i64 0].toArray from p9.whole)
    have R9 := Hh (p9.keeps.whole R8.out (by omega))
    have M9 := Hh (M8.out.put p9 (by omega) qin cin rin)
    have hcell := M9.out.at_.cell
    have hz9 : w1.heap.size + 1 ≤ w9.heap.size := by have := p9.keeps.size; omega
    have D9 := Hh (D8.out.put p9 (by omega))
    clear p9)
 | (go_at_call 257; (with_reducible refine (hpi _ _ ?_ ?_).mono ?_); rfl; exact M9.out.at_; rintro e w10 ⟨rfl, m10⟩
    have hz10 := Nat.le_trans hz9 m10.keeps.size
    have T10 := Hh (m10.keeps.whole T9.out (by omega))
    have R10 := Hh (m10.keeps.whole R9.out (by omega))
    have M10 := Hh (M9.out.then m10)
    have hcell := M10.out.at_.cell
    have D10 := Hh (D9.out.move m10 (by omega) (by omega))
    clear m10)
 | ((with_reducible refine Zl 36 35 ?_); refine Zn 3 _ _ 46 w1.heap.size 5 [.int .i64 3, .int .i64 (sd : Int), .int .i64 (wh : Int), .int .i64 0, .slice A8 fs.1.length c8] (.int .i64 0) (.int .i64 (pk : Int)) [] T10.out rfl Yy rfl rfl rfl rfl rfl rfl ?_
    intro w11 p11
    have T11 := Hh (show Zb w11 w1.heap.size 46 [.int .i64 3, .int .i64 (sd : Int), .int .i64 (wh : Int), .int .i64 0, .slice A8 fs.1.length c8, .int .i64 (pk : Int)].toArray from p11.whole)
    have R11 := Hh (p11.keeps.whole R10.out (by omega))
    have M11 := Hh (M10.out.put p11 (by omega) qin cin rin)
    have hcell := M11.out.at_.cell
    have hz11 : w1.heap.size + 1 ≤ w11.heap.size := by have := p11.keeps.size; omega
    have D11 := Hh (D10.out.put p11 (by omega))
    clear p11)
 | (go_at_call 178; refine (xwant _ q c r K L _ Uz M11.out.at_).mono ?_; rintro e w12 ⟨rfl, m12⟩
    have hz12 := Nat.le_trans hz11 m12.keeps.size
    have T12 := Hh (m12.keeps.whole T11.out (by omega))
    have R12 := Hh (m12.keeps.whole R11.out (by omega))
    have M12 := Hh (M11.out.then m12)
    have hcell := M12.out.at_.cell
    have D12 := Hh (D11.out.move m12 (by omega) (by omega))
    clear m12)
 | ((with_reducible refine Ze 39 ?_); refine Zd 46 _ 46 w1.heap.size _ T12.out row_sel Vn rfl rfl rfl ?_)
 | ((with_reducible refine Zl 2 39 ?_); refine Zc 46 _ _ 46 w.heap.size _ [.int .i64 3, .int .i64 (sd : Int), .int .i64 (wh : Int), .int .i64 0, .slice A8 fs.1.length c8, .int .i64 (pk : Int)] R12.out rfl Vn (by simp [Value.oneCell']) rfl rfl rfl rfl rfl ?_
    intro w13 p13
    have R13 := Hh p13.whole
    have M13 := Hh (M12.out.put p13 (Nat.le_refl _) qin cin rin)
    have D13 := Hh (D12.out.put p13 (by omega))
    clear p13))
     refine Zs 2 46 46 w.heap.size _ rfl R13.out row_sel Vn rfl rfl ⟨_, rfl, ?_, M13.out⟩
     obtain ⟨A, c', xs, t, e1, e2, e3, e4, e5⟩ := D13.out
     injection e1 with e1 e6
     injection e1 with e7 _ e8
     subst e7 e8
     exact ⟨_, rfl, _, rfl, _, rfl, _, rfl, A8, c8, xs, _, rfl, e2, (e3.keeps (S := fun _ => False) (Zo.refl _ _) fun k _ hk => ⟨id, by omega⟩), e4.lower (by omega), _, rfl, rfl⟩
 · rw [if_neg h3]
   have q3 : ((k : Int) == 3) = false := by rw [beq_eq_false_iff_ne]; omega
   have q4 : ((k : Int) != 3) = true := by rw [bne_iff_ne]; omega
   clear h3 hr1 hn hLn
   go_enter Tryz.func219, Tryz.ntmps219
   go_wp2_with (first
 | (go_at_call 257; (with_reducible refine hf.mono ?_); rintro e w1 ⟨rfl, m1⟩
    have nb := Za w1 (.cells #[.int .i64 (k : Int), .int .i64 0, .int .i64 0, .int .i64 0, .slice none 0 0, .int .i64 0] 46)
    have hz0 : w.heap.size + 1 ≤ w1.heap.size := by have := m1.keeps.size; simp at this; omega
    have T1 := Hh (Zb.made w1 46 #[.int .i64 (k : Int), .int .i64 0, .int .i64 0, .int .i64 0, .slice none 0 0, .int .i64 0])
    have R1 := Hh ((m1.keeps.whole R0.out (by omega)).below nb (by omega))
    have M1 := Hh ((M0.out.then m1).next nb); clear m1 nb)
 | ((with_reducible refine Ze 11 ?_); refine Zd 46 _ 46 w1.heap.size _ T1.out row_sel Vn rfl rfl rfl ?_)
 | ((with_reducible refine Zl 2 11 ?_); refine Zc 46 _ _ 46 w.heap.size _ [.int .i64 (k : Int), .int .i64 0, .int .i64 0, .int .i64 0, .slice none 0 0, .int .i64 0] R1.out rfl Vn (by simp [Value.oneCell']) rfl rfl rfl rfl rfl ?_
    intro w13 p13
    have R13 := Hh p13.whole
    have M13 := Hh (M1.out.put p13 (Nat.le_refl _) qin cin rin)
    clear p13))
   exact Zs 2 46 46 w.heap.size _ rfl R13.out row_sel Vn rfl rfl ⟨_, rfl, ⟨_, rfl, _, rfl, _, rfl, _, rfl, none, 0, [], _, rfl, by simp, .inl rfl, rfl, _, rfl, rfl⟩, M13.out⟩
def Ex.ds : Ex → Ds
 | .leaf k n s sd tk tl => .int k (.int n (s.ds.app (.int sd (.int tk (.int tl (.row 0 .nil .nil))))))
 | .bin op l r => .int 7 (.int op (zSe.ds.app (.int 0 (.int 0 (.int 0 (.row 2 (l.ds.app r.ds) .nil))))))
theorem Ex.ds_len : ∀ x : Ex, x.ds.len = 12
 | .leaf _ _ _ _ _ _ => rfl
 | .bin _ _ _ => rfl
theorem Xn : (Tryz.prog.underlying 51).map TypeDesc.isRow = some true := by kernel_rfl
theorem Xi : (Tryz.prog.info? 51).map (·.size) = some 12 := by kernel_rfl
theorem twelve : ∀ vs : List Value, vs.length = 12 → ∃ a b c d e f g h i j k l, vs = [a, b, c, d, e, f, g, h, i, j, k, l]
 | [a, b, c, d, e, f, g, h, i, j, k, l], _ => ⟨a, b, c, d, e, f, g, h, i, j, k, l, rfl⟩
def BinPost (w : World) (op : Int) (ls rs : List Value) (e : Ending) (w' : World) : Prop :=
 ∃ g, w.heap.size ≤ g ∧ g < w'.heap.size ∧ e = .returned (.agg [.int .i64 7, .int .i64 op, .int .i64 0, .int .i64 0, .int .i64 0, .int .i64 0, .slice none 0 0, .int .i64 0, .int .i64 0, .int .i64 0, .int .i64 0, .slice (some ⟨g, 0, none⟩) 2 2].toArray) ∧
   (∀ j, j < (ls ++ rs).length → w'.cell? ⟨g, j, none⟩ = (ls ++ rs)[j]?) ∧ Below w.heap.size w w'
theorem xbinary (w : World) (op : Int) (ls rs : List Value) (hl : ls.length = 12) (hr : rs.length = 12) (h1 : ∀ v ∈ ls, v.oneCell' = true) (h2 : ∀ v ∈ rs, v.oneCell' = true) :
   Calls Tryz.prog 148 #[.int .i64 op, .agg ls.toArray, .agg rs.toArray] w (BinPost w op ls rs) := by
 obtain ⟨a0, a1, a2, a3, a4, a5, a6, a7, a8, a9, a10, a11, rfl⟩ := twelve ls hl
 obtain ⟨b0, b1, b2, b3, b4, b5, b6, b7, b8, b9, b10, b11, rfl⟩ := twelve rs hr
 have B1 := Zb.made w 51 [a0, a1, a2, a3, a4, a5, a6, a7, a8, a9, a10, a11].toArray
 have B2 := B1.alloc (.cells [b0, b1, b2, b3, b4, b5, b6, b7, b8, b9, b10, b11].toArray 51)
 clear hl hr h1 h2
 go_enter Tryz.func148, Tryz.ntmps148
 go_wp2
 have HW := (Zb.made ((w.alloc (.cells #[a0, a1, a2, a3, a4, a5, a6, a7, a8, a9, a10, a11] 51)).alloc (.cells #[b0, b1, b2, b3, b4, b5, b6, b7, b8, b9, b10, b11] 51)) 51 [.int .i64 7, .int .i64 op, .int .i64 0, .int .i64 0, .int .i64 0, .int .i64 0, .slice none 0 0, .int .i64 0, .int .i64 0, .int .i64 0, .int .i64 0, .slice (some ⟨w.heap.size + 1 + 1 + 1, 0, none⟩) 2 2].toArray).alloc (.cells #[a0, a1, a2, a3, a4, a5, a6, a7, a8, a9, a10, a11, b0, b1, b2, b3, b4, b5, b6, b7, b8, b9, b10, b11] 51)
 simp only [World.size_alloc] at HW
 refine Zs 6 51 51 (w.heap.size + 1 + 1) _ rfl HW Xn Xi rfl rfl ⟨w.heap.size + 1 + 1 + 1, by omega, by simp, rfl, ?_, ?_⟩
 · have HR := Zb.made (((w.alloc (.cells #[a0, a1, a2, a3, a4, a5, a6, a7, a8, a9, a10, a11] 51)).alloc (.cells #[b0, b1, b2, b3, b4, b5, b6, b7, b8, b9, b10, b11] 51)).alloc (.cells [.int .i64 7, .int .i64 op, .int .i64 0, .int .i64 0, .int .i64 0, .int .i64 0, .slice none 0 0, .int .i64 0, .int .i64 0, .int .i64 0, .int .i64 0, .slice (some ⟨w.heap.size + 1 + 1 + 1, 0, none⟩) 2 2].toArray 51)) 51 #[a0, a1, a2, a3, a4, a5, a6, a7, a8, a9, a10, a11, b0, b1, b2, b3, b4, b5, b6, b7, b8, b9, b10, b11]
   simp only [World.size_alloc] at HR
   intro j _
   rw [HR.read j]
   simp
 · exact ((((Below.refl _ _).alloc (Nat.le_refl _) _).alloc (by simp) _).alloc (by simp; omega) _).alloc (by simp; omega) _
def ExprOK (n : Nat) : Prop := ∀ (w : World) (q c r K : Nat) (L : List TokV) (st : St), PAt w q c r K L st → 4 * Zw L st + 3 ≤ n → Zw L st ≤ 68719476736 →
 Calls Tryz.prog 97 #[.pointer (some ⟨q, 0, none⟩)] w (Yl w q c r K L (Yq 5 L n st).2 (Yq 5 L n st).1.ds)
def ProdOK (n : Nat) : Prop := ∀ (w : World) (q c r K : Nat) (L : List TokV) (st : St), PAt w q c r K L st → 4 * Zw L st + 2 ≤ n → Zw L st ≤ 68719476736 →
 Calls Tryz.prog 146 #[.pointer (some ⟨q, 0, none⟩)] w (Yl w q c r K L (Vy 5 L n st).2 (Vy 5 L n st).1.ds)
def FactOK (n : Nat) : Prop := ∀ (w : World) (q c r K : Nat) (L : List TokV) (st : St), PAt w q c r K L st → 4 * Zw L st + 1 ≤ n → Zw L st ≤ 68719476736 →
 Calls Tryz.prog 194 #[.pointer (some ⟨q, 0, none⟩)] w (Yl w q c r K L (Vt 5 L n st).2 (Vt 5 L n st).1.ds)
theorem Zh.len12 {N : Nat → Prop} {w : World} {x : Ex} {vs : List Value} (h : Zh N w x.ds vs) : vs.length = 12 := h.len.trans x.ds_len
theorem Se.ds_len (s : Se) : s.ds.len = 6 := rfl
theorem zEx_deep (N : Nat → Prop) (w : World) : Zh N w zEx.ds [.int .i64 0, .int .i64 0, .int .i64 0, .int .i64 0, .int .i64 0, .int .i64 0, .slice none 0 0, .int .i64 0, .int .i64 0, .int .i64 0, .int .i64 0, .slice none 0 0] := ⟨_, rfl, _, rfl, _, rfl, _, rfl, _, rfl, _, rfl, none, 0, [], _, rfl, Nat.zero_le _, .inl rfl, rfl, _, rfl, _, rfl, _, rfl, _, rfl, none, 0, [], _, rfl, Nat.zero_le _, .inl rfl, rfl, rfl⟩
theorem xparen (n : Nat) (ih : ExprOK n) (w : World) (q c r K : Nat) (L : List TokV) (st : St) (h : PAt w q c r K L st) (hn : 4 * Zw L (Jc L Vo st) + 3 ≤ n) (hLn : Zw L st ≤ 68719476736) :
   Calls Tryz.prog 218 #[.pointer (some ⟨q, 0, none⟩)] w (Yl w q c r K L (riseS L Uz (Yq 5 L n (Jc L Vo st)).2) (Yq 5 L n (Jc L Vo st)).1.ds) := by
 have qin := h.whole.inside
 have cin := h.cin
 have rin := h.rin
 have nb := Za w (.cells #[.int .i64 0, .int .i64 0, .int .i64 0, .int .i64 0, .int .i64 0, .int .i64 0, .slice none 0 0, .int .i64 0, .int .i64 0, .int .i64 0, .int .i64 0, .slice none 0 0] 51)
 have M0 := Hh ((Yo.start h).next nb)
 have R0 := Hh (Zb.made w 51 #[.int .i64 0, .int .i64 0, .int .i64 0, .int .i64 0, .int .i64 0, .int .i64 0, .slice none 0 0, .int .i64 0, .int .i64 0, .int .i64 0, .int .i64 0, .slice none 0 0])
 have hr := rem_down L Vo st
 clear h nb
 generalize hd : Jc L Vo st = s1 at *
 have hde : ∀ w, PAt w q c r K L st → Calls Tryz.prog 255 #[.pointer (some ⟨q, 0, none⟩), .string ⟨#[40]⟩] w (Yg w q c r K L s1 (.tuple #[])) := fun w h => by rw [← hd]; exact xdescend w q c r K L st Vo h
 have hex : ∀ w, PAt w q c r K L s1 → Calls Tryz.prog 97 #[.pointer (some ⟨q, 0, none⟩)] w (Yl w q c r K L (Yq 5 L n s1).2 (Yq 5 L n s1).1.ds) := fun w h => ih w q c r K L s1 h hn (by omega)
 generalize Yq 5 L n s1 = x at *
 have hx12 := x.1.ds_len
 have HX := Hh hx12
 clear hd hn hLn hr hx12
 go_enter Tryz.func218, Tryz.ntmps218
 go_wp2_with (first
 | (go_at_call 255; refine (hde _ M0.out.at_).mono ?_; rintro e w1 ⟨rfl, m1⟩
    have R1 := Hh (m1.keeps.whole R0.out (by omega))
    have hz1 : w.heap.size + 1 ≤ w1.heap.size := by have := m1.keeps.size; simp at this; omega
    have M1 := Hh (M0.out.then m1); clear m1)
 | (go_at_call 97; refine (hex _ M1.out.at_).mono ?_; rintro e w2 ⟨vs, rfl, d2, m2⟩
    have R2 := Hh (m2.keeps.whole R1.out (by omega))
    have hz2 : w.heap.size + 1 ≤ w2.heap.size := by have := m2.keeps.size; omega
    obtain ⟨a0, a1, a2, a3, a4, a5, a6, a7, a8, a9, a10, a11, rfl⟩ := twelve vs (d2.len.trans HX.out)
    have nb := Za w2 (.cells #[.int .i64 0, .int .i64 0, .int .i64 0, .int .i64 0, .int .i64 0, .int .i64 0, .slice none 0 0, .int .i64 0, .int .i64 0, .int .i64 0, .int .i64 0, .slice none 0 0] 51)
    have T2 := Hh (Zb.made w2 51 #[.int .i64 0, .int .i64 0, .int .i64 0, .int .i64 0, .int .i64 0, .int .i64 0, .slice none 0 0, .int .i64 0, .int .i64 0, .int .i64 0, .int .i64 0, .slice none 0 0])
    have R2 := Hh (R2.out.below nb (by omega))
    have M2 := Hh ((M1.out.then m2).next nb)
    have D2 := Hh ((d2.below nb).lower (show w.heap.size + 1 ≤ _ by omega)); have O3 := Hh d2.one; have hb2 : ∀ k, w2.heap.size ≤ k → k ≠ w.heap.size := fun k hk => by omega
    have DD := Hh d2
    clear m2 nb d2)
 | ((with_reducible refine Zl 3 7 ?_); refine Zc 51 _ _ 51 w2.heap.size _ [a0, a1, a2, a3, a4, a5, a6, a7, a8, a9, a10, a11] T2.out rfl Xi O3.out rfl rfl rfl rfl rfl ?_
    intro w3 p3
    have T3 := Hh p3.whole
    have R3 := Hh (p3.keeps.whole R2.out (by omega))
    have hz3 : w2.heap.size + 1 ≤ w3.heap.size := by have := p3.keeps.size; simp at this; omega
    have M3 := Hh (M2.out.put p3 (by omega) qin cin rin)
    have D3 := Hh ((DD.out.keeps ((Zo.of_below (S := fun k => k = w2.heap.size) (Za w2 _)).trans p3.keeps) (M := fun k => w.heap.size + 1 ≤ k) fun k hk hn => ⟨by omega, by omega⟩)); clear p3)
 | (go_at_call 256; refine (xascend _ q c r K L _ Uz M3.out.at_).mono ?_; rintro e w4 ⟨rfl, m4⟩
    have T4 := Hh (m4.keeps.whole T3.out (by omega))
    have R4 := Hh (m4.keeps.whole R3.out (by omega))
    have M4 := Hh (M3.out.then m4)
    have D4 := Hh (D3.out.move m4 (by omega) (by omega)); clear m4)
 | ((with_reducible refine Ze 10 ?_); refine Zd 51 _ 51 w2.heap.size _ T4.out Xn Xi rfl rfl rfl ?_)
 | ((with_reducible refine Zl 2 10 ?_); refine Zc 51 _ _ 51 w.heap.size _ [a0, a1, a2, a3, a4, a5, a6, a7, a8, a9, a10, a11] R4.out rfl Xi O3.out rfl rfl rfl rfl rfl ?_
    intro w5 p5
    have R5 := Hh p5.whole
    have M5 := Hh (M4.out.put p5 (by omega) qin cin rin)
    have D5 := Hh (D4.out.put p5 (by omega)); clear p5))
 exact Zs 2 51 51 w.heap.size _ rfl R5.out Xn Xi rfl rfl ⟨_, rfl, D5.out.lower (by omega), M5.out⟩
theorem idx_inv (v : TokV) : ∀ ws : List ByteArray, (idxW v ws = 0 → ∀ j, j < ws.length → isT v (ws.getD j ⟨#[]⟩) = false) ∧
   (∀ k, idxW v ws = k + 1 → k < ws.length ∧ (∀ j, j < k → isT v (ws.getD j ⟨#[]⟩) = false) ∧ isT v (ws.getD k ⟨#[]⟩) = true)
 | [] => ⟨fun _ j hj => absurd hj (Nat.not_lt_zero j), fun k h => by cases h⟩
 | t :: r => by
   obtain ⟨h1, h2⟩ := idx_inv v r
   unfold idxW
   by_cases ht : isT v t = true
   · rw [if_pos ht]
     refine ⟨fun h => (by cases h), fun k h => ?_⟩
     obtain rfl : k = 0 := by omega
     exact ⟨by rw [List.length_cons]; omega, fun j hj => absurd hj (Nat.not_lt_zero j), ht⟩
   · have ht' : isT v t = false := by simpa using ht
     rw [if_neg ht]
     by_cases hr : idxW v r = 0
     · rw [if_pos hr]
       refine ⟨fun _ j hj => ?_, fun k h => by cases h⟩
       cases j with
       | zero => exact ht'
       | succ j => exact h1 hr j (by rw [List.length_cons] at hj; omega)
     · rw [if_neg hr]
       refine ⟨fun h => by omega, fun k h => ?_⟩
       obtain ⟨m, rfl⟩ : ∃ m, k = m + 1 := ⟨k - 1, by omega⟩
       obtain ⟨a, b, c⟩ := h2 m (by omega)
       refine ⟨by rw [List.length_cons]; omega, fun j hj => ?_, c⟩
       cases j with
       | zero => exact ht'
       | succ j => exact b j (by omega)
theorem find_inv (L : List TokV) (ws : List ByteArray) (st : St) : (Zm L ws st = 0 → ∀ j, j < ws.length → isS L (ws.getD j ⟨#[]⟩) st = false) ∧
   (∀ k, Zm L ws st = k + 1 → (∀ j, j < k → isS L (ws.getD j ⟨#[]⟩) st = false) ∧ isS L (ws.getD k ⟨#[]⟩) st = true ∧ Yf L ws st = Wc L (ws.getD k ⟨#[]⟩) st) := by
 cases st with
 | ok a d =>
   obtain ⟨h1, h2⟩ := idx_inv (Ye L a) ws
   refine ⟨h1, fun k h => ?_⟩
   obtain ⟨a1, a2, a3⟩ := h2 k h
   exact ⟨a2, a3, (find_hit L ws (.ok a d) k a1 a2 a3).2⟩
 | bad F => exact ⟨fun _ _ _ => rfl, fun k h => by cases h⟩
theorem Yj {N : Nat → Prop} {w : World} (k n : Int) (s : Se) (sd tk tl : Int) {vs : List Value} (h : Zh N w s.ds vs) : Zh N w (Ex.leaf k n s sd tk tl).ds ([.int .i64 k, .int .i64 n] ++ vs ++ [.int .i64 sd, .int .i64 tk, .int .i64 tl, .slice none 0 0]) :=
 ⟨_, rfl, _, rfl, Zh.app (y := .int sd (.int tk (.int tl (.row 0 .nil .nil)))) (us := [.int .i64 sd, .int .i64 tk, .int .i64 tl, .slice none 0 0]) ⟨_, rfl, _, rfl, _, rfl, none, 0, [], _, rfl, Nat.zero_le _, .inl rfl, rfl, rfl⟩ h⟩
theorem Xj (N : Nat → Prop) (w : World) : Zh N w zSe.ds [.int .i64 0, .int .i64 0, .int .i64 0, .int .i64 0, .slice none 0 0, .int .i64 0] := ⟨_, rfl, _, rfl, _, rfl, _, rfl, none, 0, [], _, rfl, Nat.zero_le _, .inl rfl, rfl, _, rfl, rfl⟩
theorem Zh.len6 {N : Nat → Prop} {w : World} {x : Se} {vs : List Value} (h : Zh N w x.ds vs) : vs.length = 6 := h.len
theorem Wd {vs : List Value} (h : vs.length = 12) : (Tryz.prog.info? 51).map (·.size) = some vs.length := by rw [h]; exact Xi
theorem size_sel' {vs : List Value} (h : vs.length = 6) : (Tryz.prog.info? 46).map (·.size) = some vs.length := by rw [h]; exact Vn
theorem xfact (n : Nat) (ih : ExprOK n) : FactOK (n + 1) := by
 intro w q c r K L st h hn hLn
 have qin := h.whole.inside
 have cin := h.cin
 have rin := h.rin
 have nb := Za w (.cells #[.int .i64 0, .int .i64 0, .int .i64 0, .int .i64 0, .int .i64 0, .int .i64 0, .slice none 0 0, .int .i64 0, .int .i64 0, .int .i64 0, .int .i64 0, .slice none 0 0] 51)
 have nb2 := Za (w.alloc (.cells #[.int .i64 0, .int .i64 0, .int .i64 0, .int .i64 0, .int .i64 0, .int .i64 0, .slice none 0 0, .int .i64 0, .int .i64 0, .int .i64 0, .int .i64 0, .slice none 0 0] 51)) (.cells #[.int .i64 0, .int .i64 0, .int .i64 0, .int .i64 0, .int .i64 0, .int .i64 0, .slice none 0 0, .int .i64 0, .int .i64 0, .int .i64 0, .int .i64 0, .slice none 0 0] 51)
 have M0 := Hh (((Yo.start h).next nb).next nb2)
 have R0 := Hh ((Zb.made w 51 #[.int .i64 0, .int .i64 0, .int .i64 0, .int .i64 0, .int .i64 0, .int .i64 0, .slice none 0 0, .int .i64 0, .int .i64 0, .int .i64 0, .int .i64 0, .slice none 0 0]).alloc (.cells #[.int .i64 0, .int .i64 0, .int .i64 0, .int .i64 0, .int .i64 0, .int .i64 0, .slice none 0 0, .int .i64 0, .int .i64 0, .int .i64 0, .int .i64 0, .slice none 0 0] 51))
 have T0 := Hh (show Zb _ (w.heap.size + 1) 51 [.int .i64 0, .int .i64 0, .int .i64 0, .int .i64 0, .int .i64 0, .int .i64 0, .slice none 0 0, .int .i64 0, .int .i64 0, .int .i64 0, .int .i64 0, .slice none 0 0].toArray from by simpa using Zb.made (w.alloc (.cells #[.int .i64 0, .int .i64 0, .int .i64 0, .int .i64 0, .int .i64 0, .int .i64 0, .slice none 0 0, .int .i64 0, .int .i64 0, .int .i64 0, .int .i64 0, .slice none 0 0] 51)) 51 #[.int .i64 0, .int .i64 0, .int .i64 0, .int .i64 0, .int .i64 0, .int .i64 0, .slice none 0 0, .int .i64 0, .int .i64 0, .int .i64 0, .int .i64 0, .slice none 0 0])
 have hcell := M0.out.at_.cell
 clear nb nb2
 by_cases hp : isS L Vo st = true
 · have hd := rem_downed L hp
   have hf : Vt 5 L (n + 1) st = ((Yq 5 L n (Jc L Vo st)).1, riseS L Uz (Yq 5 L n (Jc L Vo st)).2) := by rw [Vt, if_pos hp]
   rw [hf]
   have hpa : ∀ w, PAt w q c r K L st → Calls Tryz.prog 218 #[.pointer (some ⟨q, 0, none⟩)] w (Yl w q c r K L (riseS L Uz (Yq 5 L n (Jc L Vo st)).2) (Yq 5 L n (Jc L Vo st)).1.ds) := fun w h => xparen n ih w q c r K L st h (by omega) hLn
   have his : ∀ w, PAt w q c r K L st → Calls Tryz.prog 174 #[Xz c st, .string ⟨#[40]⟩] w fun e w' => e = .returned (.bool true) ∧ Below w.heap.size w w' := fun w h => by rw [← hp]; exact xIs w q c r K L st Vo h
   generalize Yq 5 L n (Jc L Vo st) = x at *
   clear hf hp hd hn hLn h
   go_enter Tryz.func194, Tryz.ntmps194
   go_wp2_with (first
 | (go_at_call 174; refine (his _ M0.out.at_).mono ?_; rintro e w1 ⟨rfl, b1⟩
    have R1 := Hh (R0.out.below b1 R0.out.inside)
    have T1 := Hh (T0.out.below b1 T0.out.inside)
    have M1 := Hh (M0.out.next b1)
    have hz1 : w.heap.size + 2 ≤ w1.heap.size := by have := b1.size; (try simp at this); omega
    have hcell := M1.out.at_.cell
    clear b1)
 | (go_at_call 218; refine (hpa _ M1.out.at_).mono ?_; rintro e w2 ⟨xv, rfl, d2, m2⟩
    have R2 := Hh (m2.keeps.whole R1.out (by omega))
    have T2 := Hh (m2.keeps.whole T1.out (by omega))
    have M2 := Hh (M1.out.then m2)
    have hz2 := Nat.le_trans hz1 m2.keeps.size
    have hcell := M2.out.at_.cell
    have X2 := Hh (d2.lower (show w.heap.size + 2 ≤ _ by first | omega | (simp; done) | (simp; omega)))
    have XL := Hh d2.len
    clear m2 d2)
 | ((with_reducible refine Zl 2 20 ?_); refine Zc 51 _ _ 51 (w.heap.size) _ (xv) R2.out (X2.out.len12) (Wd X2.out.len12) X2.out.one rfl rfl rfl rfl rfl ?_
    intro w3 p3
    have R3 := Hh p3.whole
    have T3 := Hh (p3.keeps.whole T2.out (by omega))
    have X3 := Hh (X2.out.put p3 (by omega))
    have M3 := Hh (M2.out.put p3 (by omega) qin cin rin)
    have hz3 := Nat.le_trans hz2 p3.keeps.size
    have hcell := M3.out.at_.cell
    clear p3))
   exact Zs 2 51 51 w.heap.size _ rfl R3.out Xn (Wd X3.out.len12) rfl rfl ⟨_, rfl, X3.out.lower (by omega), M3.out⟩
 · have hnp : isS L Vo st = false := by simpa using hp
   have his : ∀ w, PAt w q c r K L st → Calls Tryz.prog 174 #[Xz c st, .string ⟨#[40]⟩] w fun e w' => e = .returned (.bool false) ∧ Below w.heap.size w w' := fun w h => by rw [← hnp]; exact xIs w q c r K L st Vo h
   rw [Vt, if_neg hp]
   obtain ⟨fi0, fi1⟩ := find_inv L Vb st
   have hle := findN_le L Vb st
   have hfn := Jz L (ws := Vb) (st := st)
   have hfr := Ul (L := L) (ws := Vb) (st := st)
   generalize hk : Zm L Vb st = k at *
   generalize hs1 : Yf L Vb st = s1 at *
   have hle5 : k ≤ 5 := hle
   have h6 : k = 0 ∨ k = 1 ∨ k = 2 ∨ k = 3 ∨ k = 4 ∨ k = 5 := by omega
   clear hk hs1 hle hle5 hp hnp h
   rcases h6 with rfl | rfl | rfl | rfl | rfl | rfl
   · -- 0
     have ht0 : ∀ w, PAt w q c r K L st → Calls Tryz.prog 136 #[Xz c st, .string ⟨#[99, 111, 117, 110, 116]⟩] w (Yg w q c r K L st (.bool false)) := fun w h => by have e : isS L ⟨#[99, 111, 117, 110, 116]⟩ st = false := fi0 rfl 0 (by decide); have h1 := Vf w q c r K L st ⟨#[99, 111, 117, 110, 116]⟩ h; rw [e, Xq e] at h1; exact h1
     have ht1 : ∀ w, PAt w q c r K L st → Calls Tryz.prog 136 #[Xz c st, .string ⟨#[115, 117, 109]⟩] w (Yg w q c r K L st (.bool false)) := fun w h => by have e : isS L ⟨#[115, 117, 109]⟩ st = false := fi0 rfl 1 (by decide); have h1 := Vf w q c r K L st ⟨#[115, 117, 109]⟩ h; rw [e, Xq e] at h1; exact h1
     have ht2 : ∀ w, PAt w q c r K L st → Calls Tryz.prog 136 #[Xz c st, .string ⟨#[114, 111, 117, 110, 100]⟩] w (Yg w q c r K L st (.bool false)) := fun w h => by have e : isS L ⟨#[114, 111, 117, 110, 100]⟩ st = false := fi0 rfl 2 (by decide); have h1 := Vf w q c r K L st ⟨#[114, 111, 117, 110, 100]⟩ h; rw [e, Xq e] at h1; exact h1
     have ht3 : ∀ w, PAt w q c r K L st → Calls Tryz.prog 136 #[Xz c st, .string ⟨#[104, 97, 110, 100]⟩] w (Yg w q c r K L st (.bool false)) := fun w h => by have e : isS L ⟨#[104, 97, 110, 100]⟩ st = false := fi0 rfl 3 (by decide); have h1 := Vf w q c r K L st ⟨#[104, 97, 110, 100]⟩ h; rw [e, Xq e] at h1; exact h1
     have ht4 : ∀ w, PAt w q c r K L st → Calls Tryz.prog 136 #[Xz c st, .string ⟨#[102, 114, 101, 101]⟩] w (Yg w q c r K L st (.bool false)) := fun w h => by have e : isS L ⟨#[102, 114, 101, 101]⟩ st = false := fi0 rfl 4 (by decide); have h1 := Vf w q c r K L st ⟨#[102, 114, 101, 101]⟩ h; rw [e, Xq e] at h1; exact h1
     generalize hsg : signN L st = sg at *
     have hrd : ∀ w, PAt w q c r K L st → Calls Tryz.prog 179 #[.pointer (some ⟨q, 0, none⟩), .func (.func 181) #[Xz c st] #[]] w (Yg w q c r K L (Jx L st) (.int .i64 sg)) := fun w h => by rw [← hsg]; exact xreadSigned w q c r K L st h
     rw [if_pos rfl]
     clear hsg fi0 fi1 hfn hfr hn hLn ih
     go_enter Tryz.func194, Tryz.ntmps194
     go_wp2_with (first
 | (go_at_call 174; refine (his _ M0.out.at_).mono ?_; rintro e w1 ⟨rfl, b1⟩
    have R1 := Hh (R0.out.below b1 R0.out.inside)
    have T1 := Hh (T0.out.below b1 T0.out.inside)
    have M1 := Hh (M0.out.next b1)
    have hz1 : w.heap.size + 2 ≤ w1.heap.size := by have := b1.size; (try simp at this); omega
    have hcell := M1.out.at_.cell
    clear b1)
 | (go_at_call 136; (with_reducible refine (ht0 _ ?_).mono ?_); exact M1.out.at_; rintro e w2 ⟨rfl, m2⟩
    have R2 := Hh (m2.keeps.whole R1.out (by omega))
    have T2 := Hh (m2.keeps.whole T1.out (by omega))
    have M2 := Hh (M1.out.then m2)
    have hz2 := Nat.le_trans hz1 m2.keeps.size
    have hcell := M2.out.at_.cell
    clear m2)
 | (go_at_call 136; (with_reducible refine (ht1 _ ?_).mono ?_); exact M2.out.at_; rintro e w3 ⟨rfl, m3⟩
    have R3 := Hh (m3.keeps.whole R2.out (by omega))
    have T3 := Hh (m3.keeps.whole T2.out (by omega))
    have M3 := Hh (M2.out.then m3)
    have hz3 := Nat.le_trans hz2 m3.keeps.size
    have hcell := M3.out.at_.cell
    clear m3)
 | (go_at_call 136; (with_reducible refine (ht2 _ ?_).mono ?_); exact M3.out.at_; rintro e w4 ⟨rfl, m4⟩
    have R4 := Hh (m4.keeps.whole R3.out (by omega))
    have T4 := Hh (m4.keeps.whole T3.out (by omega))
    have M4 := Hh (M3.out.then m4)
    have hz4 := Nat.le_trans hz3 m4.keeps.size
    have hcell := M4.out.at_.cell
    clear m4)
 | (go_at_call 136; (with_reducible refine (ht3 _ ?_).mono ?_); exact M4.out.at_; rintro e w5 ⟨rfl, m5⟩
    have R5 := Hh (m5.keeps.whole R4.out (by omega))
    have T5 := Hh (m5.keeps.whole T4.out (by omega))
    have M5 := Hh (M4.out.then m5)
    have hz5 := Nat.le_trans hz4 m5.keeps.size
    have hcell := M5.out.at_.cell
    clear m5)
 | (go_at_call 136; (with_reducible refine (ht4 _ ?_).mono ?_); exact M5.out.at_; rintro e w6 ⟨rfl, m6⟩
    have R6 := Hh (m6.keeps.whole R5.out (by omega))
    have T6 := Hh (m6.keeps.whole T5.out (by omega))
    have M6 := Hh (M5.out.then m6)
    have hz6 := Nat.le_trans hz5 m6.keeps.size
    have hcell := M6.out.at_.cell
    clear m6)
 | ((with_reducible refine Wa ?_); refine Zn 3 _ (.const (.int .i64 1)) 51 (w.heap.size + 1) 0 [] (.int .i64 0) (.int .i64 1) ([.int .i64 0, .int .i64 0, .int .i64 0, .int .i64 0, .int .i64 0, .slice none 0 0, .int .i64 0, .int .i64 0, .int .i64 0, .int .i64 0, .slice none 0 0]) (show Zb _ _ _ _ from T6.out) rfl Yy rfl rfl rfl rfl rfl rfl ?_
    intro w7 p7
    have T7 := Hh (show Zb w7 (w.heap.size + 1) 51 ([.int .i64 1, .int .i64 0, .int .i64 0, .int .i64 0, .int .i64 0, .int .i64 0, .slice none 0 0, .int .i64 0, .int .i64 0, .int .i64 0, .int .i64 0, .slice none 0 0]).toArray from by first | exact p7.whole | simpa using p7.whole)
    have R7 := Hh (p7.keeps.whole R6.out (by omega))
    have M7 := Hh (M6.out.put p7 (by omega) qin cin rin)
    have hz7 := Nat.le_trans hz6 p7.keeps.size
    have hcell := M7.out.at_.cell
    clear p7)
 | (go_at_call 179; refine (hrd _ M7.out.at_).mono ?_; rintro e w8 ⟨rfl, m8⟩
    have R8 := Hh (m8.keeps.whole R7.out (by omega))
    have T8 := Hh (m8.keeps.whole T7.out (by omega))
    have M8 := Hh (M7.out.then m8)
    have hz8 := Nat.le_trans hz7 m8.keeps.size
    have hcell := M8.out.at_.cell
    clear m8)
 | ((with_reducible refine Zl 12 11 ?_); refine Zn 3 _ _ 51 (w.heap.size + 1) 1 [.int .i64 1] (.int .i64 0) (.int .i64 sg) ([.int .i64 0, .int .i64 0, .int .i64 0, .int .i64 0, .slice none 0 0, .int .i64 0, .int .i64 0, .int .i64 0, .int .i64 0, .slice none 0 0]) (show Zb _ _ _ _ from T8.out) rfl Yy rfl rfl rfl rfl rfl rfl ?_
    intro w9 p9
    have T9 := Hh (show Zb w9 (w.heap.size + 1) 51 ([.int .i64 1, .int .i64 sg, .int .i64 0, .int .i64 0, .int .i64 0, .int .i64 0, .slice none 0 0, .int .i64 0, .int .i64 0, .int .i64 0, .int .i64 0, .slice none 0 0]).toArray from by first | exact p9.whole | simpa using p9.whole)
    have R9 := Hh (p9.keeps.whole R8.out (by omega))
    have M9 := Hh (M8.out.put p9 (by omega) qin cin rin)
    have hz9 := Nat.le_trans hz8 p9.keeps.size
    have hcell := M9.out.at_.cell
    clear p9)
 | ((with_reducible refine Ze 71 ?_); refine Zd 51 _ 51 (w.heap.size + 1) _ T9.out Xn (Wd (show Zh (fun k => w.heap.size + 2 ≤ k) w9 _ ([.int .i64 1, .int .i64 sg, .int .i64 0, .int .i64 0, .int .i64 0, .int .i64 0, .slice none 0 0, .int .i64 0, .int .i64 0, .int .i64 0, .int .i64 0, .slice none 0 0]) from Yj 1 sg zSe 0 0 0 (Xj _ _)).len12) rfl rfl rfl ?_)
 | ((with_reducible refine Zl 2 71 ?_); refine Zc 51 _ _ 51 (w.heap.size) _ ([.int .i64 1, .int .i64 sg, .int .i64 0, .int .i64 0, .int .i64 0, .int .i64 0, .slice none 0 0, .int .i64 0, .int .i64 0, .int .i64 0, .int .i64 0, .slice none 0 0]) R9.out (show Zh (fun k => w.heap.size + 2 ≤ k) w9 _ ([.int .i64 1, .int .i64 sg, .int .i64 0, .int .i64 0, .int .i64 0, .int .i64 0, .slice none 0 0, .int .i64 0, .int .i64 0, .int .i64 0, .int .i64 0, .slice none 0 0]) from Yj 1 sg zSe 0 0 0 (Xj _ _)).len12 (Wd (show Zh (fun k => w.heap.size + 2 ≤ k) w9 _ ([.int .i64 1, .int .i64 sg, .int .i64 0, .int .i64 0, .int .i64 0, .int .i64 0, .slice none 0 0, .int .i64 0, .int .i64 0, .int .i64 0, .int .i64 0, .slice none 0 0]) from Yj 1 sg zSe 0 0 0 (Xj _ _)).len12) (show Zh (fun k => w.heap.size + 2 ≤ k) w9 _ ([.int .i64 1, .int .i64 sg, .int .i64 0, .int .i64 0, .int .i64 0, .int .i64 0, .slice none 0 0, .int .i64 0, .int .i64 0, .int .i64 0, .int .i64 0, .slice none 0 0]) from Yj 1 sg zSe 0 0 0 (Xj _ _)).one rfl rfl rfl rfl rfl ?_
    intro w10 p10
    have R10 := Hh p10.whole
    have T10 := Hh (p10.keeps.whole T9.out (by omega))
    have M10 := Hh (M9.out.put p10 (by omega) qin cin rin)
    have hz10 := Nat.le_trans hz9 p10.keeps.size
    have hcell := M10.out.at_.cell
    clear p10))
     exact Zs 2 51 51 w.heap.size _ rfl R10.out Xn (Wd (show Zh (fun k => w.heap.size + 2 ≤ k) w10 _ ([.int .i64 1, .int .i64 sg, .int .i64 0, .int .i64 0, .int .i64 0, .int .i64 0, .slice none 0 0, .int .i64 0, .int .i64 0, .int .i64 0, .int .i64 0, .slice none 0 0]) from Yj 1 sg zSe 0 0 0 (Xj _ _)).len12) rfl rfl ⟨_, rfl, Zh.lower (show Zh (fun k => w.heap.size + 2 ≤ k) w10 _ ([.int .i64 1, .int .i64 sg, .int .i64 0, .int .i64 0, .int .i64 0, .int .i64 0, .slice none 0 0, .int .i64 0, .int .i64 0, .int .i64 0, .int .i64 0, .slice none 0 0]) from Yj 1 sg zSe 0 0 0 (Xj _ _)) (by omega), M10.out⟩
   · -- 1
     have htk : ∀ w, PAt w q c r K L st → Calls Tryz.prog 136 #[Xz c st, .string ⟨#[99, 111, 117, 110, 116]⟩] w (Yg w q c r K L s1 (.bool true)) := fun w h => by have e := (fi1 0 rfl).2; have e1 : isS L ⟨#[99, 111, 117, 110, 116]⟩ st = true := e.1; have e2 : s1 = Wc L ⟨#[99, 111, 117, 110, 116]⟩ st := e.2; have h1 := Vf w q c r K L st ⟨#[99, 111, 117, 110, 116]⟩ h; rw [e1, ← e2] at h1; exact h1
     rw [if_neg (by decide), if_pos (by decide)]
     have hrf := hfr (by decide)
     have hse : ∀ w, PAt w q c r K L s1 → Calls Tryz.prog 219 #[.pointer (some ⟨q, 0, none⟩)] w (Yl w q c r K L (Wt 5 L n s1).2 (Wt 5 L n s1).1.ds) := fun w h => xsel w q c r K L s1 n h (by omega) (by omega)
     generalize Wt 5 L n s1 = x at *
     clear fi0 fi1 hfn hfr hrf hn hLn ih
     go_enter Tryz.func194, Tryz.ntmps194
     go_wp2_with (first
 | (go_at_call 174; refine (his _ M0.out.at_).mono ?_; rintro e w1 ⟨rfl, b1⟩
    have R1 := Hh (R0.out.below b1 R0.out.inside)
    have T1 := Hh (T0.out.below b1 T0.out.inside)
    have M1 := Hh (M0.out.next b1)
    have hz1 : w.heap.size + 2 ≤ w1.heap.size := by have := b1.size; (try simp at this); omega
    have hcell := M1.out.at_.cell
    clear b1)
 | (go_at_call 136; (with_reducible refine (htk _ ?_).mono ?_); exact M1.out.at_; rintro e w2 ⟨rfl, m2⟩
    have R2 := Hh (m2.keeps.whole R1.out (by omega))
    have T2 := Hh (m2.keeps.whole T1.out (by omega))
    have M2 := Hh (M1.out.then m2)
    have hz2 := Nat.le_trans hz1 m2.keeps.size
    have hcell := M2.out.at_.cell
    clear m2)
 | ((with_reducible refine Wa ?_); refine Zn 3 _ (.const (.int .i64 2)) 51 (w.heap.size + 1) 0 [] (.int .i64 0) (.int .i64 2) ([.int .i64 0, .int .i64 0, .int .i64 0, .int .i64 0, .int .i64 0, .slice none 0 0, .int .i64 0, .int .i64 0, .int .i64 0, .int .i64 0, .slice none 0 0]) (show Zb _ _ _ _ from T2.out) rfl Yy rfl rfl rfl rfl rfl rfl ?_
    intro w3 p3
    have T3 := Hh (show Zb w3 (w.heap.size + 1) 51 ([.int .i64 2, .int .i64 0, .int .i64 0, .int .i64 0, .int .i64 0, .int .i64 0, .slice none 0 0, .int .i64 0, .int .i64 0, .int .i64 0, .int .i64 0, .slice none 0 0]).toArray from by first | exact p3.whole | simpa using p3.whole)
    have R3 := Hh (p3.keeps.whole R2.out (by omega))
    have M3 := Hh (M2.out.put p3 (by omega) qin cin rin)
    have hz3 := Nat.le_trans hz2 p3.keeps.size
    have hcell := M3.out.at_.cell
    clear p3)
 | (go_at_call 219; refine (hse _ M3.out.at_).mono ?_; rintro e w4 ⟨sv, rfl, d4, m4⟩
    have R4 := Hh (m4.keeps.whole R3.out (by omega))
    have T4 := Hh (m4.keeps.whole T3.out (by omega))
    have M4 := Hh (M3.out.then m4)
    have hz4 := Nat.le_trans hz3 m4.keeps.size
    have hcell := M4.out.at_.cell
    have S4 := Hh (d4.lower (show w.heap.size + 2 ≤ _ by first | omega | (simp; done) | (simp; omega)))
    have SL := Hh d4.len
    clear m4 d4)
 | ((with_reducible refine Zl 30 29 ?_); refine Wh 46 _ _ 51 (w.heap.size + 1) 2 ([.int .i64 2, .int .i64 0]) ([.int .i64 0, .int .i64 0, .int .i64 0, .int .i64 0, .slice none 0 0, .int .i64 0]) ([.int .i64 0, .int .i64 0, .int .i64 0, .slice none 0 0]) (sv) (by first | exact T4.out | simpa using T4.out) S4.out.len6 rfl (size_sel' S4.out.len6) S4.out.one rfl rfl rfl rfl rfl ?_
    intro w5 p5
    have T5 := Hh (show Zb w5 (w.heap.size + 1) 51 (([.int .i64 2, .int .i64 0] : List Value) ++ (sv : List Value) ++ ([.int .i64 0, .int .i64 0, .int .i64 0, .slice none 0 0] : List Value)).toArray from by first | exact p5.whole | simpa using p5.whole)
    have R5 := Hh (p5.keeps.whole R4.out (by omega))
    have S5 := Hh (S4.out.put p5 (by omega))
    have M5 := Hh (M4.out.put p5 (by omega) qin cin rin)
    have hz5 := Nat.le_trans hz4 p5.keeps.size
    have hcell := M5.out.at_.cell
    clear p5)
 | ((with_reducible refine Ze 71 ?_); refine Zd 51 _ 51 (w.heap.size + 1) _ T5.out Xn (Wd (show Zh (fun k => w.heap.size + 2 ≤ k) w5 _ (([.int .i64 2, .int .i64 0] : List Value) ++ (sv : List Value) ++ ([.int .i64 0, .int .i64 0, .int .i64 0, .slice none 0 0] : List Value)) from Yj 2 0 x.1 0 0 0 S5.out).len12) rfl rfl rfl ?_)
 | ((with_reducible refine Zl 2 71 ?_); refine Zc 51 _ _ 51 (w.heap.size) _ (([.int .i64 2, .int .i64 0] : List Value) ++ (sv : List Value) ++ ([.int .i64 0, .int .i64 0, .int .i64 0, .slice none 0 0] : List Value)) R5.out (show Zh (fun k => w.heap.size + 2 ≤ k) w5 _ (([.int .i64 2, .int .i64 0] : List Value) ++ (sv : List Value) ++ ([.int .i64 0, .int .i64 0, .int .i64 0, .slice none 0 0] : List Value)) from Yj 2 0 x.1 0 0 0 S5.out).len12 (Wd (show Zh (fun k => w.heap.size + 2 ≤ k) w5 _ (([.int .i64 2, .int .i64 0] : List Value) ++ (sv : List Value) ++ ([.int .i64 0, .int .i64 0, .int .i64 0, .slice none 0 0] : List Value)) from Yj 2 0 x.1 0 0 0 S5.out).len12) (show Zh (fun k => w.heap.size + 2 ≤ k) w5 _ (([.int .i64 2, .int .i64 0] : List Value) ++ (sv : List Value) ++ ([.int .i64 0, .int .i64 0, .int .i64 0, .slice none 0 0] : List Value)) from Yj 2 0 x.1 0 0 0 S5.out).one rfl rfl rfl rfl rfl ?_
    intro w6 p6
    have R6 := Hh p6.whole
    have T6 := Hh (p6.keeps.whole T5.out (by omega))
    have S6 := Hh (S5.out.put p6 (by omega))
    have M6 := Hh (M5.out.put p6 (by omega) qin cin rin)
    have hz6 := Nat.le_trans hz5 p6.keeps.size
    have hcell := M6.out.at_.cell
    clear p6))
     exact Zs 2 51 51 w.heap.size _ rfl R6.out Xn (Wd (show Zh (fun k => w.heap.size + 2 ≤ k) w6 _ (([.int .i64 2, .int .i64 0] : List Value) ++ (sv : List Value) ++ ([.int .i64 0, .int .i64 0, .int .i64 0, .slice none 0 0] : List Value)) from Yj 2 0 x.1 0 0 0 S6.out).len12) rfl rfl ⟨_, rfl, Zh.lower (show Zh (fun k => w.heap.size + 2 ≤ k) w6 _ (([.int .i64 2, .int .i64 0] : List Value) ++ (sv : List Value) ++ ([.int .i64 0, .int .i64 0, .int .i64 0, .slice none 0 0] : List Value)) from Yj 2 0 x.1 0 0 0 S6.out) (by omega), M6.out⟩
   · -- 2
     have ht0 : ∀ w, PAt w q c r K L st → Calls Tryz.prog 136 #[Xz c st, .string ⟨#[99, 111, 117, 110, 116]⟩] w (Yg w q c r K L st (.bool false)) := fun w h => by have e : isS L ⟨#[99, 111, 117, 110, 116]⟩ st = false := (fi1 1 rfl).1 0 (by decide); have h1 := Vf w q c r K L st ⟨#[99, 111, 117, 110, 116]⟩ h; rw [e, Xq e] at h1; exact h1
     have htk : ∀ w, PAt w q c r K L st → Calls Tryz.prog 136 #[Xz c st, .string ⟨#[115, 117, 109]⟩] w (Yg w q c r K L s1 (.bool true)) := fun w h => by have e := (fi1 1 rfl).2; have e1 : isS L ⟨#[115, 117, 109]⟩ st = true := e.1; have e2 : s1 = Wc L ⟨#[115, 117, 109]⟩ st := e.2; have h1 := Vf w q c r K L st ⟨#[115, 117, 109]⟩ h; rw [e1, ← e2] at h1; exact h1
     rw [if_neg (by decide), if_pos (by decide)]
     have hrf := hfr (by decide)
     have hse : ∀ w, PAt w q c r K L s1 → Calls Tryz.prog 219 #[.pointer (some ⟨q, 0, none⟩)] w (Yl w q c r K L (Wt 5 L n s1).2 (Wt 5 L n s1).1.ds) := fun w h => xsel w q c r K L s1 n h (by omega) (by omega)
     generalize Wt 5 L n s1 = x at *
     clear fi0 fi1 hfn hfr hrf hn hLn ih
     go_enter Tryz.func194, Tryz.ntmps194
     go_wp2_with (first
 | (go_at_call 174; refine (his _ M0.out.at_).mono ?_; rintro e w1 ⟨rfl, b1⟩
    have R1 := Hh (R0.out.below b1 R0.out.inside)
    have T1 := Hh (T0.out.below b1 T0.out.inside)
    have M1 := Hh (M0.out.next b1)
    have hz1 : w.heap.size + 2 ≤ w1.heap.size := by have := b1.size; (try simp at this); omega
    have hcell := M1.out.at_.cell
    clear b1)
 | (go_at_call 136; (with_reducible refine (ht0 _ ?_).mono ?_); exact M1.out.at_; rintro e w2 ⟨rfl, m2⟩
    have R2 := Hh (m2.keeps.whole R1.out (by omega))
    have T2 := Hh (m2.keeps.whole T1.out (by omega))
    have M2 := Hh (M1.out.then m2)
    have hz2 := Nat.le_trans hz1 m2.keeps.size
    have hcell := M2.out.at_.cell
    clear m2)
 | (go_at_call 136; (with_reducible refine (htk _ ?_).mono ?_); exact M2.out.at_; rintro e w3 ⟨rfl, m3⟩
    have R3 := Hh (m3.keeps.whole R2.out (by omega))
    have T3 := Hh (m3.keeps.whole T2.out (by omega))
    have M3 := Hh (M2.out.then m3)
    have hz3 := Nat.le_trans hz2 m3.keeps.size
    have hcell := M3.out.at_.cell
    clear m3)
 | ((with_reducible refine Wa ?_); refine Zn 3 _ (.const (.int .i64 3)) 51 (w.heap.size + 1) 0 [] (.int .i64 0) (.int .i64 3) ([.int .i64 0, .int .i64 0, .int .i64 0, .int .i64 0, .int .i64 0, .slice none 0 0, .int .i64 0, .int .i64 0, .int .i64 0, .int .i64 0, .slice none 0 0]) (show Zb _ _ _ _ from T3.out) rfl Yy rfl rfl rfl rfl rfl rfl ?_
    intro w4 p4
    have T4 := Hh (show Zb w4 (w.heap.size + 1) 51 ([.int .i64 3, .int .i64 0, .int .i64 0, .int .i64 0, .int .i64 0, .int .i64 0, .slice none 0 0, .int .i64 0, .int .i64 0, .int .i64 0, .int .i64 0, .slice none 0 0]).toArray from by first | exact p4.whole | simpa using p4.whole)
    have R4 := Hh (p4.keeps.whole R3.out (by omega))
    have M4 := Hh (M3.out.put p4 (by omega) qin cin rin)
    have hz4 := Nat.le_trans hz3 p4.keeps.size
    have hcell := M4.out.at_.cell
    clear p4)
 | (go_at_call 219; refine (hse _ M4.out.at_).mono ?_; rintro e w5 ⟨sv, rfl, d5, m5⟩
    have R5 := Hh (m5.keeps.whole R4.out (by omega))
    have T5 := Hh (m5.keeps.whole T4.out (by omega))
    have M5 := Hh (M4.out.then m5)
    have hz5 := Nat.le_trans hz4 m5.keeps.size
    have hcell := M5.out.at_.cell
    have S5 := Hh (d5.lower (show w.heap.size + 2 ≤ _ by first | omega | (simp; done) | (simp; omega)))
    have SL := Hh d5.len
    clear m5 d5)
 | ((with_reducible refine Zl 40 39 ?_); refine Wh 46 _ _ 51 (w.heap.size + 1) 2 ([.int .i64 3, .int .i64 0]) ([.int .i64 0, .int .i64 0, .int .i64 0, .int .i64 0, .slice none 0 0, .int .i64 0]) ([.int .i64 0, .int .i64 0, .int .i64 0, .slice none 0 0]) (sv) (by first | exact T5.out | simpa using T5.out) S5.out.len6 rfl (size_sel' S5.out.len6) S5.out.one rfl rfl rfl rfl rfl ?_
    intro w6 p6
    have T6 := Hh (show Zb w6 (w.heap.size + 1) 51 (([.int .i64 3, .int .i64 0] : List Value) ++ (sv : List Value) ++ ([.int .i64 0, .int .i64 0, .int .i64 0, .slice none 0 0] : List Value)).toArray from by first | exact p6.whole | simpa using p6.whole)
    have R6 := Hh (p6.keeps.whole R5.out (by omega))
    have S6 := Hh (S5.out.put p6 (by omega))
    have M6 := Hh (M5.out.put p6 (by omega) qin cin rin)
    have hz6 := Nat.le_trans hz5 p6.keeps.size
    have hcell := M6.out.at_.cell
    clear p6)
 | ((with_reducible refine Ze 71 ?_); refine Zd 51 _ 51 (w.heap.size + 1) _ T6.out Xn (Wd (show Zh (fun k => w.heap.size + 2 ≤ k) w6 _ (([.int .i64 3, .int .i64 0] : List Value) ++ (sv : List Value) ++ ([.int .i64 0, .int .i64 0, .int .i64 0, .slice none 0 0] : List Value)) from Yj 3 0 x.1 0 0 0 S6.out).len12) rfl rfl rfl ?_)
 | ((with_reducible refine Zl 2 71 ?_); refine Zc 51 _ _ 51 (w.heap.size) _ (([.int .i64 3, .int .i64 0] : List Value) ++ (sv : List Value) ++ ([.int .i64 0, .int .i64 0, .int .i64 0, .slice none 0 0] : List Value)) R6.out (show Zh (fun k => w.heap.size + 2 ≤ k) w6 _ (([.int .i64 3, .int .i64 0] : List Value) ++ (sv : List Value) ++ ([.int .i64 0, .int .i64 0, .int .i64 0, .slice none 0 0] : List Value)) from Yj 3 0 x.1 0 0 0 S6.out).len12 (Wd (show Zh (fun k => w.heap.size + 2 ≤ k) w6 _ (([.int .i64 3, .int .i64 0] : List Value) ++ (sv : List Value) ++ ([.int .i64 0, .int .i64 0, .int .i64 0, .slice none 0 0] : List Value)) from Yj 3 0 x.1 0 0 0 S6.out).len12) (show Zh (fun k => w.heap.size + 2 ≤ k) w6 _ (([.int .i64 3, .int .i64 0] : List Value) ++ (sv : List Value) ++ ([.int .i64 0, .int .i64 0, .int .i64 0, .slice none 0 0] : List Value)) from Yj 3 0 x.1 0 0 0 S6.out).one rfl rfl rfl rfl rfl ?_
    intro w7 p7
    have R7 := Hh p7.whole
    have T7 := Hh (p7.keeps.whole T6.out (by omega))
    have S7 := Hh (S6.out.put p7 (by omega))
    have M7 := Hh (M6.out.put p7 (by omega) qin cin rin)
    have hz7 := Nat.le_trans hz6 p7.keeps.size
    have hcell := M7.out.at_.cell
    clear p7))
     exact Zs 2 51 51 w.heap.size _ rfl R7.out Xn (Wd (show Zh (fun k => w.heap.size + 2 ≤ k) w7 _ (([.int .i64 3, .int .i64 0] : List Value) ++ (sv : List Value) ++ ([.int .i64 0, .int .i64 0, .int .i64 0, .slice none 0 0] : List Value)) from Yj 3 0 x.1 0 0 0 S7.out).len12) rfl rfl ⟨_, rfl, Zh.lower (show Zh (fun k => w.heap.size + 2 ≤ k) w7 _ (([.int .i64 3, .int .i64 0] : List Value) ++ (sv : List Value) ++ ([.int .i64 0, .int .i64 0, .int .i64 0, .slice none 0 0] : List Value)) from Yj 3 0 x.1 0 0 0 S7.out) (by omega), M7.out⟩
   · -- 3
     have ht0 : ∀ w, PAt w q c r K L st → Calls Tryz.prog 136 #[Xz c st, .string ⟨#[99, 111, 117, 110, 116]⟩] w (Yg w q c r K L st (.bool false)) := fun w h => by have e : isS L ⟨#[99, 111, 117, 110, 116]⟩ st = false := (fi1 2 rfl).1 0 (by decide); have h1 := Vf w q c r K L st ⟨#[99, 111, 117, 110, 116]⟩ h; rw [e, Xq e] at h1; exact h1
     have ht1 : ∀ w, PAt w q c r K L st → Calls Tryz.prog 136 #[Xz c st, .string ⟨#[115, 117, 109]⟩] w (Yg w q c r K L st (.bool false)) := fun w h => by have e : isS L ⟨#[115, 117, 109]⟩ st = false := (fi1 2 rfl).1 1 (by decide); have h1 := Vf w q c r K L st ⟨#[115, 117, 109]⟩ h; rw [e, Xq e] at h1; exact h1
     have htk : ∀ w, PAt w q c r K L st → Calls Tryz.prog 136 #[Xz c st, .string ⟨#[114, 111, 117, 110, 100]⟩] w (Yg w q c r K L s1 (.bool true)) := fun w h => by have e := (fi1 2 rfl).2; have e1 : isS L ⟨#[114, 111, 117, 110, 100]⟩ st = true := e.1; have e2 : s1 = Wc L ⟨#[114, 111, 117, 110, 100]⟩ st := e.2; have h1 := Vf w q c r K L st ⟨#[114, 111, 117, 110, 100]⟩ h; rw [e1, ← e2] at h1; exact h1
     rw [if_neg (by decide), if_neg (by decide), if_pos rfl]
     clear fi0 fi1 hfn hfr hn hLn ih
     go_enter Tryz.func194, Tryz.ntmps194
     go_wp2_with (first
 | (go_at_call 174; refine (his _ M0.out.at_).mono ?_; rintro e w1 ⟨rfl, b1⟩
    have R1 := Hh (R0.out.below b1 R0.out.inside)
    have T1 := Hh (T0.out.below b1 T0.out.inside)
    have M1 := Hh (M0.out.next b1)
    have hz1 : w.heap.size + 2 ≤ w1.heap.size := by have := b1.size; (try simp at this); omega
    have hcell := M1.out.at_.cell
    clear b1)
 | (go_at_call 136; (with_reducible refine (ht0 _ ?_).mono ?_); exact M1.out.at_; rintro e w2 ⟨rfl, m2⟩
    have R2 := Hh (m2.keeps.whole R1.out (by omega))
    have T2 := Hh (m2.keeps.whole T1.out (by omega))
    have M2 := Hh (M1.out.then m2)
    have hz2 := Nat.le_trans hz1 m2.keeps.size
    have hcell := M2.out.at_.cell
    clear m2)
 | (go_at_call 136; (with_reducible refine (ht1 _ ?_).mono ?_); exact M2.out.at_; rintro e w3 ⟨rfl, m3⟩
    have R3 := Hh (m3.keeps.whole R2.out (by omega))
    have T3 := Hh (m3.keeps.whole T2.out (by omega))
    have M3 := Hh (M2.out.then m3)
    have hz3 := Nat.le_trans hz2 m3.keeps.size
    have hcell := M3.out.at_.cell
    clear m3)
 | (go_at_call 136; (with_reducible refine (htk _ ?_).mono ?_); exact M3.out.at_; rintro e w4 ⟨rfl, m4⟩
    have R4 := Hh (m4.keeps.whole R3.out (by omega))
    have T4 := Hh (m4.keeps.whole T3.out (by omega))
    have M4 := Hh (M3.out.then m4)
    have hz4 := Nat.le_trans hz3 m4.keeps.size
    have hcell := M4.out.at_.cell
    clear m4)
 | ((with_reducible refine Wa ?_); refine Zn 3 _ (.const (.int .i64 4)) 51 (w.heap.size + 1) 0 [] (.int .i64 0) (.int .i64 4) ([.int .i64 0, .int .i64 0, .int .i64 0, .int .i64 0, .int .i64 0, .slice none 0 0, .int .i64 0, .int .i64 0, .int .i64 0, .int .i64 0, .slice none 0 0]) (show Zb _ _ _ _ from T4.out) rfl Yy rfl rfl rfl rfl rfl rfl ?_
    intro w5 p5
    have T5 := Hh (show Zb w5 (w.heap.size + 1) 51 ([.int .i64 4, .int .i64 0, .int .i64 0, .int .i64 0, .int .i64 0, .int .i64 0, .slice none 0 0, .int .i64 0, .int .i64 0, .int .i64 0, .int .i64 0, .slice none 0 0]).toArray from by first | exact p5.whole | simpa using p5.whole)
    have R5 := Hh (p5.keeps.whole R4.out (by omega))
    have M5 := Hh (M4.out.put p5 (by omega) qin cin rin)
    have hz5 := Nat.le_trans hz4 p5.keeps.size
    have hcell := M5.out.at_.cell
    clear p5)
 | ((with_reducible refine Ze 71 ?_); refine Zd 51 _ 51 (w.heap.size + 1) _ T5.out Xn (Wd (show Zh (fun k => w.heap.size + 2 ≤ k) w5 _ ([.int .i64 4, .int .i64 0, .int .i64 0, .int .i64 0, .int .i64 0, .int .i64 0, .slice none 0 0, .int .i64 0, .int .i64 0, .int .i64 0, .int .i64 0, .slice none 0 0]) from Yj 4 0 zSe 0 0 0 (Xj _ _)).len12) rfl rfl rfl ?_)
 | ((with_reducible refine Zl 2 71 ?_); refine Zc 51 _ _ 51 (w.heap.size) _ ([.int .i64 4, .int .i64 0, .int .i64 0, .int .i64 0, .int .i64 0, .int .i64 0, .slice none 0 0, .int .i64 0, .int .i64 0, .int .i64 0, .int .i64 0, .slice none 0 0]) R5.out (show Zh (fun k => w.heap.size + 2 ≤ k) w5 _ ([.int .i64 4, .int .i64 0, .int .i64 0, .int .i64 0, .int .i64 0, .int .i64 0, .slice none 0 0, .int .i64 0, .int .i64 0, .int .i64 0, .int .i64 0, .slice none 0 0]) from Yj 4 0 zSe 0 0 0 (Xj _ _)).len12 (Wd (show Zh (fun k => w.heap.size + 2 ≤ k) w5 _ ([.int .i64 4, .int .i64 0, .int .i64 0, .int .i64 0, .int .i64 0, .int .i64 0, .slice none 0 0, .int .i64 0, .int .i64 0, .int .i64 0, .int .i64 0, .slice none 0 0]) from Yj 4 0 zSe 0 0 0 (Xj _ _)).len12) (show Zh (fun k => w.heap.size + 2 ≤ k) w5 _ ([.int .i64 4, .int .i64 0, .int .i64 0, .int .i64 0, .int .i64 0, .int .i64 0, .slice none 0 0, .int .i64 0, .int .i64 0, .int .i64 0, .int .i64 0, .slice none 0 0]) from Yj 4 0 zSe 0 0 0 (Xj _ _)).one rfl rfl rfl rfl rfl ?_
    intro w6 p6
    have R6 := Hh p6.whole
    have T6 := Hh (p6.keeps.whole T5.out (by omega))
    have M6 := Hh (M5.out.put p6 (by omega) qin cin rin)
    have hz6 := Nat.le_trans hz5 p6.keeps.size
    have hcell := M6.out.at_.cell
    clear p6))
     exact Zs 2 51 51 w.heap.size _ rfl R6.out Xn (Wd (show Zh (fun k => w.heap.size + 2 ≤ k) w6 _ ([.int .i64 4, .int .i64 0, .int .i64 0, .int .i64 0, .int .i64 0, .int .i64 0, .slice none 0 0, .int .i64 0, .int .i64 0, .int .i64 0, .int .i64 0, .slice none 0 0]) from Yj 4 0 zSe 0 0 0 (Xj _ _)).len12) rfl rfl ⟨_, rfl, Zh.lower (show Zh (fun k => w.heap.size + 2 ≤ k) w6 _ ([.int .i64 4, .int .i64 0, .int .i64 0, .int .i64 0, .int .i64 0, .int .i64 0, .slice none 0 0, .int .i64 0, .int .i64 0, .int .i64 0, .int .i64 0, .slice none 0 0]) from Yj 4 0 zSe 0 0 0 (Xj _ _)) (by omega), M6.out⟩
   · -- 4
     have ht0 : ∀ w, PAt w q c r K L st → Calls Tryz.prog 136 #[Xz c st, .string ⟨#[99, 111, 117, 110, 116]⟩] w (Yg w q c r K L st (.bool false)) := fun w h => by have e : isS L ⟨#[99, 111, 117, 110, 116]⟩ st = false := (fi1 3 rfl).1 0 (by decide); have h1 := Vf w q c r K L st ⟨#[99, 111, 117, 110, 116]⟩ h; rw [e, Xq e] at h1; exact h1
     have ht1 : ∀ w, PAt w q c r K L st → Calls Tryz.prog 136 #[Xz c st, .string ⟨#[115, 117, 109]⟩] w (Yg w q c r K L st (.bool false)) := fun w h => by have e : isS L ⟨#[115, 117, 109]⟩ st = false := (fi1 3 rfl).1 1 (by decide); have h1 := Vf w q c r K L st ⟨#[115, 117, 109]⟩ h; rw [e, Xq e] at h1; exact h1
     have ht2 : ∀ w, PAt w q c r K L st → Calls Tryz.prog 136 #[Xz c st, .string ⟨#[114, 111, 117, 110, 100]⟩] w (Yg w q c r K L st (.bool false)) := fun w h => by have e : isS L ⟨#[114, 111, 117, 110, 100]⟩ st = false := (fi1 3 rfl).1 2 (by decide); have h1 := Vf w q c r K L st ⟨#[114, 111, 117, 110, 100]⟩ h; rw [e, Xq e] at h1; exact h1
     have htk : ∀ w, PAt w q c r K L st → Calls Tryz.prog 136 #[Xz c st, .string ⟨#[104, 97, 110, 100]⟩] w (Yg w q c r K L s1 (.bool true)) := fun w h => by have e := (fi1 3 rfl).2; have e1 : isS L ⟨#[104, 97, 110, 100]⟩ st = true := e.1; have e2 : s1 = Wc L ⟨#[104, 97, 110, 100]⟩ st := e.2; have h1 := Vf w q c r K L st ⟨#[104, 97, 110, 100]⟩ h; rw [e1, ← e2] at h1; exact h1
     rw [if_neg (by decide), if_neg (by decide), if_neg (by decide), if_pos rfl]
     generalize hsd : Zm L Zt s1 = sd at *
     generalize hs2 : Yu L Zt s1 = s2 at *
     have hsi : ∀ w, PAt w q c r K L s1 → Calls Tryz.prog 220 #[.pointer (some ⟨q, 0, none⟩)] w (Yg w q c r K L s2 (.int .i64 (sd : Int))) := fun w h => by rw [← hsd, ← hs2]; exact xside w q c r K L s1 h
     clear hsd hs2 fi0 fi1 hfn hfr hn hLn ih
     go_enter Tryz.func194, Tryz.ntmps194
     go_wp2_with (first
 | (go_at_call 174; refine (his _ M0.out.at_).mono ?_; rintro e w1 ⟨rfl, b1⟩
    have R1 := Hh (R0.out.below b1 R0.out.inside)
    have T1 := Hh (T0.out.below b1 T0.out.inside)
    have M1 := Hh (M0.out.next b1)
    have hz1 : w.heap.size + 2 ≤ w1.heap.size := by have := b1.size; (try simp at this); omega
    have hcell := M1.out.at_.cell
    clear b1)
 | (go_at_call 136; (with_reducible refine (ht0 _ ?_).mono ?_); exact M1.out.at_; rintro e w2 ⟨rfl, m2⟩
    have R2 := Hh (m2.keeps.whole R1.out (by omega))
    have T2 := Hh (m2.keeps.whole T1.out (by omega))
    have M2 := Hh (M1.out.then m2)
    have hz2 := Nat.le_trans hz1 m2.keeps.size
    have hcell := M2.out.at_.cell
    clear m2)
 | (go_at_call 136; (with_reducible refine (ht1 _ ?_).mono ?_); exact M2.out.at_; rintro e w3 ⟨rfl, m3⟩
    have R3 := Hh (m3.keeps.whole R2.out (by omega))
    have T3 := Hh (m3.keeps.whole T2.out (by omega))
    have M3 := Hh (M2.out.then m3)
    have hz3 := Nat.le_trans hz2 m3.keeps.size
    have hcell := M3.out.at_.cell
    clear m3)
 | (go_at_call 136; (with_reducible refine (ht2 _ ?_).mono ?_); exact M3.out.at_; rintro e w4 ⟨rfl, m4⟩
    have R4 := Hh (m4.keeps.whole R3.out (by omega))
    have T4 := Hh (m4.keeps.whole T3.out (by omega))
    have M4 := Hh (M3.out.then m4)
    have hz4 := Nat.le_trans hz3 m4.keeps.size
    have hcell := M4.out.at_.cell
    clear m4)
 | (go_at_call 136; (with_reducible refine (htk _ ?_).mono ?_); exact M4.out.at_; rintro e w5 ⟨rfl, m5⟩
    have R5 := Hh (m5.keeps.whole R4.out (by omega))
    have T5 := Hh (m5.keeps.whole T4.out (by omega))
    have M5 := Hh (M4.out.then m5)
    have hz5 := Nat.le_trans hz4 m5.keeps.size
    have hcell := M5.out.at_.cell
    clear m5)
 | ((with_reducible refine Wa ?_); refine Zn 3 _ (.const (.int .i64 5)) 51 (w.heap.size + 1) 0 [] (.int .i64 0) (.int .i64 5) ([.int .i64 0, .int .i64 0, .int .i64 0, .int .i64 0, .int .i64 0, .slice none 0 0, .int .i64 0, .int .i64 0, .int .i64 0, .int .i64 0, .slice none 0 0]) (show Zb _ _ _ _ from T5.out) rfl Yy rfl rfl rfl rfl rfl rfl ?_
    intro w6 p6
    have T6 := Hh (show Zb w6 (w.heap.size + 1) 51 ([.int .i64 5, .int .i64 0, .int .i64 0, .int .i64 0, .int .i64 0, .int .i64 0, .slice none 0 0, .int .i64 0, .int .i64 0, .int .i64 0, .int .i64 0, .slice none 0 0]).toArray from by first | exact p6.whole | simpa using p6.whole)
    have R6 := Hh (p6.keeps.whole R5.out (by omega))
    have M6 := Hh (M5.out.put p6 (by omega) qin cin rin)
    have hz6 := Nat.le_trans hz5 p6.keeps.size
    have hcell := M6.out.at_.cell
    clear p6)
 | (go_at_call 220; refine (hsi _ M6.out.at_).mono ?_; rintro e w7 ⟨rfl, m7⟩
    have R7 := Hh (m7.keeps.whole R6.out (by omega))
    have T7 := Hh (m7.keeps.whole T6.out (by omega))
    have M7 := Hh (M6.out.then m7)
    have hz7 := Nat.le_trans hz6 m7.keeps.size
    have hcell := M7.out.at_.cell
    clear m7)
 | ((with_reducible refine Zl 57 56 ?_); refine Zn 3 _ _ 51 (w.heap.size + 1) 8 [.int .i64 5, .int .i64 0, .int .i64 0, .int .i64 0, .int .i64 0, .int .i64 0, .slice none 0 0, .int .i64 0] (.int .i64 0) (.int .i64 (sd : Int)) ([.int .i64 0, .int .i64 0, .slice none 0 0]) (show Zb _ _ _ _ from T7.out) rfl Yy rfl rfl rfl rfl rfl rfl ?_
    intro w8 p8
    have T8 := Hh (show Zb w8 (w.heap.size + 1) 51 ([.int .i64 5, .int .i64 0, .int .i64 0, .int .i64 0, .int .i64 0, .int .i64 0, .slice none 0 0, .int .i64 0, .int .i64 (sd : Int), .int .i64 0, .int .i64 0, .slice none 0 0]).toArray from by first | exact p8.whole | simpa using p8.whole)
    have R8 := Hh (p8.keeps.whole R7.out (by omega))
    have M8 := Hh (M7.out.put p8 (by omega) qin cin rin)
    have hz8 := Nat.le_trans hz7 p8.keeps.size
    have hcell := M8.out.at_.cell
    clear p8)
 | ((with_reducible refine Ze 71 ?_); refine Zd 51 _ 51 (w.heap.size + 1) _ T8.out Xn (Wd (show Zh (fun k => w.heap.size + 2 ≤ k) w8 _ ([.int .i64 5, .int .i64 0, .int .i64 0, .int .i64 0, .int .i64 0, .int .i64 0, .slice none 0 0, .int .i64 0, .int .i64 (sd : Int), .int .i64 0, .int .i64 0, .slice none 0 0]) from Yj 5 0 zSe sd 0 0 (Xj _ _)).len12) rfl rfl rfl ?_)
 | ((with_reducible refine Zl 2 71 ?_); refine Zc 51 _ _ 51 (w.heap.size) _ ([.int .i64 5, .int .i64 0, .int .i64 0, .int .i64 0, .int .i64 0, .int .i64 0, .slice none 0 0, .int .i64 0, .int .i64 (sd : Int), .int .i64 0, .int .i64 0, .slice none 0 0]) R8.out (show Zh (fun k => w.heap.size + 2 ≤ k) w8 _ ([.int .i64 5, .int .i64 0, .int .i64 0, .int .i64 0, .int .i64 0, .int .i64 0, .slice none 0 0, .int .i64 0, .int .i64 (sd : Int), .int .i64 0, .int .i64 0, .slice none 0 0]) from Yj 5 0 zSe sd 0 0 (Xj _ _)).len12 (Wd (show Zh (fun k => w.heap.size + 2 ≤ k) w8 _ ([.int .i64 5, .int .i64 0, .int .i64 0, .int .i64 0, .int .i64 0, .int .i64 0, .slice none 0 0, .int .i64 0, .int .i64 (sd : Int), .int .i64 0, .int .i64 0, .slice none 0 0]) from Yj 5 0 zSe sd 0 0 (Xj _ _)).len12) (show Zh (fun k => w.heap.size + 2 ≤ k) w8 _ ([.int .i64 5, .int .i64 0, .int .i64 0, .int .i64 0, .int .i64 0, .int .i64 0, .slice none 0 0, .int .i64 0, .int .i64 (sd : Int), .int .i64 0, .int .i64 0, .slice none 0 0]) from Yj 5 0 zSe sd 0 0 (Xj _ _)).one rfl rfl rfl rfl rfl ?_
    intro w9 p9
    have R9 := Hh p9.whole
    have T9 := Hh (p9.keeps.whole T8.out (by omega))
    have M9 := Hh (M8.out.put p9 (by omega) qin cin rin)
    have hz9 := Nat.le_trans hz8 p9.keeps.size
    have hcell := M9.out.at_.cell
    clear p9))
     exact Zs 2 51 51 w.heap.size _ rfl R9.out Xn (Wd (show Zh (fun k => w.heap.size + 2 ≤ k) w9 _ ([.int .i64 5, .int .i64 0, .int .i64 0, .int .i64 0, .int .i64 0, .int .i64 0, .slice none 0 0, .int .i64 0, .int .i64 (sd : Int), .int .i64 0, .int .i64 0, .slice none 0 0]) from Yj 5 0 zSe sd 0 0 (Xj _ _)).len12) rfl rfl ⟨_, rfl, Zh.lower (show Zh (fun k => w.heap.size + 2 ≤ k) w9 _ ([.int .i64 5, .int .i64 0, .int .i64 0, .int .i64 0, .int .i64 0, .int .i64 0, .slice none 0 0, .int .i64 0, .int .i64 (sd : Int), .int .i64 0, .int .i64 0, .slice none 0 0]) from Yj 5 0 zSe sd 0 0 (Xj _ _)) (by omega), M9.out⟩
   · -- 5
     have ht0 : ∀ w, PAt w q c r K L st → Calls Tryz.prog 136 #[Xz c st, .string ⟨#[99, 111, 117, 110, 116]⟩] w (Yg w q c r K L st (.bool false)) := fun w h => by have e : isS L ⟨#[99, 111, 117, 110, 116]⟩ st = false := (fi1 4 rfl).1 0 (by decide); have h1 := Vf w q c r K L st ⟨#[99, 111, 117, 110, 116]⟩ h; rw [e, Xq e] at h1; exact h1
     have ht1 : ∀ w, PAt w q c r K L st → Calls Tryz.prog 136 #[Xz c st, .string ⟨#[115, 117, 109]⟩] w (Yg w q c r K L st (.bool false)) := fun w h => by have e : isS L ⟨#[115, 117, 109]⟩ st = false := (fi1 4 rfl).1 1 (by decide); have h1 := Vf w q c r K L st ⟨#[115, 117, 109]⟩ h; rw [e, Xq e] at h1; exact h1
     have ht2 : ∀ w, PAt w q c r K L st → Calls Tryz.prog 136 #[Xz c st, .string ⟨#[114, 111, 117, 110, 100]⟩] w (Yg w q c r K L st (.bool false)) := fun w h => by have e : isS L ⟨#[114, 111, 117, 110, 100]⟩ st = false := (fi1 4 rfl).1 2 (by decide); have h1 := Vf w q c r K L st ⟨#[114, 111, 117, 110, 100]⟩ h; rw [e, Xq e] at h1; exact h1
     have ht3 : ∀ w, PAt w q c r K L st → Calls Tryz.prog 136 #[Xz c st, .string ⟨#[104, 97, 110, 100]⟩] w (Yg w q c r K L st (.bool false)) := fun w h => by have e : isS L ⟨#[104, 97, 110, 100]⟩ st = false := (fi1 4 rfl).1 3 (by decide); have h1 := Vf w q c r K L st ⟨#[104, 97, 110, 100]⟩ h; rw [e, Xq e] at h1; exact h1
     have htk : ∀ w, PAt w q c r K L st → Calls Tryz.prog 136 #[Xz c st, .string ⟨#[102, 114, 101, 101]⟩] w (Yg w q c r K L s1 (.bool true)) := fun w h => by have e := (fi1 4 rfl).2; have e1 : isS L ⟨#[102, 114, 101, 101]⟩ st = true := e.1; have e2 : s1 = Wc L ⟨#[102, 114, 101, 101]⟩ st := e.2; have h1 := Vf w q c r K L st ⟨#[102, 114, 101, 101]⟩ h; rw [e1, ← e2] at h1; exact h1
     rw [if_neg (by decide), if_neg (by decide), if_neg (by decide), if_neg (by decide)]
     generalize hsd : Zm L Zt s1 = sd at *
     generalize hs2 : Yu L Zt s1 = s2 at *
     have hsi : ∀ w, PAt w q c r K L s1 → Calls Tryz.prog 220 #[.pointer (some ⟨q, 0, none⟩)] w (Yg w q c r K L s2 (.int .i64 (sd : Int))) := fun w h => by rw [← hsd, ← hs2]; exact xside w q c r K L s1 h
     generalize htk1 : toK L s2 = tk at *
     generalize htl1 : toL L s2 = tl at *
     have hto : ∀ w, PAt w q c r K L s2 → Calls Tryz.prog 221 #[.pointer (some ⟨q, 0, none⟩)] w (Yg w q c r K L (toS L s2) (.agg #[.int .i64 tk, .int .i64 tl])) := fun w h => by rw [← htk1, ← htl1]; exact xto w q c r K L s2 h
     clear hsd hs2 fi0 fi1 hfn hfr hn hLn ih htk1 htl1
     go_enter Tryz.func194, Tryz.ntmps194
     go_wp2_with (first
 | (go_at_call 174; refine (his _ M0.out.at_).mono ?_; rintro e w1 ⟨rfl, b1⟩
    have R1 := Hh (R0.out.below b1 R0.out.inside)
    have T1 := Hh (T0.out.below b1 T0.out.inside)
    have M1 := Hh (M0.out.next b1)
    have hz1 : w.heap.size + 2 ≤ w1.heap.size := by have := b1.size; (try simp at this); omega
    have hcell := M1.out.at_.cell
    clear b1)
 | (go_at_call 136; (with_reducible refine (ht0 _ ?_).mono ?_); exact M1.out.at_; rintro e w2 ⟨rfl, m2⟩
    have R2 := Hh (m2.keeps.whole R1.out (by omega))
    have T2 := Hh (m2.keeps.whole T1.out (by omega))
    have M2 := Hh (M1.out.then m2)
    have hz2 := Nat.le_trans hz1 m2.keeps.size
    have hcell := M2.out.at_.cell
    clear m2)
 | (go_at_call 136; (with_reducible refine (ht1 _ ?_).mono ?_); exact M2.out.at_; rintro e w3 ⟨rfl, m3⟩
    have R3 := Hh (m3.keeps.whole R2.out (by omega))
    have T3 := Hh (m3.keeps.whole T2.out (by omega))
    have M3 := Hh (M2.out.then m3)
    have hz3 := Nat.le_trans hz2 m3.keeps.size
    have hcell := M3.out.at_.cell
    clear m3)
 | (go_at_call 136; (with_reducible refine (ht2 _ ?_).mono ?_); exact M3.out.at_; rintro e w4 ⟨rfl, m4⟩
    have R4 := Hh (m4.keeps.whole R3.out (by omega))
    have T4 := Hh (m4.keeps.whole T3.out (by omega))
    have M4 := Hh (M3.out.then m4)
    have hz4 := Nat.le_trans hz3 m4.keeps.size
    have hcell := M4.out.at_.cell
    clear m4)
 | (go_at_call 136; (with_reducible refine (ht3 _ ?_).mono ?_); exact M4.out.at_; rintro e w5 ⟨rfl, m5⟩
    have R5 := Hh (m5.keeps.whole R4.out (by omega))
    have T5 := Hh (m5.keeps.whole T4.out (by omega))
    have M5 := Hh (M4.out.then m5)
    have hz5 := Nat.le_trans hz4 m5.keeps.size
    have hcell := M5.out.at_.cell
    clear m5)
 | (go_at_call 136; (with_reducible refine (htk _ ?_).mono ?_); exact M5.out.at_; rintro e w6 ⟨rfl, m6⟩
    have R6 := Hh (m6.keeps.whole R5.out (by omega))
    have T6 := Hh (m6.keeps.whole T5.out (by omega))
    have M6 := Hh (M5.out.then m6)
    have hz6 := Nat.le_trans hz5 m6.keeps.size
    have hcell := M6.out.at_.cell
    clear m6)
 | ((with_reducible refine Wa ?_); refine Zn 3 _ (.const (.int .i64 6)) 51 (w.heap.size + 1) 0 [] (.int .i64 0) (.int .i64 6) ([.int .i64 0, .int .i64 0, .int .i64 0, .int .i64 0, .int .i64 0, .slice none 0 0, .int .i64 0, .int .i64 0, .int .i64 0, .int .i64 0, .slice none 0 0]) (show Zb _ _ _ _ from T6.out) rfl Yy rfl rfl rfl rfl rfl rfl ?_
    intro w7 p7
    have T7 := Hh (show Zb w7 (w.heap.size + 1) 51 ([.int .i64 6, .int .i64 0, .int .i64 0, .int .i64 0, .int .i64 0, .int .i64 0, .slice none 0 0, .int .i64 0, .int .i64 0, .int .i64 0, .int .i64 0, .slice none 0 0]).toArray from by first | exact p7.whole | simpa using p7.whole)
    have R7 := Hh (p7.keeps.whole R6.out (by omega))
    have M7 := Hh (M6.out.put p7 (by omega) qin cin rin)
    have hz7 := Nat.le_trans hz6 p7.keeps.size
    have hcell := M7.out.at_.cell
    clear p7)
 | (go_at_call 220; refine (hsi _ M7.out.at_).mono ?_; rintro e w8 ⟨rfl, m8⟩
    have R8 := Hh (m8.keeps.whole R7.out (by omega))
    have T8 := Hh (m8.keeps.whole T7.out (by omega))
    have M8 := Hh (M7.out.then m8)
    have hz8 := Nat.le_trans hz7 m8.keeps.size
    have hcell := M8.out.at_.cell
    clear m8)
 | ((with_reducible refine Zl 67 66 ?_); refine Zn 3 _ _ 51 (w.heap.size + 1) 8 [.int .i64 6, .int .i64 0, .int .i64 0, .int .i64 0, .int .i64 0, .int .i64 0, .slice none 0 0, .int .i64 0] (.int .i64 0) (.int .i64 (sd : Int)) ([.int .i64 0, .int .i64 0, .slice none 0 0]) (show Zb _ _ _ _ from T8.out) rfl Yy rfl rfl rfl rfl rfl rfl ?_
    intro w9 p9
    have T9 := Hh (show Zb w9 (w.heap.size + 1) 51 ([.int .i64 6, .int .i64 0, .int .i64 0, .int .i64 0, .int .i64 0, .int .i64 0, .slice none 0 0, .int .i64 0, .int .i64 (sd : Int), .int .i64 0, .int .i64 0, .slice none 0 0]).toArray from by first | exact p9.whole | simpa using p9.whole)
    have R9 := Hh (p9.keeps.whole R8.out (by omega))
    have M9 := Hh (M8.out.put p9 (by omega) qin cin rin)
    have hz9 := Nat.le_trans hz8 p9.keeps.size
    have hcell := M9.out.at_.cell
    clear p9)
 | (go_at_call 221; refine (hto _ M9.out.at_).mono ?_; rintro e w10 ⟨rfl, m10⟩
    have R10 := Hh (m10.keeps.whole R9.out (by omega))
    have T10 := Hh (m10.keeps.whole T9.out (by omega))
    have M10 := Hh (M9.out.then m10)
    have hz10 := Nat.le_trans hz9 m10.keeps.size
    have hcell := M10.out.at_.cell
    clear m10)
 | ((with_reducible refine Zl 70 69 ?_); refine Wh 48 _ _ 51 (w.heap.size + 1) 9 ([.int .i64 6, .int .i64 0, .int .i64 0, .int .i64 0, .int .i64 0, .int .i64 0, .slice none 0 0, .int .i64 0, .int .i64 (sd : Int)]) ([.int .i64 0, .int .i64 0]) ([.slice none 0 0]) ([.int .i64 tk, .int .i64 tl]) (by first | exact T10.out | simpa using T10.out) rfl rfl size_to (by simp [Value.oneCell']) rfl rfl rfl rfl rfl ?_
    intro w11 p11
    have T11 := Hh (show Zb w11 (w.heap.size + 1) 51 (([.int .i64 6, .int .i64 0, .int .i64 0, .int .i64 0, .int .i64 0, .int .i64 0, .slice none 0 0, .int .i64 0, .int .i64 (sd : Int)] : List Value) ++ ([.int .i64 tk, .int .i64 tl] : List Value) ++ ([.slice none 0 0] : List Value)).toArray from by first | exact p11.whole | simpa using p11.whole)
    have R11 := Hh (p11.keeps.whole R10.out (by omega))
    have M11 := Hh (M10.out.put p11 (by omega) qin cin rin)
    have hz11 := Nat.le_trans hz10 p11.keeps.size
    have hcell := M11.out.at_.cell
    clear p11)
 | ((with_reducible refine Ze 71 ?_); refine Zd 51 _ 51 (w.heap.size + 1) _ T11.out Xn (Wd (show Zh (fun k => w.heap.size + 2 ≤ k) w11 _ (([.int .i64 6, .int .i64 0, .int .i64 0, .int .i64 0, .int .i64 0, .int .i64 0, .slice none 0 0, .int .i64 0, .int .i64 (sd : Int)] : List Value) ++ ([.int .i64 tk, .int .i64 tl] : List Value) ++ ([.slice none 0 0] : List Value)) from Yj 6 0 zSe sd tk tl (Xj _ _)).len12) rfl rfl rfl ?_)
 | ((with_reducible refine Zl 2 71 ?_); refine Zc 51 _ _ 51 (w.heap.size) _ (([.int .i64 6, .int .i64 0, .int .i64 0, .int .i64 0, .int .i64 0, .int .i64 0, .slice none 0 0, .int .i64 0, .int .i64 (sd : Int)] : List Value) ++ ([.int .i64 tk, .int .i64 tl] : List Value) ++ ([.slice none 0 0] : List Value)) R11.out (show Zh (fun k => w.heap.size + 2 ≤ k) w11 _ (([.int .i64 6, .int .i64 0, .int .i64 0, .int .i64 0, .int .i64 0, .int .i64 0, .slice none 0 0, .int .i64 0, .int .i64 (sd : Int)] : List Value) ++ ([.int .i64 tk, .int .i64 tl] : List Value) ++ ([.slice none 0 0] : List Value)) from Yj 6 0 zSe sd tk tl (Xj _ _)).len12 (Wd (show Zh (fun k => w.heap.size + 2 ≤ k) w11 _ (([.int .i64 6, .int .i64 0, .int .i64 0, .int .i64 0, .int .i64 0, .int .i64 0, .slice none 0 0, .int .i64 0, .int .i64 (sd : Int)] : List Value) ++ ([.int .i64 tk, .int .i64 tl] : List Value) ++ ([.slice none 0 0] : List Value)) from Yj 6 0 zSe sd tk tl (Xj _ _)).len12) (show Zh (fun k => w.heap.size + 2 ≤ k) w11 _ (([.int .i64 6, .int .i64 0, .int .i64 0, .int .i64 0, .int .i64 0, .int .i64 0, .slice none 0 0, .int .i64 0, .int .i64 (sd : Int)] : List Value) ++ ([.int .i64 tk, .int .i64 tl] : List Value) ++ ([.slice none 0 0] : List Value)) from Yj 6 0 zSe sd tk tl (Xj _ _)).one rfl rfl rfl rfl rfl ?_
    intro w12 p12
    have R12 := Hh p12.whole
    have T12 := Hh (p12.keeps.whole T11.out (by omega))
    have M12 := Hh (M11.out.put p12 (by omega) qin cin rin)
    have hz12 := Nat.le_trans hz11 p12.keeps.size
    have hcell := M12.out.at_.cell
    clear p12))
     exact Zs 2 51 51 w.heap.size _ rfl R12.out Xn (Wd (show Zh (fun k => w.heap.size + 2 ≤ k) w12 _ (([.int .i64 6, .int .i64 0, .int .i64 0, .int .i64 0, .int .i64 0, .int .i64 0, .slice none 0 0, .int .i64 0, .int .i64 (sd : Int)] : List Value) ++ ([.int .i64 tk, .int .i64 tl] : List Value) ++ ([.slice none 0 0] : List Value)) from Yj 6 0 zSe sd tk tl (Xj _ _)).len12) rfl rfl ⟨_, rfl, Zh.lower (show Zh (fun k => w.heap.size + 2 ≤ k) w12 _ (([.int .i64 6, .int .i64 0, .int .i64 0, .int .i64 0, .int .i64 0, .int .i64 0, .slice none 0 0, .int .i64 0, .int .i64 (sd : Int)] : List Value) ++ ([.int .i64 tk, .int .i64 tl] : List Value) ++ ([.slice none 0 0] : List Value)) from Yj 6 0 zSe sd tk tl (Xj _ _)) (by omega), M12.out⟩
end Go.Proofs.YtljdgdphldckhaaGreat
