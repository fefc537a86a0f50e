/-
  Texts SynB6, SynR0, SynR1. No conditions but those that each theorem names.
-/
import Derived.Deep.QuietTactic
import Derived.BigQuiet
import Derived.RegionTactic
import Derived.Test.YtgfkimknnbpmnaaGreatQA25
import Derived.Test.YtgfkimknnbpmnaaGreatQA26
namespace Go.Proofs.YtgfkimknnbpmnaaGreat
open Go.ChangeShapes Go.WideShapes Go.ChangeAt Go.RowKit
set_option linter.unusedVariables false
set_option linter.unusedSimpArgs false
def fileO (nk : Int) (s : ByteArray) : Fi × St := Ws nk (Wg s) (textN s) (Jb s)
def parseF (nk : Int) (s : ByteArray) : Fi × (Int × Nat × Nat) := (if (Xh (Wg s) (fileO nk s).2).good = true then (fileO nk s).1 else ⟨[], []⟩, Yy (Xh (Wg s) (fileO nk s).2))
def actsO (nk : Int) (s : ByteArray) : Acs × St := Xo nk (Wg s) (textN s) (Jb s)
def actsP (nk : Int) (s : ByteArray) : Acs × (Int × Nat × Nat) := (if (Xh (Wg s) (actsO nk s).2).good = true then (actsO nk s).1 else .nil, Yy (Xh (Wg s) (actsO nk s).2))
theorem text_rem (s : ByteArray) : Zw (Wg s) (Jb s) ≤ (Wg s).length := by
 unfold Jb
 split
 · exact Nat.sub_le _ _
 · exact Nat.zero_le _
theorem text_len (s : ByteArray) (h : s.size ≤ 65536) : (Wg s).length ≤ 65537 := by
 unfold Wg
 rcases text_cases s h with ⟨E, l, c, hv, _⟩ | ⟨L, hv, _, hl⟩
 · rw [hv]; exact Nat.zero_le _
 · rw [hv]; show L.length ≤ 65537; omega
def TopPost (w : World) (ds : Ds) (F : Int × Nat × Nat) (e : Ending) (w' : World) : Prop :=
 ∃ vs : List Value, e = .returned (.tuple #[.agg vs.toArray, Zt F]) ∧ Zo (fun k => w.heap.size ≤ k) w' ds vs ∧ Below w.heap.size w w'
def TopRow (w : World) (n : Nat) (ds : Ds) (F : Int × Nat × Nat) (e : Ending) (w' : World) : Prop :=
 ∃ v : Value, e = .returned (.tuple #[v, Zt F]) ∧ Zo (fun k => w.heap.size ≤ k) w' (.row n ds .nil) [v] ∧ Below w.heap.size w w'
theorem Zal {B : Nat} {w x y : World} {q c r K : Nat} {L : List TokV} {st : St} (h : Below B w x) (m : Xa x y q c r K L st) (hq : B ≤ q) (hc : B ≤ c) (hx : B ≤ x.heap.size) : Below B w y :=
 h.trans (m.keeps.below hx fun k hk => by omega)
theorem Jk {B : Nat} {w x y : World} {g : Nat} {t : TypeId} {vs : List Value} (h : Below B w x) (p : Put x y g t vs) (hg : B ≤ g) (hx : B ≤ x.heap.size) : Below B w y :=
 h.trans (p.keeps.below hx fun k hk => by omega)
theorem two_vals : ∀ (vs : List Value), vs.length = 2 → ∃ a b, vs = [a, b]
 | [a, b], _ => ⟨a, b, rfl⟩
theorem bthen2 {B : Nat} {w x y : World} (h : Below B w x) (k : Below x.heap.size x y) (hB : B ≤ x.heap.size) : Below B w y := h.trans (k.mono hB)
set_option maxRecDepth 20000 in
set_option maxHeartbeats 3200000 in
theorem xParse (s : ByteArray) (w : World) (hs : s.size ≤ 65536) : Calls Tryz.prog 6 #[.string s] w (TopPost w (parseF 5 s).1.ds (parseF 5 s).2) := by
 have hr := text_rem s
 have hl := text_len s hs
 have hbe : ∀ w, Calls Tryz.prog 15 #[.string s] w (BeginPost w s) := fun w => xbegin s w hs
 have hsub : ∀ w q c r K, PAt w q c r K (Wg s) (Jb s) → Calls Tryz.prog 17 #[.pointer (some ⟨q, 0, none⟩)] w (Yq w q c r K (Wg s) (fileO 5 s).2 (fileO 5 s).1.ds) := fun w q c r K h => by
   have hN : textN s = 8 * (Wg s).length + 20 := rfl
   exact xfile (textN s) w q c r K _ _ h (by omega) (by omega)
 unfold BeginPost at hbe
 unfold parseF
 generalize fileO 5 s = o at *
 generalize Wg s = L at *
 generalize Jb s = st at *
 clear hr hl hs
 have n1 := Zh w (.cells #[.slice none 0 0, .slice none 0 0] 26)
 have n2 := Zh (w.alloc (.cells #[.slice none 0 0, .slice none 0 0] 26)) (.cells #[.int .i64 0, .int .i64 0, .int .i64 0] 29)
 have R0 := Hh ((show Zg _ w.heap.size 26 ([.slice none 0 0, .slice none 0 0]).toArray from Zg.made w 26 #[.slice none 0 0, .slice none 0 0]).alloc (.cells #[.int .i64 0, .int .i64 0, .int .i64 0] 29))
 have F0 := Hh (show Zg ((w.alloc (.cells #[.slice none 0 0, .slice none 0 0] 26)).alloc (.cells #[.int .i64 0, .int .i64 0, .int .i64 0] 29)) (w.heap.size + 1) 29 ([.int .i64 0, .int .i64 0, .int .i64 0] : List Value).toArray from by have e := Zg.made (w.alloc (.cells #[.slice none 0 0, .slice none 0 0] 26)) 29 #[.int .i64 0, .int .i64 0, .int .i64 0]; rw [World.size_alloc] at e; exact e)
 have B0 := Hh (Vr n1 n2)
 have hz0 : ((w.alloc (.cells #[.slice none 0 0, .slice none 0 0] 26)).alloc (.cells #[.int .i64 0, .int .i64 0, .int .i64 0] 29)).heap.size = w.heap.size + 2 := by simp
 cases hg : (Xh L o.2).good
 · rw [if_neg (by decide)]
   go_enter Tryz.func6, Tryz.ntmps6
   go_wp2_with (first
 | (go_at_call 15; refine (hbe _).mono ?_; rintro e w1 ⟨q, c, r, K, rfl, hp, hq, hc, b1⟩
    rw [hz0] at hq hc
    have hz1 : w.heap.size + 2 ≤ w1.heap.size := by have := b1.size; rw [hz0] at this; exact this
    have R1 := Hh (R0.out.below b1 R0.out.inside)
    have F1 := Hh (F0.out.below b1 F0.out.inside)
    have B1 := Hh (bthen2 B0.out b1 (by rw [hz0]; omega))
    have hq2 := hp.whole.inside
    have hc2 := hp.cin
    have P1 := Hh hp
    clear hp b1)
 | (go_at_call 17; refine (hsub _ q c r K P1.out).mono ?_; rintro e w2 ⟨vs, rfl, d2, m2⟩
    obtain ⟨va, vb, rfl⟩ := two_vals vs d2.len
    have R2 := Hh (m2.keeps.whole R1.out (by omega))
    have F2 := Hh (m2.keeps.whole F1.out (by omega))
    have B2 := Hh (Zal B1.out m2 (by omega) (by omega) (by omega))
    have P2 := Hh m2.at_
    have hz2 : w1.heap.size ≤ w2.heap.size := m2.keeps.size
    have D2 := Hh d2
    clear m2 d2)
 | (go_at_call 16; refine (xfinF _ q c r K L o.2 va vb D2.out.one P2.out).mono ?_; rintro e w3 ⟨e3, m3⟩
    rw [hg] at e3
    rw [if_neg (by decide)] at e3
    obtain rfl := e3
    have R3 := Hh (m3.keeps.whole R2.out (by omega))
    have F3 := Hh (m3.keeps.whole F2.out (by omega))
    have B3 := Hh (Zal B2.out m3 (by omega) (by omega) (by omega))
    have hz3 : w2.heap.size ≤ w3.heap.size := m3.keeps.size
    have D3 := Hh (D2.out.move m3 hq2 hc2)
    simp only [Zt]
    clear m3)
 | ((with_reducible refine Zj 2 11 ?_); refine Za 26 _ _ 26 w.heap.size _ [.slice none 0 0, .slice none 0 0] R3.out rfl Wx (by simp [Value.oneCell']) rfl rfl rfl rfl rfl ?_
    intro w4 p4
    have R4 := Hh p4.whole
    have F4 := Hh (p4.keeps.whole F3.out (by omega))
    have B4 := Hh (Jk B3.out p4 (Nat.le_refl _) (by omega))
    have D4 := Hh (D3.out.put p4 (by omega))
    have hz4 : w3.heap.size ≤ w4.heap.size := p4.keeps.size
    clear p4)
 | ((with_reducible refine Zj 3 12 ?_); refine Za 29 _ _ 29 (w.heap.size + 1) _ [.int .i64 (Yy (Xh L o.2)).1, .int .i64 ((Yy (Xh L o.2)).2.1 : Int), .int .i64 ((Yy (Xh L o.2)).2.2 : Int)] F4.out rfl Xr (by simp [Value.oneCell']) rfl rfl rfl rfl rfl ?_
    intro w5 p5
    have F5 := Hh p5.whole
    have R5 := Hh (p5.keeps.whole R4.out (by omega))
    have B5 := Hh (Jk B4.out p5 (by omega) (by omega))
    have D5 := Hh (D4.out.put p5 (by omega))
    clear p5))
   exact Yt 2 26 3 29 26 29 _ _ _ _ rfl R5.out F5.out Zas Wx Ux Xr rfl rfl rfl ⟨_, rfl, (show Zo _ _ (Fi.mk [] []).ds _ from ⟨none, 0, [], _, rfl, Nat.zero_le _, .inl rfl, rfl, none, 0, [], _, rfl, Nat.zero_le _, .inl rfl, rfl, rfl⟩), B5.out⟩
 · rw [if_pos rfl]
   go_enter Tryz.func6, Tryz.ntmps6
   go_wp2_with (first
 | (go_at_call 15; refine (hbe _).mono ?_; rintro e w1 ⟨q, c, r, K, rfl, hp, hq, hc, b1⟩
    rw [hz0] at hq hc
    have hz1 : w.heap.size + 2 ≤ w1.heap.size := by have := b1.size; rw [hz0] at this; exact this
    have R1 := Hh (R0.out.below b1 R0.out.inside)
    have F1 := Hh (F0.out.below b1 F0.out.inside)
    have B1 := Hh (bthen2 B0.out b1 (by rw [hz0]; omega))
    have hq2 := hp.whole.inside
    have hc2 := hp.cin
    have P1 := Hh hp
    clear hp b1)
 | (go_at_call 17; refine (hsub _ q c r K P1.out).mono ?_; rintro e w2 ⟨vs, rfl, d2, m2⟩
    obtain ⟨va, vb, rfl⟩ := two_vals vs d2.len
    have R2 := Hh (m2.keeps.whole R1.out (by omega))
    have F2 := Hh (m2.keeps.whole F1.out (by omega))
    have B2 := Hh (Zal B1.out m2 (by omega) (by omega) (by omega))
    have P2 := Hh m2.at_
    have hz2 : w1.heap.size ≤ w2.heap.size := m2.keeps.size
    have D2 := Hh d2
    clear m2 d2)
 | (go_at_call 16; refine (xfinF _ q c r K L o.2 va vb D2.out.one P2.out).mono ?_; rintro e w3 ⟨e3, m3⟩
    rw [hg] at e3
    rw [if_pos rfl] at e3
    obtain rfl := e3
    have R3 := Hh (m3.keeps.whole R2.out (by omega))
    have F3 := Hh (m3.keeps.whole F2.out (by omega))
    have B3 := Hh (Zal B2.out m3 (by omega) (by omega) (by omega))
    have hz3 : w2.heap.size ≤ w3.heap.size := m3.keeps.size
    have D3 := Hh (D2.out.move m3 hq2 hc2)
    simp only [Zt]
    clear m3)
 | ((with_reducible refine Zj 2 11 ?_); refine Za 26 _ _ 26 w.heap.size _ [va, vb] R3.out rfl Wx D2.out.one rfl rfl rfl rfl rfl ?_
    intro w4 p4
    have R4 := Hh p4.whole
    have F4 := Hh (p4.keeps.whole F3.out (by omega))
    have B4 := Hh (Jk B3.out p4 (Nat.le_refl _) (by omega))
    have D4 := Hh (D3.out.put p4 (by omega))
    have hz4 : w3.heap.size ≤ w4.heap.size := p4.keeps.size
    clear p4)
 | ((with_reducible refine Zj 3 12 ?_); refine Za 29 _ _ 29 (w.heap.size + 1) _ [.int .i64 (Yy (Xh L o.2)).1, .int .i64 ((Yy (Xh L o.2)).2.1 : Int), .int .i64 ((Yy (Xh L o.2)).2.2 : Int)] F4.out rfl Xr (by simp [Value.oneCell']) rfl rfl rfl rfl rfl ?_
    intro w5 p5
    have F5 := Hh p5.whole
    have R5 := Hh (p5.keeps.whole R4.out (by omega))
    have B5 := Hh (Jk B4.out p5 (by omega) (by omega))
    have D5 := Hh (D4.out.put p5 (by omega))
    clear p5))
   exact Yt 2 26 3 29 26 29 _ _ _ _ rfl R5.out F5.out Zas Wx Ux Xr rfl rfl rfl ⟨_, rfl, (D5.out.lower (by omega)), B5.out⟩
set_option maxRecDepth 20000 in
set_option maxHeartbeats 3200000 in
theorem xActs (s : ByteArray) (w : World) (hs : s.size ≤ 65536) : Calls Tryz.prog 9 #[.string s] w (TopRow w (actsP 5 s).1.len (actsP 5 s).1.ds (actsP 5 s).2) := by
 have hr := text_rem s
 have hl := text_len s hs
 have hbe : ∀ w, Calls Tryz.prog 15 #[.string s] w (BeginPost w s) := fun w => xbegin s w hs
 have hsub : ∀ w q c r K, PAt w q c r K (Wg s) (Jb s) → Calls Tryz.prog 29 #[.pointer (some ⟨q, 0, none⟩)] w (Zbf w q c r K (Wg s) (actsO 5 s).2 (actsO 5 s).1.len (actsO 5 s).1.ds) := fun w q c r K h => by
   have hN : textN s = 8 * (Wg s).length + 20 := rfl
   exact xactss w q c r K _ _ (textN s) h (by omega) (by omega)
 unfold BeginPost at hbe
 unfold actsP
 generalize actsO 5 s = o at *
 generalize Wg s = L at *
 generalize Jb s = st at *
 clear hr hl hs
 have n1 := Zh w (.cells #[.int .i64 0, .int .i64 0, .int .i64 0] 29)
 have F0 := Hh (show Zg (w.alloc (.cells #[.int .i64 0, .int .i64 0, .int .i64 0] 29)) w.heap.size 29 ([.int .i64 0, .int .i64 0, .int .i64 0] : List Value).toArray from Zg.made w 29 #[.int .i64 0, .int .i64 0, .int .i64 0])
 have B0 := Hh n1
 have hz0 : (w.alloc (.cells #[.int .i64 0, .int .i64 0, .int .i64 0] 29)).heap.size = w.heap.size + 1 := by simp
 cases hg : (Xh L o.2).good
 · rw [if_neg (by decide)]
   go_enter Tryz.func9, Tryz.ntmps9
   go_wp2_with (first
 | (go_at_call 15; refine (hbe _).mono ?_; rintro e w1 ⟨q, c, r, K, rfl, hp, hq, hc, b1⟩
    rw [hz0] at hq hc
    have hz1 : w.heap.size + 1 ≤ w1.heap.size := by have := b1.size; rw [hz0] at this; exact this
    have F1 := Hh (F0.out.below b1 F0.out.inside)
    have B1 := Hh (bthen2 B0.out b1 (by rw [hz0]; omega))
    have hq2 := hp.whole.inside
    have hc2 := hp.cin
    have P1 := Hh hp
    clear hp b1)
 | (go_at_call 29; refine (hsub _ q c r K P1.out).mono ?_; rintro e w2 ⟨v, rfl, d2, m2⟩
    obtain ⟨va1, va2, rfl⟩ := d2.slice
    have F2 := Hh (m2.keeps.whole F1.out (by omega))
    have B2 := Hh (Zal B1.out m2 (by omega) (by omega) (by omega))
    have P2 := Hh m2.at_
    have hz2 : w1.heap.size ≤ w2.heap.size := m2.keeps.size
    have D2 := Hh d2
    clear m2 d2)
 | (go_at_call 28; refine (xfinA _ q c r K L o.2 _ P2.out).mono ?_; rintro e w3 ⟨e3, m3⟩
    rw [hg] at e3
    rw [if_neg (by decide)] at e3
    obtain rfl := e3
    have F3 := Hh (m3.keeps.whole F2.out (by omega))
    have B3 := Hh (Zal B2.out m3 (by omega) (by omega) (by omega))
    have hz3 : w2.heap.size ≤ w3.heap.size := m3.keeps.size
    have D3 := Hh (D2.out.move m3 hq2 hc2)
    simp only [Zt]
    clear m3)
 | ((with_reducible refine Zj 3 12 ?_); refine Za 29 _ _ 29 (w.heap.size) _ [.int .i64 (Yy (Xh L o.2)).1, .int .i64 ((Yy (Xh L o.2)).2.1 : Int), .int .i64 ((Yy (Xh L o.2)).2.2 : Int)] F3.out rfl Xr (by simp [Value.oneCell']) rfl rfl rfl rfl rfl ?_
    intro w5 p5
    have F5 := Hh p5.whole
    have B5 := Hh (Jk B3.out p5 (by omega) (by omega))
    have D5 := Hh (D3.out.put p5 (by omega))
    clear p5))
   exact end_tmp_cell 2 3 29 29 _ _ _ rfl F5.out Ux Xr rfl rfl rfl ⟨_, rfl, (Zi _ _), B5.out⟩
 · rw [if_pos rfl]
   go_enter Tryz.func9, Tryz.ntmps9
   go_wp2_with (first
 | (go_at_call 15; refine (hbe _).mono ?_; rintro e w1 ⟨q, c, r, K, rfl, hp, hq, hc, b1⟩
    rw [hz0] at hq hc
    have hz1 : w.heap.size + 1 ≤ w1.heap.size := by have := b1.size; rw [hz0] at this; exact this
    have F1 := Hh (F0.out.below b1 F0.out.inside)
    have B1 := Hh (bthen2 B0.out b1 (by rw [hz0]; omega))
    have hq2 := hp.whole.inside
    have hc2 := hp.cin
    have P1 := Hh hp
    clear hp b1)
 | (go_at_call 29; refine (hsub _ q c r K P1.out).mono ?_; rintro e w2 ⟨v, rfl, d2, m2⟩
    obtain ⟨va1, va2, rfl⟩ := d2.slice
    have F2 := Hh (m2.keeps.whole F1.out (by omega))
    have B2 := Hh (Zal B1.out m2 (by omega) (by omega) (by omega))
    have P2 := Hh m2.at_
    have hz2 : w1.heap.size ≤ w2.heap.size := m2.keeps.size
    have D2 := Hh d2
    clear m2 d2)
 | (go_at_call 28; refine (xfinA _ q c r K L o.2 _ P2.out).mono ?_; rintro e w3 ⟨e3, m3⟩
    rw [hg] at e3
    rw [if_pos rfl] at e3
    obtain rfl := e3
    have F3 := Hh (m3.keeps.whole F2.out (by omega))
    have B3 := Hh (Zal B2.out m3 (by omega) (by omega) (by omega))
    have hz3 : w2.heap.size ≤ w3.heap.size := m3.keeps.size
    have D3 := Hh (D2.out.move m3 hq2 hc2)
    simp only [Zt]
    clear m3)
 | ((with_reducible refine Zj 3 12 ?_); refine Za 29 _ _ 29 (w.heap.size) _ [.int .i64 (Yy (Xh L o.2)).1, .int .i64 ((Yy (Xh L o.2)).2.1 : Int), .int .i64 ((Yy (Xh L o.2)).2.2 : Int)] F3.out rfl Xr (by simp [Value.oneCell']) rfl rfl rfl rfl rfl ?_
    intro w5 p5
    have F5 := Hh p5.whole
    have B5 := Hh (Jk B3.out p5 (by omega) (by omega))
    have D5 := Hh (D3.out.put p5 (by omega))
    clear p5))
   exact end_tmp_cell 2 3 29 29 _ _ _ rfl F5.out Ux Xr rfl rfl rfl ⟨_, rfl, (D5.out.lower (by omega)), B5.out⟩
end Go.Proofs.YtgfkimknnbpmnaaGreat
namespace Go.Proofs.YtgfkimknnbpmnaaGreat
open Go Go.RowKit
set_option linter.unusedVariables false
set_option linter.unusedSimpArgs false
theorem Yv {o : Oper} {xs : Nat → Option Bool} (h : o.guard = none) : Region.wanted o xs = true := by unfold Region.wanted; rw [h]
structure Ret2 (w w' : World) (g3 g4 : Nat) (t3 t4 : TypeId) (vs us : List Value) : Prop where
 one : Zg w' g3 t3 vs.toArray
 two : Zg w' g4 t4 us.toArray
 keeps : Zz (fun k => k = g3 ∨ k = g4) w w'
theorem ret2 {P : Program} {id : Nat} {Q : Exit → Act → World → Prop} {a : Act} {w : World} {o0 o1 o2 o3 : Oper} (hm : P.follows .mixedOrders = true)
   (cs : Region.noSelect #[o0, o1, o2, o3] = true) (cf0 : Region.free .any #[o0, o1, o2, o3] (Array.replicate 4 false) 0 = true) (cr0 : (Region.ready .any #[o0, o1, o2, o3] (Array.replicate 4 false)).contains 0 = true)
   (cf1 : Region.free .any #[o0, o1, o2, o3] ((Array.replicate 4 false).setIfInBounds 0 true) 1 = true) (cr1 : (Region.ready .any #[o0, o1, o2, o3] ((Array.replicate 4 false).setIfInBounds 0 true)).contains 1 = true)
   (c2 : Region.ready .any #[o0, o1, o2, o3] (((Array.replicate 4 false).setIfInBounds 0 true).setIfInBounds 1 true) = [2])
   (c3 : Region.ready .any #[o0, o1, o2, o3] ((((Array.replicate 4 false).setIfInBounds 0 true).setIfInBounds 1 true).setIfInBounds 2 true) = [3])
   (c4 : Region.ready .any #[o0, o1, o2, o3] (((((Array.replicate 4 false).setIfInBounds 0 true).setIfInBounds 1 true).setIfInBounds 2 true).setIfInBounds 3 true) = [])
   {T1 T2 : TypeId} {x1 x2 y1 y2 z1 z2 : Operand} (h0 : o0.op = .load T1 x1) (h1 : o1.op = .load T2 x2) (h2 : o2.op = .store T1 y1 z1) (h3 : o3.op = .store T2 y2 z2)
   (n0 : o0.guard = none) (n1 : o1.guard = none) (n2 : o2.guard = none) (n3 : o3.guard = none) (k2 : o2.dst = none) (k3 : o3.dst = none)
   (g1 g2 g3 g4 : Nat) {t1 t2 t3 t4 : TypeId} (vs us old3 old4 : List Value) (W1 : Zg w g1 t1 vs.toArray) (W2 : Zg w g2 t2 us.toArray) (W3 : Zg w g3 t3 old3.toArray) (W4 : Zg w g4 t4 old4.toArray)
   (hl3 : vs.length = old3.length) (hl4 : us.length = old4.length) (ho1 : ∀ v ∈ vs, v.oneCell' = true) (ho2 : ∀ v ∈ us, v.oneCell' = true)
   (d13 : g1 ≠ g3) (d14 : g1 ≠ g4) (d23 : g2 ≠ g3) (d24 : g2 ≠ g4) (d34 : g3 ≠ g4)
   (hu1 : (P.underlying T1).map TypeDesc.isRow = some true) (hi1 : (P.info? T1).map (·.size) = some vs.length) (hu2 : (P.underlying T2).map TypeDesc.isRow = some true) (hi2 : (P.info? T2).map (·.size) = some us.length)
   (e1 : a.eval x1 = .pointer (some ⟨g1, 0, none⟩)) (e2 : (a.put o0.dst (.agg vs.toArray)).eval x2 = .pointer (some ⟨g2, 0, none⟩))
   (e3 : ((a.put o0.dst (.agg vs.toArray)).put o1.dst (.agg us.toArray)).eval y1 = .pointer (some ⟨g3, 0, none⟩)) (e4 : ((a.put o0.dst (.agg vs.toArray)).put o1.dst (.agg us.toArray)).eval z1 = .agg vs.toArray)
   (e5 : ((a.put o0.dst (.agg vs.toArray)).put o1.dst (.agg us.toArray)).eval y2 = .pointer (some ⟨g4, 0, none⟩)) (e6 : ((a.put o0.dst (.agg vs.toArray)).put o1.dst (.agg us.toArray)).eval z2 = .agg us.toArray)
   (h : ∀ w', Ret2 w w' g3 g4 t3 t4 vs us → Q .normal ((a.put o0.dst (.agg vs.toArray)).put o1.dst (.agg us.toArray)) w') : (Code.region id #[o0, o1, o2, o3] true).wp P Q a w := by
 obtain ⟨d1, hu1, hr1⟩ := Option.map_eq_some_iff.1 hu1
 obtain ⟨d2, hu2, hr2⟩ := Option.map_eq_some_iff.1 hu2
 refine wp_region_noPanic (wp_region_held_drew (S := fun x => Zg x g1 t1 vs.toArray ∧ Zg x g2 t2 us.toArray) hm ⟨W1.drew, W2.drew⟩ fun hS => ?_)
 have rg : ∀ {x : World} {g : Nat} {t : TypeId} {l : List Value}, Zg x g t l.toArray → x.rangeAt g 0 l := fun {x g t l} hx => Zg.range (a := []) (b := l) (c := []) (by simpa using hx)
 refine wpAnyH_take (i := 0) (oi := o0) (v := .agg vs.toArray) rfl cs cf0 cr0 (fun _ _ _ h => h) (yieldsIf_load_mid (Yv n0) T1 x1 h0 g1 0 e1 vs d1 (fun x hx => rg hx.1) hu1 hr1 hi1) hS ?_
 refine wpAnyH_take (i := 1) (oi := o1) (v := .agg us.toArray) rfl cs cf1 cr1 (fun _ _ _ h => h) (yieldsIf_load_mid (Yv n1) T2 x2 h1 g2 0 e2 us d2 (fun x hx => rg hx.2) hu2 hr2 hi2) hS ?_
 have th : ∀ {x : World} {g : Nat} {t : TypeId} {l : List Value}, Zg x g t l.toArray → x.there g 0 l.length := fun {x g t l} hx => Zg.there (a := []) (b := l) (c := []) (by simpa using hx)
 have p3 : Zg (w.drew.setCells g3 0 vs) g3 t3 vs.toArray := by
   have e := Zg.setCells (g := g3) (t := t3) [] vs old3 [] w.drew hl3 (by simpa using W3.drew)
   simpa using e
 have k3' := Zz.setCells (S := fun k => k = g3) (g := g3) rfl vs 0 (Zz.refl _ w.drew)
 have q4 : Zg (w.drew.setCells g3 0 vs) g4 t4 old4.toArray := k3'.whole W4.drew (Ne.symm d34)
 have p4 : Zg ((w.drew.setCells g3 0 vs).setCells g4 0 us) g4 t4 us.toArray := by
   have e := Zg.setCells (g := g4) (t := t4) [] us old4 [] (w.drew.setCells g3 0 vs) hl4 (by simpa using q4)
   simpa using e
 have k4' := Zz.setCells (S := fun k => k = g4) (g := g4) rfl us 0 (Zz.refl _ (w.drew.setCells g3 0 vs))
 refine wpAnyH_ready (rs := [2]) c2 (by simp) (AllReadyH.cons (o := o2) rfl (fun K hK => ?_) AllReadyH.nil)
 rw [if_pos (Yv n2)]
 refine wp_store_mid T1 y1 z1 h2 g3 0 vs.toArray e3 e4 (by rw [List.size_toArray, hl3]; exact th W3.drew) (by simpa using hi1) (all_oneCell_toArray ho1) ?_
 rw [k2]
 refine hK.out _ _ ⟨k3'.whole W1.drew d13, k3'.whole W2.drew d23⟩ fun hS3 => ?_
 refine wpAnyH_ready (rs := [3]) c3 (by simp) (AllReadyH.cons (o := o3) rfl (fun K hK => ?_) AllReadyH.nil)
 rw [if_pos (Yv n3)]
 refine wp_store_mid T2 y2 z2 h3 g4 0 us.toArray e5 e6 (by rw [List.size_toArray, hl4]; exact th q4) (by simpa using hi2) (all_oneCell_toArray ho2) ?_
 rw [k3]
 refine hK.out _ _ ⟨k4'.whole (k3'.whole W1.drew d13) d14, k4'.whole (k3'.whole W2.drew d23) d24⟩ fun hS4 => ?_
 refine wpAnyH_done c4 ?_ _
 refine h _ ⟨k4'.whole p3 d34, p4, ?_⟩
 exact (Zz.drew (Zz.refl _ w)).trans ((k3'.mono fun k e => .inl e).trans (k4'.mono fun k e => .inr e))
end Go.Proofs.YtgfkimknnbpmnaaGreat
namespace Go.Proofs.YtgfkimknnbpmnaaGreat
open Go.ChangeShapes Go.WideShapes Go.ChangeAt Go.RowKit
set_option linter.unusedVariables false
set_option linter.unusedSimpArgs false
def Zy (w : World) (r K : Nat) (L : List TokV) : Prop := 0 < L.length → Ug w r K L
theorem Zy.below {w w' : World} {r K : Nat} {L : List TokV} (h : Zy w r K L) (hb : Below w.heap.size w w') : Zy w' r K L := fun hl => (h hl).below hb
theorem Zy.put {x y : World} {r K : Nat} {L : List TokV} (h : Zy x r K L) {g B : Nat} {t : TypeId} {vs : List Value} (p : Put x y g t vs) (hr : 0 < L.length → r < B) (hg : B ≤ g) : Zy y r K L := fun hl => (h hl).keeps p.keeps (by have := hr hl; omega)
theorem Zy.rin {w : World} {r K : Nat} {L : List TokV} (h : Zy w r K L) : 0 < L.length → r < w.heap.size := fun hl => (h hl).rin
structure RPv (r K : Nat) (L : List TokV) (st : St) (vs : List Value) : Prop where
 form : ∃ A n k a d, vs = [.slice A n k, .int .i64 (a : Nat), .int .i64 (d : Nat), .int .i64 (Yy st).1, .int .i64 ((Yy st).2.1 : Int), .int .i64 ((Yy st).2.2 : Int)] ∧ d ≤ 8 ∧
   ∀ a' d', st = .ok a' d' → A = some ⟨r, 0, none⟩ ∧ n = L.length ∧ k = K ∧ a = a' ∧ d = d' ∧ a' < L.length
 flt : ∀ F, st = .bad F → F.1 ≠ 0
theorem RPv.ok {r K : Nat} {L : List TokV} {a d : Nat} {vs : List Value} (h : RPv r K L (.ok a d) vs) : ∃ n, n = L.length ∧ vs = [.slice (some ⟨r, 0, none⟩) n K, .int .i64 (a : Int), .int .i64 (d : Int), .int .i64 0, .int .i64 0, .int .i64 0] ∧ a < L.length ∧ d ≤ 8 := by
 obtain ⟨A, n, k, a', d', e, hd, hk⟩ := h.form
 obtain ⟨h1, h2, h3, h4, h5, h6⟩ := hk a d rfl
 subst h1 h3 h4 h5
 exact ⟨n, h2, e, h6, hd⟩
theorem RPv.bad {r K : Nat} {L : List TokV} {F : Int × Nat × Nat} {vs : List Value} (h : RPv r K L (.bad F) vs) : ∃ A n k a d, vs = [.slice A n k, .int .i64 (a : Nat), .int .i64 (d : Nat), .int .i64 F.1, .int .i64 (F.2.1 : Int), .int .i64 (F.2.2 : Int)] ∧ d ≤ 8 ∧ F.1 ≠ 0 := by
 obtain ⟨A, n, k, a', d', e, hd, _⟩ := h.form
 exact ⟨A, n, k, a', d', e, hd, h.flt F rfl⟩
theorem RPv.mkOk {r K : Nat} {L : List TokV} {a d n : Nat} (hn : n = L.length) (ha : a < L.length) (hd : d ≤ 8) : RPv r K L (.ok a d) [.slice (some ⟨r, 0, none⟩) n K, .int .i64 (a : Int), .int .i64 (d : Int), .int .i64 0, .int .i64 0, .int .i64 0] :=
 ⟨⟨_, _, _, _, _, rfl, hd, fun a' d' e => by cases e; exact ⟨rfl, hn, rfl, rfl, rfl, ha⟩⟩, fun F e => by cases e⟩
theorem RPv.mkBad {r K : Nat} {L : List TokV} {F : Int × Nat × Nat} (A : Option Addr) (n k a d : Nat) (hd : d ≤ 8) (hF : F.1 ≠ 0) : RPv r K L (.bad F) [.slice A n k, .int .i64 (a : Int), .int .i64 (d : Int), .int .i64 F.1, .int .i64 (F.2.1 : Int), .int .i64 (F.2.2 : Int)] :=
 ⟨⟨_, _, _, _, _, rfl, hd, fun a' d' e => by cases e⟩, fun F e => by cases e; exact hF⟩
theorem RPv.len {r K : Nat} {L : List TokV} {st : St} {vs : List Value} (h : RPv r K L st vs) : vs.length = 6 := by
 obtain ⟨A, n, k, a, d, e, _⟩ := h.form
 rw [e]; rfl
theorem RPv.one {r K : Nat} {L : List TokV} {st : St} {vs : List Value} (h : RPv r K L st vs) : ∀ v ∈ vs, v.oneCell' = true := by
 obtain ⟨A, n, k, a, d, e, _⟩ := h.form
 rw [e]; simp [Value.oneCell']
theorem RPv.six {r K : Nat} {L : List TokV} {st : St} {vs : List Value} (h : RPv r K L st vs) : ∃ c0 c1 c2, vs = [c0, c1, c2, .int .i64 (Yy st).1, .int .i64 ((Yy st).2.1 : Int), .int .i64 ((Yy st).2.2 : Int)] := by
 obtain ⟨A, n, k, a, d, e, _⟩ := h.form
 exact ⟨_, _, _, e⟩
theorem Zp : (Tryz.prog.underlying 62).map TypeDesc.isRow = some true := by kernel_rfl
theorem Yf : (Tryz.prog.info? 62).map (·.size) = some 6 := by kernel_rfl
theorem Ze {vs : List Value} (h : vs.length = 6) : (Tryz.prog.info? 62).map (·.size) = some vs.length := by rw [h]; exact Yf
theorem Zaj : (Tryz.prog.underlying 60).map TypeDesc.isRow = some true := by kernel_rfl
theorem Wm : (Tryz.prog.info? 60).map (·.size) = some 3 := by kernel_rfl
def PPo (w : World) (r K : Nat) (L : List TokV) (st : St) (e : Ending) (w' : World) : Prop := ∃ vs : List Value, e = .returned (.agg vs.toArray) ∧ RPv r K L st vs ∧ Below w.heap.size w w'
def PVo (w : World) (r K : Nat) (L : List TokV) (st : St) (v : Value) (e : Ending) (w' : World) : Prop := ∃ vs : List Value, e = .returned (.tuple #[.agg vs.toArray, v]) ∧ RPv r K L st vs ∧ Below w.heap.size w w'
theorem Xj {P : Program} {fn : Func} {R : Ending → World → Prop} {a : Act} {w : World} (s1 T1 s2 : Nat) (t1 : TypeId) (g1 : Nat) (vs : List Value) (v : Value) (hres : fn.results = #[.cell s1 T1, .tmp s2]) (h1 : Zg w g1 t1 vs.toArray)
   (hu1 : (P.underlying T1).map TypeDesc.isRow = some true) (hi1 : (P.info? T1).map (·.size) = some vs.length)
   (hp1 : a.tmps.getD s1 undef = .pointer (some ⟨g1, 0, none⟩)) (hp2 : a.tmps.getD s2 undef = v) (hd : a.defers = []) (hR : R (.returned (.tuple #[.agg vs.toArray, v])) w) : bodyPost P fn R .ret a w := by
 obtain ⟨d1, hu1, hr1⟩ := Option.map_eq_some_iff.1 hu1
 refine bodyPost_ret (v := .tuple #[.agg vs.toArray, v]) ?_ hd hR
 have hl1 := run_loadVar_mid (P := P) w g1 0 T1 vs d1 (by have := Zg.range (a := []) (b := vs) (c := []) (by simpa using h1); exact this) hu1 hr1 hi1
 have hp1' : a.tmps[s1]?.getD undef = .pointer (some ⟨g1, 0, none⟩) := by simpa using hp1
 have hp2' : a.tmps[s2]?.getD undef = v := by simpa using hp2
 simp [results, hres, hp1', hp2', hl1, asAddr, Sem.run_bind, Sem.run_pure]
set_option maxRecDepth 20000 in
theorem qbad (w : World) (r K : Nat) (L : List TokV) (st : St) (vs : List Value) (ho : Zy w r K L) (hp : RPv r K L st vs) :
   Calls Tryz.prog 49 #[.agg vs.toArray] w (PPo w r K L (wrongS L st)) := by
 cases st with
 | ok a d =>
   obtain ⟨n, hn, rfl, ha, hd⟩ := hp.ok
   have hrow := ho (by omega)
   have hrin := ho.rin
   have n1 := Zh w (.cells [.slice (some ⟨r, 0, none⟩) n K, .int .i64 (a : Int), .int .i64 (d : Int), .int .i64 0, .int .i64 0, .int .i64 0].toArray 62)
   have n2 := Zh (w.alloc (.cells [.slice (some ⟨r, 0, none⟩) n K, .int .i64 (a : Int), .int .i64 (d : Int), .int .i64 0, .int .i64 0, .int .i64 0].toArray 62)) (.cells #[.slice none 0 0, .int .i64 0, .int .i64 0, .int .i64 0, .int .i64 0, .int .i64 0] 62)
   have X0 := Hh ((Zg.made w 62 [.slice (some ⟨r, 0, none⟩) n K, .int .i64 (a : Int), .int .i64 (d : Int), .int .i64 0, .int .i64 0, .int .i64 0].toArray).alloc (.cells #[.slice none 0 0, .int .i64 0, .int .i64 0, .int .i64 0, .int .i64 0, .int .i64 0] 62))
   have R0 := Hh (show Zg ((w.alloc (.cells [.slice (some ⟨r, 0, none⟩) n K, .int .i64 (a : Int), .int .i64 (d : Int), .int .i64 0, .int .i64 0, .int .i64 0].toArray 62)).alloc (.cells #[.slice none 0 0, .int .i64 0, .int .i64 0, .int .i64 0, .int .i64 0, .int .i64 0] 62)) (w.heap.size + 1) 62 ([.slice none 0 0, .int .i64 0, .int .i64 0, .int .i64 0, .int .i64 0, .int .i64 0] : List Value).toArray from by have e := Zg.made (w.alloc (.cells [.slice (some ⟨r, 0, none⟩) n K, .int .i64 (a : Int), .int .i64 (d : Int), .int .i64 0, .int .i64 0, .int .i64 0].toArray 62)) 62 #[.slice none 0 0, .int .i64 0, .int .i64 0, .int .i64 0, .int .i64 0, .int .i64 0]; rw [World.size_alloc] at e; exact e)
   have B0 := Hh (Vr n1 n2)
   have O0 := Hh ((ho.below n1).below n2)
   have hz0 : w.heap.size + 2 ≤ ((w.alloc (.cells [.slice (some ⟨r, 0, none⟩) n K, .int .i64 (a : Int), .int .i64 (d : Int), .int .i64 0, .int .i64 0, .int .i64 0].toArray 62)).alloc (.cells #[.slice none 0 0, .int .i64 0, .int .i64 0, .int .i64 0, .int .i64 0, .int .i64 0] 62)).heap.size := by simp
   clear n1 n2
   have hw := wrF_ne (Yg L a)
   have HW := Hh hw
   have HN := Hh hn
   clear hw ho hp hrow hn
   go_enter Tryz.func49, Tryz.ntmps49
   go_wp2_with (first
 | (go_at_call 69; refine (qWrong _ r K L n a d HN.out (O0.out (by omega)) ha).mono ?_; rintro e w1 ⟨rfl, b1⟩
    have X1 := Hh (X0.out.below b1 X0.out.inside)
    have R1 := Hh (R0.out.below b1 R0.out.inside)
    have B1 := Hh (bthen2 B0.out b1 (by first | omega | (simp; done) | (simp; omega)))
    have O1 := Hh (O0.out.below b1)
    have hz1 : w.heap.size + 2 ≤ w1.heap.size := by have := b1.size; (try simp at this); omega
    simp only [Zt]
    clear b1 )
 | ((with_reducible refine Zj 10 9 ?_); refine Xf 29 _ _ 62 (w.heap.size) 3 ([.slice (some ⟨r, 0, none⟩) n K, .int .i64 (a : Int), .int .i64 (d : Int)]) ([.int .i64 0, .int .i64 0, .int .i64 0]) ([]) ([.int .i64 (wrF (Yg L a)).1, .int .i64 ((wrF (Yg L a)).2.1 : Int), .int .i64 ((wrF (Yg L a)).2.2 : Int)]) (by first | exact X1.out | simpa using X1.out) rfl rfl Xr (by simp [Value.oneCell']) rfl rfl rfl rfl rfl ?_
    intro w2 p2
    have X2 := Hh (show Zg w2 (w.heap.size) 62 (([.slice (some ⟨r, 0, none⟩) n K, .int .i64 (a : Int), .int .i64 (d : Int)] : List Value) ++ ([.int .i64 (wrF (Yg L a)).1, .int .i64 ((wrF (Yg L a)).2.1 : Int), .int .i64 ((wrF (Yg L a)).2.2 : Int)] : List Value) ++ ([] : List Value)).toArray from by first | exact p2.whole | simpa using p2.whole)
    have R2 := Hh (p2.keeps.whole R1.out (by omega))
    have B2 := Hh (Jk B1.out p2 (by omega) (by omega))
    have O2 := Hh (O1.out.put p2 hrin (by omega))
    have hz2 := Nat.le_trans hz1 p2.keeps.size
    clear p2)
 | ((with_reducible refine Zf 11 ?_); refine Zb 62 _ 62 (w.heap.size) _ X2.out Zp Yf rfl rfl rfl ?_)
 | ((with_reducible refine Zj 2 11 ?_); refine Za 62 _ _ 62 (w.heap.size + 1) _ ([.slice (some ⟨r, 0, none⟩) n K, .int .i64 (a : Int), .int .i64 (d : Int), .int .i64 (wrF (Yg L a)).1, .int .i64 ((wrF (Yg L a)).2.1 : Int), .int .i64 ((wrF (Yg L a)).2.2 : Int)]) R2.out rfl Yf (by simp [Value.oneCell']) rfl rfl rfl rfl rfl ?_
    intro w3 p3
    have R3 := Hh p3.whole
    have X3 := Hh (p3.keeps.whole X2.out (by omega))
    have B3 := Hh (Jk B2.out p3 (by omega) (by omega))
    have O3 := Hh (O2.out.put p3 hrin (by omega))
    have hz3 := Nat.le_trans hz2 p3.keeps.size
    clear p3))
   exact Yw 2 62 62 _ _ rfl R3.out Zp Yf rfl rfl ⟨_, rfl, RPv.mkBad _ _ _ _ _ hd HW.out, B3.out⟩
 | bad F =>
   obtain ⟨A, n, k, a, d, rfl, hd, hF⟩ := hp.bad
   obtain ⟨f0, f1, f2⟩ := F
   have z0 : (f0 == 0) = false := by rw [beq_eq_false_iff_ne]; exact hF
   have hrin := ho.rin
   have n1 := Zh w (.cells [.slice A n k, .int .i64 (a : Int), .int .i64 (d : Int), .int .i64 f0, .int .i64 (f1 : Int), .int .i64 (f2 : Int)].toArray 62)
   have n2 := Zh (w.alloc (.cells [.slice A n k, .int .i64 (a : Int), .int .i64 (d : Int), .int .i64 f0, .int .i64 (f1 : Int), .int .i64 (f2 : Int)].toArray 62)) (.cells #[.slice none 0 0, .int .i64 0, .int .i64 0, .int .i64 0, .int .i64 0, .int .i64 0] 62)
   have X0 := Hh ((Zg.made w 62 [.slice A n k, .int .i64 (a : Int), .int .i64 (d : Int), .int .i64 f0, .int .i64 (f1 : Int), .int .i64 (f2 : Int)].toArray).alloc (.cells #[.slice none 0 0, .int .i64 0, .int .i64 0, .int .i64 0, .int .i64 0, .int .i64 0] 62))
   have R0 := Hh (show Zg ((w.alloc (.cells [.slice A n k, .int .i64 (a : Int), .int .i64 (d : Int), .int .i64 f0, .int .i64 (f1 : Int), .int .i64 (f2 : Int)].toArray 62)).alloc (.cells #[.slice none 0 0, .int .i64 0, .int .i64 0, .int .i64 0, .int .i64 0, .int .i64 0] 62)) (w.heap.size + 1) 62 ([.slice none 0 0, .int .i64 0, .int .i64 0, .int .i64 0, .int .i64 0, .int .i64 0] : List Value).toArray from by have e := Zg.made (w.alloc (.cells [.slice A n k, .int .i64 (a : Int), .int .i64 (d : Int), .int .i64 f0, .int .i64 (f1 : Int), .int .i64 (f2 : Int)].toArray 62)) 62 #[.slice none 0 0, .int .i64 0, .int .i64 0, .int .i64 0, .int .i64 0, .int .i64 0]; rw [World.size_alloc] at e; exact e)
   have B0 := Hh (Vr n1 n2)
   have O0 := Hh ((ho.below n1).below n2)
   have hz0 : w.heap.size + 2 ≤ ((w.alloc (.cells [.slice A n k, .int .i64 (a : Int), .int .i64 (d : Int), .int .i64 f0, .int .i64 (f1 : Int), .int .i64 (f2 : Int)].toArray 62)).alloc (.cells #[.slice none 0 0, .int .i64 0, .int .i64 0, .int .i64 0, .int .i64 0, .int .i64 0] 62)).heap.size := by simp
   clear n1 n2
   have HF := Hh hF
   clear ho hp hF
   go_enter Tryz.func49, Tryz.ntmps49
   go_wp2_with (first
 | ((with_reducible refine Zf 11 ?_); refine Zb 62 _ 62 (w.heap.size) _ X0.out Zp Yf rfl rfl rfl ?_)
 | ((with_reducible refine Zj 2 11 ?_); refine Za 62 _ _ 62 (w.heap.size + 1) _ ([.slice A n k, .int .i64 (a : Int), .int .i64 (d : Int), .int .i64 f0, .int .i64 (f1 : Int), .int .i64 (f2 : Int)]) R0.out rfl Yf (by simp [Value.oneCell']) rfl rfl rfl rfl rfl ?_
    intro w1 p1
    have R1 := Hh p1.whole
    have X1 := Hh (p1.keeps.whole X0.out (by omega))
    have B1 := Hh (Jk B0.out p1 (by omega) (by omega))
    have O1 := Hh (O0.out.put p1 hrin (by omega))
    have hz1 : w.heap.size + 2 ≤ w1.heap.size := by have := p1.keeps.size; (try simp at this); omega
    clear p1))
   exact Yw 2 62 62 _ _ rfl R1.out Zp Yf rfl rfl ⟨_, rfl, RPv.mkBad (F := (f0, f1, f2)) _ _ _ _ _ hd HF.out, B1.out⟩
end Go.Proofs.YtgfkimknnbpmnaaGreat
