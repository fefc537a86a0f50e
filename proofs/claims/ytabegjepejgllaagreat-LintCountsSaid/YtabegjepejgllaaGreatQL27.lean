/-
  Texts SynB6, SynR1. No conditions but those that each theorem names.
-/
import Derived.Deep.QuietTactic
import Derived.BigQuiet
import Derived.RegionTactic
import Derived.Test.YtabegjepejgllaaGreatQL26
namespace Go.Proofs.YtabegjepejgllaaGreat
open Go.ChangeShapes Go.WideShapes Go.ChangeAt Go.RowKit
set_option linter.unusedVariables false
set_option linter.unusedSimpArgs false
def fileO (nk : Int) (s : ByteArray) : Fi × St := Vd nk (textL s) (textN s) (textS s)
def parseF (nk : Int) (s : ByteArray) : Fi × (Int × Nat × Nat) := (if (overS (textL s) (fileO nk s).2).good = true then (fileO nk s).1 else ⟨[], []⟩, fltS (overS (textL s) (fileO nk s).2))
theorem text_rem (s : ByteArray) : Zw (textL s) (textS s) ≤ (textL s).length := by
 unfold textS
 split
 · exact Nat.sub_le _ _
 · exact Nat.zero_le _
theorem text_len (s : ByteArray) (h : s.size ≤ 65536) : (textL s).length ≤ 65537 := by
 unfold textL
 rcases text_cases s h with ⟨E, l, c, hv, _⟩ | ⟨L, hv, _, hl⟩
 · rw [hv]; exact Nat.zero_le _
 · rw [hv]; show L.length ≤ 65537; omega
def TopPost (w : World) (ds : Ds) (F : Int × Nat × Nat) (e : Ending) (w' : World) : Prop :=
 ∃ vs : List Value, e = .returned (.tuple #[.agg vs.toArray, Zq F]) ∧ Zi (fun k => w.heap.size ≤ k) w' ds vs ∧ Below w.heap.size w w'
theorem below_move {B : Nat} {w x y : World} {q c r K : Nat} {L : List TokV} {st : St} (h : Below B w x) (m : Ye x y q c r K L st) (hq : B ≤ q) (hc : B ≤ c) (hx : B ≤ x.heap.size) : Below B w y :=
 h.trans (m.keeps.below hx fun k hk => by omega)
theorem below_put {B : Nat} {w x y : World} {g : Nat} {t : TypeId} {vs : List Value} (h : Below B w x) (p : Put x y g t vs) (hg : B ≤ g) (hx : B ≤ x.heap.size) : Below B w y :=
 h.trans (p.keeps.below hx fun k hk => by omega)
theorem two_vals : ∀ (vs : List Value), vs.length = 2 → ∃ a b, vs = [a, b]
 | [a, b], _ => ⟨a, b, rfl⟩
theorem bthen2 {B : Nat} {w x y : World} (h : Below B w x) (k : Below x.heap.size x y) (hB : B ≤ x.heap.size) : Below B w y := h.trans (k.mono hB)
set_option maxRecDepth 20000 in
set_option maxHeartbeats 3200000 in
theorem xParse (s : ByteArray) (w : World) (hs : s.size ≤ 65536) : Calls Tryz.prog 31 #[.string s] w (TopPost w (parseF 5 s).1.ds (parseF 5 s).2) := by
 have hr := text_rem s
 have hl := text_len s hs
 have hbe : ∀ w, Calls Tryz.prog 84 #[.string s] w (BeginPost w s) := fun w => xbegin s w hs
 have hsub : ∀ w q c r K, PAt w q c r K (textL s) (textS s) → Calls Tryz.prog 86 #[.pointer (some ⟨q, 0, none⟩)] w (Zx w q c r K (textL s) (fileO 5 s).2 (fileO 5 s).1.ds) := fun w q c r K h => by
   have hN : textN s = 8 * (textL s).length + 20 := rfl
   exact xfile (textN s) w q c r K _ _ h (by omega) (by omega)
 unfold BeginPost at hbe
 unfold parseF
 generalize fileO 5 s = o at *
 generalize textL s = L at *
 generalize textS s = st at *
 clear hr hl hs
 have n1 := Za w (.cells #[.slice none 0 0, .slice none 0 0] 26)
 have n2 := Za (w.alloc (.cells #[.slice none 0 0, .slice none 0 0] 26)) (.cells #[.int .i64 0, .int .i64 0, .int .i64 0] 29)
 have R0 := Hh ((show Zb _ w.heap.size 26 ([.slice none 0 0, .slice none 0 0]).toArray from Zb.made w 26 #[.slice none 0 0, .slice none 0 0]).alloc (.cells #[.int .i64 0, .int .i64 0, .int .i64 0] 29))
 have F0 := Hh (show Zb ((w.alloc (.cells #[.slice none 0 0, .slice none 0 0] 26)).alloc (.cells #[.int .i64 0, .int .i64 0, .int .i64 0] 29)) (w.heap.size + 1) 29 ([.int .i64 0, .int .i64 0, .int .i64 0] : List Value).toArray from by have e := Zb.made (w.alloc (.cells #[.slice none 0 0, .slice none 0 0] 26)) 29 #[.int .i64 0, .int .i64 0, .int .i64 0]; rw [World.size_alloc] at e; exact e)
 have B0 := Hh (Xi n1 n2)
 have hz0 : ((w.alloc (.cells #[.slice none 0 0, .slice none 0 0] 26)).alloc (.cells #[.int .i64 0, .int .i64 0, .int .i64 0] 29)).heap.size = w.heap.size + 2 := by simp
 cases hg : (overS L o.2).good
 · rw [if_neg (by decide)]
   go_enter Tryz.func31, Tryz.ntmps31
   go_wp2_with (first
 | (go_at_call 84; refine (hbe _).mono ?_; rintro e w1 ⟨q, c, r, K, rfl, hp, hq, hc, b1⟩
    rw [hz0] at hq hc
    have hz1 : w.heap.size + 2 ≤ w1.heap.size := by have := b1.size; rw [hz0] at this; exact this
    have R1 := Hh (R0.out.below b1 R0.out.inside)
    have F1 := Hh (F0.out.below b1 F0.out.inside)
    have B1 := Hh (bthen2 B0.out b1 (by rw [hz0]; omega))
    have hq2 := hp.whole.inside
    have hc2 := hp.cin
    have P1 := Hh hp
    clear hp b1)
 | (go_at_call 86; refine (hsub _ q c r K P1.out).mono ?_; rintro e w2 ⟨vs, rfl, d2, m2⟩
    obtain ⟨va, vb, rfl⟩ := two_vals vs d2.len
    have R2 := Hh (m2.keeps.whole R1.out (by omega))
    have F2 := Hh (m2.keeps.whole F1.out (by omega))
    have B2 := Hh (below_move B1.out m2 (by omega) (by omega) (by omega))
    have P2 := Hh m2.at_
    have hz2 : w1.heap.size ≤ w2.heap.size := m2.keeps.size
    have D2 := Hh d2
    clear m2 d2)
 | (go_at_call 85; refine (xfinF _ q c r K L o.2 va vb D2.out.one P2.out).mono ?_; rintro e w3 ⟨e3, m3⟩
    rw [hg] at e3
    rw [if_neg (by decide)] at e3
    obtain rfl := e3
    have R3 := Hh (m3.keeps.whole R2.out (by omega))
    have F3 := Hh (m3.keeps.whole F2.out (by omega))
    have B3 := Hh (below_move B2.out m3 (by omega) (by omega) (by omega))
    have hz3 : w2.heap.size ≤ w3.heap.size := m3.keeps.size
    have D3 := Hh (D2.out.move m3 hq2 hc2)
    simp only [Zq]
    clear m3)
 | ((with_reducible refine Zl 2 11 ?_); refine wpList_storeW 26 _ _ 26 w.heap.size _ [.slice none 0 0, .slice none 0 0] R3.out rfl size_fi (by simp [Value.oneCell']) rfl rfl rfl rfl rfl ?_
    intro w4 p4
    have R4 := Hh p4.whole
    have F4 := Hh (p4.keeps.whole F3.out (by omega))
    have B4 := Hh (below_put B3.out p4 (Nat.le_refl _) (by omega))
    have D4 := Hh (D3.out.put p4 (by omega))
    have hz4 : w3.heap.size ≤ w4.heap.size := p4.keeps.size
    clear p4)
 | ((with_reducible refine Zl 3 12 ?_); refine wpList_storeW 29 _ _ 29 (w.heap.size + 1) _ [.int .i64 (fltS (overS L o.2)).1, .int .i64 ((fltS (overS L o.2)).2.1 : Int), .int .i64 ((fltS (overS L o.2)).2.2 : Int)] F4.out rfl size_fa (by simp [Value.oneCell']) rfl rfl rfl rfl rfl ?_
    intro w5 p5
    have F5 := Hh p5.whole
    have R5 := Hh (p5.keeps.whole R4.out (by omega))
    have B5 := Hh (below_put B4.out p5 (by omega) (by omega))
    have D5 := Hh (D4.out.put p5 (by omega))
    clear p5))
   exact end_cell2 2 26 3 29 26 29 _ _ _ _ rfl R5.out F5.out row_fi size_fi row_fa size_fa rfl rfl rfl ⟨_, rfl, (show Zi _ _ (Fi.mk [] []).ds _ from ⟨none, 0, [], _, rfl, Nat.zero_le _, .inl rfl, rfl, none, 0, [], _, rfl, Nat.zero_le _, .inl rfl, rfl, rfl⟩), B5.out⟩
 · rw [if_pos rfl]
   go_enter Tryz.func31, Tryz.ntmps31
   go_wp2_with (first
 | (go_at_call 84; refine (hbe _).mono ?_; rintro e w1 ⟨q, c, r, K, rfl, hp, hq, hc, b1⟩
    rw [hz0] at hq hc
    have hz1 : w.heap.size + 2 ≤ w1.heap.size := by have := b1.size; rw [hz0] at this; exact this
    have R1 := Hh (R0.out.below b1 R0.out.inside)
    have F1 := Hh (F0.out.below b1 F0.out.inside)
    have B1 := Hh (bthen2 B0.out b1 (by rw [hz0]; omega))
    have hq2 := hp.whole.inside
    have hc2 := hp.cin
    have P1 := Hh hp
    clear hp b1)
 | (go_at_call 86; refine (hsub _ q c r K P1.out).mono ?_; rintro e w2 ⟨vs, rfl, d2, m2⟩
    obtain ⟨va, vb, rfl⟩ := two_vals vs d2.len
    have R2 := Hh (m2.keeps.whole R1.out (by omega))
    have F2 := Hh (m2.keeps.whole F1.out (by omega))
    have B2 := Hh (below_move B1.out m2 (by omega) (by omega) (by omega))
    have P2 := Hh m2.at_
    have hz2 : w1.heap.size ≤ w2.heap.size := m2.keeps.size
    have D2 := Hh d2
    clear m2 d2)
 | (go_at_call 85; refine (xfinF _ q c r K L o.2 va vb D2.out.one P2.out).mono ?_; rintro e w3 ⟨e3, m3⟩
    rw [hg] at e3
    rw [if_pos rfl] at e3
    obtain rfl := e3
    have R3 := Hh (m3.keeps.whole R2.out (by omega))
    have F3 := Hh (m3.keeps.whole F2.out (by omega))
    have B3 := Hh (below_move B2.out m3 (by omega) (by omega) (by omega))
    have hz3 : w2.heap.size ≤ w3.heap.size := m3.keeps.size
    have D3 := Hh (D2.out.move m3 hq2 hc2)
    simp only [Zq]
    clear m3)
 | ((with_reducible refine Zl 2 11 ?_); refine wpList_storeW 26 _ _ 26 w.heap.size _ [va, vb] R3.out rfl size_fi D2.out.one rfl rfl rfl rfl rfl ?_
    intro w4 p4
    have R4 := Hh p4.whole
    have F4 := Hh (p4.keeps.whole F3.out (by omega))
    have B4 := Hh (below_put B3.out p4 (Nat.le_refl _) (by omega))
    have D4 := Hh (D3.out.put p4 (by omega))
    have hz4 : w3.heap.size ≤ w4.heap.size := p4.keeps.size
    clear p4)
 | ((with_reducible refine Zl 3 12 ?_); refine wpList_storeW 29 _ _ 29 (w.heap.size + 1) _ [.int .i64 (fltS (overS L o.2)).1, .int .i64 ((fltS (overS L o.2)).2.1 : Int), .int .i64 ((fltS (overS L o.2)).2.2 : Int)] F4.out rfl size_fa (by simp [Value.oneCell']) rfl rfl rfl rfl rfl ?_
    intro w5 p5
    have F5 := Hh p5.whole
    have R5 := Hh (p5.keeps.whole R4.out (by omega))
    have B5 := Hh (below_put B4.out p5 (by omega) (by omega))
    have D5 := Hh (D4.out.put p5 (by omega))
    clear p5))
   exact end_cell2 2 26 3 29 26 29 _ _ _ _ rfl R5.out F5.out row_fi size_fi row_fa size_fa rfl rfl rfl ⟨_, rfl, (D5.out.lower (by omega)), B5.out⟩
def RowOr (w : World) (r K : Nat) (L : List TokV) : Prop := 0 < L.length → RowAt w r K L
theorem RowOr.below {w w' : World} {r K : Nat} {L : List TokV} (h : RowOr w r K L) (hb : Below w.heap.size w w') : RowOr w' r K L := fun hl => (h hl).below hb
theorem RowOr.put {x y : World} {r K : Nat} {L : List TokV} (h : RowOr x r K L) {g B : Nat} {t : TypeId} {vs : List Value} (p : Put x y g t vs) (hr : 0 < L.length → r < B) (hg : B ≤ g) : RowOr y r K L := fun hl => (h hl).keeps p.keeps (by have := hr hl; omega)
theorem RowOr.rin {w : World} {r K : Nat} {L : List TokV} (h : RowOr w r K L) : 0 < L.length → r < w.heap.size := fun hl => (h hl).rin
structure RPv (r K : Nat) (L : List TokV) (st : St) (vs : List Value) : Prop where
 form : ∃ A n k a d, vs = [.slice A n k, .int .i64 (a : Nat), .int .i64 (d : Nat), .int .i64 (fltS st).1, .int .i64 ((fltS st).2.1 : Int), .int .i64 ((fltS st).2.2 : Int)] ∧ d ≤ 8 ∧
   ∀ a' d', st = .ok a' d' → A = some ⟨r, 0, none⟩ ∧ n = L.length ∧ k = K ∧ a = a' ∧ d = d' ∧ a' < L.length
 flt : ∀ F, st = .bad F → F.1 ≠ 0
theorem RPv.ok {r K : Nat} {L : List TokV} {a d : Nat} {vs : List Value} (h : RPv r K L (.ok a d) vs) : ∃ n, n = L.length ∧ vs = [.slice (some ⟨r, 0, none⟩) n K, .int .i64 (a : Int), .int .i64 (d : Int), .int .i64 0, .int .i64 0, .int .i64 0] ∧ a < L.length ∧ d ≤ 8 := by
 obtain ⟨A, n, k, a', d', e, hd, hk⟩ := h.form
 obtain ⟨h1, h2, h3, h4, h5, h6⟩ := hk a d rfl
 subst h1 h3 h4 h5
 exact ⟨n, h2, e, h6, hd⟩
theorem RPv.bad {r K : Nat} {L : List TokV} {F : Int × Nat × Nat} {vs : List Value} (h : RPv r K L (.bad F) vs) : ∃ A n k a d, vs = [.slice A n k, .int .i64 (a : Nat), .int .i64 (d : Nat), .int .i64 F.1, .int .i64 (F.2.1 : Int), .int .i64 (F.2.2 : Int)] ∧ d ≤ 8 ∧ F.1 ≠ 0 := by
 obtain ⟨A, n, k, a', d', e, hd, _⟩ := h.form
 exact ⟨A, n, k, a', d', e, hd, h.flt F rfl⟩
theorem RPv.len {r K : Nat} {L : List TokV} {st : St} {vs : List Value} (h : RPv r K L st vs) : vs.length = 6 := by
 obtain ⟨A, n, k, a, d, e, _⟩ := h.form
 rw [e]; rfl
theorem RPv.one {r K : Nat} {L : List TokV} {st : St} {vs : List Value} (h : RPv r K L st vs) : ∀ v ∈ vs, v.oneCell' = true := by
 obtain ⟨A, n, k, a, d, e, _⟩ := h.form
 rw [e]; simp [Value.oneCell']
end Go.Proofs.YtabegjepejgllaaGreat
