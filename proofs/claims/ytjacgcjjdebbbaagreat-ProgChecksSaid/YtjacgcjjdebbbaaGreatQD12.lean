/-
  Texts SynB5, SynB6, SynR1, SynR2, SynR3, PrgStk, PrgRef4, Push, DigPut. No conditions but those that each theorem names.
-/
import Derived.RegionTactic
import Derived.Deep.QuietTactic
import Derived.BigQuiet
import Derived.IntWalk
import Derived.Great.Ranges
import Derived.Great.Walk
import Derived.Laws.Tables
import Derived.Test.YtjacgcjjdebbbaaGreatQD11
namespace Go.Proofs.YtjacgcjjdebbbaaGreat
open Go.ChangeShapes Go.WideShapes Go.ChangeAt Go.RowKit
set_option linter.unusedVariables false
set_option linter.unusedSimpArgs false
theorem text_cases (s : ByteArray) (h64 : s.size ≤ 65536) : (∃ E l c, scanV s = ([], E, l, c) ∧ E ≠ 0) ∨ (∃ L, scanV s = (L, 0, 0, 0) ∧ Ends L ∧ L.length ≤ s.size + 1) := by
 obtain ⟨L, E, p, hs⟩ : ∃ L E p, Wk s 0 [] = (L, E, p) := ⟨_, _, _, rfl⟩
 have hf := scan_tr s s.size 0 [] L E p (by omega) (by omega) (Bd.zero s) hs
 rw [scanV_of s h64 hs]
 by_cases hE : E = 0
 · obtain ⟨L2, h2, h3⟩ := hf.1 hE
   have e : L = L2 := h2
   subst e
   exact .inr ⟨L, by rw [if_pos hE], h3.sh.ends, by have := h3.len; omega⟩
 · exact .inl ⟨E, _, _, by rw [if_neg hE], hE⟩
def textL (s : ByteArray) : List TokV := (scanV s).1
def textS (s : ByteArray) : St := if (scanV s).2.1 = 0 then .ok 0 0 else .bad (scanV s).2
def textN (s : ByteArray) : Nat := 8 * (textL s).length + 20
def BeginPost (w : World) (s : ByteArray) (e : Ending) (w' : World) : Prop :=
 ∃ q c r K, e = .returned (.pointer (some ⟨q, 0, none⟩)) ∧ PAt w' q c r K (textL s) (textS s) ∧ w.heap.size ≤ q ∧ w.heap.size ≤ c ∧ Below w.heap.size w w'
theorem xbegin (s : ByteArray) (w : World) (hs : s.size ≤ 65536) : Calls Tryz.prog 22 #[.string s] w (BeginPost w s) := by
 have hs2 : s.size ≤ 140737488355328 := by omega
 rcases text_cases s hs with ⟨E, l, c, hv, hE⟩ | ⟨L, hv, hL, _⟩
 · have hn := cNew_err s w hs2 E l c hv hE
   have HE := Hh (And.intro hE hv)
   clear hs hs2 hv hE
   unfold Zi at hn
   go_enter Tryz.func22, Tryz.ntmps22
   go_wp2_with (go_at_call 40; refine hn.mono ?_; rintro e w1 ⟨rfl, b1⟩; have B1 := Hh b1; clear b1)
   go_ret
   have e1 : textS s = .bad (E, l, c) := by unfold textS; rw [HE.out.2]; exact if_neg HE.out.1
   have W1 := Zb.made (w1.alloc (.cells #[.int .i64 E, .int .i64 (l : Int), .int .i64 (c : Int)] 41)) 101 #[.pointer none, .int .i64 E, .int .i64 (l : Int), .int .i64 (c : Int)]
   rw [World.size_alloc] at W1
   have hb := B1.out.size
   refine ⟨w1.heap.size + 1, w1.heap.size + 1, w1.heap.size + 1, 0, rfl, ?_, by omega, by omega, (B1.out.alloc hb _).alloc (by simp; omega) _⟩
   rw [e1]
   exact ⟨W1, fun a d e => (by cases e), fun F e => (by cases e; exact HE.out.1), by simp, by simp⟩
 · have hn := cNew_ok s w hs2 L hv hL
   have HE := Hh hv
   clear hs hs2 hv hL
   go_enter Tryz.func22, Tryz.ntmps22
   go_wp2_with (go_at_call 40; refine hn.mono ?_; rintro e w1 ⟨p, r, K, rfl, hc, hp, hr, b1⟩; have B1 := Hh (And.intro hc (And.intro hp (And.intro hr b1))); clear b1 hc hp hr; simp only [Zi, okF])
   go_ret
   obtain ⟨hc, hp, hr, b1⟩ := B1.out
   have e1 : textS s = .ok 0 0 := by unfold textS; rw [HE.out]; exact if_pos rfl
   have e2 : textL s = L := by unfold textL; rw [HE.out]
   have nb := Zd w1 (.cells #[.int .i64 0, .int .i64 0, .int .i64 0] 41)
   have nb2 := Zd (w1.alloc (.cells #[.int .i64 0, .int .i64 0, .int .i64 0] 41)) (.cells #[.pointer (some ⟨p, 0, none⟩), .int .i64 0, .int .i64 0, .int .i64 0] 101)
   have W1 := Zb.made (w1.alloc (.cells #[.int .i64 0, .int .i64 0, .int .i64 0] 41)) 101 #[.pointer (some ⟨p, 0, none⟩), .int .i64 0, .int .i64 0, .int .i64 0]
   rw [World.size_alloc] at W1
   have hb := b1.size
   have hi := hc.whole.inside
   have hri := hc.rin
   refine ⟨w1.heap.size + 1, p, r, K, rfl, ?_, by omega, by omega, (b1.alloc hb _).alloc (by simp; omega) _⟩
   rw [e1, e2]
   exact ⟨W1, fun a d e => (by cases e; exact ⟨by omega, by omega, (hc.below nb).below nb2⟩), fun F e => (by cases e), by simp; omega, by simp; omega⟩
theorem over_end (L : List TokV) (st : St) (h : (st.tok L).k = 0) : overS L st = st := by
 cases st with
 | ok a d => exact if_pos h
 | bad F => rfl
theorem over_not (L : List TokV) (st : St) (h : ¬ (st.tok L).k = 0) : overS L st = wrongS L st ∧ ∃ F, overS L st = .bad F ∧ F.1 ≠ 0 := by
 cases st with
 | ok a d => exact ⟨if_neg h, _, if_neg h, wrF_ne _⟩
 | bad F => exact absurd rfl h
theorem row_fa : (Tryz.prog.underlying 41).map TypeDesc.isRow = some true := by kernel_rfl
theorem size_fa : (Tryz.prog.info? 41).map (·.size) = some 3 := by kernel_rfl
theorem Vw {P : Program} {fn : Func} {R : Ending → World → Prop} {a : Act} {w : World} (s1 s2 T2 : Nat) (t2 : TypeId) (g2 : Nat) (v : Value) (us : List Value) (hres : fn.results = #[.tmp s1, .cell s2 T2]) (h2 : Zb w g2 t2 us.toArray)
   (hu2 : (P.underlying T2).map TypeDesc.isRow = some true) (hi2 : (P.info? T2).map (·.size) = some us.length)
   (hp1 : a.tmps.getD s1 undef = v) (hp2 : a.tmps.getD s2 undef = .pointer (some ⟨g2, 0, none⟩)) (hd : a.defers = []) (hR : R (.returned (.tuple #[v, .agg us.toArray])) w) : bodyPost P fn R .ret a w := by
 obtain ⟨d2, hu2, hr2⟩ := Option.map_eq_some_iff.1 hu2
 refine bodyPost_ret (v := .tuple #[v, .agg us.toArray]) ?_ hd hR
 have hl2 := run_loadVar_mid (P := P) w g2 0 T2 us d2 (by have := Zb.range (a := []) (b := us) (c := []) (by simpa using h2); exact this) hu2 hr2 hi2
 have hp1' : a.tmps[s1]?.getD undef = v := by simpa using hp1
 have hp2' : a.tmps[s2]?.getD undef = .pointer (some ⟨g2, 0, none⟩) := by simpa using hp2
 simp [results, hres, hp1', hp2', hl2, asAddr, Sem.run_bind, Sem.run_pure]
theorem put3 {w : World} {g : Nat} {t : TypeId} {a b c : Value} (h : Zb w g t [a, b, c].toArray) (x y z : Value) : Put w (((w.setCell ⟨g, 0, none⟩ x).setCell ⟨g, 1, none⟩ y).setCell ⟨g, 2, none⟩ z) g t [x, y, z] := Zb.set3L (l := []) h x y z
set_option maxRecDepth 20000 in
set_option maxHeartbeats 6400000 in
theorem xfinA (w : World) (q c r K : Nat) (L : List TokV) (st : St) (va : Value) (h : PAt w q c r K L st) :
   Calls Tryz.prog 33 #[.pointer (some ⟨q, 0, none⟩), va] w (Zz w q c r K L (overS L st) (.tuple #[if (overS L st).good = true then va else .slice none 0 0, Zi (fltS (overS L st))])) := by
 have qin := h.whole.inside
 have cin := h.cin
 have rin := h.rin
 have n1 := Zd w (.cells #[.int .i64 0, .int .i64 0, .int .i64 0] 41)
 have M0 := Hh ((Zy.start h).next n1)
 have F0 := Hh (show Zb (w.alloc (.cells #[.int .i64 0, .int .i64 0, .int .i64 0] 41)) (w.heap.size) 41 ([.int .i64 0, .int .i64 0, .int .i64 0] : List Value).toArray from Zb.made w 41 #[.int .i64 0, .int .i64 0, .int .i64 0])
 clear n1
 have hcell := M0.out.at_.cell
 have hend := over_end L st
 have hnot := over_not L st
 have hwr : ∀ w, PAt w q c r K L st → Calls Tryz.prog 43 #[Xl c st] w fun e w' => e = .returned (Zi (wrongV L st)) ∧ Below w.heap.size w w' := fun w h => xWrong w q c r K L st h
 have hwn := wrong_note L st
 have hpk : ∀ w, PAt w q c r K L st → Calls Tryz.prog 41 #[Xl c st] w fun e w' => e = .returned (Wf (st.tok L)) ∧ Below w.heap.size w w' := fun w h => xPeek w q c r K L st h
 have hflt := h.flt
 generalize st.tok L = tv at *
 unfold Wf at hpk
 have hfd := fun w => tok_field tv.k tv.n (tv.line : Int) (tv.col : Int) tv.t w
 clear h
 by_cases hk : tv.k = 0
 · rw [hend hk]
   have k0 : (tv.k != 0) = false := by rw [hk]; rfl
   clear hend hnot hwn hwr hk
   cases st with
   | ok a d =>
     show Calls _ _ _ _ (Zz w q c r K L (.ok a d) (.tuple #[va, Zi okF]))
     clear hflt
     go_enter Tryz.func33, Tryz.ntmps33
     go_wp2_with (first
 | (go_at_call 41; refine (hpk _ M0.out.at_).mono ?_; rintro e w1 ⟨rfl, b1⟩
    have F1 := Hh (F0.out.below b1 F0.out.inside)
    have M1 := Hh (M0.out.next b1)
    have hcell := M1.out.at_.cell
    have q1 : w1.cell? ⟨q, 1, none⟩ = some (.int .i64 0) := M1.out.at_.whole.read 1
    clear b1)
 | ((with_reducible refine Zr 5 33 ?_); refine Ze 41 _ _ 41 w.heap.size _ [.int .i64 0, .int .i64 0, .int .i64 0] F1.out rfl size_fa (by simp [Value.oneCell']) rfl rfl rfl rfl rfl ?_
    intro w3 p3
    have F3 := Hh p3.whole
    have M3 := Hh (M1.out.put p3 (by omega) qin cin rin); clear p3))
     exact Vw 4 5 41 41 _ _ _ rfl F3.out row_fa size_fa rfl rfl rfl ⟨rfl, M3.out⟩
   | bad F =>
     show Calls _ _ _ _ (Zz w q c r K L (.bad F) (.tuple #[.slice none 0 0, Zi F]))
     obtain ⟨f0, f1, f2⟩ := F
     have hf0 := hflt _ rfl
     have z0 : (f0 != 0) = true := by rw [bne_iff_ne]; exact hf0
     clear hflt hf0
     go_enter Tryz.func33, Tryz.ntmps33
     go_wp2_with (first
 | (go_at_call 41; refine (hpk _ M0.out.at_).mono ?_; rintro e w1 ⟨rfl, b1⟩
    have F1 := Hh (F0.out.below b1 F0.out.inside)
    have M1 := Hh (M0.out.next b1)
    have hcell := M1.out.at_.cell
    have q1 : w1.cell? ⟨q, 1, none⟩ = some (.int .i64 f0) := M1.out.at_.whole.read 1
    have q2 : w1.cell? ⟨q, 2, none⟩ = some (.int .i64 (f1 : Int)) := M1.out.at_.whole.read 2
    have q3 : w1.cell? ⟨q, 3, none⟩ = some (.int .i64 (f2 : Int)) := M1.out.at_.whole.read 3
    have q0 : w1.cell? ⟨q, 1, none⟩ = some (.int .i64 f0) := M1.out.at_.whole.read 1
    have hn4 : ¬ (w.heap.size = q) := by omega
    have t0 : w1.cell? ⟨w.heap.size, 0, none⟩ = some (.int .i64 0) := F1.out.read 0
    have u0 : w1.frozen? ⟨w.heap.size, 0, none⟩ = false := F1.out.thawed 0
    have t1 : w1.cell? ⟨w.heap.size, 1, none⟩ = some (.int .i64 0) := F1.out.read 1
    have u1 : w1.frozen? ⟨w.heap.size, 1, none⟩ = false := F1.out.thawed 1
    have t2 : w1.cell? ⟨w.heap.size, 2, none⟩ = some (.int .i64 0) := F1.out.read 2
    have u2 : w1.frozen? ⟨w.heap.size, 2, none⟩ = false := F1.out.thawed 2
    clear b1))
     go_region
     go_wp2
     have p2 := put3 F1.out (.int .i64 f0) (.int .i64 (f1 : Int)) (.int .i64 (f2 : Int))
     have M9 := ((M1.out.put p2 (by omega) qin cin rin).drew)
     exact Vw 4 5 41 41 _ _ _ rfl p2.whole.drew row_fa size_fa rfl rfl rfl ⟨rfl, M9⟩
 · obtain ⟨e1, F, e2, hf0⟩ := hnot hk
   have k0 : (tv.k != 0) = true := by rw [bne_iff_ne]; exact hk
   have hnt : ∀ w, PAt w q c r K L st → Calls Tryz.prog 42 #[.pointer (some ⟨q, 0, none⟩), Zi (wrongV L st)] w (Zz w q c r K L (.bad F) (.tuple #[])) := fun w h => by have h1 := xNote w q c r K L st (wrongV L st) h; rw [hwn, ← e1, e2] at h1; exact h1
   rw [e2]
   show Calls _ _ _ _ (Zz w q c r K L (.bad F) (.tuple #[.slice none 0 0, Zi F]))
   generalize wrongV L st = wv at *
   obtain ⟨f0, f1, f2⟩ := F
   have z0 : (f0 != 0) = true := by rw [bne_iff_ne]; exact hf0
   clear hend hnot hwn hk e1 e2 hf0 hflt
   go_enter Tryz.func33, Tryz.ntmps33
   go_wp2_with (first
 | (go_at_call 41; refine (hpk _ M0.out.at_).mono ?_; rintro e w1 ⟨rfl, b1⟩
    have F1 := Hh (F0.out.below b1 F0.out.inside)
    have M1 := Hh (M0.out.next b1)
    have hcell := M1.out.at_.cell
    clear b1)
 | (go_at_call 43; refine (hwr _ M1.out.at_).mono ?_; rintro e w2 ⟨rfl, b2⟩
    have F2 := Hh (F1.out.below b2 F1.out.inside)
    have M2 := Hh (M1.out.next b2); clear b2)
 | (go_at_call 42; refine (hnt _ M2.out.at_).mono ?_; rintro e w3 ⟨rfl, m3⟩
    have F3 := Hh (m3.keeps.whole F2.out (by omega))
    have M3 := Hh (M2.out.then m3)
    have q1 : w3.cell? ⟨q, 1, none⟩ = some (.int .i64 f0) := M3.out.at_.whole.read 1
    have q2 : w3.cell? ⟨q, 2, none⟩ = some (.int .i64 (f1 : Int)) := M3.out.at_.whole.read 2
    have q3 : w3.cell? ⟨q, 3, none⟩ = some (.int .i64 (f2 : Int)) := M3.out.at_.whole.read 3
    have q0 : w3.cell? ⟨q, 1, none⟩ = some (.int .i64 f0) := M3.out.at_.whole.read 1
    have hn4 : ¬ (w.heap.size = q) := by omega
    have t0 : w3.cell? ⟨w.heap.size, 0, none⟩ = some (.int .i64 0) := F3.out.read 0
    have u0 : w3.frozen? ⟨w.heap.size, 0, none⟩ = false := F3.out.thawed 0
    have t1 : w3.cell? ⟨w.heap.size, 1, none⟩ = some (.int .i64 0) := F3.out.read 1
    have u1 : w3.frozen? ⟨w.heap.size, 1, none⟩ = false := F3.out.thawed 1
    have t2 : w3.cell? ⟨w.heap.size, 2, none⟩ = some (.int .i64 0) := F3.out.read 2
    have u2 : w3.frozen? ⟨w.heap.size, 2, none⟩ = false := F3.out.thawed 2
    clear m3))
   go_region
   go_wp2
   have p2 := put3 F3.out (.int .i64 f0) (.int .i64 (f1 : Int)) (.int .i64 (f2 : Int))
   have M9 := ((M3.out.put p2 (by omega) qin cin rin).drew)
   exact Vw 4 5 41 41 _ _ _ rfl p2.whole.drew row_fa size_fa rfl rfl rfl ⟨rfl, M9⟩
def actsO (nk : Int) (s : ByteArray) : Acs × St := We nk (textL s) (textN s) (textS s)
def actsP (nk : Int) (s : ByteArray) : Acs × (Int × Nat × Nat) := (if (overS (textL s) (actsO nk s).2).good = true then (actsO nk s).1 else .nil, fltS (overS (textL s) (actsO nk s).2))
theorem text_rem (s : ByteArray) : Zv (textL s) (textS s) ≤ (textL s).length := by
 unfold textS
 split
 · exact Nat.sub_le _ _
 · exact Nat.zero_le _
theorem text_len (s : ByteArray) (h : s.size ≤ 65536) : (textL s).length ≤ 65537 := by
 unfold textL
 rcases text_cases s h with ⟨E, l, c, hv, _⟩ | ⟨L, hv, _, hl⟩
 · rw [hv]; exact Nat.zero_le _
 · rw [hv]; show L.length ≤ 65537; omega
def TopRow (w : World) (n : Nat) (ds : Ds) (F : Int × Nat × Nat) (e : Ending) (w' : World) : Prop :=
 ∃ v : Value, e = .returned (.tuple #[v, Zi F]) ∧ Deep (fun k => w.heap.size ≤ k) w' (.row n ds .nil) [v] ∧ Below w.heap.size w w'
theorem below_move {B : Nat} {w x y : World} {q c r K : Nat} {L : List TokV} {st : St} (h : Below B w x) (m : Zy x y q c r K L st) (hq : B ≤ q) (hc : B ≤ c) (hx : B ≤ x.heap.size) : Below B w y :=
 h.trans (m.keeps.below hx fun k hk => by omega)
theorem below_put {B : Nat} {w x y : World} {g : Nat} {t : TypeId} {vs : List Value} (h : Below B w x) (p : Put x y g t vs) (hg : B ≤ g) (hx : B ≤ x.heap.size) : Below B w y :=
 h.trans (p.keeps.below hx fun k hk => by omega)
theorem bthen2 {B : Nat} {w x y : World} (h : Below B w x) (k : Below x.heap.size x y) (hB : B ≤ x.heap.size) : Below B w y := h.trans (k.mono hB)
set_option maxRecDepth 20000 in
set_option maxHeartbeats 3200000 in
theorem xActs (s : ByteArray) (w : World) (hs : s.size ≤ 65536) : Calls Tryz.prog 16 #[.string s] w (TopRow w (actsP 5 s).1.len (actsP 5 s).1.ds (actsP 5 s).2) := by
 have hr := text_rem s
 have hl := text_len s hs
 have hbe : ∀ w, Calls Tryz.prog 22 #[.string s] w (BeginPost w s) := fun w => xbegin s w hs
 have hsub : ∀ w q c r K, PAt w q c r K (textL s) (textS s) → Calls Tryz.prog 34 #[.pointer (some ⟨q, 0, none⟩)] w (RowPost w q c r K (textL s) (actsO 5 s).2 (actsO 5 s).1.len (actsO 5 s).1.ds) := fun w q c r K h => by
   have hN : textN s = 8 * (textL s).length + 20 := rfl
   exact xactss w q c r K _ _ (textN s) h (by omega) (by omega)
 unfold BeginPost at hbe
 unfold actsP
 generalize actsO 5 s = o at *
 generalize textL s = L at *
 generalize textS s = st at *
 clear hr hl hs
 have n1 := Zd w (.cells #[.int .i64 0, .int .i64 0, .int .i64 0] 41)
 have F0 := Hh (show Zb (w.alloc (.cells #[.int .i64 0, .int .i64 0, .int .i64 0] 41)) w.heap.size 41 ([.int .i64 0, .int .i64 0, .int .i64 0] : List Value).toArray from Zb.made w 41 #[.int .i64 0, .int .i64 0, .int .i64 0])
 have B0 := Hh n1
 have hz0 : (w.alloc (.cells #[.int .i64 0, .int .i64 0, .int .i64 0] 41)).heap.size = w.heap.size + 1 := by simp
 cases hg : (overS L o.2).good
 · rw [if_neg (by decide)]
   go_enter Tryz.func16, Tryz.ntmps16
   go_wp2_with (first
 | (go_at_call 22; refine (hbe _).mono ?_; rintro e w1 ⟨q, c, r, K, rfl, hp, hq, hc, b1⟩
    rw [hz0] at hq hc
    have hz1 : w.heap.size + 1 ≤ w1.heap.size := by have := b1.size; rw [hz0] at this; exact this
    have F1 := Hh (F0.out.below b1 F0.out.inside)
    have B1 := Hh (bthen2 B0.out b1 (by rw [hz0]; omega))
    have hq2 := hp.whole.inside
    have hc2 := hp.cin
    have P1 := Hh hp
    clear hp b1)
 | (go_at_call 34; refine (hsub _ q c r K P1.out).mono ?_; rintro e w2 ⟨v, rfl, d2, m2⟩
    obtain ⟨va1, va2, rfl⟩ := d2.slice
    have F2 := Hh (m2.keeps.whole F1.out (by omega))
    have B2 := Hh (below_move B1.out m2 (by omega) (by omega) (by omega))
    have P2 := Hh m2.at_
    have hz2 : w1.heap.size ≤ w2.heap.size := m2.keeps.size
    have D2 := Hh d2
    clear m2 d2)
 | (go_at_call 33; refine (xfinA _ q c r K L o.2 _ P2.out).mono ?_; rintro e w3 ⟨e3, m3⟩
    rw [hg] at e3
    rw [if_neg (by decide)] at e3
    obtain rfl := e3
    have F3 := Hh (m3.keeps.whole F2.out (by omega))
    have B3 := Hh (below_move B2.out m3 (by omega) (by omega) (by omega))
    have hz3 : w2.heap.size ≤ w3.heap.size := m3.keeps.size
    have D3 := Hh (D2.out.move m3 hq2 hc2)
    simp only [Zi]
    clear m3)
 | ((with_reducible refine Zr 3 12 ?_); refine Ze 41 _ _ 41 (w.heap.size) _ [.int .i64 (fltS (overS L o.2)).1, .int .i64 ((fltS (overS L o.2)).2.1 : Int), .int .i64 ((fltS (overS L o.2)).2.2 : Int)] F3.out rfl size_fa (by simp [Value.oneCell']) rfl rfl rfl rfl rfl ?_
    intro w5 p5
    have F5 := Hh p5.whole
    have B5 := Hh (below_put B3.out p5 (by omega) (by omega))
    have D5 := Hh (D3.out.put p5 (by omega))
    clear p5))
   exact Vw 2 3 41 41 _ _ _ rfl F5.out row_fa size_fa rfl rfl rfl ⟨_, rfl, (Zc _ _), B5.out⟩
 · rw [if_pos rfl]
   go_enter Tryz.func16, Tryz.ntmps16
   go_wp2_with (first
 | (go_at_call 22; refine (hbe _).mono ?_; rintro e w1 ⟨q, c, r, K, rfl, hp, hq, hc, b1⟩
    rw [hz0] at hq hc
    have hz1 : w.heap.size + 1 ≤ w1.heap.size := by have := b1.size; rw [hz0] at this; exact this
    have F1 := Hh (F0.out.below b1 F0.out.inside)
    have B1 := Hh (bthen2 B0.out b1 (by rw [hz0]; omega))
    have hq2 := hp.whole.inside
    have hc2 := hp.cin
    have P1 := Hh hp
    clear hp b1)
 | (go_at_call 34; refine (hsub _ q c r K P1.out).mono ?_; rintro e w2 ⟨v, rfl, d2, m2⟩
    obtain ⟨va1, va2, rfl⟩ := d2.slice
    have F2 := Hh (m2.keeps.whole F1.out (by omega))
    have B2 := Hh (below_move B1.out m2 (by omega) (by omega) (by omega))
    have P2 := Hh m2.at_
    have hz2 : w1.heap.size ≤ w2.heap.size := m2.keeps.size
    have D2 := Hh d2
    clear m2 d2)
 | (go_at_call 33; refine (xfinA _ q c r K L o.2 _ P2.out).mono ?_; rintro e w3 ⟨e3, m3⟩
    rw [hg] at e3
    rw [if_pos rfl] at e3
    obtain rfl := e3
    have F3 := Hh (m3.keeps.whole F2.out (by omega))
    have B3 := Hh (below_move B2.out m3 (by omega) (by omega) (by omega))
    have hz3 : w2.heap.size ≤ w3.heap.size := m3.keeps.size
    have D3 := Hh (D2.out.move m3 hq2 hc2)
    simp only [Zi]
    clear m3)
 | ((with_reducible refine Zr 3 12 ?_); refine Ze 41 _ _ 41 (w.heap.size) _ [.int .i64 (fltS (overS L o.2)).1, .int .i64 ((fltS (overS L o.2)).2.1 : Int), .int .i64 ((fltS (overS L o.2)).2.2 : Int)] F3.out rfl size_fa (by simp [Value.oneCell']) rfl rfl rfl rfl rfl ?_
    intro w5 p5
    have F5 := Hh p5.whole
    have B5 := Hh (below_put B3.out p5 (by omega) (by omega))
    have D5 := Hh (D3.out.put p5 (by omega))
    clear p5))
   exact Vw 2 3 41 41 _ _ _ rfl F5.out row_fa size_fa rfl rfl rfl ⟨_, rfl, (D5.out.lower (by omega)), B5.out⟩
def RowOr (w : World) (r K : Nat) (L : List TokV) : Prop := 0 < L.length → RowAt w r K L
theorem RowOr.below {w w' : World} {r K : Nat} {L : List TokV} (h : RowOr w r K L) (hb : Below w.heap.size w w') : RowOr w' r K L := fun hl => (h hl).below hb
theorem RowOr.put {x y : World} {r K : Nat} {L : List TokV} (h : RowOr x r K L) {g B : Nat} {t : TypeId} {vs : List Value} (p : Put x y g t vs) (hr : 0 < L.length → r < B) (hg : B ≤ g) : RowOr y r K L := fun hl => (h hl).keeps p.keeps (by have := hr hl; omega)
theorem RowOr.rin {w : World} {r K : Nat} {L : List TokV} (h : RowOr w r K L) : 0 < L.length → r < w.heap.size := fun hl => (h hl).rin
structure RPv (r K : Nat) (L : List TokV) (st : St) (vs : List Value) : Prop where
 form : ∃ A n k a d, vs = [.slice A n k, .int .i64 (a : Nat), .int .i64 (d : Nat), .int .i64 (fltS st).1, .int .i64 ((fltS st).2.1 : Int), .int .i64 ((fltS st).2.2 : Int)] ∧ d ≤ 8 ∧
   ∀ a' d', st = .ok a' d' → A = some ⟨r, 0, none⟩ ∧ n = L.length ∧ k = K ∧ a = a' ∧ d = d' ∧ a' < L.length
 flt : ∀ F, st = .bad F → F.1 ≠ 0
theorem RPv.ok {r K : Nat} {L : List TokV} {a d : Nat} {vs : List Value} (h : RPv r K L (.ok a d) vs) : ∃ n, n = L.length ∧ vs = [.slice (some ⟨r, 0, none⟩) n K, .int .i64 (a : Int), .int .i64 (d : Int), .int .i64 0, .int .i64 0, .int .i64 0] ∧ a < L.length ∧ d ≤ 8 := by
 obtain ⟨A, n, k, a', d', e, hd, hk⟩ := h.form
 obtain ⟨h1, h2, h3, h4, h5, h6⟩ := hk a d rfl
 subst h1 h3 h4 h5
 exact ⟨n, h2, e, h6, hd⟩
theorem RPv.bad {r K : Nat} {L : List TokV} {F : Int × Nat × Nat} {vs : List Value} (h : RPv r K L (.bad F) vs) : ∃ A n k a d, vs = [.slice A n k, .int .i64 (a : Nat), .int .i64 (d : Nat), .int .i64 F.1, .int .i64 (F.2.1 : Int), .int .i64 (F.2.2 : Int)] ∧ d ≤ 8 ∧ F.1 ≠ 0 := by
 obtain ⟨A, n, k, a', d', e, hd, _⟩ := h.form
 exact ⟨A, n, k, a', d', e, hd, h.flt F rfl⟩
theorem RPv.len {r K : Nat} {L : List TokV} {st : St} {vs : List Value} (h : RPv r K L st vs) : vs.length = 6 := by
 obtain ⟨A, n, k, a, d, e, _⟩ := h.form
 rw [e]; rfl
theorem RPv.one {r K : Nat} {L : List TokV} {st : St} {vs : List Value} (h : RPv r K L st vs) : ∀ v ∈ vs, v.oneCell' = true := by
 obtain ⟨A, n, k, a, d, e, _⟩ := h.form
 rw [e]; simp [Value.oneCell']
end Go.Proofs.YtjacgcjjdebbbaaGreat
namespace Go.Proofs.YtjacgcjjdebbbaaGreat
open Go Go.RowKit Go.Great
set_option linter.unusedSimpArgs false
set_option linter.unusedVariables false
abbrev Bk := Nat × TypeId × List Value
structure Rw where
 v : Value
 e : TypeId
 sz : Nat
 n : Nat
 xs : List Value
def Free (w : World) (bs : List Bk) (rs : List Rw) (k : Nat) : Prop := w.heap.size ≤ k ∧ (∀ b ∈ bs, b.1 ≠ k) ∧ ∀ r ∈ rs, r.v.ownBlock ≠ some k
structure Env (w : World) (bs : List Bk) (rs : List Rw) (ts : List (Ds × List Value)) (x : World) : Prop where
 at_ : ∀ b ∈ bs, Zb x b.1 b.2.1 b.2.2.toArray
 lo : ∀ b ∈ bs, w.heap.size ≤ b.1
 nod : (bs.map (·.1)).Nodup
 row : ∀ r ∈ rs, x.ownsRow w.heap.size r.e r.sz r.v r.n r.xs
 apart : ∀ r ∈ rs, ∀ b ∈ bs, r.v.ownBlock ≠ some b.1
 rapart : rs.Pairwise fun a b => ∀ k, a.v.ownBlock = some k → b.v.ownBlock ≠ some k
 deep : ∀ t ∈ ts, Deep (Free w bs rs) x t.1 t.2
 below : Below w.heap.size w x
section
variable {w x y : World} {bs : List Bk} {rs : List Rw} {ts : List (Ds × List Value)}
theorem Env.start (w : World) : Env w [] [] [] w :=
 ⟨(fun _ h => nomatch h), (fun _ h => nomatch h), List.nodup_nil, (fun _ h => nomatch h), (fun _ h => nomatch h), List.Pairwise.nil, (fun _ h => nomatch h), Below.refl _ _⟩
theorem Env.box (h : Env w bs rs ts x) (t : TypeId) (vs : List Value) : Env w (bs ++ [(x.heap.size, t, vs)]) rs ts (x.alloc (.cells vs.toArray t)) := by
 have hk : Zg (fun _ => False) x (x.alloc (.cells vs.toArray t)) := Zg.of_below (Zd x _)
 refine ⟨fun b hb => ?_, fun b hb => ?_, ?_, fun r hr => hk.owns (h.row r hr) (fun _ _ => id), fun r hr b hb => ?_, h.rapart, fun u hu => ?_, h.below.alloc h.below.size _⟩
 · rcases List.mem_append.1 hb with hb | hb
   · exact (h.at_ b hb).alloc _
   · cases List.mem_singleton.1 hb; exact Zb.made x t vs.toArray
 · rcases List.mem_append.1 hb with hb | hb
   · exact h.lo b hb
   · cases List.mem_singleton.1 hb; exact h.below.size
 · rw [List.map_append, List.nodup_append]
   refine ⟨h.nod, by simp, fun a ha b hb => ?_⟩
   obtain ⟨c, hc, rfl⟩ := List.mem_map.1 ha
   simp at hb
   subst hb
   have := (h.at_ c hc).inside
   omega
 · rcases List.mem_append.1 hb with hb | hb
   · exact h.apart r hr b hb
   · cases List.mem_singleton.1 hb
     intro c
     have := ((h.row r hr).lt _ c).2
     exact Nat.lt_irrefl _ this
 · refine (h.deep u hu).keeps hk fun k hk hn => ⟨id, hn.1, fun b hb => ?_, hn.2.2⟩
   rcases List.mem_append.1 hb with hb | hb
   · exact hn.2.1 b hb
   · cases List.mem_singleton.1 hb
     show x.heap.size ≠ k
     omega
theorem Env.call (h : Env w bs rs ts x) (b : Below x.heap.size x y) : Env w bs rs ts y :=
 ⟨fun c hc => (h.at_ c hc).below b (h.at_ c hc).inside, h.lo, h.nod, fun r hr => (Zg.of_below (S := fun _ => False) b).owns (h.row r hr) (fun _ _ => id), h.apart, h.rapart, fun t ht => (h.deep t ht).below b, h.below.trans (b.mono h.below.size)⟩
theorem Env.drew (h : Env w bs rs ts x) : Env w bs rs ts x.drew := h.call ⟨rfl, rfl, rfl, Nat.le_refl _, fun _ _ => rfl⟩
theorem Env.drewN (h : Env w bs rs ts x) (n : Nat) : Env w bs rs ts (x.drewN n) := h.call ⟨rfl, rfl, rfl, Nat.le_refl _, fun _ _ => rfl⟩
theorem Env.get (h : Env w bs rs ts x) (i : Nat) {g : Nat} {t : TypeId} {vs : List Value} (hi : bs[i]? = some (g, t, vs)) : Zb x g t vs.toArray :=
 h.at_ (g, t, vs) (List.mem_of_getElem? hi)
theorem Env.leaf (h : Env w bs rs ts x) (i : Nat) {ds : Ds} {vs : List Value} (hi : ts[i]? = some (ds, vs)) : Deep (fun k => w.heap.size ≤ k) x ds vs :=
 (h.deep (ds, vs) (List.mem_of_getElem? hi)).mono fun k _ hn => hn.1
theorem map_set_same {bs : List Bk} {i g : Nat} {t : TypeId} {old ys : List Value} (hi : bs[i]? = some (g, t, old)) : (bs.set i (g, t, ys)).map (·.1) = bs.map (·.1) := by
 apply List.ext_getElem?
 intro j
 rw [List.getElem?_map, List.getElem?_map, List.getElem?_set]
 by_cases hj : i = j
 · subst hj
   have hlt := (List.getElem?_eq_some_iff.1 hi).1
   rw [if_pos rfl, if_pos hlt, hi]
   rfl
 · rw [if_neg hj]
theorem free_set {bs : List Bk} {rs : List Rw} {i g : Nat} {t : TypeId} {old ys : List Value} (hi : bs[i]? = some (g, t, old)) {k : Nat} (h : Free w bs rs k) : Free w (bs.set i (g, t, ys)) rs k := by
 refine ⟨h.1, fun b hb => ?_, h.2.2⟩
 have : b.1 ∈ (bs.set i (g, t, ys)).map (·.1) := List.mem_map_of_mem hb
 rw [map_set_same hi] at this
 obtain ⟨c, hc, e⟩ := List.mem_map.1 this
 rw [← e]
 exact h.2.1 c hc
theorem Env.put (h : Env w bs rs ts x) (i : Nat) {g : Nat} {t : TypeId} {old ys : List Value} (hi : bs[i]? = some (g, t, old)) (p : Put x y g t ys) : Env w (bs.set i (g, t, ys)) rs ts y := by
 have hm := map_set_same (ys := ys) hi
 have hmem := List.mem_of_getElem? hi
 have hin : ∀ b ∈ bs.set i (g, t, ys), ∃ c ∈ bs, c.1 = b.1 := fun b hb => by
   have : b.1 ∈ (bs.set i (g, t, ys)).map (·.1) := List.mem_map_of_mem hb
   rw [hm] at this
   exact List.mem_map.1 this
 refine ⟨fun b hb => ?_, fun b hb => ?_, by rw [hm]; exact h.nod, fun r hr => p.keeps.owns (h.row r hr) (fun k hk e => ?_), fun r hr b hb => ?_, h.rapart, fun u hu => ?_, h.below.trans (p.keeps.below h.below.size fun k e => by rw [e]; exact h.lo _ hmem)⟩
 · obtain ⟨j, hj, hb'⟩ := List.getElem_of_mem hb
   rw [List.getElem_set] at hb'
   rw [List.length_set] at hj
   by_cases e : i = j
   · rw [if_pos e] at hb'
     rw [← hb']
     exact p.whole
   · rw [if_neg e] at hb'
     rw [← hb']
     refine p.keeps.whole (h.at_ _ (List.getElem_mem hj)) fun c => e ?_
     obtain ⟨hlt, hge⟩ := List.getElem?_eq_some_iff.1 hi
     have h1 : (bs.map (·.1))[i]'(by simpa using hlt) = (bs.map (·.1))[j]'(by simpa using hj) := by simp [hge, c]
     have hp := List.pairwise_iff_getElem.1 h.nod
     rcases Nat.lt_trichotomy i j with q | q | q
     · exact absurd h1 (hp i j _ _ q)
     · exact q
     · exact absurd h1.symm (hp j i _ _ q)
 · obtain ⟨c, hc, e⟩ := hin b hb
   rw [← e]; exact h.lo c hc
 · exact h.apart r hr _ hmem (by rw [hk, e])
 · obtain ⟨c, hc, e⟩ := hin b hb
   rw [← e]; exact h.apart r hr c hc
 · exact (h.deep u hu).keeps p.keeps fun k _ hn => ⟨fun e => hn.2.1 _ hmem e.symm, free_set hi hn⟩
theorem Env.push {v' : Value} {e : TypeId} {sz n : Nat} {xs news : List Value} {v : Value} (h : Env w bs [⟨v, e, sz, n, xs⟩] ts x) (ho : y.ownsRow w.heap.size e sz v' (n + 1) (xs ++ news)) (hg : x.grownBy y v.ownBlock)
   (hat : v'.ownBlock = v.ownBlock ∨ v'.ownBlock = some x.heap.size) : Env w bs [⟨v', e, sz, n + 1, xs ++ news⟩] ts y := by
 have hk : Zg (fun k => v.ownBlock = some k) x y := Zg.grown (Zg.refl _ _) hg fun k hk => hk
 have hr := h.row _ (List.mem_singleton.2 rfl)
 have ha := h.apart _ (List.mem_singleton.2 rfl)
 refine ⟨fun b hb => hk.whole (h.at_ b hb) (ha b hb), h.lo, h.nod, fun r hr => ?_, fun r hr b hb => ?_, List.pairwise_singleton _ _, fun u hu => ?_, h.below.trans (hk.below h.below.size fun k e => (hr.lt k e).1)⟩
 · cases List.mem_singleton.1 hr; exact ho
 · cases List.mem_singleton.1 hr
   rcases hat with e | e
   · show v'.ownBlock ≠ _
     rw [e]; exact ha b hb
   · show v'.ownBlock ≠ _
     rw [e]
     intro c
     have := (h.at_ b hb).inside
     injection c with c
     omega
 · refine (h.deep u hu).keeps hk fun k hk' hn => ⟨hn.2.2 _ (List.mem_singleton.2 rfl), hn.1, hn.2.1, fun r hr => ?_⟩
   cases List.mem_singleton.1 hr
   rcases hat with e | e
   · show v'.ownBlock ≠ _
     rw [e]; exact hn.2.2 _ (List.mem_singleton.2 rfl)
   · show v'.ownBlock ≠ _
     rw [e]
     intro c
     injection c with c
     omega
theorem Env.row1 (h : Env w bs [] ts x) (e : TypeId) (sz : Nat) : Env w bs [⟨.slice none 0 0, e, sz, 0, []⟩] ts x :=
 ⟨h.at_, h.lo, h.nod, (fun r hr => by cases List.mem_singleton.1 hr; exact ⟨by simp, .inl ⟨rfl, rfl⟩⟩), (fun r hr b hb => by cases List.mem_singleton.1 hr; simp [Value.ownBlock]), List.pairwise_singleton _ _,
   fun u hu => (h.deep u hu).mono fun k _ hn => ⟨hn.1, hn.2.1, (fun r hr => by cases List.mem_singleton.1 hr; simp [Value.ownBlock])⟩, h.below⟩
variable {P : Program} {ops : Array Oper} {rest : List Oper} {o : Oper} {a : Act} {Q : Exit → Act → World → Prop}
theorem wpList_boxE (h : Env w bs rs ts x) (t : TypeId) (v : Operand) (vs : List Value) (hg : o.guard = none) (ho : o.op = .box t v) (hv : a.eval v = .agg vs.toArray)
   (hn : ∀ y g, Env w (bs ++ [(g, t, vs)]) rs ts y → wpList P ops Q rest (a.put o.dst (.pointer (some ⟨g, 0, none⟩))) y) : wpList P ops Q (o :: rest) a x :=
 wpList_boxTo hg t v ho o.dst rfl x.heap.size rfl vs.toArray (by rw [hv]; rfl) (hn _ _ (h.box t vs))
theorem Xe (h : Env w bs rs ts x) (t : TypeId) (vs : List Value) (hg : o.guard = none) (ho : o.op = .alloc t) (hz : (P.info? t).map (fun i => i.zero.map Value.cells) = some (some vs.toArray))
   (hn : ∀ y g, Env w (bs ++ [(g, t, vs)]) rs ts y → wpList P ops Q rest (a.put o.dst (.pointer (some ⟨g, 0, none⟩))) y) : wpList P ops Q (o :: rest) a x := by
 obtain ⟨i, hi, hzz⟩ := Option.map_eq_some_iff.1 hz
 obtain ⟨z, hz1, hz2⟩ := Option.map_eq_some_iff.1 hzz
 refine wpList_runTo hg o.dst rfl (.pointer (some ⟨x.heap.size, 0, none⟩)) (x.alloc (.cells vs.toArray t)) ?_ (hn _ _ (h.box t vs))
 unfold execOp
 rw [ho]
 simp [Instr.alloc, zeroValue, typeInfo, hi, hz1, newVar, newRow, hz2, Sem.run_bind, Sem.run_pure, run_newObj_alloc]
end
end Go.Proofs.YtjacgcjjdebbbaaGreat
namespace Go.Proofs.YtjacgcjjdebbbaaGreat
open Go.ChangeShapes Go.WideShapes Go.ChangeAt Go.RowKit
set_option linter.unusedVariables false
set_option linter.unusedSimpArgs false
theorem wpList_buildC {P : Program} {ops : Array Oper} {rest : List Oper} {o : Oper} {a : Act} {w : World} {Q : Exit → Act → World → Prop} (hg : o.guard = none) (t : TypeId) (parts : Array (Nat × Operand)) (ho : o.op = .build t parts) (cells : Array Value)
   (hb : P.built t (parts.map fun (i, x) => (i, a.eval x)).toList = some cells) (h : wpList P ops Q rest (a.put o.dst (.agg cells)) w) : wpList P ops Q (o :: rest) a w :=
 wpList_build hg t parts ho (by rw [hb]; rfl) (by rw [hb]; exact h)
def stkL : List Value := [.int .i64 0, .int .i64 0, .int .i64 0, .int .i64 1, .int .i64 0, .int .i64 1, .int .i64 0, .int .i64 1, .int .i64 0, .int .i64 1, .int .i64 0, .int .i64 1, .int .i64 0, .int .i64 1, .int .i64 2, .int .i64 1, .int .i64 2, .int .i64 1, .int .i64 2, .int .i64 1, .int .i64 1, .int .i64 0, .int .i64 1, .int .i64 0, .int .i64 0, .int .i64 0, .int .i64 0, .int .i64 0, .int .i64 0, .int .i64 0, .int .i64 1, .int .i64 0, .int .i64 1, .int .i64 0, .int .i64 0, .int .i64 0, .int .i64 1, .int .i64 0, .int .i64 2, .int .i64 0, .int .i64 0, .int .i64 0, .int .i64 0, .int .i64 0, .int .i64 0, .int .i64 0, .int .i64 1, .int .i64 0, .int .i64 0, .int .i64 0, .int .i64 0, .int .i64 0, .int .i64 0, .int .i64 0]
def stkZ : List Value := [.int .i64 0, .int .i64 0, .int .i64 0, .int .i64 0, .int .i64 0, .int .i64 0, .int .i64 0, .int .i64 0, .int .i64 0, .int .i64 0, .int .i64 0, .int .i64 0, .int .i64 0, .int .i64 0, .int .i64 0, .int .i64 0, .int .i64 0, .int .i64 0, .int .i64 0, .int .i64 0, .int .i64 0, .int .i64 0, .int .i64 0, .int .i64 0, .int .i64 0, .int .i64 0, .int .i64 0, .int .i64 0, .int .i64 0, .int .i64 0, .int .i64 0, .int .i64 0, .int .i64 0, .int .i64 0, .int .i64 0, .int .i64 0, .int .i64 0, .int .i64 0, .int .i64 0, .int .i64 0, .int .i64 0, .int .i64 0, .int .i64 0, .int .i64 0, .int .i64 0, .int .i64 0, .int .i64 0, .int .i64 0, .int .i64 0, .int .i64 0, .int .i64 0, .int .i64 0, .int .i64 0, .int .i64 0]
set_option maxRecDepth 20000 in
theorem z_stk : (Tryz.prog.info? 195).map (fun i => i.zero.map Value.cells) = some (some stkZ.toArray) := by kernel_rfl
set_option maxRecDepth 20000 in
theorem size_stk : (Tryz.prog.info? 195).map (·.size) = some stkL.length := by kernel_rfl
theorem one_stk : ∀ v ∈ stkL, v.oneCell' = true := fun v hv => List.all_eq_true.1 (show stkL.all (fun v => v.oneCell') = true by kernel_rfl) v hv
theorem stk_at (k : Nat) (h1 : 1 ≤ k) (h2 : k ≤ 26) : stkL[k * 2]? = some (.int .i64 (tkF k)) ∧ stkL[k * 2 + 1]? = some (.int .i64 (ptF k)) := by
 have hc : k = 1 ∨ k = 2 ∨ k = 3 ∨ k = 4 ∨ k = 5 ∨ k = 6 ∨ k = 7 ∨ k = 8 ∨ k = 9 ∨ k = 10 ∨ k = 11 ∨ k = 12 ∨ k = 13 ∨ k = 14 ∨ k = 15 ∨ k = 16 ∨ k = 17 ∨ k = 18 ∨ k = 19 ∨ k = 20 ∨ k = 21 ∨ k = 22 ∨ k = 23 ∨ k = 24 ∨ k = 25 ∨ k = 26 := by omega
 rcases hc with rfl | rfl | rfl | rfl | rfl | rfl | rfl | rfl | rfl | rfl | rfl | rfl | rfl | rfl | rfl | rfl | rfl | rfl | rfl | rfl | rfl | rfl | rfl | rfl | rfl | rfl <;> exact ⟨by kernel_rfl, by kernel_rfl⟩
set_option maxRecDepth 20000 in
set_option maxHeartbeats 1600000 in
theorem pStackN (k : Nat) (w : World) (h1 : 1 ≤ k) (h2 : k ≤ 26) : Calls Tryz.prog 100 #[.int .i64 (k : Int)] w fun e w' => e = .returned (.tuple #[.int .i64 (tkF k), .int .i64 (ptF k)]) ∧ Below w.heap.size w w' := by
 have T0 := Hh (Env.start w)
 go_enter Tryz.func100, Tryz.ntmps100
 go_wp2_with (first
 | ((with_reducible refine Yf 21 ?_); refine wpList_buildC rfl 195 _ rfl stkL.toArray (by kernel_rfl) ?_)
 | ((with_reducible refine Yf 4 ?_); refine Xe T0.out 195 stkZ rfl rfl z_stk ?_; intro w2 g t2
    have T2 := Hh t2
    clear t2)
 | ((with_reducible refine Zr 4 21 ?_); refine Ze 195 _ _ 195 g _ stkL (T2.out.get 0 rfl) rfl size_stk one_stk rfl rfl rfl rfl rfl ?_
    intro w3 p3
    have T3 : Hid (Env w [(g, 195, stkL)] [] [] w3) := Hh (T2.out.put 0 rfl p3)
    have r1 : w3.cell? ⟨g, k * 2, none⟩ = some (.int .i64 (tkF k)) := by rw [(T3.out.get 0 rfl).read]; simpa using (stk_at k h1 h2).1
    have r2 : w3.cell? ⟨g, k * 2 + 1, none⟩ = some (.int .i64 (ptF k)) := by rw [(T3.out.get 0 rfl).read]; simpa using (stk_at k h1 h2).2
    generalize stkL = SL at *
    clear p3)
 | go_quiet (fail))
 go_simp
 go_quiet (fail)
 go_wp2
 go_ret2
 exact ⟨rfl, Wt T3.out.below _⟩
theorem pStack (op : Int) (w : World) (h1 : 1 ≤ op) (h2 : op ≤ 26) : Calls Tryz.prog 100 #[.int .i64 op] w fun e w' => e = .returned (.tuple #[.int .i64 (tkF op), .int .i64 (ptF op)]) ∧ Below w.heap.size w w' := by
 obtain ⟨k, rfl⟩ := Int.eq_ofNat_of_zero_le (show 0 ≤ op by omega)
 exact pStackN k w (by omega) (by omega)
theorem high_next (f : Nat → IV) (k : Nat) : Wh f k = max (Wh f (k - 1)) (Yn f k) := by
 cases k with
 | zero => simp [Wh, Yn]
 | succ k => simp [Wh]
set_option maxHeartbeats 3200000 in
theorem rMost (w : World) (A B C : Option Addr) (n s m c d g : Nat) (f : Nat → IV) (hI : Vx w A n f) (hn : n ≤ 1000) (hs : (s : Int) ≤ 1000) (hm : (m : Int) ≤ 1000) :
   Calls Tryz.prog 10 #[Vf A B C n s m c d g] w fun e w' => e = .returned (.int .i64 (mostF f n s m)) ∧ Below w.heap.size w w' := by
 have cC := fun x (hb : Below w.heap.size w x) => rCheck x A B C n s m c d g f (hI.below hb) hn hs hm
 have cD := fun k x (hb : Below w.heap.size w x) (hk : k ≤ n) => rDeep x A B C n s m c d g k f (hI.below hb) hk hn
 have T0 := Hh (OneB.start w 27 #[.slice A n c, .slice B s d, .slice C m g])
 unfold Vf chkV at cC
 unfold Vf at cD ⊢
 have hm0 : Hid (mostF f n s m = if (Ws f n s m).1 = 0 then Wh f n else 0) := Hh rfl
 generalize Ws f n s m = r at *
 obtain ⟨r1, r2⟩ := r
 simp only at cC hm0
 obtain ⟨G, hG⟩ : ∃ G, mostF f n s m = G := ⟨_, rfl⟩
 rw [hG]
 have HG := Hh hG
 clear hG
 have CC := Hh cC
 have CD := Hh cD
 clear cC cD hI
 by_cases h0 : r1 = 0
 · subst h0
   have HM : Hid (Wh f n = G) := Hh (by rw [← HG.out, hm0.out, if_pos rfl])
   clear hm0 HG
   go_enter Tryz.func10, Tryz.ntmps10
   go_wp2_with (first
 | (go_at_call 8; refine (CC.out _ T0.out.below).mono ?_; rintro e w5 ⟨rfl, b5⟩
    have T1 := Hh (T0.out.next b5)
    clear b5))
   go_loopw [5, 6] (fun h i wr => ∃ k : Nat, k ≤ n + 1 ∧ i = .int .i64 (k : Int) ∧ h = .int .i64 (Wh f (k - 1)) ∧ OneB w 27 #[.slice A n c, .slice B s d, .slice C m g] wr) (fun _ i _ => n + 1 - (intOf i).toNat)
   case atStart => exact ⟨0, by omega, rfl, rfl, T1.out⟩
   case round =>
     obtain ⟨k, hk, rfl, rfl, ho⟩ := hrel
     have T2 := Hh ho
     obtain ⟨p0, p1, p2, _, _, _⟩ := Zq ho.k0
     clear ho
     by_cases hkn : k ≤ n
     · have l1 : decide ((k : Int) ≤ n) = true := by simp [hkn]
       have C2 := Hh (fun x hb => CD.out k x hb hkn)
       have HN := Hh (high_next f k)
       by_cases hlt : Wh f (k - 1) < Yn f k
       · have HL : Hid (Wh f k = Yn f k) := Hh (by rw [HN.out]; omega)
         generalize hq1 : Wh f (k - 1) = q1 at *
         generalize hq2 : Yn f k = q2 at *
         have HQ := Hh (And.intro hq1 hq2)
         clear hq1 hq2
         go_wp2_with (first
 | (go_at_call 21; (with_reducible refine (C2.out _ T2.out.below).mono ?_); rintro e w5 ⟨rfl, b5⟩
    have T3 := Hh (T2.out.next b5)
    obtain ⟨p0, p1, p2, _, _, _⟩ := Zq T3.out.k0
    clear b5)
 | (go_at_call 21; refine (C2.out _ T3.out.below).mono ?_; rintro e w6 ⟨rfl, b6⟩
    have T4 := Hh (T3.out.next b6)
    clear b6))
         go_roundw
         case rel => exact ⟨k + 1, by omega, by go_num, by rw [show k + 1 - 1 = k by omega, HL.out], T4.out⟩
         case measure => simp [intOf]; omega
       · have HL : Hid (Wh f k = Wh f (k - 1)) := Hh (by rw [HN.out]; omega)
         generalize hq1 : Wh f (k - 1) = q1 at *
         generalize hq2 : Yn f k = q2 at *
         have HQ := Hh (And.intro hq1 hq2)
         clear hq1 hq2
         go_wp2_with (first
 | (go_at_call 21; refine (C2.out _ T2.out.below).mono ?_; rintro e w5 ⟨rfl, b5⟩
    have T3 := Hh (T2.out.next b5)
    clear b5))
         go_roundw
         case rel => exact ⟨k + 1, by omega, by go_num, by rw [show k + 1 - 1 = k by omega, HL.out], T3.out⟩
         case measure => simp [intOf]; omega
     · obtain rfl : k = n + 1 := by omega
       have l1 : decide (((n + 1 : Nat) : Int) ≤ n) = false := decide_eq_false (by omega)
       have l2 : ¬ ((n : Int) + 1 ≤ n) := by omega
       go_wp2
       go_ret
       exact ⟨rI HM.out, T2.out.below⟩
 · have HM : Hid (0 = G) := Hh (by rw [← HG.out, hm0.out, if_neg h0])
   clear hm0 HG
   have g0 : (r1 == 0) = false := by simpa using h0
   clear h0
   go_enter Tryz.func10, Tryz.ntmps10
   go_wp2_with (first
 | (go_at_call 8; refine (CC.out _ T0.out.below).mono ?_; rintro e w5 ⟨rfl, b5⟩
    have T1 := Hh (T0.out.next b5)
    obtain ⟨p0, p1, p2, _, _, _⟩ := Zq T1.out.k0
    clear b5))
   go_loop [5, 6] (fun h i => i = .int .i64 0 ∧ h = .int .i64 0) (fun _ i => 0)
   case atStart => exact ⟨rfl, rfl⟩
   case round =>
     obtain ⟨rfl, rfl⟩ := hrel
     go_wp2
     go_ret
     exact ⟨rI HM.out, T1.out.below⟩
end Go.Proofs.YtjacgcjjdebbbaaGreat
namespace Go.Proofs.YtjacgcjjdebbbaaGreat
open Go Go.RowKit
theorem push_at {P : Program} {w w' : World} (base : Nat) (t u ty e : TypeId) (i : TypeInfo) (ht : P.underlying t = some (.slice e)) (hu : P.underlying u = some .string) (hi : P.info? e = some i) (hz : i.zero = some (.int .u8 0))
   (hsize : i.size = 1) (hby : i.bytes = 1) (v v' : Value) (n : Nat) (xs : List Value) (hown : w.ownsRow base e 1 v n xs) (s : ByteArray) (h63 : n + s.size ≤ maxLen) (hbytes : n + s.size ≤ 140737488355328)
   (hr : (Builtin.append_ #[t, u] ty #[v, .string s]).run P w = .ok v' w') : v'.ownBlock = v.ownBlock ∨ v'.ownBlock = some w.heap.size := by
 have hsmall : n + s.size ≤ 9223372036854775807 := by simp only [maxLen] at h63; omega
 have hxl : xs.length = n := by simpa using hown.1
 rcases hown.2 with ⟨rfl, rfl⟩ | ⟨g, cap, cur, rfl, hbg, hg, hnc, hcm, hcs, htake⟩
 · by_cases hm : s.size = 0
   · have hf := Lib.run_firstCells_string (P := P) w 1 s
     rw [hm] at hf
     have h2 : (Builtin.append_ #[t, u] ty #[.slice none 0 0, .string s]).run P w = .ok (.slice none 0 0) w := by
       simp [Builtin.append_, run_underlying ht, run_underlying hu, sizeOf, typeInfo, hi, hsize, Builtin.lenOf, hm, hf]
     rw [h2] at hr
     injection hr with e1 e2
     subst e1
     exact .inl rfl
   · have h2 := run_append_nil_string (P := P) w t u ty e i (.int .u8 0) ht hu hi hz s (by omega) (by omega) (by rw [hby]; omega)
     rw [h2] at hr
     injection hr with e1 e2
     subst e1
     exact .inr rfl
 · by_cases hroom : n + s.size ≤ cap
   · have hcs' : cur.size = cap := by simpa using hcs
     have h2 := Lib.run_append_room_string (P := P) w t u ty e i ht hu hi hsize g n cap cur hg s hroom (by omega)
     rw [h2] at hr
     injection hr with e1 e2
     subst e1
     exact .inl rfl
   · have holds : ∀ j u, xs[j]? = some u → w.cell? ((⟨g, 0, none⟩ : Addr).add j) = some u := hown.cells (g := g) rfl
     have h2 := Lib.run_append_grow_string (P := P) w t u ty e i (.int .u8 0) ht hu hi hz ⟨g, 0, none⟩ n cap xs (by rw [hsize]; simpa using hxl) holds s (by omega) (by omega) (by rw [hby]; exact growslice_fits (by omega) (by omega))
     rw [h2] at hr
     injection hr with e1 e2
     subst e1
     exact .inr rfl
theorem wpList_pushAt {P : Program} {w : World} {ops : Array Oper} {rest : List Oper} {o : Oper} {a : Act} {Q : Exit → Act → World → Prop} (sl x : Operand) (t u e : TypeId)
   (ht : P.underlying t = some (.slice e)) (hu : P.underlying u = some .string) (hinfo : (P.info? e).map (fun i => (i.zero, i.size, i.bytes)) = some (some (.int .u8 0), 1, 1))
   (hgd : o.guard = none) (ho : o.op = .call { callee := .builtin .append, args := #[sl, x], argTypes := #[t, u] })
   (base : Nat) (v : Value) (n : Nat) (l m : List Int) (hs : a.eval sl = v) (hown : w.ownsRow base e 1 v n (l.map (Value.int .u8))) (hx : a.eval x = .string (strOfNums m)) (hm : ∀ x ∈ m, 0 ≤ x ∧ x < 256)
   (hn : n + m.length ≤ 1099511627776) (hbase : base ≤ w.heap.size)
   (h : ∀ v' w', w'.ownsRow base e 1 v' (n + m.length) ((l ++ m).map (Value.int .u8)) → w.grownBy w' v.ownBlock → (v'.ownBlock = v.ownBlock ∨ v'.ownBlock = some w.heap.size) → wpList P ops Q rest (a.put o.dst v') w') : wpList P ops Q (o :: rest) a w := by
 obtain ⟨i, hi, hz, hsize, hbytes⟩ := info_parts hinfo
 have hsz : (strOfNums m).size = m.length := strOfNums_size m
 refine wpList_plain hgd fun K hK => ?_
 obtain ⟨v', w', hr, h2, h3, h4⟩ := Lib.run_append_own_string (P := P) w base t u o.type e i ht hu hi hz hsize hbytes v n _ hown (strOfNums m) (by rw [hsz]; unfold maxLen; omega) (by rw [hsz]; omega) hbase
 have h5 := push_at base t u o.type e i ht hu hi hz hsize hbytes v v' n _ hown (strOfNums m) (by rw [hsz]; unfold maxLen; omega) (by rw [hsz]; omega) hr
 unfold Oper.wp execOp
 simp only [ho, resolve, invoke, builtin, Sem.run_bind, Sem.run_pure, Result.andThen_ok, List.map_toArray, List.map_cons, List.map_nil, hs, hx, hr]
 rw [hsz, strCells_str m hm, ← List.map_append] at h2
 exact hK _ _ (h v' w' h2 h3 h5)
end Go.Proofs.YtjacgcjjdebbbaaGreat
namespace Go.Proofs.YtjacgcjjdebbbaaGreat
open Go.ChangeShapes Go.WideShapes Go.ChangeAt Go.RowKit
set_option linter.unusedVariables false
set_option linter.unusedSimpArgs false
theorem lastDigit_any (n : Int) (h1 : -9223372036854775808 ≤ n) (h2 : n ≤ 9223372036854775807) (w : World) : Calls Tryz.prog 80 #[.int .i64 n] w fun e w' => e = .returned (.int .u8 (48 + ((n.natAbs % 10 : Nat) : Int))) ∧ w = w' := by
 have ha : (n.tmod 10).natAbs = n.natAbs % 10 := Int.natAbs_tmod n 10
 have hr : n.tmod 10 < 10 ∧ -10 < n.tmod 10 := by omega
 by_cases hn : n.tmod 10 < 0
 · go_enter Tryz.func80, Tryz.ntmps80
   go_wp2
   go_ret
   refine ⟨rI ?_, rfl⟩
   omega
 · go_enter Tryz.func80, Tryz.ntmps80
   go_wp2
   go_ret
   refine ⟨rI ?_, rfl⟩
   omega
theorem slice20 (g : Nat) (z : Int) (f : Nat) (hz : z.toNat = f) (h0 : 0 ≤ z) (h1 : f < 20) (W : World) :
   (Instr.sliceAt 152 (.pointer (some ⟨g, 0, none⟩)) (some (.int .i64 z)) none none).run Tryz.prog W = .ok (.slice (some ⟨g, f, none⟩) (20 - f) (20 - f)) W := by
 have hu : Tryz.prog.underlying 152 = some (.array (Tryz.prog.arrayLen 152) (Tryz.prog.elem 152)) := by kernel_rfl
 have hl : Tryz.prog.arrayLen 152 = 20 := by kernel_rfl
 have he : Tryz.prog.elem 152 = 5 := by kernel_rfl
 have hs : (sizeOf 5).run Tryz.prog W = .ok 1 W := by kernel_rfl
 rw [run_sliceAt_array_l W _ _ hu .i64 z h0 (by rw [hl]; omega), he, hs, hl, hz]
 have hne : ¬ 20 = f := by omega
 simp [slicedAt, hne, Addr.add_lit]
theorem conv_tail {W : World} {g f len : Nat} {t : TypeId} {cs : Array Value} {l : List Int} (hw : Zb W g t cs) (ht : TailIs cs f l) (hl : len = l.length) :
   ∀ dst, Tryz.prog.underlying dst = some .string → (convert 75 dst (.slice (some ⟨g, f, none⟩) len len)).run Tryz.prog W = .ok (.string (strOfNums l)) W :=
 run_convert_bytes_arg _ 75 5 (by kernel_rfl) (by kernel_rfl) g f len len l hl.symm (fun i hi => ht.cells hw i (by omega))
theorem put_done {n m : Int} {k : Nat} {ds : List Int} (hd : k = 0 ∧ m = n ∧ ds = [] ∨ m ≠ 0 ∧ m.natAbs * 10 ^ k ≤ n.natAbs ∧ digL n.natAbs = digL m.natAbs ++ ds) (hq : m.natAbs / 10 = 0) : digL n.natAbs = (48 + (m.natAbs : Int) % 10) :: ds := by
 have hm : digL m.natAbs = [48 + (m.natAbs : Int) % 10] := by rw [digL_lt (by omega)]; congr 1; omega
 rcases hd with ⟨_, rfl, rfl⟩ | ⟨_, _, h⟩
 · exact hm
 · rw [h, hm]; rfl
theorem put_round {n m : Int} {k : Nat} {ds : List Int} (hd : k = 0 ∧ m = n ∧ ds = [] ∨ m ≠ 0 ∧ m.natAbs * 10 ^ k ≤ n.natAbs ∧ digL n.natAbs = digL m.natAbs ++ ds) (hq : (m.tdiv 10).natAbs = m.natAbs / 10) (hz : m.tdiv 10 ≠ 0) :
   m.tdiv 10 ≠ 0 ∧ (m.tdiv 10).natAbs * 10 ^ (k + 1) ≤ n.natAbs ∧ digL n.natAbs = digL (m.tdiv 10).natAbs ++ ((48 + (m.natAbs : Int) % 10) :: ds) := by
 have hm : digL m.natAbs = digL (m.tdiv 10).natAbs ++ [48 + (m.natAbs : Int) % 10] := by rw [digL_ge (by omega), hq]; congr 2
 refine ⟨hz, ?_, ?_⟩
 · have h1 : m.natAbs * 10 ^ k ≤ n.natAbs := by
     rcases hd with ⟨rfl, rfl, _⟩ | ⟨_, h, _⟩
     · omega
     · exact h
   rw [hq, Nat.pow_succ, Nat.mul_comm (10 ^ k) 10, ← Nat.mul_assoc]
   exact Nat.le_trans (Nat.mul_le_mul_right _ (Nat.div_mul_le_self _ _)) h1
 · rcases hd with ⟨_, rfl, rfl⟩ | ⟨_, _, h⟩
   · exact hm
   · rw [h, hm, List.append_assoc]; rfl
theorem putS_neg {n : Int} {l : List Int} (hn : n < 0) (h : digL n.natAbs = l) : Vq n = strOfNums (45 :: l) := by
 unfold Vq
 rw [putL_neg hn, show (-n).toNat = n.natAbs from by omega, h]
theorem putS_pos {n : Int} {l : List Int} (hn : 0 ≤ n) (h : digL n.natAbs = l) : Vq n = strOfNums l := by
 unfold Vq
 rw [putL_pos hn, show n.toNat = n.natAbs from by omega, h]
theorem tail_len {cs : Array Value} {f : Nat} {l : List Int} (h : TailIs cs f l) (hc : cs.size = 20) : l.length = 20 - f := by have := h.1; omega
theorem dPut_any (n : Int) (h1 : -9223372036854775808 ≤ n) (h2 : n ≤ 9223372036854775807) (w : World) : Calls Tryz.prog 51 #[.int .i64 n] w fun e w' => e = .returned (.string (Vq n)) ∧ Below w.heap.size w w' := by
 go_enter Tryz.func51, Tryz.ntmps51
 go_wp2
 go_loopw [4, 5, 7] (fun f r i wr => ∃ (k : Nat) (m : Int) (ds : List Int) (cs : Array Value), k ≤ 18 ∧ i = .int .i64 k ∧ f = .int .i64 (20 - (k : Int)) ∧ r = .int .i64 m ∧ -9223372036854775808 ≤ m ∧ m ≤ 9223372036854775807 ∧ (k = 0 ∧ m = n ∧ ds = [] ∨ m ≠ 0 ∧ m.natAbs * 10 ^ k ≤ n.natAbs ∧ digL n.natAbs = digL m.natAbs ++ ds) ∧ cs.size = 20 ∧ TailIs cs (20 - k) ds ∧ Zb wr w.heap.size 152 cs ∧ Below w.heap.size w wr) (fun _ _ i _ => 20 - (intOf i).toNat)
 case atStart => exact ⟨0, n, [], _, by omega, rfl, rfl, rfl, h1, h2, .inl ⟨rfl, rfl, rfl⟩, rfl, ⟨rfl, fun j hj => by simp at hj⟩, Zb.made _ _ _, (Below.refl _ _).alloc (Nat.le_refl _) _⟩
 case round =>
   obtain ⟨k, m, ds, cs, hk, rfl, rfl, rfl, hm1, hm2, hd, hc, ht, hw, hb⟩ := hrel
   have hi : k < 20 := by omega
   have hcell : wr.cell? ⟨w.heap.size, 19 - k, none⟩ = some (cs[19 - k]'(by omega)) := by rw [hw.read, Array.getElem?_eq_getElem]
   have hfz := hw.thawed (19 - k)
   have i0 : (0 : Int) ≤ 20 - (k : Int) - 1 := by omega
   have i1 : (20 - (k : Int) - 1).toNat = 19 - k := by omega
   have HB := Hh hb
   have HW := Hh hw
   have HT := Hh ht
   have HD := Hh hd
   clear hb hw ht hd
   have hlast : ∀ x, Calls Tryz.prog 80 #[.int .i64 m] x fun e w' => e = .returned (.int .u8 (48 + ((m.natAbs % 10 : Nat) : Int))) ∧ x = w' := fun x => lastDigit_any m hm1 hm2 x
   have hq : (m.tdiv 10).natAbs = m.natAbs / 10 := Int.natAbs_tdiv m 10
   have t0 := HT.out
   rw [show 20 - k = 19 - k + 1 from by omega] at t0
   have T1 := Hh (t0.next (48 + (m.natAbs : Int) % 10))
   clear t0
   cases hz : (m.tdiv 10 == 0) with
   | true =>
     by_cases hn : n < 0
     · have hcell2 : wr.cell? ⟨w.heap.size, 19 - k - 1, none⟩ = some (cs[19 - k - 1]'(by omega)) := by rw [HW.out.read, Array.getElem?_eq_getElem]
       have hfz2 := HW.out.thawed (19 - k - 1)
       have hsl := slice20 w.heap.size (20 - (k : Int) - 1 - 1) (19 - k - 1) (by omega) (by omega) (by omega)
       have t1 := T1.out
       rw [show 19 - k = 19 - k - 1 + 1 from by omega] at t1
       have t2 := t1.next 45
       rw [show 19 - k - 1 + 1 = 19 - k from by omega] at t2
       have hcv := conv_tail (len := 20 - (19 - k - 1)) ((HW.out.write (19 - k) (.int .u8 (48 + (m.natAbs : Int) % 10))).write (19 - k - 1) (.int .u8 45)) t2 (by rw [tail_len t2 (by simp [hc])])
       clear t1 t2
       go_wp2_with (go_at_call 80; refine (hlast _).mono ?_; rintro e w' ⟨rfl, rfl⟩)
       go_ret
       refine ⟨?_, (HB.out.setCell (Nat.le_refl _) _).setCell (Nat.le_refl _) _⟩
       rw [putS_neg hn (put_done HD.out (by have := eq_of_beq hz; omega))]; rfl
     · have hsl := slice20 w.heap.size (20 - (k : Int) - 1) (19 - k) (by omega) (by omega) (by omega)
       have t1 := T1.out
       have hcv := conv_tail (len := 20 - (19 - k)) (HW.out.write (19 - k) (.int .u8 (48 + (m.natAbs : Int) % 10))) t1 (by rw [tail_len t1 (by simp [hc])])
       clear t1
       go_wp2_with (go_at_call 80; refine (hlast _).mono ?_; rintro e w' ⟨rfl, rfl⟩)
       go_ret
       refine ⟨?_, HB.out.setCell (Nat.le_refl _) _⟩
       rw [putS_pos (by omega) (put_done HD.out (by have := eq_of_beq hz; omega))]; rfl
   | false =>
     have hr := Hh (put_round HD.out hq (by intro c; rw [c] at hz; cases hz))
     have hk1 : k + 1 ≤ 18 := by
       apply Nat.le_of_not_lt
       intro c
       have : 10 ^ 19 ≤ 10 ^ (k + 1) := Nat.pow_le_pow_right (by omega) (by omega)
       have h0 : 1 ≤ (m.tdiv 10).natAbs := by have := hr.out.1; omega
       have := Nat.mul_le_mul h0 this
       have := hr.out.2.1
       omega
     go_wp2_with (go_at_call 80; refine (hlast _).mono ?_; rintro e w' ⟨rfl, rfl⟩)
     go_roundw
     case rel =>
       have t1 : TailIs (cs.setIfInBounds (19 - k) (.int .u8 (48 + (m.natAbs : Int) % 10))) (20 - (k + 1)) ((48 + (m.natAbs : Int) % 10) :: ds) := by
         rw [show 20 - (k + 1) = 19 - k from by omega]; exact T1.out
       exact ⟨k + 1, m.tdiv 10, _, _, hk1, by go_num, by go_num, rfl, by omega, by omega, .inr hr.out, by simp [hc], t1, HW.out.write _ _, HB.out.setCell (Nat.le_refl _) _⟩
     case measure => simp [intOf]; omega
end Go.Proofs.YtjacgcjjdebbbaaGreat
