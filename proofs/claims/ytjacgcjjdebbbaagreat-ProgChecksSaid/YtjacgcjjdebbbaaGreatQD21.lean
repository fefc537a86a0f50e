/-
  Texts Gen6. No conditions but those that each theorem names.
-/
import Derived.Test.YtjacgcjjdebbbaaGreatQD20
namespace Go.Proofs.YtjacgcjjdebbbaaGreat
open Go.ChangeShapes Go.WideShapes Go.ChangeAt Go.RowKit
set_option linter.unusedVariables false
set_option linter.unusedSimpArgs false
structure G2 (B : Nat) (w : World) (p : Nat) (C S N : Value) (l : List IV) (k : Nat) (xs ns : List Value) (g1 : Nat) (t1 : TypeId) (xv : List Value) (g3 : Nat) (t3 : TypeId) (yv : List Value) (C' S' N' : Value) (x : World) : Prop where
 at_ : GAt B x p C' S' N' l k xs ns
 step : Xm p C S N w C' S' N' x
 b1 : Zb x g1 t1 xv.toArray
 b3 : Zb x g3 t3 yv.toArray
 a1 : Aside x p C' S' N' g1
 a3 : Aside x p C' S' N' g3
 ne : g1 ≠ g3
 lo : w.heap.size ≤ g3
theorem G2.start {B : Nat} {w x : World} {p : Nat} {C S N : Value} {l : List IV} {k : Nat} {xs ns : List Value} (h : GAt B w p C S N l k xs ns) {g1 g3 : Nat} {t1 t3 : TypeId} {xv yv : List Value} (T : Env w [(g1, t1, xv), (g3, t3, yv)] [] [] x) : G2 B w p C S N l k xs ns g1 t1 xv g3 t3 yv C S N x := by
 have hne : g1 ≠ g3 := by have := T.nod; simpa using this
 have l1 : w.heap.size ≤ g1 := T.lo (g1, t1, xv) (by simp)
 have l3 : w.heap.size ≤ g3 := T.lo (g3, t3, yv) (by simp)
 exact ⟨h.below T.below, Xm.of_below T.below, T.get 0 rfl, T.get 1 rfl, ⟨(T.get 0 rfl).inside, h.out_ l1⟩, ⟨(T.get 1 rfl).inside, h.out_ l3⟩, hne, l3⟩
theorem G2.next {B : Nat} {w x y : World} {p : Nat} {C S N C' S' N' : Value} {l : List IV} {k : Nat} {xs ns : List Value} {g1 g3 : Nat} {t1 t3 : TypeId} {xv yv : List Value} (h : G2 B w p C S N l k xs ns g1 t1 xv g3 t3 yv C' S' N' x) (hb : Below x.heap.size x y) : G2 B w p C S N l k xs ns g1 t1 xv g3 t3 yv C' S' N' y :=
 ⟨h.at_.below hb, h.step.trans (Xm.of_below hb), h.b1.below hb h.a1.1, h.b3.below hb h.a3.1, (Xm.of_below hb).aside h.a1, (Xm.of_below hb).aside h.a3, h.ne, h.lo⟩
theorem G2.call {B : Nat} {w x y : World} {p : Nat} {C S N C' S' N' C2 S2 N2 : Value} {l l2 : List IV} {k k2 : Nat} {xs ns xs2 ns2 : List Value} {g1 g3 : Nat} {t1 t3 : TypeId} {xv yv : List Value} (h : G2 B w p C S N l k xs ns g1 t1 xv g3 t3 yv C' S' N' x) (ha : GAt B y p C2 S2 N2 l2 k2 xs2 ns2) (hs : Xm p C' S' N' x C2 S2 N2 y) : G2 B w p C S N l2 k2 xs2 ns2 g1 t1 xv g3 t3 yv C2 S2 N2 y :=
 ⟨ha, h.step.trans hs, hs.keeps.whole h.b1 h.a1.2, hs.keeps.whole h.b3 h.a3.2, hs.aside h.a1, hs.aside h.a3, h.ne, h.lo⟩
theorem G2.set3 {B : Nat} {w x : World} {p : Nat} {C S N C' S' N' : Value} {l : List IV} {k : Nat} {xs ns : List Value} {g1 g3 : Nat} {t1 t3 : TypeId} {xv yv : List Value} (h : G2 B w p C S N l k xs ns g1 t1 xv g3 t3 yv C' S' N' x) (j : Nat) (v : Value) : G2 B w p C S N l k xs ns g1 t1 xv g3 t3 (yv.set j v) C' S' N' (x.setCell ⟨g3, j, none⟩ v) := by
 have e : Zb (x.setCell ⟨g3, j, none⟩ v) g3 t3 (yv.set j v).toArray := by have := h.b3.write j v; simpa using this
 have hw := h.lo
 refine ⟨h.at_.setAside h.a3.2 v, ⟨?_, fun q hq => h.step.fresh q hq⟩, h.b1.aside (fun c => h.ne c) v, e, ⟨by simpa using h.a1.1, h.a1.2⟩, ⟨by simpa using h.a3.1, h.a3.2⟩, h.ne, h.lo⟩
 exact ⟨h.step.keeps.os, h.step.keeps.tape, h.step.keeps.output, by have := h.step.keeps.size; simpa [World.setCell] using this, fun q hq hn => (Below.heap_setCell _ _ _ _ (by simp; omega)).trans (h.step.keeps.block q hq hn)⟩
theorem gExpr : ∀ x : Ex, ExNum x → GOK x := by
 intro x
 induction x with
 | leaf kk n s sd tk tl =>
   intro hx B w p C S N l k xs ns xv h hd hl hB
   obtain rfl : kk = 1 := hx
   have h1 := hd.one
   obtain ⟨_, rfl, _, rfl, _, rfl, _, rfl, _, rfl, _, rfl, A0, c0, z0, _, rfl, _, _, _, _, rfl, _, rfl, _, rfl, _, rfl, A, cap, ys, _, rfl, _, hw, hy, hnil⟩ := hd
   cases hnil
   exact gLeaf B w p C S N l k xs ns n _ _ _ _ _ _ _ _ _ _ h (by simp [Wp] at hl; omega) hB rfl rfl
 | bin op L R iL iR => exact fun hx => gBin op L R (iL hx.1) (iR hx.2)
set_option maxRecDepth 20000 in
set_option maxHeartbeats 6400000 in
theorem gPower (B : Nat) (w : World) (p : Nat) (C S N : Value) (l : List IV) (k : Nat) (xs ns : List Value) (x : Ex) (hx : GOK x) (l0 c0 k1 sd wh ln pk d1 d2 d3 d4 d5 : Int) (F : Option Addr) (fd : Nat) (num cl cr : List Value) (nm : ByteArray) (thn els : Value)
   (h : GAt B w p C S N l k xs ns) (dn : Deep (fun q => q < B) w x.ds num) (lcl : cl.length = 12) (lcr : cr.length = 12) (o53 : ∀ v ∈ (Zk 1 l0 c0 [.int .i64 k1, .int .i64 sd, .int .i64 wh, .int .i64 ln, .slice F 0 fd, .int .i64 pk] num d1 d2 d3 d4 nm d5 cl cr thn els), v.oneCell' = true) (hl : l.length + (Wp x).length ≤ 900000) (hk : k ≤ 1000) (hB : B ≤ w.heap.size) :
   Calls Tryz.prog 60 #[.pointer (some ⟨p, 0, none⟩), .agg ((Zk 1 l0 c0 [.int .i64 k1, .int .i64 sd, .int .i64 wh, .int .i64 ln, .slice F 0 fd, .int .i64 pk] num d1 d2 d3 d4 nm d5 cl cr thn els)).toArray] w fun e w' => e = .returned (.tuple #[]) ∧ ∃ C' S' V d, GAt B w' p C' S' N (l ++ Wp x ++ [⟨10, (k : Int), 0, 0⟩]) (k + 1) (xs ++ [.int .i64 k1, .int .i64 sd, .int .i64 wh, .int .i64 ln, .slice V 0 d, .int .i64 pk]) ns ∧ Xm p C S N w C' S' N w' := by
 have T0 := Hh (Env.start w)
 have HG := Hh h
 have lnum := dn.len.trans (Ex.ds_len x)
 have hAl : ((Zk 1 l0 c0 [.int .i64 k1, .int .i64 sd, .int .i64 wh, .int .i64 ln, .slice F 0 fd, .int .i64 pk] num d1 d2 d3 d4 nm d5 cl cr thn els)).length = 53 := by simp [Zk, lnum, lcl, lcr]
 have hp1 : (Zk 1 l0 c0 [.int .i64 k1, .int .i64 sd, .int .i64 wh, .int .i64 ln, .slice F 0 fd, .int .i64 pk] num d1 d2 d3 d4 nm d5 cl cr thn els) = [.int .i64 1, .int .i64 l0, .int .i64 c0] ++ [.int .i64 k1, .int .i64 sd, .int .i64 wh, .int .i64 ln, .slice F 0 fd, .int .i64 pk] ++ (num ++ (.int .i64 d1 :: .int .i64 d2 :: .int .i64 d3 :: .int .i64 d4 :: .string nm :: .int .i64 d5 :: (cl ++ (cr ++ [thn, els])))) := by simp [Zk]
 have hp2 : (Zk 1 l0 c0 [.int .i64 k1, .int .i64 sd, .int .i64 wh, .int .i64 ln, .slice F 0 fd, .int .i64 pk] num d1 d2 d3 d4 nm d5 cl cr thn els) = ([.int .i64 1, .int .i64 l0, .int .i64 c0] ++ [.int .i64 k1, .int .i64 sd, .int .i64 wh, .int .i64 ln, .slice F 0 fd, .int .i64 pk]) ++ num ++ (.int .i64 d1 :: .int .i64 d2 :: .int .i64 d3 :: .int .i64 d4 :: .string nm :: .int .i64 d5 :: (cl ++ (cr ++ [thn, els]))) := by simp [Zk]
 have ha0 : ((Zk 1 l0 c0 [.int .i64 k1, .int .i64 sd, .int .i64 wh, .int .i64 ln, .slice F 0 fd, .int .i64 pk] num d1 d2 d3 d4 nm d5 cl cr thn els))[0]? = some (.int .i64 1) := rfl
 generalize hAA : (Zk 1 l0 c0 [.int .i64 k1, .int .i64 sd, .int .i64 wh, .int .i64 ln, .slice F 0 fd, .int .i64 pk] num d1 d2 d3 d4 nm d5 cl cr thn els) = AA at *
 have HL := Hh hl
 have HAl := Hh hAl
 have HO := Hh o53
 have HP1 := Hh hp1
 have HP2 := Hh hp2
 have HA0 := Hh ha0
 have HLN := Hh lnum
 have HD := Hh dn
 clear h hAA hl hAl o53 hp1 hp2 ha0 lnum dn
 go_enter Tryz.func60, Tryz.ntmps60
 go_wp2_with (first
 | ((with_reducible refine Yf 3 ?_); refine wpList_boxE T0.out 127 _ AA rfl rfl rfl ?_; intro w1 g1 t1
    have T1 := Hh t1
    have k0 : w1.cell? ⟨g1, 0, none⟩ = some (.int .i64 1) := by rw [(t1.get 0 rfl).read]; simpa using HA0.out
    clear t1)
 | (go_at_call 96; refine (ofAct_any 1 w1).mono ?_; rintro e w2 ⟨rfl, b2⟩
    have T2 := Hh (T1.out.call b2)
    clear b2)
 | ((with_reducible refine Yf 4 ?_); refine Xe T2.out 93 _ rfl rfl z_ins ?_; intro w3 g3 t3
    have T3 := Hh t3
    clear t3)
 | ((with_reducible refine Zr 4 8 ?_); refine Ze 93 _ _ 93 g3 _ [.int .i64 10, .int .i64 0, .int .i64 0, .int .i64 0] (T3.out.get 1 rfl) rfl size_ins (by simp [Value.oneCell']) rfl rfl rfl rfl rfl ?_
    intro w4 p4
    have G4 := Hh (G2.start HG.out (T3.out.put 1 rfl p4))
    have k0 : w4.cell? ⟨g1, 0, none⟩ = some (.int .i64 1) := by rw [G4.out.b1.read]; simpa using HA0.out
    clear p4)
 | ((with_reducible refine Yf 17 ?_); refine wpList_loadP 123 _ 127 g1 9 _ num _ (by have := G4.out.b1; rw [HP2.out] at this; exact this) rfl Xs (by rw [HLN.out]; exact Yq) rfl rfl rfl ?_)
 | (go_at_call 92; refine (hx B _ p C S N _ k xs ns num G4.out.at_ (gDeep HG.out G4.out.step HD.out) (by have := HL.out; omega) (Nat.le_trans hB G4.out.step.keeps.size)).mono ?_; rintro e w7 ⟨rfl, C2, a7, s7⟩
    have G7 := Hh (G4.out.call a7 s7)
    clear a7 s7)
 | ((with_reducible refine Yf 21 ?_); refine wpList_loadP 60 _ 127 g1 3 _ [.int .i64 k1, .int .i64 sd, .int .i64 wh, .int .i64 ln, .slice F 0 fd, .int .i64 pk] _ (by have := G7.out.b1; rw [HP1.out] at this; exact this) rfl row_sel Xa rfl rfl rfl ?_)
 | (go_at_call 95; refine (gSel B _ p C2 S N _ k xs ns k1 sd wh ln pk (.slice F 0 fd) (fun v _ => ∃ V d, v = .slice V 0 d) G7.out.at_ (by omega) (Nat.le_trans hB G7.out.step.keeps.size) (fun y _ => (gClone0 y F fd).mono fun e y' hh => by obtain ⟨V, d, e1, e2⟩ := hh; exact ⟨V, 0, d, e1, e2, V, d, rfl⟩)).mono ?_; rintro e w8 ⟨rfl, S2, v, a8, s8, _, V8, d8, rfl⟩
    have G8 := Hh (G7.out.call a8 s8)
    have q1 : w8.cell? ⟨g3, 1, none⟩ = some (.int .i64 0) := by rw [G8.out.b3.read]; rfl
    have z1 := G8.out.b3.thawed 1
    have G9 := Hh (G8.out.set3 1 (.int .i64 (k : Int)))
    obtain ⟨j0, j1, j2, j3⟩ := Yj G9.out.b3
    clear a8 s8)
 | (go_at_call 93; refine (gPut B _ p C2 S2 N _ _ _ ns ⟨10, (k : Int), 0, 0⟩ G9.out.at_ (by have := HL.out; simp; omega) (Nat.le_trans hB G9.out.step.keeps.size)).mono ?_; rintro e w10 ⟨rfl, C3, a10, s10⟩
    have A10 := Hh a10
    have S10 := Hh (G9.out.step.trans s10)
    clear a10 s10))
 go_end0
 exact ⟨rfl, C3, S2, V8, d8, A10.out, S10.out⟩
end Go.Proofs.YtjacgcjjdebbbaaGreat
