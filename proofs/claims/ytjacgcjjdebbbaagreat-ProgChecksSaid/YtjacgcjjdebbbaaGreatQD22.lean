/-
  Texts Gen7. No conditions but those that each theorem names.
-/
import Derived.Test.YtjacgcjjdebbbaaGreatQD21
namespace Go.Proofs.YtjacgcjjdebbbaaGreat
open Go.ChangeShapes Go.WideShapes Go.ChangeAt Go.RowKit
set_option linter.unusedVariables false
set_option linter.unusedSimpArgs false
def gzact : List Value := Zk 0 0 0 [.int .i64 0, .int .i64 0, .int .i64 0, .int .i64 0, .slice none 0 0, .int .i64 0] zexL 0 0 0 0 ⟨#[]⟩ 0 zexL zexL (.slice none 0 0) (.slice none 0 0)
theorem gz_act : (Tryz.prog.info? 127).map (fun i => i.zero.map Value.cells) = some (some gzact.toArray) := by kernel_rfl
set_option maxRecDepth 20000 in
set_option maxHeartbeats 6400000 in
theorem gActs1 (B : Nat) (w : World) (p : Nat) (C S N : Value) (l : List IV) (k : Nat) (xs ns : List Value) (x : Ex) (hx : GOK x) (l0 c0 k1 sd wh ln pk d1 d2 d3 d4 d5 : Int) (F : Option Addr) (fd : Nat) (num cl cr : List Value) (nm : ByteArray) (thn els : Value) (ab cap : Nat)
   (h : GAt B w p C S N l k xs ns) (hab : ab < B) (hr : w.rangeAt ab 0 (Zk 1 l0 c0 [.int .i64 k1, .int .i64 sd, .int .i64 wh, .int .i64 ln, .slice F 0 fd, .int .i64 pk] num d1 d2 d3 d4 nm d5 cl cr thn els)) (dn : Deep (fun q => q < B) w x.ds num) (lcl : cl.length = 12) (lcr : cr.length = 12) (o53 : ∀ v ∈ (Zk 1 l0 c0 [.int .i64 k1, .int .i64 sd, .int .i64 wh, .int .i64 ln, .slice F 0 fd, .int .i64 pk] num d1 d2 d3 d4 nm d5 cl cr thn els), v.oneCell' = true) (hl : l.length + (Wp x).length ≤ 900000) (hk : k ≤ 1000) (hB : B ≤ w.heap.size) :
   Calls Tryz.prog 35 #[.pointer (some ⟨p, 0, none⟩), .slice (some ⟨ab, 0, none⟩) 1 cap] w fun e w' => e = .returned (.tuple #[]) ∧ ∃ C' S' V d, GAt B w' p C' S' N (l ++ Wp x ++ [⟨10, (k : Int), 0, 0⟩]) (k + 1) (xs ++ [.int .i64 k1, .int .i64 sd, .int .i64 wh, .int .i64 ln, .slice V 0 d, .int .i64 pk]) ns ∧ Xm p C S N w C' S' N w' := by
 have cP := fun y (hy : Below w.heap.size w y) => gPower B y p C S N l k xs ns x hx l0 c0 k1 sd wh ln pk d1 d2 d3 d4 d5 F fd num cl cr nm thn els (h.below hy) (dn.below hy) lcl lcr o53 hl hk (Nat.le_trans hB hy.size)
 have hAl : ((Zk 1 l0 c0 [.int .i64 k1, .int .i64 sd, .int .i64 wh, .int .i64 ln, .slice F 0 fd, .int .i64 pk] num d1 d2 d3 d4 nm d5 cl cr thn els)).length = 53 := by have lnum := dn.len.trans (Ex.ds_len x); simp [Zk, lnum, lcl, lcr]
 have ha0 : ((Zk 1 l0 c0 [.int .i64 k1, .int .i64 sd, .int .i64 wh, .int .i64 ln, .slice F 0 fd, .int .i64 pk] num d1 d2 d3 d4 nm d5 cl cr thn els))[0]? = some (.int .i64 1) := rfl
 have R0 := Hh (Env.start w)
 have hBw := hab
 generalize hAA : (Zk 1 l0 c0 [.int .i64 k1, .int .i64 sd, .int .i64 wh, .int .i64 ln, .slice F 0 fd, .int .i64 pk] num d1 d2 d3 d4 nm d5 cl cr thn els) = AA at *
 have CP := Hh cP
 have HR := Hh hr
 have HAl := Hh hAl
 have HA0 := Hh ha0
 have HO := Hh o53
 clear cP hr hAl ha0 o53 hAA dn h hl
 go_enter Tryz.func35, Tryz.ntmps35
 go_wp2
 go_loopw [8] (fun i wr => (i = .int .i64 0 ∧ wr = w) ∨ (i = .int .i64 1 ∧ ∃ C' S' V d, GAt B wr p C' S' N (l ++ Wp x ++ [⟨10, (k : Int), 0, 0⟩]) (k + 1) (xs ++ [.int .i64 k1, .int .i64 sd, .int .i64 wh, .int .i64 ln, .slice V 0 d, .int .i64 pk]) ns ∧ Xm p C S N w C' S' N wr)) (fun i _ => 1 - (intOf i).toNat)
 case atStart => exact .inl ⟨rfl, rfl⟩
 case round =>
   rcases hrel with ⟨rfl, rfl⟩ | ⟨rfl, C', S', V, d, ha, hs⟩
   · go_wp2_with (first
 | ((with_reducible refine Yf 11 ?_); refine wpList_loadR 127 _ ab 0 AA HR.out Yh (Zl HAl.out) rfl rfl rfl ?_)
 | ((with_reducible refine Yf 5 ?_); refine Xe R0.out 127 _ rfl rfl gz_act ?_; intro w3 g3 t3
    have R1 := Hh t3
    clear t3)
 | ((with_reducible refine Zr 5 11 ?_); refine Ze 127 _ _ 127 g3 _ AA (R1.out.get 0 rfl) (by rw [HAl.out]; rfl) (Zl HAl.out) HO.out rfl rfl rfl rfl rfl ?_
    intro w4 p4
    have R2 := Hh (R1.out.put 0 rfl p4)
    have k0 : w4.cell? ⟨g3, 0, none⟩ = some (.int .i64 1) := by rw [(R2.out.get 0 rfl).read]; simpa using HA0.out
    clear p4)
 | ((with_reducible refine Yf 15 ?_); refine Zj 127 _ 127 g3 AA (R2.out.get 0 rfl) Yh (Zl HAl.out) rfl rfl rfl ?_)
 | (go_at_call 60; refine (CP.out _ R2.out.below).mono ?_; rintro e w7 ⟨rfl, C2, S2, V2, d2, a7, s7⟩
    have A7 := Hh a7
    have S7 := Hh ((Xm.of_below R2.out.below).trans s7)
    clear a7 s7))
     go_roundw
     case rel => exact .inr ⟨rfl, C2, S2, V2, d2, A7.out, S7.out⟩
     case measure => simp [intOf]
   · have HA := Hh ha
     have HS := Hh hs
     clear ha hs
     go_wp2
     go_end0
     exact ⟨rfl, C', S', V, d, HA.out, HS.out⟩
set_option maxRecDepth 20000 in
set_option maxHeartbeats 6400000 in
theorem gCode1 (w : World) (x : Ex) (hx : GOK x) (l0 c0 k1 sd wh ln pk d1 d2 d3 d4 d5 : Int) (F : Option Addr) (fd : Nat) (num cl cr : List Value) (nm : ByteArray) (thn els : Value) (ab cap : Nat)
   (hab : ab < w.heap.size) (hr : w.rangeAt ab 0 (Zk 1 l0 c0 [.int .i64 k1, .int .i64 sd, .int .i64 wh, .int .i64 ln, .slice F 0 fd, .int .i64 pk] num d1 d2 d3 d4 nm d5 cl cr thn els)) (dn : Deep (fun q => q < w.heap.size) w x.ds num) (lcl : cl.length = 12) (lcr : cr.length = 12) (o53 : ∀ v ∈ (Zk 1 l0 c0 [.int .i64 k1, .int .i64 sd, .int .i64 wh, .int .i64 ln, .slice F 0 fd, .int .i64 pk] num d1 d2 d3 d4 nm d5 cl cr thn els), v.oneCell' = true) (hl : (Wp x).length ≤ 900000) :
   Calls Tryz.prog 17 #[.slice (some ⟨ab, 0, none⟩) 1 cap] w fun e w' => ∃ C S V d, e = .returned (.agg #[C, S, .slice none 0 0]) ∧ w'.ownsRow w.heap.size 93 4 C ((Wp x).length + 1) (ivs (Wp x ++ [⟨10, 0, 0, 0⟩])) ∧
     w'.ownsRow w.heap.size 60 6 S 1 [.int .i64 k1, .int .i64 sd, .int .i64 wh, .int .i64 ln, .slice V 0 d, .int .i64 pk] ∧ Below w.heap.size w w' := by
 have t1 : Env w [(w.heap.size, 27, [.slice none 0 0, .slice none 0 0, .slice none 0 0])] [] [] (w.alloc (.cells #[.slice none 0 0, .slice none 0 0, .slice none 0 0] 27)) := by simpa using (Env.start w).box 27 [.slice none 0 0, .slice none 0 0, .slice none 0 0]
 have t2 : Env w [(w.heap.size, 27, [.slice none 0 0, .slice none 0 0, .slice none 0 0]), (w.heap.size + 1, 89, [.slice none 0 0, .slice none 0 0, .slice none 0 0])] [] []
     ((w.alloc (.cells #[.slice none 0 0, .slice none 0 0, .slice none 0 0] 27)).alloc (.cells #[.slice none 0 0, .slice none 0 0, .slice none 0 0] 89)) := by simpa using t1.box 89 [.slice none 0 0, .slice none 0 0, .slice none 0 0]
 have T2 := Hh t2
 have ga : GAt w.heap.size _ (w.heap.size + 1) (.slice none 0 0) (.slice none 0 0) (.slice none 0 0) [] 0 [] [] :=
   ⟨t2.get 1 rfl, World.ownsRow_nil _ _ _ _, World.ownsRow_nil _ _ _ _, World.ownsRow_nil _ _ _ _, by omega, by simp [Value.ownBlock], by simp [Value.ownBlock], by simp [Value.ownBlock], Vy.nil _, Vy.nil _, Vy.nil _⟩
 have cA := gActs1 w.heap.size _ (w.heap.size + 1) _ _ _ [] 0 [] [] x hx l0 c0 k1 sd wh ln pk d1 d2 d3 d4 d5 F fd num cl cr nm thn els ab cap ga hab (Vn (Zg.of_below (S := fun _ => False) t2.below) hab (fun h => h) hr) (dn.below t2.below) lcl lcr o53 (by simpa using hl) (by omega) t2.below.size
 have CA := Hh cA
 clear t1 t2 ga cA hr dn o53
 go_enter Tryz.func17, Tryz.ntmps17
 go_wp2_with (first
 | (go_at_call 35; refine CA.out.mono ?_; rintro e w5 ⟨rfl, C5, S5, V5, d5', a5, s5⟩
    have A5 := Hh a5
    have S5' := Hh s5
    have hnp : ¬ gown (w.heap.size + 1) (.slice none 0 0) (.slice none 0 0) (.slice none 0 0) w.heap.size := by rintro (c | c | c | c) <;> simp [Value.ownBlock] at c
    have hfr : ∀ q, gown (w.heap.size + 1) C5 S5 (.slice none 0 0) q → q ≠ w.heap.size := fun q hq => by
      rcases s5.fresh q hq with (c | c | c | c) | c
      · omega
      · simp [Value.ownBlock] at c
      · simp [Value.ownBlock] at c
      · simp [Value.ownBlock] at c
      · simp at c; omega
    have R5 := Hh (s5.keeps.whole (T2.out.get 0 rfl) hnp)
    have B5 := Hh (T2.out.below.trans (s5.keeps.below (B := w.heap.size) T2.out.below.size (by rintro q (c | c | c | c) <;> first | omega | (simp [Value.ownBlock] at c))))
    have HF := Hh hfr
    clear a5 s5 hnp hfr)
 | ((with_reducible refine Yf 7 ?_); refine Zj 27 _ 89 (w.heap.size + 1) _ A5.out.whole row_prg size_prg rfl rfl rfl ?_)
 | ((with_reducible refine Zr 2 7 ?_); refine Ze 27 _ _ 27 w.heap.size _ [C5, S5, .slice none 0 0] R5.out rfl size_prg (by obtain ⟨Ca, Cb, hC, _⟩ := Xn A5.out.code; obtain ⟨Sa, Sb, hS, _⟩ := Xn A5.out.sels; simp [hC, hS, Value.oneCell']) rfl rfl rfl rfl rfl ?_
    intro w6 p6
    have P6 := Hh p6
    clear p6))
 have k6 := P6.out.keeps
 exact Yc 2 27 27 w.heap.size _ rfl P6.out.whole row_prg size_prg rfl rfl ⟨C5, S5, V5, d5', rfl, by have := k6.owns A5.out.code (fun q hq c => HF.out q (.inr (.inl hq)) c); simpa using this, by have := k6.owns A5.out.sels (fun q hq c => HF.out q (.inr (.inr (.inl hq))) c); simpa using this, B5.out.trans (k6.below (B := w.heap.size) B5.out.size (by rintro q rfl; omega))⟩
end Go.Proofs.YtjacgcjjdebbbaaGreat
