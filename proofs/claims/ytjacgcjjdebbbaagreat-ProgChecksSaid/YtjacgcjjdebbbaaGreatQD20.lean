/-
  Texts Gen5. No conditions but those that each theorem names.
-/
import Derived.Test.YtjacgcjjdebbbaaGreatQD19
namespace Go.Proofs.YtjacgcjjdebbbaaGreat
open Go.ChangeShapes Go.WideShapes Go.ChangeAt Go.RowKit
set_option linter.unusedVariables false
set_option linter.unusedSimpArgs false
theorem wpList_loadR {P : Program} {ops : Array Oper} {rest : List Oper} {o : Oper} {a : Act} {w : World} {Q : Exit → Act → World → Prop} (T : TypeId) (x : Operand) (g n : Nat) (vs : List Value) (hR : w.rangeAt g n vs)
   (hu : (P.underlying T).map TypeDesc.isRow = some true) (hi : (P.info? T).map (·.size) = some vs.length)
   (hgd : o.guard = none) (ho : o.op = .load T x) (hx : a.eval x = .pointer (some ⟨g, n, none⟩))
   (h : wpList P ops Q rest (a.put o.dst (.agg vs.toArray)) w) : wpList P ops Q (o :: rest) a w := by
 obtain ⟨d, hu, hr⟩ := Option.map_eq_some_iff.1 hu
 exact wpList_load_mid hgd T x ho g n hx vs d hR hu hr hi h
theorem z_expr : (Tryz.prog.info? 123).map (fun i => i.zero.map Value.cells) = some (some ([.int .i64 0, .int .i64 0, .int .i64 0, .int .i64 0, .int .i64 0, .int .i64 0, .slice none 0 0, .int .i64 0, .int .i64 0, .int .i64 0, .int .i64 0, .slice none 0 0] : List Value).toArray) := by kernel_rfl
structure GBin (B : Nat) (w : World) (p : Nat) (C S N : Value) (l : List IV) (k : Nat) (xs ns : List Value) (g1 g3 : Nat) (xv yv : List Value) (C' : Value) (x : World) : Prop where
 at_ : GAt B x p C' S N l k xs ns
 step : Xm p C S N w C' S N x
 b1 : Zb x g1 123 xv.toArray
 b3 : Zb x g3 93 yv.toArray
 a1 : Aside x p C' S N g1
 a3 : Aside x p C' S N g3
 ne : g1 ≠ g3
theorem GBin.next {B : Nat} {w : World} {p : Nat} {C S N : Value} {l : List IV} {k : Nat} {xs ns : List Value} {g1 g3 : Nat} {xv yv : List Value} {C' : Value} {x y : World} (h : GBin B w p C S N l k xs ns g1 g3 xv yv C' x) (hb : Below x.heap.size x y) : GBin B w p C S N l k xs ns g1 g3 xv yv C' y :=
 ⟨h.at_.below hb, h.step.trans (Xm.of_below hb), h.b1.below hb h.a1.1, h.b3.below hb h.a3.1, (Xm.of_below hb).aside h.a1, (Xm.of_below hb).aside h.a3, h.ne⟩
theorem GBin.call {B : Nat} {w : World} {p : Nat} {C S N : Value} {l l' : List IV} {k : Nat} {xs ns : List Value} {g1 g3 : Nat} {xv yv : List Value} {C' C2 : Value} {x y : World} (h : GBin B w p C S N l k xs ns g1 g3 xv yv C' x) (ha : GAt B y p C2 S N l' k xs ns) (hs : Xm p C' S N x C2 S N y) : GBin B w p C S N l' k xs ns g1 g3 xv yv C2 y :=
 ⟨ha, h.step.trans hs, hs.keeps.whole h.b1 h.a1.2, hs.keeps.whole h.b3 h.a3.2, hs.aside h.a1, hs.aside h.a3, h.ne⟩
theorem GBin.set3 {B : Nat} {w : World} {p : Nat} {C S N : Value} {l : List IV} {k : Nat} {xs ns : List Value} {g1 g3 : Nat} {xv yv : List Value} {C' : Value} {x : World} (h : GBin B w p C S N l k xs ns g1 g3 xv yv C' x) (hw : w.heap.size ≤ g3) (hbw : Below w.heap.size w x → True) (j : Nat) (v : Value) : GBin B w p C S N l k xs ns g1 g3 xv (yv.set j v) C' (x.setCell ⟨g3, j, none⟩ v) := by
 have e : Zb (x.setCell ⟨g3, j, none⟩ v) g3 93 (yv.set j v).toArray := by have := h.b3.write j v; simpa using this
 refine ⟨h.at_.setAside h.a3.2 v, ⟨?_, fun q hq => h.step.fresh q hq⟩, h.b1.aside (fun c => h.ne c) v, e, ⟨by simpa using h.a1.1, h.a1.2⟩, ⟨by simpa using h.a3.1, h.a3.2⟩, h.ne⟩
 exact ⟨h.step.keeps.os, h.step.keeps.tape, h.step.keeps.output, by have := h.step.keeps.size; simpa [World.setCell] using this, fun q hq hn => (Below.heap_setCell _ _ _ _ (by simp; omega)).trans (h.step.keeps.block q hq hn)⟩
theorem GAt.out_ {B : Nat} {w : World} {p : Nat} {C S N : Value} {l : List IV} {k : Nat} {xs ns : List Value} (h : GAt B w p C S N l k xs ns) {g : Nat} (hg : w.heap.size ≤ g) : ¬ gown p C S N g := fun c => by
 rcases c with c | c | c | c
 · have := h.whole.inside; omega
 · have := (h.code.lt _ c).2; omega
 · have := (h.sels.lt _ c).2; omega
 · have := (h.names.lt _ c).2; omega
theorem GAt.old {B : Nat} {w : World} {p : Nat} {C S N : Value} {l : List IV} {k : Nat} {xs ns : List Value} (h : GAt B w p C S N l k xs ns) {g : Nat} (hg : g < B) : ¬ gown p C S N g := fun c => by
 rcases c with c | c | c | c
 · have := h.pB; omega
 · have := (h.code.lt _ c).1; omega
 · have := (h.sels.lt _ c).1; omega
 · have := (h.names.lt _ c).1; omega
theorem Vn {S : Nat → Prop} {w w' : World} (hk : Zg S w w') {g m : Nat} {vs : List Value} (hg : g < w.heap.size) (hn : ¬ S g) (h : w.rangeAt g m vs) : w'.rangeAt g m vs := fun j v hv =>
 (World.cell?_of_block (a := ⟨g, m + j, none⟩) (hk.block g hg hn)).trans (h j v hv)
def kidsC (L R : Ex) : Nat → List IV
 | 0 => []
 | 1 => Wp L
 | _ => Wp L ++ Wp R
def GOK (x : Ex) : Prop := ∀ (B : Nat) (w : World) (p : Nat) (C S N : Value) (l : List IV) (k : Nat) (xs ns xv : List Value), GAt B w p C S N l k xs ns → Deep (fun q => q < B) w x.ds xv → l.length + (Wp x).length ≤ 1000000 → B ≤ w.heap.size →
 Calls Tryz.prog 92 #[.pointer (some ⟨p, 0, none⟩), .agg xv.toArray] w (GPost B w p C S N (l ++ Wp x) k xs ns)
theorem gDeep {B : Nat} {w w' : World} {p : Nat} {C S N C' : Value} {l : List IV} {k : Nat} {xs ns : List Value} (h : GAt B w p C S N l k xs ns) (hs : Xm p C S N w C' S N w') {ds : Ds} {vs : List Value} (hd : Deep (fun q => q < B) w ds vs) : Deep (fun q => q < B) w' ds vs :=
 hd.keeps hs.keeps fun q hq hb => ⟨fun c => by
   rcases c with c | c | c | c
   · have := h.pB; omega
   · have := (h.code.lt _ c).1; omega
   · have := (h.sels.lt _ c).1; omega
   · have := (h.names.lt _ c).1; omega, hb⟩
theorem gRange {w : World} {kb : Nat} {a b : List Value} {m sz : Nat} (hc : ∀ j, j < (a ++ b).length → w.cell? ⟨kb, j, none⟩ = (a ++ b)[j]?) (hm : a.length = m) : w.rangeAt kb m b := fun j v hv => by
 have hj : j < b.length := by rcases Nat.lt_or_ge j b.length with h | h; exact h; rw [List.getElem?_eq_none h] at hv; cases hv
 rw [hc (m + j) (by simp; omega), ← hm, List.getElem?_append_right (by omega), Nat.add_sub_cancel_left, hv]
theorem gRange0 {w : World} {kb : Nat} {a b : List Value} (hc : ∀ j, j < (a ++ b).length → w.cell? ⟨kb, j, none⟩ = (a ++ b)[j]?) : w.rangeAt kb 0 a := fun j v hv => by
 have hj : j < a.length := by rcases Nat.lt_or_ge j a.length with h | h; exact h; rw [List.getElem?_eq_none h] at hv; cases hv
 rw [Nat.zero_add, hc j (by simp; omega), List.getElem?_append_left hj, hv]
set_option maxRecDepth 20000 in
set_option maxHeartbeats 6400000 in
theorem gBin (op : Int) (L R : Ex) (hL : GOK L) (hR : GOK R) : GOK (.bin op L R) := by
 intro B w p C S N l k xs ns xv h hd hl hB
 obtain ⟨_, rfl, _, rfl, _, rfl, _, rfl, _, rfl, _, rfl, A0, c0, z0, _, rfl, _, _, _, _, rfl, _, rfl, _, rfl, _, rfl, A, cap, ys, _, rfl, _, hw, hy, hnil⟩ := hd
 cases hnil
 obtain ⟨lv, rv, rfl, dl, dr⟩ := Deep.split (x := L.ds) hy
 have ll := dl.len.trans (Ex.ds_len L)
 have lr := dr.len.trans (Ex.ds_len R)
 rcases hw with hw | ⟨kb, rfl, hkb, hkw, hcell⟩
 · rw [List.append_eq_nil_iff] at hw; rw [hw.1] at ll; cases ll
 have hlen : (Wp (.bin op L R)).length = (Wp L).length + (Wp R).length + 1 := by simp [Wp]; omega
 rw [hlen] at hl
 have hcode : Wp (.bin op L R) = Wp L ++ Wp R ++ [⟨insOf op ofSignL, 0, 0, 0⟩] := rfl
 rw [hcode]
 have T0 := Hh (Env.start w)
 have HG := Hh h
 have HLN := Hh hl
 clear hcode hlen
 go_enter Tryz.func92, Tryz.ntmps92
 go_wp2_with (first
 | ((with_reducible refine Yf 3 ?_); refine wpList_boxE T0.out 123 _ [.int .i64 7, .int .i64 op, .int .i64 0, .int .i64 0, .int .i64 0, .int .i64 0, .slice A0 0 c0, .int .i64 0, .int .i64 0, .int .i64 0, .int .i64 0, .slice (some ⟨kb, 0, none⟩) 2 cap] rfl rfl rfl ?_; intro w1 g1 t1
    have T1 := Hh t1
    have k0 : w1.cell? ⟨g1, 0, none⟩ = some (.int .i64 7) := by rw [(t1.get 0 rfl).read]; rfl
    clear t1)
 | (go_at_call 121; refine (ofExpr_any 7 w1).mono ?_; rintro e w2 ⟨rfl, b2⟩
    have T2 := Hh (T1.out.call b2)
    clear b2)
 | ((with_reducible refine Yf 4 ?_); refine Xe T2.out 93 _ rfl rfl z_ins ?_; intro w3 g3 t3
    have T3 := Hh t3
    clear t3)
 | ((with_reducible refine Zr 4 10 ?_); refine Ze 93 _ _ 93 g3 _ [.int .i64 0, .int .i64 0, .int .i64 0, .int .i64 0] (T3.out.get 1 rfl) rfl size_ins (by simp [Value.oneCell']) rfl rfl rfl rfl rfl ?_
    intro w4 p4
    have T4 : Hid (Env w [(g1, 123, [.int .i64 7, .int .i64 op, .int .i64 0, .int .i64 0, .int .i64 0, .int .i64 0, .slice A0 0 c0, .int .i64 0, .int .i64 0, .int .i64 0, .int .i64 0, .slice (some ⟨kb, 0, none⟩) 2 cap]), (g3, 93, [.int .i64 0, .int .i64 0, .int .i64 0, .int .i64 0])] [] [] w4) := Hh (T3.out.put 1 rfl p4)
    have k0 : w4.cell? ⟨g1, 0, none⟩ = some (.int .i64 7) := by rw [(T4.out.get 0 rfl).read]; rfl
    have k11 : w4.cell? ⟨g1, 11, none⟩ = some (.slice (some ⟨kb, 0, none⟩) 2 cap) := by rw [(T4.out.get 0 rfl).read]; rfl
    clear p4))
 have B0 : Hid (GBin B w p C S N (l ++ kidsC L R 0) k xs ns g1 g3 [.int .i64 7, .int .i64 op, .int .i64 0, .int .i64 0, .int .i64 0, .int .i64 0, .slice A0 0 c0, .int .i64 0, .int .i64 0, .int .i64 0, .int .i64 0, .slice (some ⟨kb, 0, none⟩) 2 cap] [.int .i64 0, .int .i64 0, .int .i64 0, .int .i64 0] C w4) := Hh (by
   have hne : g1 ≠ g3 := by have := T4.out.nod; simpa using this
   have l1 : w.heap.size ≤ g1 := T4.out.lo (g1, 123, [.int .i64 7, .int .i64 op, .int .i64 0, .int .i64 0, .int .i64 0, .int .i64 0, .slice A0 0 c0, .int .i64 0, .int .i64 0, .int .i64 0, .int .i64 0, .slice (some ⟨kb, 0, none⟩) 2 cap]) (by simp)
   have l3 : w.heap.size ≤ g3 := T4.out.lo (g3, 93, [.int .i64 0, .int .i64 0, .int .i64 0, .int .i64 0]) (by simp)
   refine ⟨by simpa [kidsC] using HG.out.below T4.out.below, Xm.of_below T4.out.below, T4.out.get 0 rfl, T4.out.get 1 rfl, ⟨(T4.out.get 0 rfl).inside, HG.out.out_ l1⟩, ⟨(T4.out.get 1 rfl).inside, HG.out.out_ l3⟩, hne⟩)
 have hg3 : w.heap.size ≤ g3 := T4.out.lo (g3, 93, [.int .i64 0, .int .i64 0, .int .i64 0, .int .i64 0]) (by simp)
 clear k0 k11
 go_loopw [49] (fun i wr => ∃ (m : Nat) (C' : Value), i = .int .i64 (m : Int) ∧ m ≤ 2 ∧ GBin B w p C S N (l ++ kidsC L R m) k xs ns g1 g3 [.int .i64 7, .int .i64 op, .int .i64 0, .int .i64 0, .int .i64 0, .int .i64 0, .slice A0 0 c0, .int .i64 0, .int .i64 0, .int .i64 0, .int .i64 0, .slice (some ⟨kb, 0, none⟩) 2 cap] [.int .i64 0, .int .i64 0, .int .i64 0, .int .i64 0] C' wr) (fun i _ => 2 - (intOf i).toNat)
 case atStart => exact ⟨0, C, rfl, by omega, B0.out⟩
 case round =>
   obtain ⟨m, C', rfl, hm, hb⟩ := hrel
   have HB := Hh hb
   clear hb
   have hmc : m = 0 ∨ m = 1 ∨ m = 2 := by omega
   rcases hmc with rfl | rfl | rfl
   · have hr0 := Vn HB.out.step.keeps hkw (HG.out.old hkb) (gRange0 hcell)
     have hdk := gDeep HG.out HB.out.step dl
     have R0 := Hh (Env.start wr)
     have HR := Hh hr0
     have HD := Hh hdk
     clear hr0 hdk
     go_wp2_with (first
 | ((with_reducible refine Yf 52 ?_); refine wpList_loadR 123 _ kb 0 lv HR.out Xs (by rw [ll]; exact Yq) rfl rfl rfl ?_)
 | ((with_reducible refine Yf 6 ?_); refine Xe R0.out 123 _ rfl rfl z_expr ?_; intro w5 g5 t5
    have R1 := Hh t5
    clear t5)
 | ((with_reducible refine Zr 6 52 ?_); refine Ze 123 _ _ 123 g5 _ lv (R1.out.get 0 rfl) (by rw [ll]; rfl) (by rw [ll]; exact Yq) dl.one rfl rfl rfl rfl rfl ?_
    intro w6 p6
    have R2 := Hh (R1.out.put 0 rfl p6)
    clear p6)
 | ((with_reducible refine Yf 54 ?_); refine Zj 123 _ 123 g5 lv (R2.out.get 0 rfl) Xs (by rw [ll]; exact Yq) rfl rfl rfl ?_)
 | (go_at_call 92; refine (hL B _ p C' S N _ k xs ns lv (HB.out.next R2.out.below).at_ (HD.out.below R2.out.below) (by have := HLN.out; simp [kidsC]; omega) (Nat.le_trans hB (Nat.le_trans HB.out.step.keeps.size R2.out.below.size))).mono ?_; rintro e w7 ⟨rfl, C2, a7, s7⟩
    have B7 := Hh ((HB.out.next R2.out.below).call a7 s7)
    clear a7 s7))
     go_roundw
     case rel => exact ⟨1, C2, rfl, by omega, by have := B7.out; simpa [kidsC] using this⟩
     case measure => simp [intOf]
   · have hr0 := Vn HB.out.step.keeps hkw (HG.out.old hkb) (gRange (sz := 12) hcell ll)
     have hdk := gDeep HG.out HB.out.step dr
     have R0 := Hh (Env.start wr)
     have HR := Hh hr0
     have HD := Hh hdk
     clear hr0 hdk
     go_wp2_with (first
 | ((with_reducible refine Yf 52 ?_); refine wpList_loadR 123 _ kb 12 rv HR.out Xs (by rw [lr]; exact Yq) rfl rfl rfl ?_)
 | ((with_reducible refine Yf 6 ?_); refine Xe R0.out 123 _ rfl rfl z_expr ?_; intro w5 g5 t5
    have R1 := Hh t5
    clear t5)
 | ((with_reducible refine Zr 6 52 ?_); refine Ze 123 _ _ 123 g5 _ rv (R1.out.get 0 rfl) (by rw [lr]; rfl) (by rw [lr]; exact Yq) dr.one rfl rfl rfl rfl rfl ?_
    intro w6 p6
    have R2 := Hh (R1.out.put 0 rfl p6)
    clear p6)
 | ((with_reducible refine Yf 54 ?_); refine Zj 123 _ 123 g5 rv (R2.out.get 0 rfl) Xs (by rw [lr]; exact Yq) rfl rfl rfl ?_)
 | (go_at_call 92; refine (hR B _ p C' S N _ k xs ns rv (HB.out.next R2.out.below).at_ (HD.out.below R2.out.below) (by have := HLN.out; simp [kidsC]; omega) (Nat.le_trans hB (Nat.le_trans HB.out.step.keeps.size R2.out.below.size))).mono ?_; rintro e w7 ⟨rfl, C2, a7, s7⟩
    have B7 := Hh ((HB.out.next R2.out.below).call a7 s7)
    clear a7 s7))
     go_roundw
     case rel => exact ⟨2, C2, rfl, by omega, by have := B7.out; simpa [kidsC] using this⟩
     case measure => simp [intOf]
   · have k1 : wr.cell? ⟨g1, 1, none⟩ = some (.int .i64 op) := by rw [HB.out.b1.read]; rfl
     go_wp2_with (first
 | (go_at_call 122; refine (ofSign_any op wr).mono ?_; rintro e w8 ⟨rfl, b8⟩
    have B8 := Hh (HB.out.next b8)
    have q0 : w8.cell? ⟨g3, 0, none⟩ = some (.int .i64 0) := by rw [B8.out.b3.read]; rfl
    have z0 := B8.out.b3.thawed 0
    have B9 := Hh (B8.out.set3 hg3 (fun _ => trivial) 0 (.int .i64 (insOf op ofSignL)))
    obtain ⟨j0, j1, j2, j3⟩ := Yj B9.out.b3
    clear b8)
 | (go_at_call 93; refine (gPut B _ p C' S N _ k xs ns ⟨insOf op ofSignL, 0, 0, 0⟩ B9.out.at_ (by have := HLN.out; simp [kidsC]; omega) (Nat.le_trans hB B9.out.step.keeps.size)).mono ?_; rintro e w10 ⟨rfl, C3, a10, s10⟩
    have A10 := Hh a10
    have S10 := Hh (B9.out.step.trans s10)
    clear a10 s10))
     exact bodyPost_ret (v := .tuple #[]) (by simp [results, Tryz.results92, go_sem]) rfl ⟨rfl, C3, by have := A10.out; simpa [kidsC] using this, S10.out⟩
end Go.Proofs.YtjacgcjjdebbbaaGreat
