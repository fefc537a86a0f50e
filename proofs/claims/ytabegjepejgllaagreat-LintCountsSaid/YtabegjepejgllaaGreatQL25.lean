/-
  Texts SynB2, SynB3. No conditions but those that each theorem names.
-/
import Derived.RegionTactic
import Derived.Test.YtabegjepejgllaaGreatQL24
namespace Go.Proofs.YtabegjepejgllaaGreat
open Go.ChangeShapes Go.WideShapes Go.ChangeAt Go.RowKit
set_option linter.unusedVariables false
set_option linter.unusedSimpArgs false
def Ca.ds (x : Ca) : Ds := .str x.name (.int x.cost (.int x.power (.int x.line (.int x.col (.row x.rules.length (rusDs x.rules) .nil)))))
def Pl.ds (x : Pl) : Ds := .str x.name (.int x.line (.int x.col (.row x.rules.length (rusDs x.rules) .nil)))
def casDs : List Ca → Ds
 | [] => .nil
 | x :: r => x.ds.app (casDs r)
def plsDs : List Pl → Ds
 | [] => .nil
 | x :: r => x.ds.app (plsDs r)
theorem casDs_snoc (x : Ca) : ∀ l : List Ca, casDs (l ++ [x]) = (casDs l).app x.ds
 | [] => Ds.app_nil _
 | y :: l => by show y.ds.app (casDs (l ++ [x])) = (y.ds.app (casDs l)).app x.ds; rw [casDs_snoc x l, Ds.app_assoc]
theorem plsDs_snoc (x : Pl) : ∀ l : List Pl, plsDs (l ++ [x]) = (plsDs l).app x.ds
 | [] => Ds.app_nil _
 | y :: l => by show y.ds.app (plsDs (l ++ [x])) = (y.ds.app (plsDs l)).app x.ds; rw [plsDs_snoc x l, Ds.app_assoc]
def Fi.ds (x : Fi) : Ds := .row x.cards.length (casDs x.cards) (.row x.places.length (plsDs x.places) .nil)
theorem und_cas : Tryz.prog.underlying 23 = some (.slice 35) := by kernel_rfl
theorem und_pls : Tryz.prog.underlying 24 = some (.slice 38) := by kernel_rfl
theorem info_ca : (Tryz.prog.info? 35).map (fun i => (i.zero, i.size, i.bytes)) = some (some (.agg #[.string ⟨#[]⟩, .int .i64 0, .int .i64 0, .int .i64 0, .int .i64 0, .slice none 0 0]), 6, 72) := by kernel_rfl
theorem info_pl : (Tryz.prog.info? 38).map (fun i => (i.zero, i.size, i.bytes)) = some (some (.agg #[.string ⟨#[]⟩, .int .i64 0, .int .i64 0, .slice none 0 0]), 4, 56) := by kernel_rfl
theorem size_cas : (Tryz.prog.info? 23).map (·.size) = some 1 := by kernel_rfl
theorem size_pls : (Tryz.prog.info? 24).map (·.size) = some 1 := by kernel_rfl
theorem row_fi : (Tryz.prog.underlying 26).map TypeDesc.isRow = some true := by kernel_rfl
theorem size_fi : (Tryz.prog.info? 26).map (·.size) = some 2 := by kernel_rfl
set_option maxRecDepth 20000 in
set_option maxHeartbeats 3200000 in
theorem xcard (w : World) (q c r K : Nat) (L : List TokV) (st : St) (n : Nat) (h : PAt w q c r K L st) (hn : 8 * Zw L st + 9 ≤ n) (hLn : Zw L st ≤ 68719476736) :
   Calls Tryz.prog 138 #[.pointer (some ⟨q, 0, none⟩)] w (Zx w q c r K L (Ub 5 L n 0 0 st).2 (Ub 5 L n 0 0 st).1.ds) := by
 have qin := h.whole.inside
 have cin := h.cin
 have rin := h.rin
 have nb := Za w (.cells #[.string ⟨#[]⟩, .int .i64 0, .int .i64 0, .int .i64 0, .int .i64 0, .slice none 0 0] 35)
 have nb2 := Za (w.alloc (.cells #[.string ⟨#[]⟩, .int .i64 0, .int .i64 0, .int .i64 0, .int .i64 0, .slice none 0 0] 35)) (.cells #[.string ⟨#[]⟩, .int .i64 0, .int .i64 0, .int .i64 0, .int .i64 0, .slice none 0 0] 35)
 have M0 := Hh (((Ye.start h).next nb).next nb2)
 have R0 := Hh (show Zb _ w.heap.size 35 ([.string ⟨#[]⟩, .int .i64 0, .int .i64 0, .int .i64 0, .int .i64 0, .slice none 0 0]).toArray from (Zb.made w 35 #[.string ⟨#[]⟩, .int .i64 0, .int .i64 0, .int .i64 0, .int .i64 0, .slice none 0 0]).alloc (.cells #[.string ⟨#[]⟩, .int .i64 0, .int .i64 0, .int .i64 0, .int .i64 0, .slice none 0 0] 35))
 have T0 := Hh (show Zb _ (w.heap.size + 1) 35 ([.string ⟨#[]⟩, .int .i64 0, .int .i64 0, .int .i64 0, .int .i64 0, .slice none 0 0]).toArray from by have e := Zb.made (w.alloc (.cells #[.string ⟨#[]⟩, .int .i64 0, .int .i64 0, .int .i64 0, .int .i64 0, .slice none 0 0] 35)) 35 #[.string ⟨#[]⟩, .int .i64 0, .int .i64 0, .int .i64 0, .int .i64 0, .slice none 0 0]; rw [World.size_alloc] at e; exact e)
 clear nb nb2
 have hcell := M0.out.at_.cell
 unfold Ub
 have r1 := rem_name L st
 have h1 : ∀ w, PAt w q c r K L st → Calls Tryz.prog 177 #[.pointer (some ⟨q, 0, none⟩), .func (.func 178) #[Xf c st] #[]] w (Ya w q c r K L (Wm L st) (.string (nameN L st))) := fun w h => xreadName w q c r K L st h
 generalize nameN L st = nm at *
 generalize Wm L st = s1 at *
 have r2 := Wc L sCost s1
 have h2 : ∀ w, PAt w q c r K L s1 → Calls Tryz.prog 179 #[.pointer (some ⟨q, 0, none⟩), .string ⟨#[99, 111, 115, 116]⟩] w (Ya w q c r K L (Yu L sCost s1) (.tuple #[])) := fun w h => xwant w q c r K L _ sCost h
 generalize Yu L sCost s1 = s2 at *
 have r3 := rem_int L s2
 have h3 : ∀ w, PAt w q c r K L s2 → Calls Tryz.prog 180 #[.pointer (some ⟨q, 0, none⟩), .func (.func 181) #[Xf c s2] #[]] w (Ya w q c r K L (intS L s2) (.int .i64 (intN L s2))) := fun w h => xreadInt w q c r K L s2 h
 generalize intN L s2 = co at *
 generalize intS L s2 = s3 at *
 have r4 := Wc L sPower s3
 have h4 : ∀ w, PAt w q c r K L s3 → Calls Tryz.prog 179 #[.pointer (some ⟨q, 0, none⟩), .string ⟨#[112, 111, 119, 101, 114]⟩] w (Ya w q c r K L (Yu L sPower s3) (.tuple #[])) := fun w h => xwant w q c r K L _ sPower h
 generalize Yu L sPower s3 = s4 at *
 have r5 := rem_sign L s4
 have h5 : ∀ w, PAt w q c r K L s4 → Calls Tryz.prog 180 #[.pointer (some ⟨q, 0, none⟩), .func (.func 182) #[Xf c s4] #[]] w (Ya w q c r K L (signS L s4) (.int .i64 (signN L s4))) := fun w h => xreadSigned w q c r K L s4 h
 generalize signN L s4 = pw at *
 generalize signS L s4 = s5 at *
 have h6 : ∀ w, PAt w q c r K L s5 → Calls Tryz.prog 183 #[.pointer (some ⟨q, 0, none⟩)] w (Ux w q c r K L (bodyF 5 L n s5).2 (bodyF 5 L n s5).1.length (rusDs (bodyF 5 L n s5).1)) := fun w h => xrules n w q c r K L s5 h (by omega) (by omega)
 generalize bodyF 5 L n s5 = x6 at *
 clear h hn hLn r1 r2 r3 r4 r5
 go_enter Tryz.func138, Tryz.ntmps138
 go_wp2_with (first
 | (go_at_call 177; refine (h1 _ M0.out.at_).mono ?_; rintro e w1 ⟨rfl, m1⟩
    have R1 := Hh (m1.keeps.whole R0.out (by omega))
    have T1 := Hh (m1.keeps.whole T0.out (by omega))
    have M1 := Hh (M0.out.then m1)
    have hz1 : w.heap.size + 2 ≤ w1.heap.size := by have := m1.keeps.size; (try simp at this); omega
    have hcell := M1.out.at_.cell
    clear m1)
 | ((with_reducible refine Zl 11 10 ?_); refine wpList_store1 9 _ _ 35 (w.heap.size + 1) 0 [] (.string ⟨#[]⟩) (.string nm) ([.int .i64 0, .int .i64 0, .int .i64 0, .int .i64 0, .slice none 0 0]) (show Zb _ _ _ _ from T1.out) rfl size_str rfl rfl rfl rfl rfl rfl ?_
    intro w2 p2
    have T2 := Hh (show Zb w2 (w.heap.size + 1) 35 ([.string nm, .int .i64 0, .int .i64 0, .int .i64 0, .int .i64 0, .slice none 0 0]).toArray from by first | exact p2.whole | simpa using p2.whole)
    have R2 := Hh (p2.keeps.whole R1.out (by omega))
    have M2 := Hh (M1.out.put p2 (by omega) qin cin rin)
    have hz2 := Nat.le_trans hz1 p2.keeps.size
    have hcell := M2.out.at_.cell
    clear p2)
 | (go_at_call 179; (with_reducible refine (h2 _ ?_).mono ?_); exact M2.out.at_; rintro e w3 ⟨rfl, m3⟩
    have R3 := Hh (m3.keeps.whole R2.out (by omega))
    have T3 := Hh (m3.keeps.whole T2.out (by omega))
    have M3 := Hh (M2.out.then m3)
    have hz3 := Nat.le_trans hz2 m3.keeps.size
    have hcell := M3.out.at_.cell
    clear m3)
 | (go_at_call 180; (with_reducible refine (h3 _ ?_).mono ?_); exact M3.out.at_; rintro e w4 ⟨rfl, m4⟩
    have R4 := Hh (m4.keeps.whole R3.out (by omega))
    have T4 := Hh (m4.keeps.whole T3.out (by omega))
    have M4 := Hh (M3.out.then m4)
    have hz4 := Nat.le_trans hz3 m4.keeps.size
    have hcell := M4.out.at_.cell
    clear m4)
 | ((with_reducible refine Zl 21 20 ?_); refine wpList_store1 3 _ _ 35 (w.heap.size + 1) 1 [.string nm] (.int .i64 0) (.int .i64 co) ([.int .i64 0, .int .i64 0, .int .i64 0, .slice none 0 0]) (show Zb _ _ _ _ from T4.out) rfl Yo rfl rfl rfl rfl rfl rfl ?_
    intro w5 p5
    have T5 := Hh (show Zb w5 (w.heap.size + 1) 35 ([.string nm, .int .i64 co, .int .i64 0, .int .i64 0, .int .i64 0, .slice none 0 0]).toArray from by first | exact p5.whole | simpa using p5.whole)
    have R5 := Hh (p5.keeps.whole R4.out (by omega))
    have M5 := Hh (M4.out.put p5 (by omega) qin cin rin)
    have hz5 := Nat.le_trans hz4 p5.keeps.size
    have hcell := M5.out.at_.cell
    clear p5)
 | (go_at_call 179; (with_reducible refine (h4 _ ?_).mono ?_); exact M5.out.at_; rintro e w6 ⟨rfl, m6⟩
    have R6 := Hh (m6.keeps.whole R5.out (by omega))
    have T6 := Hh (m6.keeps.whole T5.out (by omega))
    have M6 := Hh (M5.out.then m6)
    have hz6 := Nat.le_trans hz5 m6.keeps.size
    have hcell := M6.out.at_.cell
    clear m6)
 | (go_at_call 180; (with_reducible refine (h5 _ ?_).mono ?_); exact M6.out.at_; rintro e w7 ⟨rfl, m7⟩
    have R7 := Hh (m7.keeps.whole R6.out (by omega))
    have T7 := Hh (m7.keeps.whole T6.out (by omega))
    have M7 := Hh (M6.out.then m7)
    have hz7 := Nat.le_trans hz6 m7.keeps.size
    have hcell := M7.out.at_.cell
    clear m7)
 | ((with_reducible refine Zl 31 30 ?_); refine wpList_store1 3 _ _ 35 (w.heap.size + 1) 2 [.string nm, .int .i64 co] (.int .i64 0) (.int .i64 pw) ([.int .i64 0, .int .i64 0, .slice none 0 0]) (show Zb _ _ _ _ from T7.out) rfl Yo rfl rfl rfl rfl rfl rfl ?_
    intro w8 p8
    have T8 := Hh (show Zb w8 (w.heap.size + 1) 35 ([.string nm, .int .i64 co, .int .i64 pw, .int .i64 0, .int .i64 0, .slice none 0 0]).toArray from by first | exact p8.whole | simpa using p8.whole)
    have R8 := Hh (p8.keeps.whole R7.out (by omega))
    have M8 := Hh (M7.out.put p8 (by omega) qin cin rin)
    have hz8 := Nat.le_trans hz7 p8.keeps.size
    have hcell := M8.out.at_.cell
    clear p8)
 | (go_at_call 183; refine (h6 _ M8.out.at_).mono ?_; rintro e w9 ⟨av, rfl, d9, m9⟩
    have R9 := Hh (m9.keeps.whole R8.out (by omega))
    have T9 := Hh (m9.keeps.whole T8.out (by omega))
    have M9 := Hh (M8.out.then m9)
    have hz9 := Nat.le_trans hz8 m9.keeps.size
    have hcell := M9.out.at_.cell
    have A9 := Hh (d9.lower (show w.heap.size + 2 ≤ _ by first | omega | (simp; done) | (simp; omega)))
    obtain ⟨Aa, Ac, rfl⟩ := A9.out.slice
    clear m9 d9)
 | ((with_reducible refine Zl 34 33 ?_); refine wpList_store1 33 _ _ 35 (w.heap.size + 1) 5 [.string nm, .int .i64 co, .int .i64 pw, .int .i64 0, .int .i64 0] (.slice none 0 0) (.slice Aa x6.1.length Ac) ([]) (show Zb _ _ _ _ from T9.out) rfl size_rus rfl rfl rfl rfl rfl rfl ?_
    intro w10 p10
    have T10 := Hh (show Zb w10 (w.heap.size + 1) 35 ([.string nm, .int .i64 co, .int .i64 pw, .int .i64 0, .int .i64 0, .slice Aa x6.1.length Ac]).toArray from by first | exact p10.whole | simpa using p10.whole)
    have R10 := Hh (p10.keeps.whole R9.out (by omega))
    have A10 := Hh (A9.out.put p10 (by omega))
    have M10 := Hh (M9.out.put p10 (by omega) qin cin rin)
    have hz10 := Nat.le_trans hz9 p10.keeps.size
    have hcell := M10.out.at_.cell
    clear p10)
 | ((with_reducible refine Zg 35 ?_); refine Zh 35 _ 35 (w.heap.size + 1) _ T10.out row_ca size_ca rfl rfl rfl ?_)
 | ((with_reducible refine Zl 2 35 ?_); refine wpList_storeW 35 _ _ 35 (w.heap.size) _ ([.string nm, .int .i64 co, .int .i64 pw, .int .i64 0, .int .i64 0, .slice Aa x6.1.length Ac]) R10.out rfl size_ca (by simp [Value.oneCell']) rfl rfl rfl rfl rfl ?_
    intro w11 p11
    have R11 := Hh p11.whole
    have T11 := Hh (p11.keeps.whole T10.out (by omega))
    have A11 := Hh (A10.out.put p11 (by omega))
    have M11 := Hh (M10.out.put p11 (by omega) qin cin rin)
    have hz11 := Nat.le_trans hz10 p11.keeps.size
    have hcell := M11.out.at_.cell
    clear p11))
 exact Zo 2 35 35 w.heap.size _ rfl R11.out row_ca size_ca rfl rfl ⟨_, rfl, ⟨_, rfl, _, rfl, _, rfl, _, rfl, _, rfl, A11.out.lower (by omega)⟩, M11.out⟩
set_option maxRecDepth 20000 in
set_option maxHeartbeats 3200000 in
theorem xplace (w : World) (q c r K : Nat) (L : List TokV) (st : St) (n : Nat) (h : PAt w q c r K L st) (hn : 8 * Zw L st + 9 ≤ n) (hLn : Zw L st ≤ 68719476736) :
   Calls Tryz.prog 139 #[.pointer (some ⟨q, 0, none⟩)] w (Zx w q c r K L (Wz 5 L n 0 0 st).2 (Wz 5 L n 0 0 st).1.ds) := by
 have qin := h.whole.inside
 have cin := h.cin
 have rin := h.rin
 have nb := Za w (.cells #[.string ⟨#[]⟩, .int .i64 0, .int .i64 0, .slice none 0 0] 38)
 have nb2 := Za (w.alloc (.cells #[.string ⟨#[]⟩, .int .i64 0, .int .i64 0, .slice none 0 0] 38)) (.cells #[.string ⟨#[]⟩, .int .i64 0, .int .i64 0, .slice none 0 0] 38)
 have M0 := Hh (((Ye.start h).next nb).next nb2)
 have R0 := Hh (show Zb _ w.heap.size 38 ([.string ⟨#[]⟩, .int .i64 0, .int .i64 0, .slice none 0 0]).toArray from (Zb.made w 38 #[.string ⟨#[]⟩, .int .i64 0, .int .i64 0, .slice none 0 0]).alloc (.cells #[.string ⟨#[]⟩, .int .i64 0, .int .i64 0, .slice none 0 0] 38))
 have T0 := Hh (show Zb _ (w.heap.size + 1) 38 ([.string ⟨#[]⟩, .int .i64 0, .int .i64 0, .slice none 0 0]).toArray from by have e := Zb.made (w.alloc (.cells #[.string ⟨#[]⟩, .int .i64 0, .int .i64 0, .slice none 0 0] 38)) 38 #[.string ⟨#[]⟩, .int .i64 0, .int .i64 0, .slice none 0 0]; rw [World.size_alloc] at e; exact e)
 clear nb nb2
 have hcell := M0.out.at_.cell
 unfold Wz
 have r1 := rem_name L st
 have h1 : ∀ w, PAt w q c r K L st → Calls Tryz.prog 177 #[.pointer (some ⟨q, 0, none⟩), .func (.func 178) #[Xf c st] #[]] w (Ya w q c r K L (Wm L st) (.string (nameN L st))) := fun w h => xreadName w q c r K L st h
 generalize nameN L st = nm at *
 generalize Wm L st = s1 at *
 have h6 : ∀ w, PAt w q c r K L s1 → Calls Tryz.prog 183 #[.pointer (some ⟨q, 0, none⟩)] w (Ux w q c r K L (bodyF 5 L n s1).2 (bodyF 5 L n s1).1.length (rusDs (bodyF 5 L n s1).1)) := fun w h => xrules n w q c r K L s1 h (by omega) (by omega)
 generalize bodyF 5 L n s1 = x6 at *
 clear h hn hLn r1
 go_enter Tryz.func139, Tryz.ntmps139
 go_wp2_with (first
 | (go_at_call 177; refine (h1 _ M0.out.at_).mono ?_; rintro e w1 ⟨rfl, m1⟩
    have R1 := Hh (m1.keeps.whole R0.out (by omega))
    have T1 := Hh (m1.keeps.whole T0.out (by omega))
    have M1 := Hh (M0.out.then m1)
    have hz1 : w.heap.size + 2 ≤ w1.heap.size := by have := m1.keeps.size; (try simp at this); omega
    have hcell := M1.out.at_.cell
    clear m1)
 | ((with_reducible refine Zl 11 10 ?_); refine wpList_store1 9 _ _ 38 (w.heap.size + 1) 0 [] (.string ⟨#[]⟩) (.string nm) ([.int .i64 0, .int .i64 0, .slice none 0 0]) (show Zb _ _ _ _ from T1.out) rfl size_str rfl rfl rfl rfl rfl rfl ?_
    intro w2 p2
    have T2 := Hh (show Zb w2 (w.heap.size + 1) 38 ([.string nm, .int .i64 0, .int .i64 0, .slice none 0 0]).toArray from by first | exact p2.whole | simpa using p2.whole)
    have R2 := Hh (p2.keeps.whole R1.out (by omega))
    have M2 := Hh (M1.out.put p2 (by omega) qin cin rin)
    have hz2 := Nat.le_trans hz1 p2.keeps.size
    have hcell := M2.out.at_.cell
    clear p2)
 | (go_at_call 183; refine (h6 _ M2.out.at_).mono ?_; rintro e w3 ⟨av, rfl, d3, m3⟩
    have R3 := Hh (m3.keeps.whole R2.out (by omega))
    have T3 := Hh (m3.keeps.whole T2.out (by omega))
    have M3 := Hh (M2.out.then m3)
    have hz3 := Nat.le_trans hz2 m3.keeps.size
    have hcell := M3.out.at_.cell
    have A3 := Hh (d3.lower (show w.heap.size + 2 ≤ _ by first | omega | (simp; done) | (simp; omega)))
    obtain ⟨Aa, Ac, rfl⟩ := A3.out.slice
    clear m3 d3)
 | ((with_reducible refine Zl 14 13 ?_); refine wpList_store1 33 _ _ 38 (w.heap.size + 1) 3 [.string nm, .int .i64 0, .int .i64 0] (.slice none 0 0) (.slice Aa x6.1.length Ac) ([]) (show Zb _ _ _ _ from T3.out) rfl size_rus rfl rfl rfl rfl rfl rfl ?_
    intro w4 p4
    have T4 := Hh (show Zb w4 (w.heap.size + 1) 38 ([.string nm, .int .i64 0, .int .i64 0, .slice Aa x6.1.length Ac]).toArray from by first | exact p4.whole | simpa using p4.whole)
    have R4 := Hh (p4.keeps.whole R3.out (by omega))
    have A4 := Hh (A3.out.put p4 (by omega))
    have M4 := Hh (M3.out.put p4 (by omega) qin cin rin)
    have hz4 := Nat.le_trans hz3 p4.keeps.size
    have hcell := M4.out.at_.cell
    clear p4)
 | ((with_reducible refine Zg 15 ?_); refine Zh 38 _ 38 (w.heap.size + 1) _ T4.out row_pl size_pl rfl rfl rfl ?_)
 | ((with_reducible refine Zl 2 15 ?_); refine wpList_storeW 38 _ _ 38 (w.heap.size) _ ([.string nm, .int .i64 0, .int .i64 0, .slice Aa x6.1.length Ac]) R4.out rfl size_pl (by simp [Value.oneCell']) rfl rfl rfl rfl rfl ?_
    intro w5 p5
    have R5 := Hh p5.whole
    have T5 := Hh (p5.keeps.whole T4.out (by omega))
    have A5 := Hh (A4.out.put p5 (by omega))
    have M5 := Hh (M4.out.put p5 (by omega) qin cin rin)
    have hz5 := Nat.le_trans hz4 p5.keeps.size
    have hcell := M5.out.at_.cell
    clear p5))
 exact Zo 2 38 38 w.heap.size _ rfl R5.out row_pl size_pl rfl rfl ⟨_, rfl, ⟨_, rfl, _, rfl, _, rfl, A5.out.lower (by omega)⟩, M5.out⟩
structure FileW (w : World) (q c r K : Nat) (L : List TokV) (s : St) (cs : List Ca) (ps : List Pl) (xc xp : List Value) (vc vp : Value) (wr : World) : Prop where
 mv : Ye w wr q c r K L s
 res : Zb wr w.heap.size 26 [.slice none 0 0, .slice none 0 0].toArray
 var : Zb wr (w.heap.size + 1) 26 [vc, vp].toArray
 rc : wr.ownsRow (w.heap.size + 2) 35 6 vc cs.length xc
 rp : wr.ownsRow (w.heap.size + 2) 38 4 vp ps.length xp
 dc : Zi (fun k => w.heap.size + 2 ≤ k ∧ vc.ownBlock ≠ some k ∧ vp.ownBlock ≠ some k) wr (casDs cs) xc
 dp : Zi (fun k => w.heap.size + 2 ≤ k ∧ vc.ownBlock ≠ some k ∧ vp.ownBlock ≠ some k) wr (plsDs ps) xp
 ap : Apart vc vp
 qin : q < w.heap.size
 cin : c < w.heap.size
 rin : r < w.heap.size
theorem FileW.round {w x y : World} {q c r K : Nat} {L : List TokV} {s s' : St} {cs : List Ca} {ps : List Pl} {xc xp : List Value} {vc vp : Value} (h : FileW w q c r K L s cs ps xc xp vc vp x) (f : Wf q c x y) (m : Ye w y q c r K L s') : FileW w q c r K L s' cs ps xc xp vc vp y := by
 have hq := h.qin
 have hc := h.cin
 have i1 := h.res.inside
 have i2 := h.var.inside
 exact ⟨m, f.whole h.res (by omega), f.whole h.var (by omega), f.owns h.rc (fun k hk c => by have := h.rc.lt k hk; omega), f.owns h.rp (fun k hk c => by have := h.rp.lt k hk; omega),
   h.dc.keeps f (fun k hk hn => ⟨by omega, hn⟩), h.dp.keeps f (fun k hk hn => ⟨by omega, hn⟩), h.ap, hq, hc, h.rin⟩
theorem FileW.pushC {w x y z : World} {q c r K : Nat} {L : List TokV} {s : St} {cs : List Ca} {ps : List Pl} {xc xp ys : List Value} {vc vp v' : Value} (h : FileW w q c r K L s cs ps xc xp vc vp x) (ca : Ca)
   (ho : y.ownsRow (w.heap.size + 2) 35 6 v' (cs.length + 1) (xc ++ ys)) (hg : x.grownBy y vc.ownBlock) (hat : v'.ownBlock = vc.ownBlock ∨ v'.ownBlock = some x.heap.size)
   (d : Zi (fun k => w.heap.size + 2 ≤ k ∧ vc.ownBlock ≠ some k ∧ vp.ownBlock ≠ some k) x ca.ds ys) (p : Put y z (w.heap.size + 1) 26 [v', vp]) : FileW w q c r K L s (cs ++ [ca]) ps (xc ++ ys) xp v' vp z := by
 have hq := h.qin
 have hc := h.cin
 have hr := h.rin
 have i1 := h.res.inside
 have i2 := h.var.inside
 have hb : ∀ k, vc.ownBlock = some k → w.heap.size + 2 ≤ k := fun k hk => (h.rc.lt k hk).1
 have hk : Zn (fun k => vc.ownBlock = some k ∨ k = w.heap.size + 1) x z := (Zn.grown (Zn.refl _ _) hg fun k hk => .inl hk).trans (p.keeps.mono fun k hk => .inr hk)
 have hs : ∀ k, k < x.heap.size → (w.heap.size + 2 ≤ k ∧ vc.ownBlock ≠ some k ∧ vp.ownBlock ≠ some k) → ¬ (vc.ownBlock = some k ∨ k = w.heap.size + 1) ∧ (w.heap.size + 2 ≤ k ∧ v'.ownBlock ≠ some k ∧ vp.ownBlock ≠ some k) := fun k hk hn => by
   refine ⟨fun c => c.elim hn.2.1 fun e => by omega, hn.1, fun c => ?_, hn.2.2⟩
   rcases hat with e1 | e1
   · rw [e1] at c; exact hn.2.1 c
   · rw [e1] at c; injection c with c; omega
 have kq : ∀ j, j < w.heap.size + 2 → ¬ vc.ownBlock = some j := fun j hj e => by have := hb j e; omega
 refine ⟨⟨h.mv.at_.keeps hk (fun e => e.elim (kq _ (by omega)) fun e => by omega) (fun e => e.elim (kq _ (by omega)) fun e => by omega) (fun e => e.elim (kq _ (by omega)) fun e => by omega), ?_⟩, hk.whole h.res (fun e => e.elim (kq _ (by omega)) fun e => by omega), p.whole, ?_, ?_, ?_, h.dp.keeps hk hs, ?_, hq, hc, hr⟩
 · have h1 : Zn (fun k => (k = q ∨ k = c) ∨ (vc.ownBlock = some k ∨ k = w.heap.size + 1)) w x := h.mv.keeps.mono fun k h => .inl h
   have h2 : Zn (fun k => (k = q ∨ k = c) ∨ (vc.ownBlock = some k ∨ k = w.heap.size + 1)) x z := hk.mono fun k h => .inr h
   exact (h1.trans h2).inner fun k hk' h => h.elim id fun e => e.elim (fun e => absurd e (kq k (by omega))) fun e => by omega
 · rw [List.length_append]
   exact p.keeps.owns ho fun k hk c => by have := (ho.lt k hk).1; omega
 · exact hk.owns h.rp fun k hk c => c.elim (fun e => h.ap k e hk) fun e => by have := (h.rp.lt k hk).1; omega
 · rw [casDs_snoc]
   exact Zi.app (d.keeps hk hs) (h.dc.keeps hk hs)
 · intro k hk2
   rcases hat with e1 | e1
   · rw [e1] at hk2; exact h.ap k hk2
   · rw [e1] at hk2; injection hk2 with e2; intro c; have := (h.rp.lt k c).2; omega
theorem FileW.pushP {w x y z : World} {q c r K : Nat} {L : List TokV} {s : St} {cs : List Ca} {ps : List Pl} {xc xp ys : List Value} {vc vp v' : Value} (h : FileW w q c r K L s cs ps xc xp vc vp x) (pl : Pl)
   (ho : y.ownsRow (w.heap.size + 2) 38 4 v' (ps.length + 1) (xp ++ ys)) (hg : x.grownBy y vp.ownBlock) (hat : v'.ownBlock = vp.ownBlock ∨ v'.ownBlock = some x.heap.size)
   (d : Zi (fun k => w.heap.size + 2 ≤ k ∧ vc.ownBlock ≠ some k ∧ vp.ownBlock ≠ some k) x pl.ds ys) (p : Put y z (w.heap.size + 1) 26 [vc, v']) : FileW w q c r K L s cs (ps ++ [pl]) xc (xp ++ ys) vc v' z := by
 have hq := h.qin
 have hc := h.cin
 have hr := h.rin
 have i1 := h.res.inside
 have i2 := h.var.inside
 have hb : ∀ k, vp.ownBlock = some k → w.heap.size + 2 ≤ k := fun k hk => (h.rp.lt k hk).1
 have hk : Zn (fun k => vp.ownBlock = some k ∨ k = w.heap.size + 1) x z := (Zn.grown (Zn.refl _ _) hg fun k hk => .inl hk).trans (p.keeps.mono fun k hk => .inr hk)
 have hs : ∀ k, k < x.heap.size → (w.heap.size + 2 ≤ k ∧ vc.ownBlock ≠ some k ∧ vp.ownBlock ≠ some k) → ¬ (vp.ownBlock = some k ∨ k = w.heap.size + 1) ∧ (w.heap.size + 2 ≤ k ∧ vc.ownBlock ≠ some k ∧ v'.ownBlock ≠ some k) := fun k hk hn => by
   refine ⟨fun c => c.elim hn.2.2 fun e => by omega, hn.1, hn.2.1, fun c => ?_⟩
   rcases hat with e1 | e1
   · rw [e1] at c; exact hn.2.2 c
   · rw [e1] at c; injection c with c; omega
 have kq : ∀ j, j < w.heap.size + 2 → ¬ vp.ownBlock = some j := fun j hj e => by have := hb j e; omega
 refine ⟨⟨h.mv.at_.keeps hk (fun e => e.elim (kq _ (by omega)) fun e => by omega) (fun e => e.elim (kq _ (by omega)) fun e => by omega) (fun e => e.elim (kq _ (by omega)) fun e => by omega), ?_⟩, hk.whole h.res (fun e => e.elim (kq _ (by omega)) fun e => by omega), p.whole, ?_, ?_, h.dc.keeps hk hs, ?_, ?_, hq, hc, hr⟩
 · have h1 : Zn (fun k => (k = q ∨ k = c) ∨ (vp.ownBlock = some k ∨ k = w.heap.size + 1)) w x := h.mv.keeps.mono fun k h => .inl h
   have h2 : Zn (fun k => (k = q ∨ k = c) ∨ (vp.ownBlock = some k ∨ k = w.heap.size + 1)) x z := hk.mono fun k h => .inr h
   exact (h1.trans h2).inner fun k hk' h => h.elim id fun e => e.elim (fun e => absurd e (kq k (by omega))) fun e => by omega
 · exact hk.owns h.rc fun k hk c => c.elim (fun e => h.ap k hk e) fun e => by have := (h.rc.lt k hk).1; omega
 · rw [List.length_append]
   exact p.keeps.owns ho fun k hk c => by have := (ho.lt k hk).1; omega
 · rw [plsDs_snoc]
   exact Zi.app (d.keeps hk hs) (h.dp.keeps hk hs)
 · intro k hk2 c
   rcases hat with e1 | e1
   · rw [e1] at c; exact h.ap k hk2 c
   · rw [e1] at c; injection c with e2; have := (h.rc.lt k hk2).2; omega
theorem file_stop (nk : Int) (L : List TokV) (m : Nat) (st : St) (h : Zp L Wu st = 0) : Vd nk L (m + 1) st = (⟨[], []⟩, st) := by rw [Vd, if_pos h]
theorem file_card (nk : Int) (L : List TokV) (m : Nat) (st : St) (h : Zp L Wu st = 1) : Vd nk L (m + 1) st =
     (⟨(Ub nk L m (st.tok L).line (st.tok L).col (Yf L Wu st)).1 :: (Vd nk L m (Ub nk L m (st.tok L).line (st.tok L).col (Yf L Wu st)).2).1.cards,
         (Vd nk L m (Ub nk L m (st.tok L).line (st.tok L).col (Yf L Wu st)).2).1.places⟩,
       (Vd nk L m (Ub nk L m (st.tok L).line (st.tok L).col (Yf L Wu st)).2).2) := by rw [Vd, if_neg (by omega), if_pos h]
theorem file_place (nk : Int) (L : List TokV) (m : Nat) (st : St) (h : Zp L Wu st = 2) : Vd nk L (m + 1) st =
     (⟨(Vd nk L m (Wz nk L m (st.tok L).line (st.tok L).col (Yf L Wu st)).2).1.cards,
         (Wz nk L m (st.tok L).line (st.tok L).col (Yf L Wu st)).1 :: (Vd nk L m (Wz nk L m (st.tok L).line (st.tok L).col (Yf L Wu st)).2).1.places⟩,
       (Vd nk L m (Wz nk L m (st.tok L).line (st.tok L).col (Yf L Wu st)).2).2) := by rw [Vd, if_neg (by omega), if_neg (by omega)]
set_option maxRecDepth 20000 in
set_option maxHeartbeats 6400000 in
theorem xfile (n : Nat) (w : World) (q c r K : Nat) (L : List TokV) (st : St) (h : PAt w q c r K L st) (hn : 8 * Zw L st + 10 ≤ n) (hLn : Zw L st ≤ 68719476736) :
   Calls Tryz.prog 86 #[.pointer (some ⟨q, 0, none⟩)] w (Zx w q c r K L (Vd 5 L n st).2 (Vd 5 L n st).1.ds) := by
 have qin := h.whole.inside
 have cin := h.cin
 have rin := h.rin
 have nb := Za w (.cells #[.slice none 0 0, .slice none 0 0] 26)
 have nb2 := Za (w.alloc (.cells #[.slice none 0 0, .slice none 0 0] 26)) (.cells #[.slice none 0 0, .slice none 0 0] 26)
 have H0 := Hh (show FileW w q c r K L st [] [] [] [] (.slice none 0 0) (.slice none 0 0) ((w.alloc (.cells #[.slice none 0 0, .slice none 0 0] 26)).alloc (.cells #[.slice none 0 0, .slice none 0 0] 26)) from
   ⟨((Ye.start h).next nb).next nb2, (Zb.made w 26 #[.slice none 0 0, .slice none 0 0]).alloc (.cells #[.slice none 0 0, .slice none 0 0] 26), by have e := Zb.made (w.alloc (.cells #[.slice none 0 0, .slice none 0 0] 26)) 26 #[.slice none 0 0, .slice none 0 0]; rw [World.size_alloc] at e; exact e,
     World.ownsRow_nil _ _ _ _, World.ownsRow_nil _ _ _ _, rfl, rfl, Apart.nil _, qin, cin, rin⟩)
 have HN := Hh (And.intro hn hLn)
 clear hn h hLn nb nb2
 go_enter Tryz.func86, Tryz.ntmps86
 go_wp2
 go_loopw [4] (fun v4 wr => ∃ (m : Nat) (cs : List Ca) (ps : List Pl) (xc xp : List Value) (vc vp : Value) (s : St), FileW w q c r K L s cs ps xc xp vc vp wr ∧ 8 * Zw L s + 10 ≤ m ∧ m ≤ n ∧ cs.length + ps.length + Zw L s ≤ Zw L st ∧
   Vd 5 L n st = (⟨cs ++ (Vd 5 L m s).1.cards, ps ++ (Vd 5 L m s).1.places⟩, (Vd 5 L m s).2)) (fun _ wr => remW q c wr)
 case atStart => exact ⟨n, [], [], [], [], _, _, st, H0.out, HN.out.1, Nat.le_refl _, by simp, by simp⟩
 case round =>
   obtain ⟨m, cs, ps, xc, xp, vc, vp, s, hR, hm, hmn, hacc, heq⟩ := hrel
   obtain ⟨m, rfl⟩ : ∃ m', m = m' + 1 := ⟨m - 1, by omega⟩
   have hcell := hR.mv.at_.cell
   have hrem := hR.mv.at_.rem
   have hpk := xPeek wr q c r K L s hR.mv.at_
   have hz0 : w.heap.size + 2 ≤ wr.heap.size := by have := hR.var.inside; omega
   obtain ⟨fi0, fi1⟩ := find_inv L Wu s
   have hfr := rem_found (L := L) (ws := Wu) (st := s)
   have hfn := Un L (ws := Wu) (st := s)
   have hle := findN_le L Wu s
   have hsp := file_stop 5 L m s
   have hs1 := file_card 5 L m s
   have hs2 := file_place 5 L m s
   generalize s.tok L = tv at *
   unfold Wt at hpk
   generalize Zp L Wu s = k at *
   generalize Yf L Wu s = s1 at *
   have HR := Hh hR
   have HQ := Hh heq
   have hk3 : k = 0 ∨ k = 1 ∨ k = 2 := by have e : k ≤ 2 := hle; omega
   clear hR heq hle
   rcases hk3 with hk | hk | hk
   · have t1 : ∀ w, PAt w q c r K L s → Calls Tryz.prog 137 #[Xf c s, .string ⟨#[99, 97, 114, 100]⟩] w (Ya w q c r K L s (.bool false)) := fun w h => by have e : isS L ⟨#[99, 97, 114, 100]⟩ s = false := fi0 hk 0 (by decide); have h1 := We w q c r K L s ⟨#[99, 97, 114, 100]⟩ h; rw [e, Xc e] at h1; exact h1
     have t2 : ∀ w, PAt w q c r K L s → Calls Tryz.prog 137 #[Xf c s, .string ⟨#[112, 108, 97, 99, 101]⟩] w (Ya w q c r K L s (.bool false)) := fun w h => by have e : isS L ⟨#[112, 108, 97, 99, 101]⟩ s = false := fi0 hk 1 (by decide); have h1 := We w q c r K L s ⟨#[112, 108, 97, 99, 101]⟩ h; rw [e, Xc e] at h1; exact h1
     have HS := Hh (hsp hk)
     clear hs1 hs2 hsp hfn hfr hm hmn hacc hrem fi0 fi1 hk
     go_wp2_with (first
 | (go_at_call 134; refine hpk.mono ?_; rintro e w1 ⟨rfl, b1⟩
    have nb := Za w1 (.cells #[.int .i64 tv.k, .string tv.t, .int .i64 tv.n, .int .i64 (tv.line : Int), .int .i64 (tv.col : Int)] 87)
    have M1 := Hh ((HR.out.mv.next b1).next nb)
    have hcell := M1.out.at_.cell
    have F1 := Hh (((Wf.start q c wr).next b1).next nb)
    have K1 := Hh (Zb.made w1 87 #[.int .i64 tv.k, .string tv.t, .int .i64 tv.n, .int .i64 (tv.line : Int), .int .i64 (tv.col : Int)])
    have hz1 : wr.heap.size ≤ w1.heap.size := b1.size
    clear b1 nb)
 | (go_at_call 137; (with_reducible refine (t1 _ ?_).mono ?_); exact M1.out.at_; rintro e w2 ⟨rfl, m2⟩
    have M2 := Hh (M1.out.then m2)
    have hcell := M2.out.at_.cell
    have F2 := Hh (F1.out.move m2)
    have K2 := Hh (m2.keeps.whole K1.out (by omega))
    have hz2 : w1.heap.size + 1 ≤ w2.heap.size := by have := m2.keeps.size; (try simp at this); omega
    clear m2)
 | (go_at_call 137; (with_reducible refine (t2 _ ?_).mono ?_); exact M2.out.at_; rintro e w3 ⟨rfl, m3⟩
    have M3 := Hh (M2.out.then m3)
    have hcell := M3.out.at_.cell
    have F3 := Hh (F2.out.move m3)
    have K3 := Hh (m3.keeps.whole K2.out (by omega))
    have hz3 := Nat.le_trans hz2 m3.keeps.size
    clear m3)
 | ((with_reducible refine Zg 12 ?_); refine Zh 26 _ 26 (w.heap.size + 1) [vc, vp] (HR.out.round F3.out M3.out).var row_fi size_fi rfl rfl rfl ?_)
 | ((with_reducible refine Zl 2 12 ?_); refine wpList_storeW 26 _ _ 26 w.heap.size [.slice none 0 0, .slice none 0 0] [vc, vp] (HR.out.round F3.out M3.out).res rfl size_fi (by obtain ⟨_, _, e1, _⟩ := own_form HR.out.rc; obtain ⟨_, _, e2, _⟩ := own_form HR.out.rp; rw [e1, e2]; simp [Value.oneCell']) rfl rfl rfl rfl rfl ?_
    intro w4 p4
    have R4 := Hh p4.whole
    have R3 := Hh (HR.out.round F3.out M3.out)
    have P4 := Hh p4; clear p4))
     refine Zo 2 26 26 w.heap.size _ rfl R4.out row_fi size_fi rfl rfl ⟨_, rfl, ?_, ?_⟩
     · rw [HQ.out, HS.out]
       dsimp only
       rw [List.append_nil, List.append_nil]
       have R := R3.out
       have a := Zi.rowOf R.rp (N := fun k => w.heap.size + 2 ≤ k) (fun k hk => hk) (R.dp.mono fun k _ hk => hk.1)
       have b := Zi.rowOf R.rc (N := fun k => w.heap.size + 2 ≤ k) (fun k hk => hk) (R.dc.mono fun k _ hk => hk.1)
       exact ((Zi.app (x := .row cs.length (casDs cs) .nil) a b).keeps P4.out.keeps (M := fun k => w.heap.size ≤ k) fun k _ hk => ⟨by omega, by omega⟩)
     · rw [HQ.out, HS.out]
       exact R3.out.mv.put P4.out (Nat.le_refl _) qin cin rin
   · have t1 : ∀ w, PAt w q c r K L s → Calls Tryz.prog 137 #[Xf c s, .string ⟨#[99, 97, 114, 100]⟩] w (Ya w q c r K L s1 (.bool true)) := fun w h => by have e := (fi1 0 hk).2; have e1 : isS L ⟨#[99, 97, 114, 100]⟩ s = true := e.1; have e2 : s1 = Xm L ⟨#[99, 97, 114, 100]⟩ s := e.2; have h1 := We w q c r K L s ⟨#[99, 97, 114, 100]⟩ h; rw [e1, ← e2] at h1; exact h1
     have hst := hs1 hk
     have hfr := hfr (by omega)
     have hrc := rem_card L 5 m 0 0 s1
     have hca : ∀ w, PAt w q c r K L s1 → Calls Tryz.prog 138 #[.pointer (some ⟨q, 0, none⟩)] w (Zx w q c r K L (Ub 5 L m 0 0 s1).2 (Ub 5 L m 0 0 s1).1.ds) := fun w h => xcard w q c r K L s1 m h (by omega) (by have := HN.out; omega)
     rw [show Ub 5 L m (tv.line : Int) (tv.col : Int) s1 = (⟨(Ub 5 L m 0 0 s1).1.name, (Ub 5 L m 0 0 s1).1.cost, (Ub 5 L m 0 0 s1).1.power, (tv.line : Int), (tv.col : Int), (Ub 5 L m 0 0 s1).1.rules⟩, (Ub 5 L m 0 0 s1).2) from rfl] at hst
     generalize Ub 5 L m 0 0 s1 = xx at *
     obtain ⟨x, s2⟩ := xx
     dsimp only at hst hrc hca
     have HT := Hh (And.intro hst (And.intro hm (And.intro hmn (And.intro hacc (And.intro hrem (And.intro hfr hrc))))))
     clear hs1 hs2 hsp hfn hm hmn hacc hrem fi0 fi1 hk hst hfr hrc
     go_wp2_with (first
 | (go_at_call 134; refine hpk.mono ?_; rintro e w1 ⟨rfl, b1⟩
    have nb := Za w1 (.cells #[.int .i64 tv.k, .string tv.t, .int .i64 tv.n, .int .i64 (tv.line : Int), .int .i64 (tv.col : Int)] 87)
    have M1 := Hh ((HR.out.mv.next b1).next nb)
    have hcell := M1.out.at_.cell
    have F1 := Hh (((Wf.start q c wr).next b1).next nb)
    have K1 := Hh (Zb.made w1 87 #[.int .i64 tv.k, .string tv.t, .int .i64 tv.n, .int .i64 (tv.line : Int), .int .i64 (tv.col : Int)])
    have hz1 : wr.heap.size ≤ w1.heap.size := b1.size
    clear b1 nb)
 | (go_at_call 137; (with_reducible refine (t1 _ ?_).mono ?_); exact M1.out.at_; rintro e w2 ⟨rfl, m2⟩
    have M2 := Hh (M1.out.then m2)
    have hcell := M2.out.at_.cell
    have F2 := Hh (F1.out.move m2)
    have K2 := Hh (m2.keeps.whole K1.out (by omega))
    have hz2 : w1.heap.size + 1 ≤ w2.heap.size := by have := m2.keeps.size; (try simp at this); omega
    clear m2)
 | (go_at_call 138; refine (hca _ M2.out.at_).mono ?_; rintro e w4 ⟨vs, rfl, d4, m4⟩
    obtain ⟨_, rfl, _, rfl, _, rfl, _, rfl, _, rfl, dr⟩ := d4
    obtain ⟨Aa, Ac, rs, tt, e1, dn, d5, d6, rfl⟩ := dr
    subst e1
    have nb := Za w4 (.cells #[.string x.name, .int .i64 x.cost, .int .i64 x.power, .int .i64 x.line, .int .i64 x.col, .slice Aa x.rules.length Ac] 35)
    have M4 := Hh ((M2.out.then m4).next nb)
    have F4 := Hh ((F2.out.move m4).next nb)
    have K4 := m4.keeps.whole K2.out (by omega)
    have y3 : ∀ o, (w4.alloc o).cell? ⟨w1.heap.size, 3, none⟩ = some (.int .i64 (tv.line : Int)) := fun o => (K4.alloc o).read 3
    have y4 : ∀ o, (w4.alloc o).cell? ⟨w1.heap.size, 4, none⟩ = some (.int .i64 (tv.col : Int)) := fun o => (K4.alloc o).read 4
    have hz4 : w2.heap.size ≤ w4.heap.size := m4.keeps.size
    have D4 := Hh (show Zi (fun k => w2.heap.size ≤ k) w4 (.row x.rules.length (rusDs x.rules) .nil) [.slice Aa x.rules.length Ac] from ⟨Aa, Ac, rs, [], rfl, dn, d5, d6, rfl⟩)
    have hne : ¬ (w4.heap.size = w1.heap.size) := by omega
    have X4 := Hh m4; clear m4 nb K4 dn d5 d6))
     go_region
     have T5 := Hh (show Zb (w4.alloc (.cells #[.string x.name, .int .i64 x.cost, .int .i64 x.power, .int .i64 (tv.line : Int), .int .i64 (tv.col : Int), .slice Aa x.rules.length Ac] 35)).drew w4.heap.size 35 ([.string x.name, .int .i64 x.cost, .int .i64 x.power, .int .i64 (tv.line : Int), .int .i64 (tv.col : Int), .slice Aa x.rules.length Ac] : List Value).toArray from (Zb.made w4 35 #[.string x.name, .int .i64 x.cost, .int .i64 x.power, .int .i64 (tv.line : Int), .int .i64 (tv.col : Int), .slice Aa x.rules.length Ac]).drew)
     have k5 : Zn (fun _ => False) (w4.alloc (.cells #[.string x.name, .int .i64 x.cost, .int .i64 x.power, .int .i64 x.line, .int .i64 x.col, .slice Aa x.rules.length Ac] 35)) (w4.alloc (.cells #[.string x.name, .int .i64 x.cost, .int .i64 x.power, .int .i64 (tv.line : Int), .int .i64 (tv.col : Int), .slice Aa x.rules.length Ac] 35)).drew → True := fun _ => trivial
     have nb := Za w4 (.cells #[.string x.name, .int .i64 x.cost, .int .i64 x.power, .int .i64 (tv.line : Int), .int .i64 (tv.col : Int), .slice Aa x.rules.length Ac] 35)
     have M5 := Hh (((M2.out.then X4.out).next nb).drew)
     have F5 := Hh (((F2.out.move X4.out).next nb).drew)
     have D5 := Hh ((D4.out.below nb).keeps (S := fun _ => False) (Zn.drew (Zn.refl _ _)) (M := fun k => w2.heap.size ≤ k) (fun k _ hk => ⟨id, hk⟩))
     have hz5 : w4.heap.size + 1 ≤ (w4.alloc (.cells #[.string x.name, .int .i64 x.cost, .int .i64 x.power, .int .i64 (tv.line : Int), .int .i64 (tv.col : Int), .slice Aa x.rules.length Ac] 35)).drew.heap.size := T5.out.inside
     clear nb y3 y4 k5
     generalize (w4.alloc (.cells #[.string x.name, .int .i64 x.cost, .int .i64 x.power, .int .i64 (tv.line : Int), .int .i64 (tv.col : Int), .slice Aa x.rules.length Ac] 35)).drew = w5 at *
     have R5 := Hh (HR.out.round F5.out M5.out)
     have hT : w5.cell? ⟨w.heap.size + 1, 0, none⟩ = some (vc) := R5.out.var.read 0
     have D6 := Hh (show Zi (fun k => w2.heap.size ≤ k) w5 (⟨x.name, x.cost, x.power, (tv.line : Int), (tv.col : Int), x.rules⟩ : Ca).ds [.string x.name, .int .i64 x.cost, .int .i64 x.power, .int .i64 (tv.line : Int), .int .i64 (tv.col : Int), .slice Aa x.rules.length Ac] from ⟨_, rfl, _, rfl, _, rfl, _, rfl, _, rfl, D5.out⟩)
     go_wp2_with (first
 | ((with_reducible refine Zg 29 ?_); refine Zh 35 _ 35 w4.heap.size _ T5.out row_ca size_ca rfl rfl rfl ?_)
 | (at_builtin; refine wpList_pushL (.tmp 28) (.tmp 30) 23 35 6 72 _ und_cas info_ca rfl (by decide) (by decide) (w.heap.size + 2) (vc) cs.length xc [.string x.name, .int .i64 x.cost, .int .i64 x.power, .int .i64 (tv.line : Int), .int .i64 (tv.col : Int), .slice Aa x.rules.length Ac] (R5.out.round (Wf.next (Wf.start q c _) (Za w5 (.cells [.string x.name, .int .i64 x.cost, .int .i64 x.power, .int .i64 (tv.line : Int), .int .i64 (tv.col : Int), .slice Aa x.rules.length Ac].toArray 35))) (R5.out.mv.next (Za w5 (.cells [.string x.name, .int .i64 x.cost, .int .i64 x.power, .int .i64 (tv.line : Int), .int .i64 (tv.col : Int), .slice Aa x.rules.length Ac].toArray 35)))).rc w5.heap.size (Zb.made _ _ _) rfl (by simp [Value.oneCell']) (by have := HT.out.2.2.2.1; have := HN.out.2; omega) (by simp; omega) rfl rfl rfl rfl ?_
    intro v9 w9 o9 g9 at9
    have R9 := Hh (R5.out.round (Wf.next (Wf.start q c _) (Za w5 (.cells [.string x.name, .int .i64 x.cost, .int .i64 x.power, .int .i64 (tv.line : Int), .int .i64 (tv.col : Int), .slice Aa x.rules.length Ac].toArray 35))) (R5.out.mv.next (Za w5 (.cells [.string x.name, .int .i64 x.cost, .int .i64 x.power, .int .i64 (tv.line : Int), .int .i64 (tv.col : Int), .slice Aa x.rules.length Ac].toArray 35))))
    have O9 := Hh (And.intro o9 (And.intro g9 at9))
    have V9 := Hh (Wn g9 R9.out.var (fun c => by have := (HR.out.rc.lt _ c).1; omega))
    obtain ⟨A9, c9, rfl, _⟩ := own_form o9
    clear o9 g9 at9)
 | ((with_reducible refine Zl 32 31 ?_); refine wpList_store1 23 _ _ 26 (w.heap.size + 1) 0 [] (vc) (.slice A9 (cs.length + 1) c9) [vp] V9.out rfl size_cas rfl rfl rfl rfl rfl rfl ?_
    intro w10 p10
    have R10 := Hh (R9.out.pushC ⟨x.name, x.cost, x.power, (tv.line : Int), (tv.col : Int), x.rules⟩ O9.out.1 O9.out.2.1 O9.out.2.2 ((D6.out.below (Za w5 (.cells [.string x.name, .int .i64 x.cost, .int .i64 x.power, .int .i64 (tv.line : Int), .int .i64 (tv.col : Int), .slice Aa x.rules.length Ac].toArray 35))).mono fun k _ hk => ⟨by omega, fun c => by have := HR.out.rc.lt _ c; omega, fun c => by have := HR.out.rp.lt _ c; omega⟩) p10)
    clear p10))
     go_roundw
     case rel =>
       obtain ⟨h1, h2, h3, h4, h5, h6, h7⟩ := HT.out
       refine ⟨m, cs ++ [⟨x.name, x.cost, x.power, (tv.line : Int), (tv.col : Int), x.rules⟩], ps, _, _, _, _, s2, R10.out, ?_, ?_, ?_, ?_⟩
       · omega
       · omega
       · rw [List.length_append]; simp only [List.length_cons, List.length_nil]; omega
       · rw [HQ.out, h1]; simp
     case measure =>
       obtain ⟨h1, h2, h3, h4, h5, h6, h7⟩ := HT.out
       have := R10.out.mv.at_.rem
       rw [this, h5]; omega
   · have t1 : ∀ w, PAt w q c r K L s → Calls Tryz.prog 137 #[Xf c s, .string ⟨#[99, 97, 114, 100]⟩] w (Ya w q c r K L s (.bool false)) := fun w h => by have e : isS L ⟨#[99, 97, 114, 100]⟩ s = false := (fi1 1 hk).1 0 (by decide); have h1 := We w q c r K L s ⟨#[99, 97, 114, 100]⟩ h; rw [e, Xc e] at h1; exact h1
     have t2 : ∀ w, PAt w q c r K L s → Calls Tryz.prog 137 #[Xf c s, .string ⟨#[112, 108, 97, 99, 101]⟩] w (Ya w q c r K L s1 (.bool true)) := fun w h => by have e := (fi1 1 hk).2; have e1 : isS L ⟨#[112, 108, 97, 99, 101]⟩ s = true := e.1; have e2 : s1 = Xm L ⟨#[112, 108, 97, 99, 101]⟩ s := e.2; have h1 := We w q c r K L s ⟨#[112, 108, 97, 99, 101]⟩ h; rw [e1, ← e2] at h1; exact h1
     have hst := hs2 hk
     have hfr := hfr (by omega)
     have hrc := rem_place L 5 m 0 0 s1
     have hca : ∀ w, PAt w q c r K L s1 → Calls Tryz.prog 139 #[.pointer (some ⟨q, 0, none⟩)] w (Zx w q c r K L (Wz 5 L m 0 0 s1).2 (Wz 5 L m 0 0 s1).1.ds) := fun w h => xplace w q c r K L s1 m h (by omega) (by have := HN.out; omega)
     rw [show Wz 5 L m (tv.line : Int) (tv.col : Int) s1 = (⟨(Wz 5 L m 0 0 s1).1.name, (tv.line : Int), (tv.col : Int), (Wz 5 L m 0 0 s1).1.rules⟩, (Wz 5 L m 0 0 s1).2) from rfl] at hst
     generalize Wz 5 L m 0 0 s1 = xx at *
     obtain ⟨x, s2⟩ := xx
     dsimp only at hst hrc hca
     have HT := Hh (And.intro hst (And.intro hm (And.intro hmn (And.intro hacc (And.intro hrem (And.intro hfr hrc))))))
     clear hs1 hs2 hsp hfn hm hmn hacc hrem fi0 fi1 hk hst hfr hrc
     go_wp2_with (first
 | (go_at_call 134; refine hpk.mono ?_; rintro e w1 ⟨rfl, b1⟩
    have nb := Za w1 (.cells #[.int .i64 tv.k, .string tv.t, .int .i64 tv.n, .int .i64 (tv.line : Int), .int .i64 (tv.col : Int)] 87)
    have M1 := Hh ((HR.out.mv.next b1).next nb)
    have hcell := M1.out.at_.cell
    have F1 := Hh (((Wf.start q c wr).next b1).next nb)
    have K1 := Hh (Zb.made w1 87 #[.int .i64 tv.k, .string tv.t, .int .i64 tv.n, .int .i64 (tv.line : Int), .int .i64 (tv.col : Int)])
    have hz1 : wr.heap.size ≤ w1.heap.size := b1.size
    clear b1 nb)
 | (go_at_call 137; (with_reducible refine (t1 _ ?_).mono ?_); exact M1.out.at_; rintro e w2 ⟨rfl, m2⟩
    have M2 := Hh (M1.out.then m2)
    have hcell := M2.out.at_.cell
    have F2 := Hh (F1.out.move m2)
    have K2 := Hh (m2.keeps.whole K1.out (by omega))
    have hz2 : w1.heap.size + 1 ≤ w2.heap.size := by have := m2.keeps.size; (try simp at this); omega
    clear m2)
 | (go_at_call 137; (with_reducible refine (t2 _ ?_).mono ?_); exact M2.out.at_; rintro e w3 ⟨rfl, m3⟩
    have M3 := Hh (M2.out.then m3)
    have hcell := M3.out.at_.cell
    have F3 := Hh (F2.out.move m3)
    have K3 := Hh (m3.keeps.whole K2.out (by omega))
    have hz3 := Nat.le_trans hz2 m3.keeps.size
    clear m3)
 | (go_at_call 139; refine (hca _ M3.out.at_).mono ?_; rintro e w4 ⟨vs, rfl, d4, m4⟩
    obtain ⟨_, rfl, _, rfl, _, rfl, dr⟩ := d4
    obtain ⟨Aa, Ac, rs, tt, e1, dn, d5, d6, rfl⟩ := dr
    subst e1
    have nb := Za w4 (.cells #[.string x.name, .int .i64 x.line, .int .i64 x.col, .slice Aa x.rules.length Ac] 38)
    have M4 := Hh ((M3.out.then m4).next nb)
    have F4 := Hh ((F3.out.move m4).next nb)
    have K4 := m4.keeps.whole K3.out (by omega)
    have y3 : ∀ o, (w4.alloc o).cell? ⟨w1.heap.size, 3, none⟩ = some (.int .i64 (tv.line : Int)) := fun o => (K4.alloc o).read 3
    have y4 : ∀ o, (w4.alloc o).cell? ⟨w1.heap.size, 4, none⟩ = some (.int .i64 (tv.col : Int)) := fun o => (K4.alloc o).read 4
    have hz4 : w3.heap.size ≤ w4.heap.size := m4.keeps.size
    have D4 := Hh (show Zi (fun k => w3.heap.size ≤ k) w4 (.row x.rules.length (rusDs x.rules) .nil) [.slice Aa x.rules.length Ac] from ⟨Aa, Ac, rs, [], rfl, dn, d5, d6, rfl⟩)
    have hne : ¬ (w4.heap.size = w1.heap.size) := by omega
    have X4 := Hh m4; clear m4 nb K4 dn d5 d6))
     go_region
     have T5 := Hh (show Zb (w4.alloc (.cells #[.string x.name, .int .i64 (tv.line : Int), .int .i64 (tv.col : Int), .slice Aa x.rules.length Ac] 38)).drew w4.heap.size 38 ([.string x.name, .int .i64 (tv.line : Int), .int .i64 (tv.col : Int), .slice Aa x.rules.length Ac] : List Value).toArray from (Zb.made w4 38 #[.string x.name, .int .i64 (tv.line : Int), .int .i64 (tv.col : Int), .slice Aa x.rules.length Ac]).drew)
     have k5 : Zn (fun _ => False) (w4.alloc (.cells #[.string x.name, .int .i64 x.line, .int .i64 x.col, .slice Aa x.rules.length Ac] 38)) (w4.alloc (.cells #[.string x.name, .int .i64 (tv.line : Int), .int .i64 (tv.col : Int), .slice Aa x.rules.length Ac] 38)).drew → True := fun _ => trivial
     have nb := Za w4 (.cells #[.string x.name, .int .i64 (tv.line : Int), .int .i64 (tv.col : Int), .slice Aa x.rules.length Ac] 38)
     have M5 := Hh (((M3.out.then X4.out).next nb).drew)
     have F5 := Hh (((F3.out.move X4.out).next nb).drew)
     have D5 := Hh ((D4.out.below nb).keeps (S := fun _ => False) (Zn.drew (Zn.refl _ _)) (M := fun k => w3.heap.size ≤ k) (fun k _ hk => ⟨id, hk⟩))
     have hz5 : w4.heap.size + 1 ≤ (w4.alloc (.cells #[.string x.name, .int .i64 (tv.line : Int), .int .i64 (tv.col : Int), .slice Aa x.rules.length Ac] 38)).drew.heap.size := T5.out.inside
     clear nb y3 y4 k5
     generalize (w4.alloc (.cells #[.string x.name, .int .i64 (tv.line : Int), .int .i64 (tv.col : Int), .slice Aa x.rules.length Ac] 38)).drew = w5 at *
     have R5 := Hh (HR.out.round F5.out M5.out)
     have hT : w5.cell? ⟨w.heap.size + 1, 1, none⟩ = some (vp) := R5.out.var.read 1
     have D6 := Hh (show Zi (fun k => w3.heap.size ≤ k) w5 (⟨x.name, (tv.line : Int), (tv.col : Int), x.rules⟩ : Pl).ds [.string x.name, .int .i64 (tv.line : Int), .int .i64 (tv.col : Int), .slice Aa x.rules.length Ac] from ⟨_, rfl, _, rfl, _, rfl, D5.out⟩)
     go_wp2_with (first
 | ((with_reducible refine Zg 49 ?_); refine Zh 38 _ 38 w4.heap.size _ T5.out row_pl size_pl rfl rfl rfl ?_)
 | (at_builtin; refine wpList_pushL (.tmp 48) (.tmp 50) 24 38 4 56 _ und_pls info_pl rfl (by decide) (by decide) (w.heap.size + 2) (vp) ps.length xp [.string x.name, .int .i64 (tv.line : Int), .int .i64 (tv.col : Int), .slice Aa x.rules.length Ac] (R5.out.round (Wf.next (Wf.start q c _) (Za w5 (.cells [.string x.name, .int .i64 (tv.line : Int), .int .i64 (tv.col : Int), .slice Aa x.rules.length Ac].toArray 38))) (R5.out.mv.next (Za w5 (.cells [.string x.name, .int .i64 (tv.line : Int), .int .i64 (tv.col : Int), .slice Aa x.rules.length Ac].toArray 38)))).rp w5.heap.size (Zb.made _ _ _) rfl (by simp [Value.oneCell']) (by have := HT.out.2.2.2.1; have := HN.out.2; omega) (by simp; omega) rfl rfl rfl rfl ?_
    intro v9 w9 o9 g9 at9
    have R9 := Hh (R5.out.round (Wf.next (Wf.start q c _) (Za w5 (.cells [.string x.name, .int .i64 (tv.line : Int), .int .i64 (tv.col : Int), .slice Aa x.rules.length Ac].toArray 38))) (R5.out.mv.next (Za w5 (.cells [.string x.name, .int .i64 (tv.line : Int), .int .i64 (tv.col : Int), .slice Aa x.rules.length Ac].toArray 38))))
    have O9 := Hh (And.intro o9 (And.intro g9 at9))
    have V9 := Hh (Wn g9 R9.out.var (fun c => by have := (HR.out.rp.lt _ c).1; omega))
    obtain ⟨A9, c9, rfl, _⟩ := own_form o9
    clear o9 g9 at9)
 | ((with_reducible refine Zl 52 51 ?_); refine wpList_store1 24 _ _ 26 (w.heap.size + 1) 1 [vc] (vp) (.slice A9 (ps.length + 1) c9) [] V9.out rfl size_pls rfl rfl rfl rfl rfl rfl ?_
    intro w10 p10
    have R10 := Hh (R9.out.pushP ⟨x.name, (tv.line : Int), (tv.col : Int), x.rules⟩ O9.out.1 O9.out.2.1 O9.out.2.2 ((D6.out.below (Za w5 (.cells [.string x.name, .int .i64 (tv.line : Int), .int .i64 (tv.col : Int), .slice Aa x.rules.length Ac].toArray 38))).mono fun k _ hk => ⟨by omega, fun c => by have := HR.out.rc.lt _ c; omega, fun c => by have := HR.out.rp.lt _ c; omega⟩) p10)
    clear p10))
     go_roundw
     case rel =>
       obtain ⟨h1, h2, h3, h4, h5, h6, h7⟩ := HT.out
       refine ⟨m, cs, ps ++ [⟨x.name, (tv.line : Int), (tv.col : Int), x.rules⟩], _, _, _, _, s2, R10.out, ?_, ?_, ?_, ?_⟩
       · omega
       · omega
       · rw [List.length_append]; simp only [List.length_cons, List.length_nil]; omega
       · rw [HQ.out, h1]; simp
     case measure =>
       obtain ⟨h1, h2, h3, h4, h5, h6, h7⟩ := HT.out
       have := R10.out.mv.at_.rem
       rw [this, h5]; omega
end Go.Proofs.YtabegjepejgllaaGreat
