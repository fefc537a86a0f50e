/-
  Texts SynB1. No conditions but those that each theorem names.
-/
import Derived.Test.YtabegjepejgllaaGreatQL23
namespace Go.Proofs.YtabegjepejgllaaGreat
open Go.ChangeShapes Go.WideShapes Go.ChangeAt Go.RowKit
set_option linter.unusedVariables false
set_option linter.unusedSimpArgs false
theorem acts_all : ∀ n m : Nat, m ≤ n → ActsOK m ∧ BlockOK m ∧ ActOK m := by
 intro n
 induction n with
 | zero =>
   intro m hm
   obtain rfl : m = 0 := by omega
   exact ⟨fun w q c r K L st h hn _ => absurd hn (by omega), fun w q c r K L st h hn _ => absurd hn (by omega), fun w q c r K L st k h _ _ hn _ => absurd hn (by omega)⟩
 | succ n ih =>
   intro m hm
   by_cases e : m ≤ n
   · exact ih m e
   · obtain rfl : m = n + 1 := by omega
     exact ⟨xacts (n + 1) fun k hk => (ih k (by omega)).2.2, xblock n (ih n (Nat.le_refl _)).1, xact n (ih n (Nat.le_refl _)).2.1⟩
theorem xactss (w : World) (q c r K : Nat) (L : List TokV) (st : St) (n : Nat) (h : PAt w q c r K L st) (hn : 8 * Zw L st + 8 ≤ n) (hLn : Zw L st ≤ 68719476736) :
   Calls Tryz.prog 212 #[.pointer (some ⟨q, 0, none⟩)] w (Ux w q c r K L (Xs 5 L n st).2 (Xs 5 L n st).1.len (Xs 5 L n st).1.ds) := (acts_all n n (Nat.le_refl _)).1 w q c r K L st h hn hLn
def Ru.ds (x : Ru) : Ds := .int x.when_ (.int x.stratum (.int x.line (.int x.col (.row x.acts.len x.acts.ds .nil))))
def rusDs : List Ru → Ds
 | [] => .nil
 | x :: r => x.ds.app (rusDs r)
theorem rusDs_snoc (x : Ru) : ∀ l : List Ru, rusDs (l ++ [x]) = (rusDs l).app x.ds
 | [] => Ds.app_nil _
 | y :: l => by show y.ds.app (rusDs (l ++ [x])) = (y.ds.app (rusDs l)).app x.ds; rw [rusDs_snoc x l, Ds.app_assoc]
theorem und_rus : Tryz.prog.underlying 33 = some (.slice 66) := by kernel_rfl
theorem info_ru : (Tryz.prog.info? 66).map (fun i => (i.zero, i.size, i.bytes)) = some (some (.agg #[.int .i64 0, .int .i64 0, .int .i64 0, .int .i64 0, .slice none 0 0]), 5, 56) := by kernel_rfl
theorem row_ru : (Tryz.prog.underlying 66).map TypeDesc.isRow = some true := by kernel_rfl
theorem size_ru : (Tryz.prog.info? 66).map (·.size) = some 5 := by kernel_rfl
theorem size_rus : (Tryz.prog.info? 33).map (·.size) = some 1 := by kernel_rfl
theorem row_ca : (Tryz.prog.underlying 35).map TypeDesc.isRow = some true := by kernel_rfl
theorem size_ca : (Tryz.prog.info? 35).map (·.size) = some 6 := by kernel_rfl
theorem row_pl : (Tryz.prog.underlying 38).map TypeDesc.isRow = some true := by kernel_rfl
theorem size_pl : (Tryz.prog.info? 38).map (·.size) = some 4 := by kernel_rfl
theorem rules_step (nk : Int) (L : List TokV) (m : Nat) (st : St) (h : ¬ Zp L Wr st = 0) : Uh nk L (m + 1) st =
     (⟨Zp L Wr st, strN L (Zp L Wr st) (Yf L Wr st), (st.tok L).line, (st.tok L).col, (Xs nk L m (Yu L Wh (strS L (Zp L Wr st) (Yf L Wr st)))).1⟩ ::
         (Uh nk L m (Yu L Ww (Xs nk L m (Yu L Wh (strS L (Zp L Wr st) (Yf L Wr st)))).2)).1,
       (Uh nk L m (Yu L Ww (Xs nk L m (Yu L Wh (strS L (Zp L Wr st) (Yf L Wr st)))).2)).2) := by rw [Uh, if_neg h]
theorem rules_stop (nk : Int) (L : List TokV) (m : Nat) (st : St) (h : Zp L Wr st = 0) : Uh nk L (m + 1) st = ([], st) := by rw [Uh, if_pos h]
set_option maxRecDepth 20000 in
set_option maxHeartbeats 6400000 in
theorem xrules (n : Nat) (w : World) (q c r K : Nat) (L : List TokV) (st : St) (h : PAt w q c r K L st) (hn : 8 * Zw L st + 9 ≤ n) (hLn : Zw L st ≤ 68719476736) :
   Calls Tryz.prog 183 #[.pointer (some ⟨q, 0, none⟩)] w (Ux w q c r K L (bodyF 5 L n st).2 (bodyF 5 L n st).1.length (rusDs (bodyF 5 L n st).1)) := by
 have qin := h.whole.inside
 have cin := h.cin
 have rin := h.rin
 have hrw := Wc L Wh st
 have hw0 : Calls Tryz.prog 179 #[.pointer (some ⟨q, 0, none⟩), .string ⟨#[123]⟩] w (Ya w q c r K L (Yu L Wh st) (.tuple #[])) := xwant w q c r K L st Wh h
 unfold bodyF
 generalize Yu L Wh st = st1 at *
 have HN := Hh (And.intro (show 8 * Zw L st1 + 9 ≤ n by omega) (show Zw L st1 ≤ 68719476736 by omega))
 clear hn h hLn hrw
 go_enter Tryz.func183, Tryz.ntmps183
 go_wp2_with (go_at_call 179; refine hw0.mono ?_; rintro e w0 ⟨rfl, m0⟩
              have H0 := Hh (show RowD w q c r K L 66 5 st1 0 .nil [] (.slice none 0 0) w0 from ⟨⟨m0, World.ownsRow_nil _ _ _ _, qin, cin, rin⟩, rfl⟩)
              clear m0)
 go_loopw [3] (fun v wr => ∃ (m : Nat) (acc : List Ru) (xs : List Value) (s : St), RowD w q c r K L 66 5 s acc.length (rusDs acc) xs v wr ∧ 8 * Zw L s + 9 ≤ m ∧ m ≤ n ∧ acc.length + Zw L s ≤ Zw L st1 ∧ Uh 5 L n st1 = (acc ++ (Uh 5 L m s).1, (Uh 5 L m s).2)) (fun _ wr => remW q c wr)
 case atStart => exact ⟨n, [], [], st1, H0.out, HN.out.1, Nat.le_refl _, by simp, by simp⟩
 case round =>
   obtain ⟨m, acc, xs, s, hR, hm, hmn, hacc, heq⟩ := hrel
   obtain ⟨m, rfl⟩ : ∃ m', m = m' + 1 := ⟨m - 1, by omega⟩
   obtain ⟨A, cp, rfl, _, _, _⟩ := own_form hR.row.row
   have hcell := hR.row.mv.at_.cell
   have hrem := hR.row.mv.at_.rem
   have hpk := xPeek wr q c r K L s hR.row.mv.at_
   have hz0 := hR.row.mv.keeps.size
   have hfr := rem_found (L := L) (ws := Wr) (st := s)
   have hfn := Un L (ws := Wr) (st := s)
   have hst := rules_step 5 L m s
   have hsp := rules_stop 5 L m s
   have hfi : ∀ W G, G = W.heap.size → PAt W q c r K L s → Calls Tryz.prog 148 #[.pointer (some ⟨q, 0, none⟩), .slice (some ⟨G, 0, none⟩) 6 6] (W.alloc (.cells #[.string ⟨#[114, 101, 118, 101, 97, 108]⟩, .string ⟨#[100, 101, 97, 116, 104]⟩, .string ⟨#[109, 111, 118, 101, 100]⟩, .string ⟨#[101, 110, 100]⟩, .string ⟨#[97, 108, 119, 97, 121, 115]⟩, .string ⟨#[101, 110, 116, 101, 114]⟩] 9)) fun e w' => e = .returned (.int .i64 (Zp L Wr s : Int)) ∧ Ye W w' q c r K L (Yf L Wr s) := fun W G h2 h => xfindB W q c r K G L s Wr 6 6 _ rfl h2 h rfl (by decide)
   generalize s.tok L = tv at *
   unfold Wt at hpk
   generalize Zp L Wr s = k at *
   generalize Yf L Wr s = s1 at *
   have HR := Hh hR
   have HQ := Hh heq
   clear hR heq
   by_cases hk0 : k = 0
   · have HS := Hh (And.intro (hsp hk0) (hfn hk0))
     subst hk0
     rw [show ((0 : Nat) : Int) = 0 from rfl] at hfi
     have hw1 : ∀ w, PAt w q c r K L s1 → Calls Tryz.prog 179 #[.pointer (some ⟨q, 0, none⟩), .string ⟨#[125]⟩] w (Ya w q c r K L (Yu L Ww s1) (.tuple #[])) := fun w h => xwant w q c r K L s1 Ww h
     clear hst hsp hfn hfr hm hmn hacc hrem
     go_wp2_with (first
 | (go_at_call 134; refine hpk.mono ?_; rintro e w1 ⟨rfl, b1⟩
    have nb := Za w1 (.cells #[.int .i64 tv.k, .string tv.t, .int .i64 tv.n, .int .i64 (tv.line : Int), .int .i64 (tv.col : Int)] 87)
    have M1 := Hh ((HR.out.row.mv.next b1).next nb)
    have F1 := Hh (((Wf.start q c wr).next b1).next nb)
    have K1 := Hh (Zb.made w1 87 #[.int .i64 tv.k, .string tv.t, .int .i64 tv.n, .int .i64 (tv.line : Int), .int .i64 (tv.col : Int)])
    have hz1 : wr.heap.size ≤ w1.heap.size := b1.size
    clear b1 nb)
 | (go_at_call 148; refine (hfi _ _ ?_ M1.out.at_).mono ?_; simp; rintro e w2 ⟨rfl, m2⟩
    have M2 := Hh (M1.out.then m2)
    have F2 := Hh (F1.out.move m2); clear m2)
 | (go_at_call 179; refine (hw1 _ M2.out.at_).mono ?_; rintro e w3 ⟨rfl, m3⟩
    have M3 := Hh (M2.out.then m3)
    have F3 := Hh (F2.out.move m3); clear m3))
     go_ret
     obtain ⟨e1, e2⟩ := HS.out
     have R := HR.out.round F3.out M3.out
     rw [e2] at R
     rw [HQ.out, e1]
     dsimp only
     rw [List.append_nil]
     exact ⟨_, rfl, Zi.rowOf R.row.row (fun k hk => hk) (R.deep.mono fun k _ hk => hk.1), R.row.mv⟩
   · have hst := hst hk0
     have hfr := hfr hk0
     have q0 : ((k : Int) == 0) = false := by rw [beq_eq_false_iff_ne]; omega
     have hrs := rem_str L k s1
     have hra := Wc L Wh (strS L k s1)
     have hw1 : ∀ w, PAt w q c r K L (strS L k s1) → Calls Tryz.prog 179 #[.pointer (some ⟨q, 0, none⟩), .string ⟨#[123]⟩] w (Ya w q c r K L (Yu L Wh (strS L k s1)) (.tuple #[])) := fun w h => xwant w q c r K L _ Wh h
     generalize Yu L Wh (strS L k s1) = s3 at *
     have hac : ∀ w, PAt w q c r K L s3 → Calls Tryz.prog 212 #[.pointer (some ⟨q, 0, none⟩)] w (Ux w q c r K L (Xs 5 L m s3).2 (Xs 5 L m s3).1.len (Xs 5 L m s3).1.ds) := fun w h => xactss w q c r K L s3 m h (by omega) (by have := HN.out; omega)
     have hrx := rem_acts L 5 m s3
     generalize Xs 5 L m s3 = xa at *
     have hru := Wc L Ww xa.2
     have hw2 : ∀ w, PAt w q c r K L xa.2 → Calls Tryz.prog 179 #[.pointer (some ⟨q, 0, none⟩), .string ⟨#[125]⟩] w (Ya w q c r K L (Yu L Ww xa.2) (.tuple #[])) := fun w h => xwant w q c r K L _ Ww h
     generalize Yu L Ww xa.2 = s4 at *
     have hle4 : Zw L s4 ≤ Zw L s1 := by omega
     by_cases h5 : k = 5
     · have q5 : ((k : Int) == 5) = true := by rw [h5]; rfl
       have e1 : strS L k s1 = intS L s1 := if_pos h5
       have e2 : strN L k s1 = intN L s1 := if_pos h5
       rw [e1] at hw1
       rw [e2] at hst
       have hrd : ∀ w, PAt w q c r K L s1 → Calls Tryz.prog 180 #[.pointer (some ⟨q, 0, none⟩), .func (.func 181) #[Xf c s1] #[]] w (Ya w q c r K L (intS L s1) (.int .i64 (intN L s1))) := fun w h => xreadInt w q c r K L s1 h
       generalize intN L s1 = sm at *
       generalize intS L s1 = s2 at *
       have HT := Hh (And.intro hst (And.intro hm (And.intro hmn (And.intro hacc (And.intro hrem (And.intro hfr hle4))))))
       clear hst hsp hfn hm hmn hacc hrem hfr hrs hra hrx hru e1 e2 h5 hk0 hle4
       go_wp2_with (first
 | (go_at_call 134; refine hpk.mono ?_; rintro e w1 ⟨rfl, b1⟩
    have nb := Za w1 (.cells #[.int .i64 tv.k, .string tv.t, .int .i64 tv.n, .int .i64 (tv.line : Int), .int .i64 (tv.col : Int)] 87)
    have M1 := Hh ((HR.out.row.mv.next b1).next nb)
    have F1 := Hh (((Wf.start q c wr).next b1).next nb)
    have K1 := Hh (Zb.made w1 87 #[.int .i64 tv.k, .string tv.t, .int .i64 tv.n, .int .i64 (tv.line : Int), .int .i64 (tv.col : Int)])
    have hz1 : wr.heap.size ≤ w1.heap.size := b1.size
    clear b1 nb)
 | (go_at_call 148; refine (hfi _ _ ?_ M1.out.at_).mono ?_; simp; rintro e w2 ⟨rfl, m2⟩
    have K2 := m2.keeps.whole K1.out (by omega)
    have y3 : w2.cell? ⟨w1.heap.size, 3, none⟩ = some (.int .i64 (tv.line : Int)) := K2.read 3
    have y4 : w2.cell? ⟨w1.heap.size, 4, none⟩ = some (.int .i64 (tv.col : Int)) := K2.read 4
    have hz2 : w1.heap.size + 1 ≤ w2.heap.size := by have := m2.keeps.size; simp at this; omega
    have nb := Za w2 (.cells #[.int .i64 (k : Int), .int .i64 0, .int .i64 (tv.line : Int), .int .i64 (tv.col : Int), .slice none 0 0] 66)
    have M2 := Hh ((M1.out.then m2).next nb)
    have hcell := M2.out.at_.cell
    have F2 := Hh ((F1.out.move m2).next nb)
    have T2 := Hh (show Zb _ _ _ ([.int .i64 (k : Int), .int .i64 0, .int .i64 (tv.line : Int), .int .i64 (tv.col : Int), .slice none 0 0] : List Value).toArray from Zb.made w2 66 #[.int .i64 (k : Int), .int .i64 0, .int .i64 (tv.line : Int), .int .i64 (tv.col : Int), .slice none 0 0])
    clear m2 nb K2)
 | (go_at_call 180; refine (hrd _ M2.out.at_).mono ?_; rintro e w3 ⟨rfl, m3⟩
    have T3 := Hh (m3.keeps.whole T2.out (by omega))
    have F3 := Hh (F2.out.move m3)
    have M3 := Hh (M2.out.then m3)
    have hz3 : w2.heap.size + 1 ≤ w3.heap.size := by have := m3.keeps.size; (try simp at this); omega
    have hcell := M3.out.at_.cell
    clear m3)
 | ((with_reducible refine Zl 37 36 ?_); refine wpList_store1 3 _ _ 66 (w2.heap.size) 1 [.int .i64 (k : Int)] (.int .i64 0) (.int .i64 sm) ([.int .i64 (tv.line : Int), .int .i64 (tv.col : Int), .slice none 0 0]) (show Zb _ _ _ _ from T3.out) rfl Yo rfl rfl rfl rfl rfl rfl ?_
    intro w4 p4
    have T4 := Hh (show Zb w4 (w2.heap.size) 66 ([.int .i64 (k : Int), .int .i64 sm, .int .i64 (tv.line : Int), .int .i64 (tv.col : Int), .slice none 0 0]).toArray from by first | exact p4.whole | simpa using p4.whole)
    have F4 := Hh (F3.out.put p4 (by omega))
    have M4 := Hh (M3.out.put p4 (by omega) qin cin rin)
    have hz4 := Nat.le_trans hz3 p4.keeps.size
    have hcell := M4.out.at_.cell
    clear p4)
 | (go_at_call 179; (with_reducible refine (hw1 _ ?_).mono ?_); exact M4.out.at_; rintro e w5 ⟨rfl, m5⟩
    have T5 := Hh (m5.keeps.whole T4.out (by omega))
    have F5 := Hh (F4.out.move m5)
    have M5 := Hh (M4.out.then m5)
    have hz5 := Nat.le_trans hz4 m5.keeps.size
    have hcell := M5.out.at_.cell
    clear m5)
 | (go_at_call 212; refine (hac _ M5.out.at_).mono ?_; rintro e w6 ⟨av, rfl, d6, m6⟩
    have T6 := Hh (m6.keeps.whole T5.out (by omega))
    have F6 := Hh (F5.out.move m6)
    have M6 := Hh (M5.out.then m6)
    have hz6 := Nat.le_trans hz5 m6.keeps.size
    have hcell := M6.out.at_.cell
    have A6 := Hh (d6.lower (show w2.heap.size + 1 ≤ _ by first | omega | (simp; done) | (simp; omega)))
    obtain ⟨Aa, Ac, rfl⟩ := A6.out.slice
    clear m6 d6)
 | ((with_reducible refine Zl 42 41 ?_); refine wpList_store1 41 _ _ 66 (w2.heap.size) 4 [.int .i64 (k : Int), .int .i64 sm, .int .i64 (tv.line : Int), .int .i64 (tv.col : Int)] (.slice none 0 0) (.slice Aa xa.1.len Ac) ([]) (show Zb _ _ _ _ from T6.out) rfl size_acts rfl rfl rfl rfl rfl rfl ?_
    intro w7 p7
    have T7 := Hh (show Zb w7 (w2.heap.size) 66 ([.int .i64 (k : Int), .int .i64 sm, .int .i64 (tv.line : Int), .int .i64 (tv.col : Int), .slice Aa xa.1.len Ac]).toArray from by first | exact p7.whole | simpa using p7.whole)
    have F7 := Hh (F6.out.put p7 (by omega))
    have A7 := Hh (A6.out.put p7 (by omega))
    have M7 := Hh (M6.out.put p7 (by omega) qin cin rin)
    have hz7 := Nat.le_trans hz6 p7.keeps.size
    have hcell := M7.out.at_.cell
    clear p7)
 | (go_at_call 179; (with_reducible refine (hw2 _ ?_).mono ?_); exact M7.out.at_; rintro e w8 ⟨rfl, m8⟩
    have T8 := Hh (m8.keeps.whole T7.out (by omega))
    have F8 := Hh (F7.out.move m8)
    have A8 := Hh (A7.out.move m8 (by omega) (by omega))
    have M8 := Hh (M7.out.then m8)
    have hz8 := Nat.le_trans hz7 m8.keeps.size
    have hcell := M8.out.at_.cell
    clear m8)
 | ((with_reducible refine Zg 46 ?_); refine Zh 66 _ 66 (w2.heap.size) _ T8.out row_ru size_ru rfl rfl rfl ?_)
 | (at_builtin; refine wpList_pushL (.tmp 45) (.tmp 47) 33 66 5 56 _ und_rus info_ru rfl (by decide) (by decide) w.heap.size (.slice A acc.length cp) acc.length xs [.int .i64 (k : Int), .int .i64 sm, .int .i64 (tv.line : Int), .int .i64 (tv.col : Int), .slice Aa xa.1.len Ac] (HR.out.round (F8.out.next (Za _ (.cells [.int .i64 (k : Int), .int .i64 sm, .int .i64 (tv.line : Int), .int .i64 (tv.col : Int), .slice Aa xa.1.len Ac].toArray 66))) (M8.out.next (Za _ (.cells [.int .i64 (k : Int), .int .i64 sm, .int .i64 (tv.line : Int), .int .i64 (tv.col : Int), .slice Aa xa.1.len Ac].toArray 66)))).row.row w8.heap.size (Zb.made _ _ _) rfl (by simp [Value.oneCell']) (by have := HT.out.2.2.2.1; have := HN.out.2; omega) (by simp; omega) rfl rfl rfl rfl ?_
    intro v9 w9 o9 g9 at9
    have R9 := Hh ((HR.out.round (F8.out.next (Za _ (.cells [.int .i64 (k : Int), .int .i64 sm, .int .i64 (tv.line : Int), .int .i64 (tv.col : Int), .slice Aa xa.1.len Ac].toArray 66))) (M8.out.next (Za _ (.cells [.int .i64 (k : Int), .int .i64 sm, .int .i64 (tv.line : Int), .int .i64 (tv.col : Int), .slice Aa xa.1.len Ac].toArray 66)))).push o9 g9 at9 (((show Zi (fun k => w2.heap.size + 1 ≤ k) w8 (Ru.ds ⟨(k : Int), sm, (tv.line : Int), (tv.col : Int), xa.1⟩) [.int .i64 (k : Int), .int .i64 sm, .int .i64 (tv.line : Int), .int .i64 (tv.col : Int), .slice Aa xa.1.len Ac] from ⟨_, rfl, _, rfl, _, rfl, _, rfl, A8.out⟩).below (Za _ _)).mono fun k _ hk => ⟨by omega, fun c => by have := HR.out.row.row.lt _ c; omega⟩)); clear o9 g9 at9))
       go_roundw
       case rel =>
         obtain ⟨h1, h2, h3, h4, h5, h6, h7⟩ := HT.out
         refine ⟨m, acc ++ [⟨(k : Int), sm, (tv.line : Int), (tv.col : Int), xa.1⟩], xs ++ [.int .i64 (k : Int), .int .i64 sm, .int .i64 (tv.line : Int), .int .i64 (tv.col : Int), .slice Aa xa.1.len Ac], s4, ?_, ?_, ?_, ?_, ?_⟩
         · have R := R9.out
           rw [rusDs_snoc, List.length_append]; exact R
         · omega
         · omega
         · rw [List.length_append]; simp only [List.length_cons, List.length_nil]; omega
         · rw [HQ.out, h1]; simp
       case measure =>
         obtain ⟨h1, h2, h3, h4, h5, h6, h7⟩ := HT.out
         have := R9.out.row.mv.at_.rem
         rw [this, h5]; omega
     · have q5 : ((k : Int) == 5) = false := by rw [beq_eq_false_iff_ne]; omega
       have e1 : strS L k s1 = s1 := if_neg h5
       have e2 : strN L k s1 = 0 := if_neg h5
       rw [e1] at hw1
       rw [e2] at hst
       have HT := Hh (And.intro hst (And.intro hm (And.intro hmn (And.intro hacc (And.intro hrem (And.intro hfr hle4))))))
       clear hst hsp hfn hm hmn hacc hrem hfr hrs hra hrx hru e1 e2 h5 hk0 hle4
       go_wp2_with (first
 | (go_at_call 134; refine hpk.mono ?_; rintro e w1 ⟨rfl, b1⟩
    have nb := Za w1 (.cells #[.int .i64 tv.k, .string tv.t, .int .i64 tv.n, .int .i64 (tv.line : Int), .int .i64 (tv.col : Int)] 87)
    have M1 := Hh ((HR.out.row.mv.next b1).next nb)
    have F1 := Hh (((Wf.start q c wr).next b1).next nb)
    have K1 := Hh (Zb.made w1 87 #[.int .i64 tv.k, .string tv.t, .int .i64 tv.n, .int .i64 (tv.line : Int), .int .i64 (tv.col : Int)])
    have hz1 : wr.heap.size ≤ w1.heap.size := b1.size
    clear b1 nb)
 | (go_at_call 148; refine (hfi _ _ ?_ M1.out.at_).mono ?_; simp; rintro e w2 ⟨rfl, m2⟩
    have K2 := m2.keeps.whole K1.out (by omega)
    have y3 : w2.cell? ⟨w1.heap.size, 3, none⟩ = some (.int .i64 (tv.line : Int)) := K2.read 3
    have y4 : w2.cell? ⟨w1.heap.size, 4, none⟩ = some (.int .i64 (tv.col : Int)) := K2.read 4
    have hz2 : w1.heap.size + 1 ≤ w2.heap.size := by have := m2.keeps.size; simp at this; omega
    have nb := Za w2 (.cells #[.int .i64 (k : Int), .int .i64 0, .int .i64 (tv.line : Int), .int .i64 (tv.col : Int), .slice none 0 0] 66)
    have M2 := Hh ((M1.out.then m2).next nb)
    have hcell := M2.out.at_.cell
    have F2 := Hh ((F1.out.move m2).next nb)
    have T2 := Hh (show Zb _ _ _ ([.int .i64 (k : Int), .int .i64 0, .int .i64 (tv.line : Int), .int .i64 (tv.col : Int), .slice none 0 0] : List Value).toArray from Zb.made w2 66 #[.int .i64 (k : Int), .int .i64 0, .int .i64 (tv.line : Int), .int .i64 (tv.col : Int), .slice none 0 0])
    clear m2 nb K2)
 | (go_at_call 179; (with_reducible refine (hw1 _ ?_).mono ?_); exact M2.out.at_; rintro e w3 ⟨rfl, m3⟩
    have T3 := Hh (m3.keeps.whole T2.out (by omega))
    have F3 := Hh (F2.out.move m3)
    have M3 := Hh (M2.out.then m3)
    have hz3 : w2.heap.size + 1 ≤ w3.heap.size := by have := m3.keeps.size; (try simp at this); omega
    have hcell := M3.out.at_.cell
    clear m3)
 | (go_at_call 212; refine (hac _ M3.out.at_).mono ?_; rintro e w4 ⟨av, rfl, d4, m4⟩
    have T4 := Hh (m4.keeps.whole T3.out (by omega))
    have F4 := Hh (F3.out.move m4)
    have M4 := Hh (M3.out.then m4)
    have hz4 := Nat.le_trans hz3 m4.keeps.size
    have hcell := M4.out.at_.cell
    have A4 := Hh (d4.lower (show w2.heap.size + 1 ≤ _ by first | omega | (simp; done) | (simp; omega)))
    obtain ⟨Aa, Ac, rfl⟩ := A4.out.slice
    clear m4 d4)
 | ((with_reducible refine Zl 42 41 ?_); refine wpList_store1 41 _ _ 66 (w2.heap.size) 4 [.int .i64 (k : Int), .int .i64 0, .int .i64 (tv.line : Int), .int .i64 (tv.col : Int)] (.slice none 0 0) (.slice Aa xa.1.len Ac) ([]) (show Zb _ _ _ _ from T4.out) rfl size_acts rfl rfl rfl rfl rfl rfl ?_
    intro w5 p5
    have T5 := Hh (show Zb w5 (w2.heap.size) 66 ([.int .i64 (k : Int), .int .i64 0, .int .i64 (tv.line : Int), .int .i64 (tv.col : Int), .slice Aa xa.1.len Ac]).toArray from by first | exact p5.whole | simpa using p5.whole)
    have F5 := Hh (F4.out.put p5 (by omega))
    have A5 := Hh (A4.out.put p5 (by omega))
    have M5 := Hh (M4.out.put p5 (by omega) qin cin rin)
    have hz5 := Nat.le_trans hz4 p5.keeps.size
    have hcell := M5.out.at_.cell
    clear p5)
 | (go_at_call 179; (with_reducible refine (hw2 _ ?_).mono ?_); exact M5.out.at_; rintro e w6 ⟨rfl, m6⟩
    have T6 := Hh (m6.keeps.whole T5.out (by omega))
    have F6 := Hh (F5.out.move m6)
    have A6 := Hh (A5.out.move m6 (by omega) (by omega))
    have M6 := Hh (M5.out.then m6)
    have hz6 := Nat.le_trans hz5 m6.keeps.size
    have hcell := M6.out.at_.cell
    clear m6)
 | ((with_reducible refine Zg 46 ?_); refine Zh 66 _ 66 (w2.heap.size) _ T6.out row_ru size_ru rfl rfl rfl ?_)
 | (at_builtin; refine wpList_pushL (.tmp 45) (.tmp 47) 33 66 5 56 _ und_rus info_ru rfl (by decide) (by decide) w.heap.size (.slice A acc.length cp) acc.length xs [.int .i64 (k : Int), .int .i64 0, .int .i64 (tv.line : Int), .int .i64 (tv.col : Int), .slice Aa xa.1.len Ac] (HR.out.round (F6.out.next (Za _ (.cells [.int .i64 (k : Int), .int .i64 0, .int .i64 (tv.line : Int), .int .i64 (tv.col : Int), .slice Aa xa.1.len Ac].toArray 66))) (M6.out.next (Za _ (.cells [.int .i64 (k : Int), .int .i64 0, .int .i64 (tv.line : Int), .int .i64 (tv.col : Int), .slice Aa xa.1.len Ac].toArray 66)))).row.row w6.heap.size (Zb.made _ _ _) rfl (by simp [Value.oneCell']) (by have := HT.out.2.2.2.1; have := HN.out.2; omega) (by simp; omega) rfl rfl rfl rfl ?_
    intro v9 w9 o9 g9 at9
    have R9 := Hh ((HR.out.round (F6.out.next (Za _ (.cells [.int .i64 (k : Int), .int .i64 0, .int .i64 (tv.line : Int), .int .i64 (tv.col : Int), .slice Aa xa.1.len Ac].toArray 66))) (M6.out.next (Za _ (.cells [.int .i64 (k : Int), .int .i64 0, .int .i64 (tv.line : Int), .int .i64 (tv.col : Int), .slice Aa xa.1.len Ac].toArray 66)))).push o9 g9 at9 (((show Zi (fun k => w2.heap.size + 1 ≤ k) w6 (Ru.ds ⟨(k : Int), 0, (tv.line : Int), (tv.col : Int), xa.1⟩) [.int .i64 (k : Int), .int .i64 0, .int .i64 (tv.line : Int), .int .i64 (tv.col : Int), .slice Aa xa.1.len Ac] from ⟨_, rfl, _, rfl, _, rfl, _, rfl, A6.out⟩).below (Za _ _)).mono fun k _ hk => ⟨by omega, fun c => by have := HR.out.row.row.lt _ c; omega⟩)); clear o9 g9 at9))
       go_roundw
       case rel =>
         obtain ⟨h1, h2, h3, h4, h5, h6, h7⟩ := HT.out
         refine ⟨m, acc ++ [⟨(k : Int), 0, (tv.line : Int), (tv.col : Int), xa.1⟩], xs ++ [.int .i64 (k : Int), .int .i64 0, .int .i64 (tv.line : Int), .int .i64 (tv.col : Int), .slice Aa xa.1.len Ac], s4, ?_, ?_, ?_, ?_, ?_⟩
         · have R := R9.out
           rw [rusDs_snoc, List.length_append]; exact R
         · omega
         · omega
         · rw [List.length_append]; simp only [List.length_cons, List.length_nil]; omega
         · rw [HQ.out, h1]; simp
       case measure =>
         obtain ⟨h1, h2, h3, h4, h5, h6, h7⟩ := HT.out
         have := R9.out.row.mv.at_.rem
         rw [this, h5]; omega
end Go.Proofs.YtabegjepejgllaaGreat
