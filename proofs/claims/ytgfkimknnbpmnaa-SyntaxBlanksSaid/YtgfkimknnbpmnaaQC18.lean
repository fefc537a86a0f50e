/-
  Texts SynP2. No conditions but those that each theorem names.
-/
import Derived.Test.YtgfkimknnbpmnaaQC17
namespace Go.Proofs.Ytgfkimknnbpmnaa
open Go.ChangeShapes Go.WideShapes Go.ChangeAt Go.RowKit
set_option linter.unusedVariables false
set_option linter.unusedSimpArgs false
theorem idx_hit (v : TokV) : ∀ (ws : List ByteArray) (k : Nat) (hk : k < ws.length), (∀ j, j < k → isT v (ws.getD j ⟨#[]⟩) = false) → isT v (ws.getD k ⟨#[]⟩) = true → idxW v ws = k + 1
 | [], k, hk, _, _ => by cases hk
 | t :: r, 0, hk, _, h => if_pos h
 | t :: r, k + 1, hk, hj, h => by
   have h0 : isT v t = false := hj 0 (by omega)
   have ih := idx_hit v r k (by rw [List.length_cons] at hk; omega) (fun j hjk => hj (j + 1) (by omega)) h
   unfold idxW
   rw [if_neg (by rw [h0]; decide), if_neg (by rw [ih]; omega), ih]
theorem idx_miss (v : TokV) : ∀ (ws : List ByteArray), (∀ j, j < ws.length → isT v (ws.getD j ⟨#[]⟩) = false) → idxW v ws = 0
 | [], _ => rfl
 | t :: r, hj => by
   have h0 : isT v t = false := hj 0 (by rw [List.length_cons]; omega)
   have ih := idx_miss v r (fun j hjk => hj (j + 1) (by rw [List.length_cons]; omega))
   unfold idxW
   rw [if_neg (by rw [h0]; decide), if_pos ih]
theorem find_hit (L : List TokV) (ws : List ByteArray) (st : St) (k : Nat) (hk : k < ws.length) (hj : ∀ j, j < k → isS L (ws.getD j ⟨#[]⟩) st = false) (h : isS L (ws.getD k ⟨#[]⟩) st = true) :
   Zl L ws st = k + 1 ∧ Yc L ws st = Xg L (ws.getD k ⟨#[]⟩) st := by
 cases st with
 | ok a d =>
   have hi := idx_hit (Zz L a) ws k hk hj h
   refine ⟨hi, ?_⟩
   rw [show Yc L ws (.ok a d) = .ok (onA L a) d from if_neg (by rw [hi]; omega)]
   show St.ok (onA L a) d = .ok (Uk L a (ws.getD k ⟨#[]⟩)) d
   unfold Uk
   rw [if_pos (show isT (Zz L a) (ws.getD k ⟨#[]⟩) = true from h)]
 | bad F => cases h
theorem find_miss (L : List TokV) (ws : List ByteArray) (st : St) (hj : ∀ j, j < ws.length → isS L (ws.getD j ⟨#[]⟩) st = false) : Zl L ws st = 0 := by
 cases st with
 | ok a d => exact idx_miss (Zz L a) ws hj
 | bad F => rfl
theorem Xc {L : List TokV} {t : ByteArray} {st : St} (h : isS L t st = false) : Xg L t st = st := by
 cases st with
 | ok a d =>
   show St.ok (Uk L a t) d = .ok a d
   unfold Uk
   rw [if_neg (by rw [show isT (Zz L a) t = false from h]; decide)]
 | bad F => rfl
def Words (w : World) (g : Nat) (ws : List ByteArray) : Prop := Zb w g 9 (ws.map Value.string).toArray
theorem Words.at_ {w : World} {g : Nat} {ws : List ByteArray} (h : Words w g ws) {k : Nat} (hk : k < ws.length) : w.cell? ⟨g, k, none⟩ = some (.string (ws.getD k ⟨#[]⟩)) := by
 rw [Zb.read h k]
 simp [List.getD, hk]
theorem xfind (w : World) (q c r K : Nat) (L : List TokV) (st : St) (ws : List ByteArray) (g n m : Nat) (h : PAt w q c r K L st) (hw : Words w g ws) (hq : g ≠ q) (hc : g ≠ c) (hn : n = ws.length) (hl : n ≤ 64) :
   Calls Try.prog 35 #[.pointer (some ⟨q, 0, none⟩), .slice (some ⟨g, 0, none⟩) n m] w (Zw w q c r K L (Yc L ws st) (.int .i64 (Zl L ws st))) := by
 have H := Hh (And.intro hw (And.intro hq (And.intro hc hn)))
 have hP := Hh (Ya.start h)
 clear h hw hq hc hn
 have l64 : (n : Int) ≤ 64 := by omega
 go_enter Try.func35, Try.ntmps35
 go_wp2
 go_loopw [9] (fun i wr => ∃ k : Nat, i = .int .i64 k ∧ k ≤ n ∧ Ya w wr q c r K L st ∧ ∀ j, j < k → isS L (ws.getD j ⟨#[]⟩) st = false) (fun i _ => n - (intOf i).toNat)
 case atStart => exact ⟨0, by go_num, Nat.zero_le _, hP.out, fun j hj => by omega⟩
 case round =>
   obtain ⟨k, rfl, hk, hm, hj⟩ := hrel
   obtain ⟨H1, H2, H3, H4⟩ := H.out
   have HJ := Hh hj
   have HM := Hh hm
   have hcell := hm.at_.cell
   have HW : Words wr g ws := hm.keeps.whole H1 (by omega)
   have HN := Hh H4
   have hnw : k < n → k < ws.length := fun h => by omega
   have hwn : ¬ k < n → ∀ j, j < ws.length → j < k := fun h j hj => by omega
   clear H4
   by_cases hlt : k < n
   · have hx := HW.at_ (k := k) (hnw hlt)
     have hi := HW.inside
     generalize hv : isS L (ws.getD k ⟨#[]⟩) st = b
     have ht : ∀ w, PAt w q c r K L st → Calls Try.prog 31 #[Xd c st, .string (ws.getD k ⟨#[]⟩)] w (Zw w q c r K L (Xg L (ws.getD k ⟨#[]⟩) st) (.bool b)) := fun w h => by rw [← hv]; exact Wc w q c r K L st _ h
     generalize hX : ws.getD k ⟨#[]⟩ = x at *
     have HV := Hh hv
     have HX := Hh hX
     clear hX
     have hlt' : (k : Int) < (n : Int) := by omega
     have HK := Hh (hnw hlt)
     clear hm hj H1 H2 H3 HW hv hk hnw hwn
     cases b
     · go_wp2_with (go_at_call 31; refine (ht _ HM.out.at_).mono ?_; rintro e w1 ⟨rfl, m1⟩; have M1 := Hh (HM.out.then m1); clear m1)
       go_roundw
       case rel =>
         have m := M1.out
         rw [Xc HV.out] at m
         refine ⟨k + 1, by go_num, by omega, m, fun j hj => ?_⟩
         by_cases e : j = k
         · subst e; rw [HX.out]; exact HV.out
         · exact HJ.out j (by omega)
       case measure => simp [intOf]; omega
     · go_wp2_with (go_at_call 31; refine (ht _ HM.out.at_).mono ?_; rintro e w1 ⟨rfl, m1⟩; have M1 := Hh (HM.out.then m1); clear m1)
       go_ret
       obtain ⟨e1, e2⟩ := find_hit L ws st k HK.out HJ.out (by rw [HX.out]; exact HV.out)
       rw [e1, e2, HX.out]
       exact ⟨rI (by omega), M1.out⟩
   · have e := find_miss L ws st (fun j hj => HJ.out j (hwn hlt j hj))
     have HE := Hh e
     have hge : (n : Int) ≤ (k : Int) := by omega
     clear hm hj H1 H2 H3 HW e hnw hwn
     go_wp2
     go_ret
     rw [HE.out, Uo L HE.out]
     exact ⟨rfl, HM.out⟩
theorem xone (w : World) (q c r K : Nat) (L : List TokV) (st : St) (ws : List ByteArray) (g n m : Nat) (h : PAt w q c r K L st) (hw : Words w g ws) (hq : g ≠ q) (hc : g ≠ c) (hn : n = ws.length) (hl : n ≤ 64) :
   Calls Try.prog 69 #[.pointer (some ⟨q, 0, none⟩), .slice (some ⟨g, 0, none⟩) n m] w (Zw w q c r K L (Yi L ws st) (.int .i64 (Zl L ws st))) := by
 have hf := xfind w q c r K L st ws g n m h hw hq hc hn hl
 have hb := idxW_le
 have hF : Zl L ws st = 0 → Yc L ws st = st := Uo L
 unfold Yi
 generalize hk : Zl L ws st = k at *
 have HF := Hh hF
 have HK := Hh hk
 clear h hw hq hc hn hl hb hF hk
 by_cases h0 : k = 0
 · subst h0
   rw [if_pos rfl]
   rw [HF.out rfl] at hf
   rw [← wrong_note]
   generalize hv : wrongV L st = v
   have hw : ∀ w, PAt w q c r K L st → Calls Try.prog 30 #[Xd c st] w fun e w' => e = .returned (Zk v) ∧ Below w.heap.size w w' := fun w h => by rw [← hv]; exact xWrong w q c r K L st h
   clear hv
   go_enter Try.func69, Try.ntmps69
   go_wp2_with (first
 | (go_at_call 35; refine hf.mono ?_; rintro e w1 ⟨rfl, m1⟩; have hcell := m1.at_.cell; have M1 := Hh m1; clear m1)
 | (go_at_call 30; refine (hw _ M1.out.at_).mono ?_; rintro e w2 ⟨rfl, b2⟩; have M2 := Hh (M1.out.next b2); clear b2)
 | (go_at_call 29; refine (xNote _ q c r K L _ v M2.out.at_).mono ?_; rintro e w3 ⟨rfl, m3⟩; have M3 := Hh (M2.out.then m3); clear m3))
   go_ret
   exact ⟨rfl, M3.out⟩
 · rw [if_neg h0]
   have q0 : ((k : Int) == 0) = false := by rw [beq_eq_false_iff_ne]; omega
   clear h0
   go_enter Try.func69, Try.ntmps69
   go_wp2_with (go_at_call 35; refine hf.mono ?_; rintro e w1 ⟨rfl, m1⟩; have M1 := Hh m1; clear m1)
   go_ret
   exact ⟨rfl, M1.out⟩
theorem xoneB (W : World) (q c r K G : Nat) (L : List TokV) (st : St) (ws : List ByteArray) (n m : Nat) (cs : Array Value) (hcs : cs = (ws.map Value.string).toArray) (hG : G = W.heap.size) (h : PAt W q c r K L st) (hn : n = ws.length) (hl : n ≤ 64) :
   Calls Try.prog 69 #[.pointer (some ⟨q, 0, none⟩), .slice (some ⟨G, 0, none⟩) n m] (W.alloc (.cells cs 9)) fun e w' => e = .returned (.int .i64 (Zl L ws st)) ∧ Ya W w' q c r K L (Yi L ws st) := by
 subst hcs hG
 have M1 := (Ya.start h).next (Zc W (.cells (ws.map Value.string).toArray 9))
 have hq := h.whole.inside
 refine (xone _ q c r K L st ws W.heap.size n m M1.at_ (Zb.made _ _ _) (by omega) (by have := h.cin; omega) hn hl).mono ?_
 rintro e w' ⟨h1, h2⟩
 exact ⟨h1, M1.then h2⟩
theorem xfindB (W : World) (q c r K G : Nat) (L : List TokV) (st : St) (ws : List ByteArray) (n m : Nat) (cs : Array Value) (hcs : cs = (ws.map Value.string).toArray) (hG : G = W.heap.size) (h : PAt W q c r K L st) (hn : n = ws.length) (hl : n ≤ 64) :
   Calls Try.prog 35 #[.pointer (some ⟨q, 0, none⟩), .slice (some ⟨G, 0, none⟩) n m] (W.alloc (.cells cs 9)) fun e w' => e = .returned (.int .i64 (Zl L ws st)) ∧ Ya W w' q c r K L (Yc L ws st) := by
 subst hcs hG
 have M1 := (Ya.start h).next (Zc W (.cells (ws.map Value.string).toArray 9))
 have hq := h.whole.inside
 refine (xfind _ q c r K L st ws W.heap.size n m M1.at_ (Zb.made _ _ _) (by omega) (by have := h.cin; omega) hn hl).mono ?_
 rintro e w' ⟨h1, h2⟩
 exact ⟨h1, M1.then h2⟩
def intF (L : List TokV) : St → Int × Nat × Nat
 | .ok a _ => Ux L a 2
 | .bad _ => Vl
def intM (L : List TokV) : St → St
 | .ok a d => .ok (Un L a 2) d
 | .bad F => .bad F
def nameF (L : List TokV) : St → Int × Nat × Nat
 | .ok a _ => Ux L a 3
 | .bad _ => Vl
def nameM (L : List TokV) : St → St
 | .ok a d => .ok (Un L a 3) d
 | .bad F => .bad F
def sigF (L : List TokV) : St → Int × Nat × Nat
 | .ok a _ => signF L a
 | .bad _ => Vl
def sigM (L : List TokV) : St → St
 | .ok a d => .ok (signA L a) d
 | .bad F => .bad F
theorem int_note (L : List TokV) (st : St) : Vc (intF L st) (intM L st) = intS L st := by cases st <;> rfl
theorem name_note (L : List TokV) (st : St) : Vc (nameF L st) (nameM L st) = Wi L st := by cases st <;> rfl
theorem sig_note (L : List TokV) (st : St) : Vc (sigF L st) (sigM L st) = signS L st := by cases st <;> rfl
theorem xInt (w : World) (q c r K : Nat) (L : List TokV) (st : St) (h : PAt w q c r K L st) :
   Calls Try.prog 50 #[Xd c st] w (Zw w q c r K L (intM L st) (.tuple #[.int .i64 (intN L st), Zk (intF L st)])) := by
 cases st with
 | ok a d => exact (cInt w c r K L a d (h.cur a d rfl).2.2).mono fun e w' p => ⟨p.1, h.step p.2⟩
 | bad F => exact (nInt w).mono fun e w' p => ⟨p.1, (Ya.start h).next p.2⟩
theorem xName (w : World) (q c r K : Nat) (L : List TokV) (st : St) (h : PAt w q c r K L st) :
   Calls Try.prog 47 #[Xd c st] w (Zw w q c r K L (nameM L st) (.tuple #[.string (nameN L st), Zk (nameF L st)])) := by
 cases st with
 | ok a d => exact (cName w c r K L a d (h.cur a d rfl).2.2).mono fun e w' p => ⟨p.1, h.step p.2⟩
 | bad F => exact (nName w).mono fun e w' p => ⟨p.1, (Ya.start h).next p.2⟩
theorem xSigned (w : World) (q c r K : Nat) (L : List TokV) (st : St) (h : PAt w q c r K L st) :
   Calls Try.prog 51 #[Xd c st] w (Zw w q c r K L (sigM L st) (.tuple #[.int .i64 (signN L st), Zk (sigF L st)])) := by
 cases st with
 | ok a d => exact (cSigned w c r K L a d (h.cur a d rfl).2.2).mono fun e w' p => ⟨p.1, h.step p.2⟩
 | bad F => exact (nSigned w).mono fun e w' p => ⟨p.1, (Ya.start h).next p.2⟩
theorem xreadInt (w : World) (q c r K : Nat) (L : List TokV) (st : St) (h : PAt w q c r K L st) :
   Calls Try.prog 49 #[.pointer (some ⟨q, 0, none⟩), .func (.func 50) #[Xd c st] #[]] w (Zw w q c r K L (intS L st) (.int .i64 (intN L st))) := by
 have H := Hh h
 rw [← int_note]
 have hi := xInt w q c r K L st h
 generalize intF L st = F at *
 obtain ⟨f0, f1, f2⟩ := F
 have qin := h.whole.inside
 have cin := h.cin
 have rin := h.rin
 clear h
 unfold Zk at hi
 go_enter Try.func49, Try.ntmps49
 go_wp2_with (first
 | (go_at_call 50; refine hi.mono ?_; rintro e w1 ⟨rfl, m1⟩; have M1 := Hh (m1.next (Zc w1 (.cells #[.int .i64 f0, .int .i64 (f1 : Int), .int .i64 (f2 : Int)] 26))); clear m1)
 | (go_at_call 29; refine (xNote _ q c r K L _ (f0, f1, f2) M1.out.at_).mono ?_; rintro e w2 ⟨rfl, m2⟩; have M2 := Hh (M1.out.then m2); clear m2))
 go_ret
 exact ⟨rfl, M2.out⟩
theorem xreadName (w : World) (q c r K : Nat) (L : List TokV) (st : St) (h : PAt w q c r K L st) :
   Calls Try.prog 46 #[.pointer (some ⟨q, 0, none⟩), .func (.func 47) #[Xd c st] #[]] w (Zw w q c r K L (Wi L st) (.string (nameN L st))) := by
 have H := Hh h
 rw [← name_note]
 have hi := xName w q c r K L st h
 generalize nameF L st = F at *
 obtain ⟨f0, f1, f2⟩ := F
 have qin := h.whole.inside
 have cin := h.cin
 have rin := h.rin
 clear h
 unfold Zk at hi
 go_enter Try.func46, Try.ntmps46
 go_wp2_with (first
 | (go_at_call 47; refine hi.mono ?_; rintro e w1 ⟨rfl, m1⟩; have M1 := Hh (m1.next (Zc w1 (.cells #[.int .i64 f0, .int .i64 (f1 : Int), .int .i64 (f2 : Int)] 26))); clear m1)
 | (go_at_call 29; refine (xNote _ q c r K L _ (f0, f1, f2) M1.out.at_).mono ?_; rintro e w2 ⟨rfl, m2⟩; have M2 := Hh (M1.out.then m2); clear m2))
 go_ret
 exact ⟨rfl, M2.out⟩
theorem xreadSigned (w : World) (q c r K : Nat) (L : List TokV) (st : St) (h : PAt w q c r K L st) :
   Calls Try.prog 49 #[.pointer (some ⟨q, 0, none⟩), .func (.func 51) #[Xd c st] #[]] w (Zw w q c r K L (signS L st) (.int .i64 (signN L st))) := by
 have H := Hh h
 rw [← sig_note]
 have hi := xSigned w q c r K L st h
 generalize sigF L st = F at *
 obtain ⟨f0, f1, f2⟩ := F
 have qin := h.whole.inside
 have cin := h.cin
 have rin := h.rin
 clear h
 unfold Zk at hi
 go_enter Try.func49, Try.ntmps49
 go_wp2_with (first
 | (go_at_call 51; refine hi.mono ?_; rintro e w1 ⟨rfl, m1⟩; have M1 := Hh (m1.next (Zc w1 (.cells #[.int .i64 f0, .int .i64 (f1 : Int), .int .i64 (f2 : Int)] 26))); clear m1)
 | (go_at_call 29; refine (xNote _ q c r K L _ (f0, f1, f2) M1.out.at_).mono ?_; rintro e w2 ⟨rfl, m2⟩; have M2 := Hh (M1.out.then m2); clear m2))
 go_ret
 exact ⟨rfl, M2.out⟩
theorem deep_note (L : List TokV) (t : ByteArray) (st : St) (h : isS L t st = true) : Vc (downV L st) (deeperS st) = deepS L t st := by
 cases st with
 | ok a d => exact (if_pos h).symm
 | bad F => cases h
theorem deep_not (L : List TokV) (t : ByteArray) (st : St) (h : isS L t st = false) : deepS L t st = st := by
 cases st with
 | ok a d => exact if_neg (by rw [show isT (Zz L a) t = false from h]; decide)
 | bad F => rfl
theorem xdescend (w : World) (q c r K : Nat) (L : List TokV) (st : St) (t : ByteArray) (h : PAt w q c r K L st) :
   Calls Try.prog 67 #[.pointer (some ⟨q, 0, none⟩), .string t] w (Zw w q c r K L (Vx L t st) (.tuple #[])) := by
 have hc := h.cell
 have H := Hh h
 have hi := xIs w q c r K L st t h
 unfold Vx
 cases hb : isS L t st
 · rw [deep_not L t st hb]
   rw [hb] at hi
   clear hb h
   go_enter Try.func67, Try.ntmps67
   go_wp2_with (first
 | (go_at_call 44; refine hi.mono ?_; rintro e w1 ⟨rfl, b1⟩; have M1 := Hh ((Ya.start H.out).next b1); clear b1)
 | (go_at_call 48; refine (xwant _ q c r K L _ t M1.out.at_).mono ?_; rintro e w2 ⟨rfl, m2⟩; have M2 := Hh (M1.out.then m2); clear m2))
   go_end0
   exact ⟨rfl, M2.out⟩
 · rw [hb] at hi
   rw [← deep_note L t st hb]
   generalize hv : downV L st = v
   have hd : ∀ w, PAt w q c r K L st → Calls Try.prog 77 #[Xd c st] w (Zw w q c r K L (deeperS st) (Zk v)) := fun w h => by rw [← hv]; exact xDown w q c r K L st h
   clear hb h hv
   go_enter Try.func67, Try.ntmps67
   go_wp2_with (first
 | (go_at_call 44; refine hi.mono ?_; rintro e w1 ⟨rfl, b1⟩; have hc1 := (H.out.below b1).cell; have M1 := Hh ((Ya.start H.out).next b1); clear b1)
 | (go_at_call 77; refine (hd _ M1.out.at_).mono ?_; rintro e w2 ⟨rfl, m2⟩; have M2 := Hh (M1.out.then m2); clear m2)
 | (go_at_call 29; refine (xNote _ q c r K L _ v M2.out.at_).mono ?_; rintro e w3 ⟨rfl, m3⟩; have M3 := Hh (M2.out.then m3); clear m3)
 | (go_at_call 48; refine (xwant _ q c r K L _ t M3.out.at_).mono ?_; rintro e w4 ⟨rfl, m4⟩; have M4 := Hh (M3.out.then m4); clear m4))
   go_end0
   exact ⟨rfl, M4.out⟩
theorem xascend (w : World) (q c r K : Nat) (L : List TokV) (st : St) (t : ByteArray) (h : PAt w q c r K L st) :
   Calls Try.prog 68 #[.pointer (some ⟨q, 0, none⟩), .string t] w (Zw w q c r K L (riseS L t st) (.tuple #[])) := by
 have H := Hh h
 have hw := xwant w q c r K L st t h
 unfold riseS
 generalize Yu L t st = s at *
 clear h
 go_enter Try.func68, Try.ntmps68
 go_wp2_with (first
 | (go_at_call 48; refine hw.mono ?_; rintro e w1 ⟨rfl, m1⟩; have hcell := m1.at_.cell; have M1 := Hh m1; clear m1)
 | (go_at_call 78; refine (xUp _ q c r K L _ M1.out.at_).mono ?_; rintro e w2 ⟨rfl, m2⟩; have M2 := Hh (M1.out.then m2); clear m2))
 go_end0
 exact ⟨rfl, M2.out⟩
theorem xside (w : World) (q c r K : Nat) (L : List TokV) (st : St) (h : PAt w q c r K L st) :
   Calls Try.prog 70 #[.pointer (some ⟨q, 0, none⟩)] w (Zw w q c r K L (Yi L Zv st) (.int .i64 (Zl L Zv st))) := by
 have qin := h.whole.inside
 have hf := xoneB w q c r K _ L st Zv 3 3 _ rfl rfl h rfl (by decide)
 clear h
 go_enter Try.func70, Try.ntmps70
 go_wp2_with (go_at_call 69; refine hf.mono ?_; rintro e w1 ⟨rfl, m1⟩; have M1 := Hh m1; clear m1)
 go_ret
 exact ⟨rfl, M1.out⟩
theorem xop (w : World) (q c r K : Nat) (L : List TokV) (st : St) (h : PAt w q c r K L st) :
   Calls Try.prog 66 #[.pointer (some ⟨q, 0, none⟩)] w (Zw w q c r K L (Yi L wOp st) (.int .i64 (Zl L wOp st))) := by
 have qin := h.whole.inside
 have hf := xoneB w q c r K _ L st wOp 6 6 _ rfl rfl h rfl (by decide)
 clear h
 go_enter Try.func66, Try.ntmps66
 go_wp2_with (go_at_call 69; refine hf.mono ?_; rintro e w1 ⟨rfl, m1⟩; have M1 := Hh m1; clear m1)
 go_ret
 exact ⟨rfl, M1.out⟩
end Go.Proofs.Ytgfkimknnbpmnaa
