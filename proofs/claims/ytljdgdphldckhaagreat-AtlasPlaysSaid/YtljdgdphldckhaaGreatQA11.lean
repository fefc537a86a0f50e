/-
  Texts Prt. No conditions but those that each theorem names.
-/
import Derived.Test.YtljdgdphldckhaaGreatQA10
set_option maxRecDepth 20000
set_option maxHeartbeats 12800000
namespace Go.Proofs.YtljdgdphldckhaaGreat
open Go.ChangeShapes Go.WideShapes Go.ChangeAt Go.RowKit
set_option linter.unusedVariables false
set_option linter.unusedSimpArgs false
theorem pr_lies1 : liesAt Tryz.prog Tryz.prog.depth 162 (3 / Tryz.prog.cellsOf 162) 0 160 1 = true := by kernel_rfl
def spB (lo : Bool) (t : List Int) : Bool := lo && (decide (t ≠ [59]) && decide (t ≠ [41]))
def put1 (s : List Int × Bool) (t : List Int) : List Int × Bool := (s.1 ++ (if spB s.2 t then [32] else []) ++ t, decide (t ≠ [40]))
def putsF (s : List Int × Bool) (ts : List (List Int)) : List Int × Bool := ts.foldl put1 s
theorem puts_len (ts : List (List Int)) : ∀ s : List Int × Bool, (putsF s ts).1.length ≤ s.1.length + (ts.map fun t => t.length + 1).sum := by
 induction ts with
 | nil => intro s; simp [putsF]
 | cons t r ih =>
   intro s
   have h := ih (put1 s t)
   have h2 : (put1 s t).1.length ≤ s.1.length + (t.length + 1) := by unfold put1; split <;> simp <;> omega
   simp only [putsF, List.foldl_cons, List.map_cons, List.sum_cons] at h ⊢
   omega
theorem puts_take (ts : List (List Int)) (s : List Int × Bool) {k : Nat} (hk : k < ts.length) : putsF s (ts.take (k + 1)) = put1 (putsF s (ts.take k)) ts[k] := by
 unfold putsF
 rw [List.take_succ_eq_append_getElem hk, List.foldl_append]
 rfl
theorem Uk.setLo {T : TypeId} {x : Bool} {B : Nat} {w : World} {b : Nat} {a v : Value} {bs : List Int} (h : Uk T [.bool x] B w b a v bs) (y : Bool) : Uk T [.bool y] B (w.setCell ⟨b, 2, none⟩ (.bool y)) b a v bs :=
 ⟨by have := h.whole.write 2 (.bool y); simpa using this, Vx h.row h.far _, h.lo, h.far, h.used⟩
theorem Wq.setLo {b : Nat} {v v' : Value} {w w' : World} (h : Wq b v w v' w') (y : Value) : Wq b v w v' (w'.setCell ⟨b, 2, none⟩ y) :=
 h.trans ⟨(Zo.refl _ _).setCell (p := ⟨b, 2, none⟩) (.inl rfl) _, fun _ hk => .inl hk⟩
theorem byte1 (c : Int) (h : 0 ≤ c ∧ c < 256) (t : List Int) (ht : ∀ x ∈ t, 0 ≤ x ∧ x < 256) : ((strOfNums t).toList == (strOfNums [c]).toList) = decide (t = [c]) :=
 str_eq_iff t [c] ht (by intro x hx; cases List.mem_singleton.1 hx; exact h)
theorem s59 : (strOfNums [59]).toList = [59] := by decide +kernel
theorem s41 : (strOfNums [41]).toList = [41] := by decide +kernel
theorem s40 : (strOfNums [40]).toList = [40] := by decide +kernel
theorem prPut (B : Nat) (w : World) (b : Nat) (a v : Value) (s : List Int × Bool) (ts : List (List Int)) (q c : Nat) (h : Uk 162 [.bool s.2] B w b a v s.1) (hB : B ≤ w.heap.size) (hl : s.1.length + (ts.map fun t => t.length + 1).sum ≤ 10000000000) (ht : ts.length ≤ 1000)
   (hby : ∀ t ∈ ts, ∀ x ∈ t, 0 ≤ x ∧ x < 256) (hq : ∀ j t, ts[j]? = some t → w.cell? ⟨q, j, none⟩ = some (.string (strOfNums t))) (hqs : q < w.heap.size) (hqb : q ≠ b) (hqv : v.ownBlock ≠ some q) :
   Calls Tryz.prog 107 #[.pointer (some ⟨b, 0, none⟩), .slice (some ⟨q, 0, none⟩) ts.length c] w fun e w' => e = .returned (.tuple #[]) ∧ ∃ a' v', Uk 162 [.bool (putsF s ts).2] B w' b a' v' (putsF s ts).1 ∧ Wq b v w v' w' := by
 have H0 := Hh h
 have HQ := Hh hq
 have HL := Hh hl
 have HBY := Hh hby
 clear h hq hl hby
 go_enter Tryz.func107, Tryz.ntmps107
 go_wp2
 go_loopw [8] (fun i wr => ∃ (k : Nat) (a' v' : Value), i = .int .i64 (k : Int) ∧ k ≤ ts.length ∧ Uk 162 [.bool (putsF s (ts.take k)).2] B wr b a' v' (putsF s (ts.take k)).1 ∧ Wq b v w v' wr) (fun i _ => ts.length - (intOf i).toNat)
 case atStart => exact ⟨0, a, v, rfl, by omega, H0.out, Wq.refl _ _ _⟩
 case round =>
   obtain ⟨k, a', v', rfl, hk, hb, hs⟩ := hrel
   have hcq : Zo (fun j => j = b ∨ v.ownBlock = some j) w wr := hs.keeps
   by_cases hkn : k < ts.length
   · have l1 : decide ((k : Int) < (ts.length : Int)) = true := by simp [hkn]
     have hct : wr.cell? ⟨q, k, none⟩ = some (.string (strOfNums ts[k])) := by
       rw [World.cell?_of_block (a := ⟨q, k, none⟩) (hcq.block q hqs (fun c => c.elim hqb hqv))]
       exact HQ.out k _ (List.getElem?_eq_getElem hkn)
     have hmt := Hh (HBY.out ts[k] (List.getElem_mem hkn))
     have hst := Hh (puts_take ts s hkn)
     have hlk : (putsF s (ts.take k)).1.length + (ts[k].length + 1) ≤ 10000000000 := by
       have h1 := puts_len (ts.take k) s
       have h2 : ((ts.take k).map fun t => t.length + 1).sum + (ts[k].length + 1) ≤ (ts.map fun t => t.length + 1).sum := by
         have e : ts = ts.take k ++ ts[k] :: ts.drop (k + 1) := by rw [List.getElem_cons_drop, List.take_append_drop]
         conv => rhs; rw [e]
         rw [List.map_append, List.sum_append, List.map_cons, List.sum_cons]
         omega
       have := HL.out
       omega
     generalize hsk : putsF s (ts.take k) = sk at *
     generalize ts[k] = t at *
     obtain ⟨bs, lo⟩ := sk
     simp only at hb hlk hst
     have HB := Hh hb
     have HS := Hh hs
     have hc2 : wr.cell? ⟨b, 2, none⟩ = some (.bool lo) := by rw [hb.whole.read]; rfl
     have hz2 := hb.whole.thawed 2
     clear hb hs hcq hsk
     have b40 := byte1 40 (by decide) t hmt.out
     have b41 := byte1 41 (by decide) t hmt.out
     have b59 := byte1 59 (by decide) t hmt.out
     rw [s40] at b40
     rw [s41] at b41
     rw [s59] at b59
     have B40 := Hh b40
     have hnl : ∀ c : List UInt8, ((strOfNums t).toList == c) = false → ¬ (strOfNums t).toList = c := fun c h => by simpa using h
     cases lo with
     | false =>
       have HP : Hid (put1 (bs, false) t = (bs ++ t, !((strOfNums t).toList == [40]))) := Hh (by rw [B40.out]; simp [put1, spB])
       clear b40 b41 b59 hnl
       go_wp2_with (first
 | (go_at_call 151; refine (bdByte_w 32 HB.out pr_lies1 (by have := hlk; omega) (Nat.le_trans hB HS.out.keeps.size)).mono ?_; rintro e w1 ⟨rfl, v1, h1, s1⟩
    have H1 := Hh h1
    have S1 := Hh (HS.out.trans s1)
    clear h1 s1)
 | (go_at_call 152; refine (bdString_w t hmt.out HB.out pr_lies1 (by have := hlk; simp; omega) (Nat.le_trans hB HS.out.keeps.size)).mono ?_; rintro e w2 ⟨rfl, v2, h2, s2⟩
    have H2 := Hh h2
    have S2 := Hh (HS.out.trans s2)
    have c2 : w2.cell? ⟨b, 2, none⟩ = some (.bool false) := by rw [h2.whole.read]; rfl
    have z2 := h2.whole.thawed 2
    clear h2 s2))
       go_roundw
       case rel => exact ⟨k + 1, _, v2, by go_num, by omega, by rw [hst.out, HP.out]; exact H2.out.setLo _, S2.out.setLo _⟩
       case measure => simp [intOf]; omega
     | true =>
       by_cases h59 : t = [59]
       · have HP : Hid (put1 (bs, true) t = (bs ++ t, !((strOfNums t).toList == [40]))) := Hh (by rw [B40.out]; simp [put1, spB, h59])
         have g1 : ((strOfNums t).toList == [59]) = true := by rw [b59]; simpa using h59
         have g2 : (strOfNums t).toList = [59] := by simpa using g1
         have G2 := Hh g2
         clear b40 b41 b59 hnl h59 g2
         go_wp2_with (first
 | (go_at_call 151; refine (bdByte_w 32 HB.out pr_lies1 (by have := hlk; omega) (Nat.le_trans hB HS.out.keeps.size)).mono ?_; rintro e w1 ⟨rfl, v1, h1, s1⟩
    have H1 := Hh h1
    have S1 := Hh (HS.out.trans s1)
    clear h1 s1)
 | (go_at_call 152; refine (bdString_w t hmt.out HB.out pr_lies1 (by have := hlk; simp; omega) (Nat.le_trans hB HS.out.keeps.size)).mono ?_; rintro e w2 ⟨rfl, v2, h2, s2⟩
    have H2 := Hh h2
    have S2 := Hh (HS.out.trans s2)
    have c2 : w2.cell? ⟨b, 2, none⟩ = some (.bool true) := by rw [h2.whole.read]; rfl
    have z2 := h2.whole.thawed 2
    clear h2 s2))
         go_roundw
         case rel => exact ⟨k + 1, _, v2, by go_num, by omega, by rw [hst.out, HP.out]; exact H2.out.setLo _, S2.out.setLo _⟩
         case measure => simp [intOf]; omega
       · by_cases h41 : t = [41]
         · have HP : Hid (put1 (bs, true) t = (bs ++ t, !((strOfNums t).toList == [40]))) := Hh (by rw [B40.out]; simp [put1, spB, h41])
           have g1 : ((strOfNums t).toList == [59]) = false := by rw [b59]; simpa using h59
           have g1' := hnl _ g1
           have g2 : ((strOfNums t).toList == [41]) = true := by rw [b41]; simpa using h41
           clear b40 b41 b59 hnl h59 h41
           go_wp2_with (first
 | (go_at_call 151; refine (bdByte_w 32 HB.out pr_lies1 (by have := hlk; omega) (Nat.le_trans hB HS.out.keeps.size)).mono ?_; rintro e w1 ⟨rfl, v1, h1, s1⟩
    have H1 := Hh h1
    have S1 := Hh (HS.out.trans s1)
    clear h1 s1)
 | (go_at_call 152; refine (bdString_w t hmt.out HB.out pr_lies1 (by have := hlk; simp; omega) (Nat.le_trans hB HS.out.keeps.size)).mono ?_; rintro e w2 ⟨rfl, v2, h2, s2⟩
    have H2 := Hh h2
    have S2 := Hh (HS.out.trans s2)
    have c2 : w2.cell? ⟨b, 2, none⟩ = some (.bool true) := by rw [h2.whole.read]; rfl
    have z2 := h2.whole.thawed 2
    clear h2 s2))
           go_roundw
           case rel => exact ⟨k + 1, _, v2, by go_num, by omega, by rw [hst.out, HP.out]; exact H2.out.setLo _, S2.out.setLo _⟩
           case measure => simp [intOf]; omega
         · have HP : Hid (put1 (bs, true) t = (bs ++ [32] ++ t, !((strOfNums t).toList == [40]))) := Hh (by rw [B40.out]; simp [put1, spB, h59, h41])
           have g1 : ((strOfNums t).toList == [59]) = false := by rw [b59]; simpa using h59
           have g1' := hnl _ g1
           have g2 : ((strOfNums t).toList == [41]) = false := by rw [b41]; simpa using h41
           have g2' := hnl _ g2
           clear b40 b41 b59 hnl h59 h41
           go_wp2_with (first
 | (go_at_call 151; refine (bdByte_w 32 HB.out pr_lies1 (by have := hlk; omega) (Nat.le_trans hB HS.out.keeps.size)).mono ?_; rintro e w1 ⟨rfl, v1, h1, s1⟩
    have H1 := Hh h1
    have S1 := Hh (HS.out.trans s1)
    clear h1 s1)
 | (go_at_call 152; refine (bdString_w t hmt.out H1.out pr_lies1 (by have := hlk; simp; omega) (Nat.le_trans hB S1.out.keeps.size)).mono ?_; rintro e w2 ⟨rfl, v2, h2, s2⟩
    have H2 := Hh h2
    have S2 := Hh (S1.out.trans s2)
    have c2 : w2.cell? ⟨b, 2, none⟩ = some (.bool true) := by rw [h2.whole.read]; rfl
    have z2 := h2.whole.thawed 2
    clear h2 s2))
           go_roundw
           case rel => exact ⟨k + 1, _, v2, by go_num, by omega, by rw [hst.out, HP.out]; exact H2.out.setLo _, S2.out.setLo _⟩
           case measure => simp [intOf]; omega
   · obtain rfl : k = ts.length := by omega
     rw [List.take_length] at hb
     have HB := Hh hb
     have HS := Hh hs
     clear hb hs hcq
     go_wp2
     go_end0
     exact ⟨rfl, _, _, HB.out, HS.out⟩
end Go.Proofs.YtljdgdphldckhaaGreat
