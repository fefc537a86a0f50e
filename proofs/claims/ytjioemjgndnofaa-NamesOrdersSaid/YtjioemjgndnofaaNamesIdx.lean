/-
  An index, read: Find, Len, Next, on one that New made and on none; names.Twice. No statement.
-/
import Derived.Test.YtjioemjgndnofaaNamesNew
namespace Go.Proofs.Ytjioemjgndnofaa
open Go Go.RowKit Go.Lib Go.Sort
set_option linter.unusedVariables false
set_option linter.unusedSimpArgs false
theorem ba_eq {a b : ByteArray} : a.toList = b.toList ↔ a = b := by
  constructor
  · intro h
    rw [Lib.toList_data, Lib.toList_data] at h
    cases a with
    | mk x => cases b with
      | mk y => exact congrArg ByteArray.mk (Array.toList_inj.1 h)
  · rintro rfl; rfl
def nF (L : List ByteArray) : Nat := (firsts (bsOf L)).length
def fAt (L : List ByteArray) (t : Nat) : Nat := (firsts (bsOf L)).getD t 0
/-- Block X is the index of L. -/
structure IdxAt (L : List ByteArray) (X : Nat) (w : World) : Prop where
  mem : ∃ A0 c0 A1 c1, w.cell? ⟨X, 0, none⟩ = some (.slice A0 (nF L) c0) ∧ w.cell? ⟨X, 1, none⟩ = some (.slice A1 (nF L) c1) ∧ Cells w w.heap.size A0 (strCs ((firsts (bsOf L)).map (nmS L))) ∧ Cells w w.heap.size A1 (natCells (firsts (bsOf L)))
  lt : X < w.heap.size
theorem IdxAt.below {L : List ByteArray} {X : Nat} {w w' : World} (h : IdxAt L X w) (hb : Below w.heap.size w w') : IdxAt L X w' := by
  obtain ⟨A0, c0, A1, c1, h1, h2, h3, h4⟩ := h.mem
  refine ⟨⟨A0, c0, A1, c1, ?_, ?_, (h3.below hb).mono hb.size, (h4.below hb).mono hb.size⟩, Nat.lt_of_lt_of_le h.lt hb.size⟩
  · rw [hb.cell (p := ⟨X, 0, none⟩) h.lt]; exact h1
  · rw [hb.cell (p := ⟨X, 1, none⟩) h.lt]; exact h2
theorem IdxAt.drewN {L : List ByteArray} {X : Nat} {w : World} (h : IdxAt L X w) (q : Nat) : IdxAt L X (w.drewN q) := h.below (below_drewN (Below.refl _ _) q)
theorem NewSt.idx {L : List ByteArray} {W w : World} {X : Nat} {v0 v1 : Value} (h : NewSt L W X L.length v0 v1 w) : IdxAt L X w := by
  obtain ⟨A0, c0, e0, _, _, k0⟩ := own_form h.d
  obtain ⟨A1, c1, e1, _, _, k1⟩ := own_form h.i
  obtain ⟨x0, x1, _, _⟩ := whole2 h.x
  have ea : firstsK (bsOf L) L.length = firsts (bsOf L) := by rw [← bsOf_len L]; exact firstsK_all _
  unfold fK at e0 e1
  unfold nmK at k0
  rw [ea] at e0 e1 k0 k1
  subst e0 e1
  exact ⟨⟨A0, c0, A1, c1, x0, x1, k0, k1⟩, h.x.inside⟩
/-- What New leaves. -/
def Made (L : List ByteArray) (w : World) (e : Ending) (w' : World) : Prop := ∃ X, e = .returned (.pointer (some ⟨X, 0, none⟩)) ∧ IdxAt L X w' ∧ Below w.heap.size w w'
theorem New_any (A : Option Addr) (cap : Nat) (L : List ByteArray) (w : World) (hr : Reads w A (strCs L)) (hmax : L.length ≤ 1000000) :
    Calls Try.prog 13 #[.slice A L.length cap] w (Made L w) :=
  (new_any A cap L w hr hmax).mono fun e w' ⟨X, v0, v1, W, he, hs, _, hb⟩ => ⟨X, he, hs.idx, hb⟩
theorem nF_le {L : List ByteArray} (hmax : L.length ≤ 1000000) : nF L ≤ 1000000 := by have := firsts_le (bsOf L); rw [bsOf_len] at this; unfold nF; omega
theorem strF_get {L : List ByteArray} {t : Nat} (h : t < nF L) : (strCs ((firsts (bsOf L)).map (nmS L)))[t]? = some (.string (nmS L (fAt L t))) := by
  unfold strCs fAt
  unfold nF at h
  rw [List.map_map, List.getElem?_map, List.getElem?_eq_getElem h, List.getD_eq_getElem?_getD, List.getElem?_eq_getElem h]
  rfl
theorem natF_get {L : List ByteArray} {t : Nat} (h : t < nF L) : (natCells (firsts (bsOf L)))[t]? = some (.int .i64 (fAt L t : Int)) := by
  unfold natCells fAt
  unfold nF at h
  rw [List.getElem?_map, List.getElem?_eq_getElem h, List.getD_eq_getElem?_getD, List.getElem?_eq_getElem h]
  rfl
theorem strF_len (L : List ByteArray) : (strCs ((firsts (bsOf L)).map (nmS L))).length = nF L := by simp [strCs, nF]
theorem natF_len (L : List ByteArray) : (natCells (firsts (bsOf L))).length = nF L := by simp [natCells, nF]
theorem fAt_nm (L : List ByteArray) (t : Nat) : (nmS L (fAt L t)).toList = nmF (bsOf L) t := by unfold nmF fAt; rw [nmS_at]
theorem search_any (A0 : Option Addr) (c0 : Nat) (L : List ByteArray) (s : ByteArray) (w : World) (hmax : L.length ≤ 1000000) (hc : Cells w w.heap.size A0 (strCs ((firsts (bsOf L)).map (nmS L)))) :
    Calls Try.prog 25 #[.slice A0 (nF L) c0, .string s] w fun e w' => e = .returned (.tuple #[.int .i64 (pos (bsOf L) s.toList : Nat), .bool (hit (bsOf L) s.toList)]) ∧ ∃ q, w' = w.drewN q := by
  have hF := nF_le hmax
  have hp := pos_le (bsOf L) s.toList
  by_cases h0 : 0 < nF L
  · obtain ⟨g, off, rfl, _, hcc⟩ := hc.at_ (by rw [strF_len]; exact h0)
    have h := Any2.slices_BinarySearch_string searchL g off (nF L) c0 (fun t => if t < nF L then nmS L (fAt L t) else s) s w (by omega) (fun j hj => by
      rw [hcc j (by rw [strF_len]; exact hj), strF_get hj]
      simp only [hj, if_true])
    change Calls Try.prog 25 _ _ _ at h
    have hb : Lib.bsGo (fun t => Op.bytesLess (if t < nF L then nmS L (fAt L t) else s).toList s.toList) (nF L) 0 (nF L) = pos (bsOf L) s.toList := by
      refine Lib.bsGo_spec _ _ ?_ ?_ _ _ _ (by omega) (by omega) hp
      · intro t ht
        have h1 : t < nF L := by unfold nF; omega
        rw [if_pos h1, bytesLess_lt, decide_eq_true_eq, fAt_nm]
        exact (pos_lt s.toList h1).2 ht
      · intro t ht
        by_cases h1 : t < nF L
        · rw [if_pos h1, bytesLess_lt, decide_eq_false_iff_not, fAt_nm]
          intro h2
          have := (pos_lt s.toList h1).1 h2
          omega
        · rw [if_neg h1, bytesLess_lt, decide_eq_false_iff_not]
          exact bs_irr _
    rw [hb] at h
    have hd : decide (pos (bsOf L) s.toList < nF L ∧ (if pos (bsOf L) s.toList < nF L then nmS L (fAt L (pos (bsOf L) s.toList)) else s) = s) = hit (bsOf L) s.toList := by
      unfold hit
      apply decide_eq_decide.2
      constructor
      · rintro ⟨h1, h2⟩
        rw [if_pos h1] at h2
        exact ⟨h1, by rw [← fAt_nm, h2]⟩
      · rintro ⟨h1, h2⟩
        refine ⟨h1, ?_⟩
        have h3 : pos (bsOf L) s.toList < nF L := h1
        rw [if_pos h3]
        apply ba_eq.1
        rw [fAt_nm]; exact h2
    rw [hd] at h
    exact h
  · have hz : nF L = 0 := by omega
    have h := Any2.slices_BinarySearch_string_empty searchL A0 c0 s w
    change Calls Try.prog 25 _ _ _ at h
    have hp0 : pos (bsOf L) s.toList = 0 := by have : (firsts (bsOf L)).length = 0 := hz; omega
    have hh0 : hit (bsOf L) s.toList = false := by
      unfold hit
      rw [decide_eq_false_iff_not]
      rintro ⟨h1, _⟩
      have : (firsts (bsOf L)).length = 0 := hz
      omega
    rw [hz, hp0, hh0]
    exact h.mono fun e w' h => ⟨h.1, 0, h.2⟩
set_option maxHeartbeats 1000000 in
theorem Find_any (L : List ByteArray) (X : Nat) (s : ByteArray) (w : World) (hmax : L.length ≤ 1000000) (hi : IdxAt L X w) :
    Calls Try.prog 14 #[.pointer (some ⟨X, 0, none⟩), .string s] w fun e w' => e = .returned (.int .i64 (findZ (bsOf L) s.toList)) ∧ ∃ q, w' = w.drewN q := by
  obtain ⟨A0, c0, A1, c1, h0, h1, k0, k1⟩ := hi.mem
  have hF := nF_le hmax
  have p1 := search_any A0 c0 L s w hmax k0
  cases hh : hit (bsOf L) s.toList with
  | false =>
    have hz := findZ_no hh
    rw [hh] at p1
    generalize pos (bsOf L) s.toList = t at p1
    rw [hz]
    clear hz hh k0 k1
    go_enter Try.func14, Try.ntmps14
    go_wp2_with (go_at_call 25; refine p1.mono ?_; rintro e w' ⟨rfl, q, rfl⟩)
    go_ret
    exact ⟨rfl, _, rfl⟩
  | true =>
    have hz := findZ_hit hh
    have ht : pos (bsOf L) s.toList < nF L := by unfold hit at hh; rw [decide_eq_true_eq] at hh; exact hh.1
    have hf := hit_find hh
    obtain ⟨g, off, rfl, _, hcc⟩ := k1.at_ (by rw [natF_len]; omega)
    have hc := hcc _ (by rw [natF_len]; exact ht)
    rw [natF_get ht] at hc
    unfold fAt at hc
    rw [hf] at hc
    rw [hh] at p1
    generalize pos (bsOf L) s.toList = t at *
    rw [hz]
    clear hz hh k0 k1 hcc hf
    go_enter Try.func14, Try.ntmps14
    go_wp2_with (go_at_call 25; refine p1.mono ?_; rintro e w' ⟨rfl, q, rfl⟩)
    go_ret
    exact ⟨rfl, _, rfl⟩
theorem Find_none (s : ByteArray) (w : World) : Calls Try.prog 14 #[.pointer none, .string s] w fun e w' => e = .returned (.int .i64 (-1)) ∧ ∃ q, w' = w.drewN q := by
  go_enter Try.func14, Try.ntmps14
  go_wp2
  go_ret
  exact ⟨rfl, 0, rfl⟩
theorem Len_any (L : List ByteArray) (X : Nat) (w : World) (hi : IdxAt L X w) :
    Calls Try.prog 16 #[.pointer (some ⟨X, 0, none⟩)] w fun e w' => e = .returned (.int .i64 (nF L : Int)) ∧ ∃ q, w' = w.drewN q := by
  obtain ⟨A0, c0, A1, c1, h0, h1, k0, k1⟩ := hi.mem
  clear k0 k1 h1
  generalize nF L = n at *
  go_enter Try.func16, Try.ntmps16
  go_wp2
  go_ret
  exact ⟨rfl, 0, rfl⟩
theorem Len_none (w : World) : Calls Try.prog 16 #[.pointer none] w fun e w' => e = .returned (.int .i64 0) ∧ ∃ q, w' = w.drewN q := by
  go_enter Try.func16, Try.ntmps16
  go_wp2
  go_ret
  exact ⟨rfl, 0, rfl⟩
def baOf (l : Bs) : ByteArray := ⟨l.toArray⟩
theorem baOf_list (l : Bs) : (baOf l).toList = l := by rw [Lib.toList_data]; simp [baOf]
theorem baOf_eq (a : ByteArray) : baOf a.toList = a := ba_eq.1 (baOf_list _)
def nextS (L : List ByteArray) (s : ByteArray) : ByteArray := baOf (nextN (bsOf L) s.toList)
set_option maxHeartbeats 1000000 in
theorem Next_any (L : List ByteArray) (X : Nat) (s : ByteArray) (w : World) (hmax : L.length ≤ 1000000) (hi : IdxAt L X w) :
    Calls Try.prog 18 #[.pointer (some ⟨X, 0, none⟩), .string s] w fun e w' => e = .returned (.string (nextS L s)) ∧ ∃ q, w' = w.drewN q := by
  obtain ⟨A0, c0, A1, c1, h0, h1, k0, k1⟩ := hi.mem
  have hF := nF_le hmax
  have p1 := search_any A0 c0 L s w hmax k0
  have hle := posNext_le (bsOf L) s.toList
  have hd : posNext (bsOf L) s.toList = if hit (bsOf L) s.toList then pos (bsOf L) s.toList + 1 else pos (bsOf L) s.toList := rfl
  by_cases hend : posNext (bsOf L) s.toList = (firsts (bsOf L)).length
  · have hz : nextS L s = ⟨#[]⟩ := by unfold nextS; rw [next_end hend]; rfl
    rw [hz]
    change posNext (bsOf L) s.toList = nF L at hend
    generalize hit (bsOf L) s.toList = h at *
    generalize pos (bsOf L) s.toList = t at *
    rw [hd] at hend
    clear hz k0 k1 hd hle h1
    cases h
    · have e : t = nF L := by simpa using hend
      subst e
      clear hend
      generalize nF L = t at *
      go_enter Try.func18, Try.ntmps18
      go_wp2_with (go_at_call 25; refine p1.mono ?_; rintro e w' ⟨rfl, q, rfl⟩)
      go_ret
      exact ⟨rfl, _, rfl⟩
    · have e : t + 1 = nF L := by simpa using hend
      rw [← e] at p1 h0 hF
      clear hend e
      go_enter Try.func18, Try.ntmps18
      go_wp2_with (go_at_call 25; refine p1.mono ?_; rintro e w' ⟨rfl, q, rfl⟩)
      go_ret
      exact ⟨rfl, _, rfl⟩
  · have hlt : posNext (bsOf L) s.toList < nF L := by unfold nF; omega
    have hz : nextS L s = nmS L (fAt L (posNext (bsOf L) s.toList)) := by
      unfold nextS
      rw [next_at hlt, ← fAt_nm, baOf_eq]
    rw [hz]
    obtain ⟨g, off, rfl, _, hcc⟩ := k0.at_ (by rw [strF_len]; omega)
    have hc := hcc _ (by rw [strF_len]; exact hlt)
    rw [strF_get hlt] at hc
    generalize nmS L (fAt L (posNext (bsOf L) s.toList)) = r at *
    generalize hit (bsOf L) s.toList = h at *
    generalize pos (bsOf L) s.toList = t at *
    rw [hd] at hlt hc
    clear hz k0 k1 hd hle h1 hend hcc
    generalize nF L = n at *
    cases h
    · simp only [Bool.false_eq_true, if_false] at hlt hc
      have hne : ((t : Int) == (n : Int)) = false := by simp; omega
      go_enter Try.func18, Try.ntmps18
      go_wp2_with (go_at_call 25; refine p1.mono ?_; rintro e w' ⟨rfl, q, rfl⟩)
      go_ret
      exact ⟨rfl, _, rfl⟩
    · simp only [if_true] at hlt hc
      have hne : ((t : Int) + 1 == (n : Int)) = false := by simp; omega
      go_enter Try.func18, Try.ntmps18
      go_wp2_with (go_at_call 25; refine p1.mono ?_; rintro e w' ⟨rfl, q, rfl⟩)
      go_ret
      exact ⟨rfl, _, rfl⟩
theorem Next_none (s : ByteArray) (w : World) : Calls Try.prog 18 #[.pointer none, .string s] w fun e w' => e = .returned (.string ⟨#[]⟩) ∧ ∃ q, w' = w.drewN q := by
  go_enter Try.func18, Try.ntmps18
  go_wp2
  go_ret
  exact ⟨rfl, 0, rfl⟩
end Go.Proofs.Ytjioemjgndnofaa
