/-
  names.Order: the places of a list by their names. No statement.
-/
import Derived.Test.YtjioemjgndnofaaNamesOrder2
namespace Go.Proofs.Ytjioemjgndnofaa
open Go Go.RowKit Go.Lib Go.Sort
set_option linter.unusedVariables false
/-- A row of strings, as cells. -/
def strCs (L : List ByteArray) : List Value := L.map Value.string
theorem strCs_get {L : List ByteArray} {i : Nat} (h : i < L.length) : (strCs L)[i]? = some (.string (nmS L i)) := by
  unfold strCs nmS
  rw [List.getElem?_map, List.getElem?_eq_getElem h, List.getD_eq_getElem?_getD, List.getElem?_eq_getElem h]
  rfl
/-- A slice of ints just made: its places, the order's, behind the call. -/
def OrderIs (N : List Bs) (n : Nat) (w : World) (e : Ending) (w' : World) : Prop :=
  ∃ g, e = .returned (.slice (some ⟨g, 0, none⟩) n n) ∧ w.heap.size ≤ g ∧ g < w'.heap.size ∧ Reads w' (some ⟨g, 0, none⟩) (natCells (orderN N)) ∧ Below w.heap.size w w'
theorem make_ints (n : Nat) (hn : n ≤ 1000000) (w : World) : (Instr.makeSlice 26 (.int .i64 (n : Int)) (.int .i64 (n : Int))).run Try.prog w = .ok (.slice (some ⟨w.heap.size, 0, none⟩) n n) (w.alloc (.cells (ordArr n 0) 3)) := by
  rw [← ordArr_zero]
  exact run_make_row' 26 3 (.int .i64 0) 8 (by kernel_rfl) (by kernel_rfl) rfl .i64 .i64 n (by omega) (by omega) w
theorem sort_none (c g : Nat) (W : World) : Calls Try.prog 20 #[.slice (some ⟨g, 0, none⟩) 0 0, .func (.func 21) #[] #[.pointer (some ⟨c, 0, none⟩)]] W fun e w' => e = .returned (.tuple #[]) ∧ W = w' :=
  (AnyF.slices_SortFunc_none (P := Try.prog) (ρ := sortL_ren) { sortL with } (some ⟨g, 0, none⟩) 0 (.func (.func 21) #[] #[.pointer (some ⟨c, 0, none⟩)]) W).mono fun e w' h => ⟨h.1, h.2.symm⟩
set_option maxHeartbeats 1000000 in
theorem order_any (A : Option Addr) (cap : Nat) (L : List ByteArray) (w : World) (hr : Reads w A (strCs L)) (hmax : L.length ≤ 1000000) :
    Calls Try.prog 9 #[.slice A L.length cap] w (OrderIs (bsOf L) L.length w) := by
  obtain ⟨n, hn⟩ : ∃ n, L.length = n := ⟨_, rfl⟩
  have hmk := make_ints n (by omega)
  have hlenS : (strCs L).length = n := by unfold strCs; rw [List.length_map]; exact hn
  have HN := Lib.hid hn
  rw [hn]
  rw [hn] at hmax
  clear hn
  go_enter Try.func9, Try.ntmps9
  go_wp2
  go_loopw [10] (fun i wr => ∃ k : Nat, k ≤ n ∧ i = .int .i64 k ∧ Whole wr w.heap.size 22 #[.slice A n cap] ∧ Whole wr (w.heap.size + 1) 3 (ordArr n k) ∧ Below w.heap.size w wr ∧ wr.heap.size = w.heap.size + 2) (fun i _ => n - (intOf i).toNat)
  case atStart =>
    refine ⟨0, by omega, rfl, ?_, ?_, ?_, ?_⟩
    · exact (Whole.made w _ _).alloc _
    · have := Whole.made (w.alloc (.cells #[.slice A n cap] 22)) 3 (ordArr n 0)
      simpa using this
    · exact ((Below.refl _ _).alloc (Nat.le_refl _) _).alloc (by simp) _
    · simp
  case round =>
    obtain ⟨k, hk, rfl, hw1, hw2, hb, hz⟩ := hrel
    by_cases hlt : k < n
    · have hc := hw2.read k
      rw [ordArr_get n k k hlt] at hc
      have hf := hw2.thawed k
      have HW1 := Lib.hid hw1
      have HW2 := Lib.hid hw2
      have HZ := Lib.hid hz
      clear hw1 hw2 hz
      go_wp2
      go_roundw
      case rel =>
        refine ⟨k + 1, by omega, by go_num, HW1.out.aside (by simp) _, ?_, hb.setCell (by simp) _, ?_⟩
        · have := HW2.out.write k (.int .i64 k)
          rw [ordArr_set hlt] at this
          exact this
        · simp [HZ.out]
      case measure => simp [intOf]; omega
    · have hkn : k = n := by omega
      subst hkn
      by_cases h0 : 0 < k
      · obtain ⟨x, rfl, hx, hc⟩ := hr.at_ (by omega)
        have hs := sort_any w.heap.size (w.heap.size + 1) x k cap L wr HN.out h0 hmax (by rw [hw1.read]; rfl) (Nat.lt_of_lt_of_le hx hb.size)
          (fun i hi => by
            rw [hb.cell (p := x.add i) (add_lt hx i), hc i (by omega)]
            exact strCs_get (by rw [HN.out]; exact hi))
          (by omega) (by omega) hw2 (fun B hB => by omega)
        have HW1 := Lib.hid hw1
        have HW2 := Lib.hid hw2
        have HZ := Lib.hid hz
        have HB := Lib.hid hb
        clear hw1 hw2 hz hb hc hr
        go_wp2_with (go_at_call 20; refine hs.mono ?_; rintro e w' ⟨rfl, hb2, hr2⟩; have HB2 := Lib.hid hb2; have HR2 := Lib.hid hr2; clear hb2 hr2)
        go_ret
        refine ⟨w.heap.size + 1, rfl, by omega, ?_, HR2.out, HB.out.trans (HB2.out w.heap.size (by omega))⟩
        have := (HB2.out (w.heap.size + 1) (Nat.le_refl _)).size
        have := HZ.out
        omega
      · obtain rfl : k = 0 := by omega
        have HW1 := Lib.hid hw1
        have HW2 := Lib.hid hw2
        have HZ := Lib.hid hz
        have HB := Lib.hid hb
        clear hw1 hw2 hz hb hr
        go_wp2_with (go_at_call 20; refine (sort_none _ _ _).mono ?_; rintro e w' ⟨rfl, rfl⟩)
        go_ret
        refine ⟨w.heap.size + 1, rfl, by omega, by rw [HZ.out]; omega, .inl ?_, HB.out⟩
        apply List.eq_nil_of_length_eq_zero
        unfold natCells
        rw [List.length_map, orderN_len, bsOf_len, HN.out]
end Go.Proofs.Ytjioemjgndnofaa
