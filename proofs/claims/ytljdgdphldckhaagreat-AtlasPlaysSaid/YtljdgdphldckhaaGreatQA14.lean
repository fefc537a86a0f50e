/-
  Texts Pr2. No conditions but those that each theorem names.
-/
import Derived.Deep.RegionWith
import Derived.Test.YtljdgdphldckhaaGreatQA11
import Derived.Test.YtljdgdphldckhaaGreatQA12
import Derived.Test.YtljdgdphldckhaaGreatQA13
set_option maxRecDepth 20000
set_option maxHeartbeats 12800000
namespace Go.Proofs.YtljdgdphldckhaaGreat
open Go.ChangeShapes Go.WideShapes Go.ChangeAt Go.RowKit
set_option linter.unusedVariables false
set_option linter.unusedSimpArgs false
def Zaf (l : List ByteArray) : Array Value := (l.map Value.string).toArray
def Zp (s : List Int × Bool) (ts : List ByteArray) : List Int × Bool := putsF s (ts.map bL)
theorem Yd (s : List Int × Bool) (a b : List ByteArray) : Zp s (a ++ b) = Zp (Zp s a) b := by simp [Zp, putsF, List.foldl_append]
def lenB (ts : List ByteArray) : Nat := (ts.map fun t => t.size + 1).sum
theorem lenB_app (a b : List ByteArray) : lenB (a ++ b) = lenB a + lenB b := by simp [lenB]
theorem putsB_len (ts : List ByteArray) (s : List Int × Bool) : (Zp s ts).1.length ≤ s.1.length + lenB ts := by
 have h := puts_len (ts.map bL) s
 have e : ((ts.map bL).map fun t => t.length + 1) = ts.map fun t => t.size + 1 := by rw [List.map_map]; exact List.map_congr_left fun t _ => by simp [Wy]
 rw [e] at h
 exact h
theorem prPutB (B : Nat) (x : World) (b : Nat) (a v : Value) (s : List Int × Bool) (ts : List ByteArray) (q n c : Nat) (h : Uk 162 [.bool s.2] B x b a v s.1) (hB : B ≤ x.heap.size) (hl : s.1.length + lenB ts ≤ 10000000000) (ht : ts.length ≤ 1000) (hq : q = x.heap.size) (hn : n = ts.length) :
   Calls Tryz.prog 107 #[.pointer (some ⟨b, 0, none⟩), .slice (some ⟨q, 0, none⟩) n c] (x.alloc (.cells (Zaf ts) 9)) fun e w' => e = .returned (.tuple #[]) ∧ ∃ a' v', Uk 162 [.bool (Zp s ts).2] B w' b a' v' (Zp s ts).1 ∧ Wq b v x v' w' := by
 subst hq hn
 have hlen : (ts.map bL).length = ts.length := by simp
 have e : ((ts.map bL).map fun t => t.length + 1) = ts.map fun t => t.size + 1 := by rw [List.map_map]; exact List.map_congr_left fun t _ => by simp [Wy]
 have hc := prPut B (x.alloc (.cells (Zaf ts) 9)) b a v s (ts.map bL) x.heap.size c (h.below (Za x _)) (Nat.le_trans hB (Za x (.cells (Zaf ts) 9)).size) (by rw [e]; exact hl) (by rw [hlen]; exact ht)
   (fun t ht y hy => by obtain ⟨u, _, rfl⟩ := List.mem_map.1 ht; exact bL_bd u y hy)
   (fun j t hj => by
     rw [(Zb.made x 9 (Zaf ts)).read]
     rw [List.getElem?_map] at hj
     obtain ⟨u, hu, rfl⟩ := Option.map_eq_some_iff.1 hj
     simp [Zaf, hu, str_bL])
   (by simp) (by have := h.whole.inside; omega) (fun c => by have := (h.row.lt _ c).2; omega)
 rw [hlen] at hc
 refine hc.mono ?_
 rintro e w' ⟨rfl, a', v', h1, s1⟩
 exact ⟨rfl, a', v', h1, (Wq.of_below (Za x _)).trans s1⟩
theorem uWordL (x : World) (k : Int) (q n c : Nat) (L : List ByteArray) (hq : q = x.heap.size) (hn : n = L.length) (h1 : 1 ≤ k) (h2 : k ≤ L.length) (h3 : L.length ≤ 1000) :
   Calls Tryz.prog 117 #[.int .i64 k, .slice (some ⟨q, 0, none⟩) n c] (x.alloc (.cells (Zaf L) 9)) fun e w' => e = .returned (.string (wd L k)) ∧ x.alloc (.cells (Zaf L) 9) = w' := by
 subst hq hn
 obtain ⟨j, hj⟩ : ∃ j : Nat, k = (j : Int) + 1 := ⟨(k - 1).toNat, by omega⟩
 subst hj
 have hjl : j < L.length := by omega
 have hw : wd L ((j : Int) + 1) = L[j] := by
   have e : ((j : Int) + 1).toNat - 1 = j := by omega
   unfold wd
   rw [e, List.getElem?_eq_getElem hjl]
   rfl
 have hc : (x.alloc (.cells (Zaf L) 9)).cell? ⟨x.heap.size, j, none⟩ = some (.string (wd L ((j : Int) + 1))) := by
   rw [(Zb.made x 9 (Zaf L)).read, hw]; simp [Zaf, hjl]
 generalize x.alloc (.cells (Zaf L) 9) = y at *
 generalize wd L ((j : Int) + 1) = t at *
 have l1 : (1 : Int) ≤ (j : Int) + 1 := by omega
 have l2 : (j : Int) + 1 ≤ (L.length : Int) := by omega
 have l3 : ((j : Int) + 1 - 1).toNat = j := by omega
 have l4 : (j : Int) < (L.length : Int) := by omega
 clear hw h1 h2
 go_enter Tryz.func117, Tryz.ntmps117
 go_wp2
 go_ret
 exact ⟨rfl, rfl⟩
theorem uSide (k : Int) (w : World) (h1 : 1 ≤ k) (h2 : k ≤ 3) : Calls Tryz.prog 118 #[.int .i64 k] w fun e w' => e = .returned (.string (wd Zt k)) ∧ Below w.heap.size w w' := by
 have B1 := Hh (Za w (.cells (Zaf Zt) 9))
 go_enter Tryz.func118, Tryz.ntmps118
 go_wp2_with (go_at_call 117; refine (uWordL w k _ 3 3 Zt rfl rfl h1 h2 (by decide)).mono ?_; rintro e w1 ⟨rfl, rfl⟩)
 go_ret
 exact ⟨rfl, B1.out⟩
theorem uOp (k : Int) (w : World) (h1 : 1 ≤ k) (h2 : k ≤ 6) : Calls Tryz.prog 161 #[.int .i64 k] w fun e w' => e = .returned (.string (wd wOp k)) ∧ Below w.heap.size w w' := by
 have B1 := Hh (Za w (.cells (Zaf wOp) 9))
 go_enter Tryz.func161, Tryz.ntmps161
 go_wp2_with (go_at_call 117; refine (uWordL w k _ 6 6 wOp rfl rfl h1 h2 (by decide)).mono ?_; rintro e w1 ⟨rfl, rfl⟩)
 go_ret
 exact ⟨rfl, B1.out⟩
def qN (s : ByteArray) : ByteArray := ⟨#[34]⟩ ++ s ++ ⟨#[34]⟩
theorem qN_size (s : ByteArray) : (qN s).size = s.size + 2 := by
 unfold qN
 rw [ByteArray.size_append, ByteArray.size_append]
 have e : (⟨#[34]⟩ : ByteArray).size = 1 := rfl
 rw [e]; omega
theorem uName (s : ByteArray) (w : World) (hs : s.size ≤ 10000000000) : Calls Tryz.prog 108 #[.string s] w fun e w' => e = .returned (.string (qN s)) ∧ w = w' := by
 go_enter Tryz.func108, Tryz.ntmps108
 go_wp2
 go_ret
 exact ⟨rfl, rfl⟩
end Go.Proofs.YtljdgdphldckhaaGreat
