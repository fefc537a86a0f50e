/-
  Texts Pr2. No conditions but those that each theorem names.
-/
import Derived.Deep.RegionWith
import Derived.Test.YtljdgdphldckhaaGreatQB11
import Derived.Test.YtljdgdphldckhaaGreatQB12
import Derived.Test.YtljdgdphldckhaaGreatQB13
namespace Go.Proofs.YtljdgdphldckhaaGreat
open Go.ChangeShapes Go.WideShapes Go.ChangeAt Go.RowKit
set_option linter.unusedVariables false
set_option linter.unusedSimpArgs false
def Zbf (l : List ByteArray) : Array Value := (l.map Value.string).toArray
def Zl (s : List Int × Bool) (ts : List ByteArray) : List Int × Bool := putsF s (ts.map bL)
theorem Zw (s : List Int × Bool) (a b : List ByteArray) : Zl s (a ++ b) = Zl (Zl s a) b := by simp [Zl, putsF, List.foldl_append]
def Wl (ts : List ByteArray) : Nat := (ts.map fun t => t.size + 1).sum
theorem Yx (a b : List ByteArray) : Wl (a ++ b) = Wl a + Wl b := by simp [Wl]
theorem putsB_len (ts : List ByteArray) (s : List Int × Bool) : (Zl s ts).1.length ≤ s.1.length + Wl ts := by
 have h := puts_len (ts.map bL) s
 have e : ((ts.map bL).map fun t => t.length + 1) = ts.map fun t => t.size + 1 := by rw [List.map_map]; exact List.map_congr_left fun t _ => by simp [Vx]
 rw [e] at h
 exact h
theorem prPutB (B : Nat) (x : World) (b : Nat) (a v : Value) (s : List Int × Bool) (ts : List ByteArray) (q n c : Nat) (h : Uz 162 [.bool s.2] B x b a v s.1) (hB : B ≤ x.heap.size) (hl : s.1.length + Wl ts ≤ 10000000000) (ht : ts.length ≤ 1000) (hq : q = x.heap.size) (hn : n = ts.length) :
   Calls Tryz.prog 107 #[.pointer (some ⟨b, 0, none⟩), .slice (some ⟨q, 0, none⟩) n c] (x.alloc (.cells (Zbf ts) 9)) fun e w' => e = .returned (.tuple #[]) ∧ ∃ a' v', Uz 162 [.bool (Zl s ts).2] B w' b a' v' (Zl s ts).1 ∧ Vg b v x v' w' := by
 subst hq hn
 have hlen : (ts.map bL).length = ts.length := by simp
 have e : ((ts.map bL).map fun t => t.length + 1) = ts.map fun t => t.size + 1 := by rw [List.map_map]; exact List.map_congr_left fun t _ => by simp [Vx]
 have hc := prPut B (x.alloc (.cells (Zbf ts) 9)) b a v s (ts.map bL) x.heap.size c (h.below (Zb x _)) (Nat.le_trans hB (Zb x (.cells (Zbf ts) 9)).size) (by rw [e]; exact hl) (by rw [hlen]; exact ht)
   (fun t ht y hy => by obtain ⟨u, _, rfl⟩ := List.mem_map.1 ht; exact bL_bd u y hy)
   (fun j t hj => by
     rw [(Za.made x 9 (Zbf ts)).read]
     rw [List.getElem?_map] at hj
     obtain ⟨u, hu, rfl⟩ := Option.map_eq_some_iff.1 hj
     simp [Zbf, hu, str_bL])
   (by simp) (by have := h.whole.inside; omega) (fun c => by have := (h.row.lt _ c).2; omega)
 rw [hlen] at hc
 refine hc.mono ?_
 rintro e w' ⟨rfl, a', v', h1, s1⟩
 exact ⟨rfl, a', v', h1, (Vg.of_below (Zb x _)).trans s1⟩
theorem uWordL (x : World) (k : Int) (q n c : Nat) (L : List ByteArray) (hq : q = x.heap.size) (hn : n = L.length) (h1 : 1 ≤ k) (h2 : k ≤ L.length) (h3 : L.length ≤ 1000) :
   Calls Tryz.prog 117 #[.int .i64 k, .slice (some ⟨q, 0, none⟩) n c] (x.alloc (.cells (Zbf L) 9)) fun e w' => e = .returned (.string (wd L k)) ∧ x.alloc (.cells (Zbf L) 9) = w' := by
 subst hq hn
 obtain ⟨j, hj⟩ : ∃ j : Nat, k = (j : Int) + 1 := ⟨(k - 1).toNat, by omega⟩
 subst hj
 have hjl : j < L.length := by omega
 have hw : wd L ((j : Int) + 1) = L[j] := by
   have e : ((j : Int) + 1).toNat - 1 = j := by omega
   unfold wd
   rw [e, List.getElem?_eq_getElem hjl]
   rfl
 have hc : (x.alloc (.cells (Zbf L) 9)).cell? ⟨x.heap.size, j, none⟩ = some (.string (wd L ((j : Int) + 1))) := by
   rw [(Za.made x 9 (Zbf L)).read, hw]; simp [Zbf, hjl]
 generalize x.alloc (.cells (Zbf L) 9) = y at *
 generalize wd L ((j : Int) + 1) = t at *
 have l1 : (1 : Int) ≤ (j : Int) + 1 := by omega
 have l2 : (j : Int) + 1 ≤ (L.length : Int) := by omega
 have l3 : ((j : Int) + 1 - 1).toNat = j := by omega
 have l4 : (j : Int) < (L.length : Int) := by omega
 clear hw h1 h2
 go_enter Tryz.func117, Tryz.ntmps117
 go_wp2
 go_ret
 exact ⟨rfl, rfl⟩
theorem uSide (k : Int) (w : World) (h1 : 1 ≤ k) (h2 : k ≤ 3) : Calls Tryz.prog 118 #[.int .i64 k] w fun e w' => e = .returned (.string (wd Zk k)) ∧ Below w.heap.size w w' := by
 have B1 := Hh (Zb w (.cells (Zbf Zk) 9))
 go_enter Tryz.func118, Tryz.ntmps118
 go_wp2_with (go_at_call 117; refine (uWordL w k _ 3 3 Zk rfl rfl h1 h2 (by decide)).mono ?_; rintro e w1 ⟨rfl, rfl⟩)
 go_ret
 exact ⟨rfl, B1.out⟩
theorem uOp (k : Int) (w : World) (h1 : 1 ≤ k) (h2 : k ≤ 6) : Calls Tryz.prog 161 #[.int .i64 k] w fun e w' => e = .returned (.string (wd wOp k)) ∧ Below w.heap.size w w' := by
 have B1 := Hh (Zb w (.cells (Zbf wOp) 9))
 go_enter Tryz.func161, Tryz.ntmps161
 go_wp2_with (go_at_call 117; refine (uWordL w k _ 6 6 wOp rfl rfl h1 h2 (by decide)).mono ?_; rintro e w1 ⟨rfl, rfl⟩)
 go_ret
 exact ⟨rfl, B1.out⟩
def qN (s : ByteArray) : ByteArray := ⟨#[34]⟩ ++ s ++ ⟨#[34]⟩
theorem qN_size (s : ByteArray) : (qN s).size = s.size + 2 := by
 unfold qN
 rw [ByteArray.size_append, ByteArray.size_append]
 have e : (⟨#[34]⟩ : ByteArray).size = 1 := rfl
 rw [e]; omega
theorem uName (s : ByteArray) (w : World) (hs : s.size ≤ 10000000000) : Calls Tryz.prog 108 #[.string s] w fun e w' => e = .returned (.string (qN s)) ∧ w = w' := by
 go_enter Tryz.func108, Tryz.ntmps108
 go_wp2
 go_ret
 exact ⟨rfl, rfl⟩
end Go.Proofs.YtljdgdphldckhaaGreat
