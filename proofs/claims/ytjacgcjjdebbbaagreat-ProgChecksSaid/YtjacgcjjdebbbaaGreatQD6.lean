/-
  Texts PrgRef3. No conditions but those that each theorem names.
-/
import Derived.Test.YtjacgcjjdebbbaaGreatQD5
namespace Go.Proofs.YtjacgcjjdebbbaaGreat
open Go.ChangeShapes Go.WideShapes Go.ChangeAt Go.RowKit
set_option linter.unusedVariables false
set_option linter.unusedSimpArgs false
structure OneB (w : World) (t : TypeId) (cs : Array Value) (x : World) : Prop where
 k0 : Zb x w.heap.size t cs
 below : Below w.heap.size w x
theorem OneB.start (w : World) (t : TypeId) (cs : Array Value) : OneB w t cs (w.alloc (.cells cs t)) := ⟨Zb.made _ _ _, Yk (Below.refl _ w) _⟩
theorem OneB.next {w x y : World} {t : TypeId} {cs : Array Value} (h : OneB w t cs x) (hb : Below x.heap.size x y) : OneB w t cs y :=
 ⟨h.k0.below hb h.k0.inside, h.below.trans (hb.mono h.below.size)⟩
theorem OneB.drewN {w x : World} {t : TypeId} {cs : Array Value} (h : OneB w t cs x) (q : Nat) : OneB w t cs (x.drewN q) := ⟨h.k0, Wt h.below q⟩
def chkV (p : Int × Int) : Value := .tuple #[.int .i64 p.1, .int .i64 p.2]
theorem rII {p : Int × Int} {a b : Int} (h : p = (a, b)) : Ending.returned (.tuple #[.int .i64 a, .int .i64 b]) = .returned (chkV p) := by rw [h]; rfl
set_option maxHeartbeats 3200000 in
theorem rCheck (w : World) (A B C : Option Addr) (n s m c d g : Nat) (f : Nat → IV) (hI : Vx w A n f) (hn : n ≤ 1000) (hs : (s : Int) ≤ 1000) (hm : (m : Int) ≤ 1000) :
   Calls Tryz.prog 8 #[Vf A B C n s m c d g] w fun e w' => e = .returned (chkV (Ws f n s m)) ∧ Below w.heap.size w w' := by
 have cO := fun x (hb : Below w.heap.size w x) => rOpen x A B C n s m c d g n f (hI.below hb) (by omega) hn
 have cD := fun x (hb : Below w.heap.size w x) => rDeep x A B C n s m c d g n f (hI.below hb) (by omega) hn
 have c1 := fun k x (hb : Below w.heap.size w x) (hk : k < n) => rOne x A B C n s m c d g k f (hI.below hb) hk hn hs hm
 have T0 := Hh (OneB.start w 27 #[.slice A n c, .slice B s d, .slice C m g])
 unfold Vf at cO cD c1 ⊢
 have CO := Hh cO
 have CD := Hh cD
 have C1 := Hh c1
 clear cO cD c1 hI
 have hCH : Hid (Ws f n s m = if 96 < n then (3, 96) else chkF f n s m n 0) := Hh rfl
 obtain ⟨G, hG⟩ : ∃ G, Ws f n s m = G := ⟨_, rfl⟩
 rw [hG]
 have HG := Hh hG
 clear hG
 by_cases h96 : 96 < n
 · have l96 : (96 : Int) < (n : Int) := by omega
   go_enter Tryz.func8, Tryz.ntmps8
   go_wp2
   go_ret2
   exact ⟨rII (by rw [← HG.out, hCH.out, if_pos h96]), T0.out.below⟩
 · have l96 : (n : Int) ≤ 96 := by omega
   have HG2 : Hid (chkF f n s m n 0 = G) := Hh (by rw [← HG.out, hCH.out, if_neg h96])
   clear hCH HG
   go_enter Tryz.func8, Tryz.ntmps8
   go_wp2
   go_loopw [4] (fun i wr => ∃ k : Nat, k ≤ n ∧ i = .int .i64 (k : Int) ∧ chkF f n s m (n - k) k = G ∧ OneB w 27 #[.slice A n c, .slice B s d, .slice C m g] wr) (fun i _ => n - (intOf i).toNat)
   case atStart => exact ⟨0, by omega, rfl, HG2.out, T0.out⟩
   case round =>
     obtain ⟨k, hk, rfl, hch, ho⟩ := hrel
     have T1 := Hh ho
     obtain ⟨p0, p1, p2, _, _, _⟩ := Zq ho.k0
     clear ho
     by_cases hkn : k < n
     · have l1 : decide ((k : Int) < n) = true := by simp [hkn]
       have HC := Hh hch
       clear hch
       have HO1 := Hh (chk_step (f := f) (s := s) (m := m) hkn)
       have HO2 := Hh (chk_bad (f := f) (s := s) (m := m) hkn)
       have C2 := Hh (fun x hb => C1.out k x hb hkn)
       by_cases h0 : oneF f n s m k = 0
       · rw [h0] at C2
         have H0 := Hh h0
         clear h0
         go_wp2_with (first
 | (go_at_call 19; refine (C2.out _ T1.out.below).mono ?_; rintro e w5 ⟨rfl, b5⟩
    have T2 := Hh (T1.out.next b5)
    clear b5))
         go_roundw
         case rel => exact ⟨k + 1, by omega, by go_num, by rw [← HO1.out H0.out]; exact HC.out, T2.out⟩
         case measure => simp [intOf]; omega
       · have g0 : (oneF f n s m k != 0) = true := by simpa using h0
         have H0 := Hh h0
         clear h0
         generalize hq : oneF f n s m k = q1 at *
         have HQ := Hh hq
         clear hq
         go_wp2_with (first
 | (go_at_call 19; refine (C2.out _ T1.out.below).mono ?_; rintro e w5 ⟨rfl, b5⟩
    have T2 := Hh (T1.out.next b5)
    clear b5))
         go_ret2
         exact ⟨rII (by rw [← HC.out, HO2.out H0.out]), T2.out.below⟩
     · obtain rfl : k = n := by omega
       rw [chk_end] at hch
       have HC := Hh hch
       clear hch
       by_cases h1 : 0 ≤ Yo f k
       · generalize hq : Yo f k = q1 at *
         have HQ := Hh hq
         clear hq
         go_wp2_with (first
 | (go_at_call 20; refine (CO.out _ T1.out.below).mono ?_; rintro e w5 ⟨rfl, b5⟩
    have T2 := Hh (T1.out.next b5)
    obtain ⟨p0, p1, p2, _, _, _⟩ := Zq T2.out.k0
    clear b5)
 | go_quiet (fail))
         go_ret2
         exact ⟨rII (by rw [← HC.out, if_pos (.inl h1)]), Wt T2.out.below _⟩
       · have h1' : Yo f k < 0 := by omega
         by_cases h2 : 0 < Yn f k
         · have HQ := Hh (And.intro h1 h2)
           clear h1
           generalize Yo f k = q1 at *
           generalize Yn f k = q2 at *
           go_wp2_with (first
 | (go_at_call 20; refine (CO.out _ T1.out.below).mono ?_; rintro e w5 ⟨rfl, b5⟩
    have T2 := Hh (T1.out.next b5)
    obtain ⟨p0, p1, p2, _, _, _⟩ := Zq T2.out.k0
    clear b5)
 | (go_at_call 21; refine (CD.out _ T2.out.below).mono ?_; rintro e w6 ⟨rfl, b6⟩
    have T3 := Hh (T2.out.next b6)
    obtain ⟨p0, p1, p2, _, _, _⟩ := Zq T3.out.k0
    clear b6)
 | go_quiet (fail))
           go_ret2
           exact ⟨rII (by rw [← HC.out, if_pos (.inr HQ.out.2)]), Wt T3.out.below _⟩
         · have h2' : Yn f k ≤ 0 := by omega
           have HQ := Hh (And.intro h1 h2)
           clear h1 h2
           generalize Yo f k = q1 at *
           generalize Yn f k = q2 at *
           go_wp2_with (first
 | (go_at_call 20; refine (CO.out _ T1.out.below).mono ?_; rintro e w5 ⟨rfl, b5⟩
    have T2 := Hh (T1.out.next b5)
    obtain ⟨p0, p1, p2, _, _, _⟩ := Zq T2.out.k0
    clear b5)
 | (go_at_call 21; refine (CD.out _ T2.out.below).mono ?_; rintro e w6 ⟨rfl, b6⟩
    have T3 := Hh (T2.out.next b6)
    obtain ⟨p0, p1, p2, _, _, _⟩ := Zq T3.out.k0
    clear b6))
           go_ret2
           exact ⟨rII (by rw [← HC.out, if_neg (by have := HQ.out; omega)]), T3.out.below⟩
end Go.Proofs.YtjacgcjjdebbbaaGreat
