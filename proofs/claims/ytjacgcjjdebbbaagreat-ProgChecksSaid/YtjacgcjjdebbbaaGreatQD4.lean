/-
  Texts PrgRef. No conditions but those that each theorem names.
-/
import Derived.Lib.Hide
import Derived.Deep.QuietTactic
import Derived.BigQuiet
import Derived.IntWalk
import Derived.Test.YtjacgcjjdebbbaaGreatQD3
namespace Go.Proofs.YtjacgcjjdebbbaaGreat
open Go.ChangeShapes Go.WideShapes Go.ChangeAt Go.RowKit
set_option linter.unusedVariables false
set_option linter.unusedSimpArgs false
theorem rTakes (op : Int) (w : World) : Calls Tryz.prog 38 #[.int .i64 op] w fun e w' => e = .returned (.int .i64 (tkF op)) ∧ w = w' := by
 have hD : ∀ r : Int, tkF op = r → tkF op = r := fun _ h => h
 go_enter Tryz.func38, Tryz.ntmps38
 go_wp2
 all_goals
   go_ret
   refine ⟨rI ?_, rfl⟩
   simp_all [tkF]
theorem rPuts (op : Int) (w : World) : Calls Tryz.prog 39 #[.int .i64 op] w fun e w' => e = .returned (.int .i64 (ptF op)) ∧ w = w' := by
 go_enter Tryz.func39, Tryz.ntmps39
 go_wp2
 all_goals
   go_ret
   refine ⟨rI ?_, rfl⟩
   simp_all [ptF]
theorem rSelB (op : Int) (w : World) : Calls Tryz.prog 37 #[.int .i64 op] w fun e w' => e = .returned (.bool (Xc op)) ∧ w = w' := by
 go_enter Tryz.func37, Tryz.ntmps37
 go_wp2
 all_goals
   go_ret
   refine ⟨rB ?_, rfl⟩
   first | (simp_all [Xc]; done) | (unfold Xc; rw [Bool.eq_iff_iff]; simp; omega)
def Vf (A B C : Option Addr) (n s m c d g : Nat) : Value := .agg #[.slice A n c, .slice B s d, .slice C m g]
set_option maxHeartbeats 1600000 in
theorem rDeep (w : World) (A B C : Option Addr) (n s m c d g u : Nat) (f : Nat → IV) (hI : Vx w A n f) (hu : u ≤ n) (hn : n ≤ 1000) :
   Calls Tryz.prog 21 #[Vf A B C n s m c d g, .int .i64 (u : Int)] w fun e w' => e = .returned (.int .i64 (Yn f u)) ∧ Below w.heap.size w w' := by
 have HI := Hh hI
 clear hI
 unfold Vf
 have B0 := Hh (Yk (Below.refl _ w) (.cells #[.slice A n c, .slice B s d, .slice C m g] 27))
 obtain ⟨G, hG⟩ : ∃ G, Yn f u = G := ⟨_, rfl⟩
 rw [hG]
 have HG := Hh hG
 clear hG
 go_enter Tryz.func21, Tryz.ntmps21
 go_wp2
 go_loopw [5, 6] (fun h i wr => ∃ k q : Nat, k ≤ u ∧ i = .int .i64 (k : Int) ∧ h = .int .i64 (Yn f k) ∧ 0 ≤ Yn f k ∧ wr = (w.alloc (.cells #[.slice A n c, .slice B s d, .slice C m g] 27)).drewN q) (fun _ i _ => u - (intOf i).toNat)
 case atStart => exact ⟨0, 0, by omega, rfl, rfl, by simp [Yn], rfl⟩
 case round =>
   obtain ⟨k, q, hk, rfl, rfl, h0, rfl⟩ := hrel
   have hbd := (deep_bd f k).2
   by_cases hku : k < u
   · obtain ⟨x, rfl, hx, x0, x1, x2, x3, hwf⟩ := HI.out.get (i := k) (by omega) B0.out
     have l1 : decide ((k : Int) < u) = true := by simp [hku]
     have l2 : k < n := by omega
     have hs1 := deep_less (f := f) (i := k)
     have hs2 := deep_more (f := f) (i := k)
     have hs3 := deep_bad' (f := f) (i := k + 1) (j := u)
     have ht := tk_bd (f k).op
     have hp := pt_bd (f k).op
     have cT := fun w => rTakes (f k).op w
     have cP := fun w => rPuts (f k).op w
     have HS1 := Hh hs1
     have HS2 := Hh hs2
     have HS3 := Hh hs3
     have CT := Hh cT
     have CP := Hh cP
     clear hs1 hs2 hs3 hwf cT cP
     generalize htk : tkF (f k).op = tk at *
     generalize hpt : ptF (f k).op = pt at *
     generalize hdk : Yn f k = dk at *
     generalize hfk : (f k).op = op at *
     have HT := Hh htk
     have HP := Hh hpt
     have HD := Hh hdk
     have HF := Hh hfk
     clear htk hpt hdk hfk
     by_cases hlt : dk < tk
     · go_wp2_with (first
 | (go_at_call 38; refine (CT.out _).mono ?_; rintro e w1 ⟨rfl, rfl⟩))
       go_ret
       exact ⟨rI (by rw [← HG.out, HS3.out (HS1.out hlt) hku]), Wt B0.out q⟩
     · go_wp2_with (first
 | (go_at_call 38; refine (CT.out _).mono ?_; rintro e w1 ⟨rfl, rfl⟩))
       go_quiet ((first
 | (go_at_call 38; exact (CT.out _).mono fun _ _ h => ⟨h.1, _, h.2.symm⟩)
 | (go_at_call 39; exact (CP.out _).mono fun _ _ h => ⟨h.1, _, h.2.symm⟩)))
       go_wp2
       go_round
       case rel => exact ⟨k + 1, _, by omega, by go_num, by rw [HS2.out hlt], by rw [HS2.out hlt]; omega, rfl⟩
       case measure => simp [intOf]; omega
   · obtain rfl : k = u := by omega
     go_wp2
     go_ret
     exact ⟨rI HG.out, Wt B0.out q⟩
theorem open_22 {f : Nat → IV} {k : Nat} (h : (f k).op = 22) : Yo f (k + 1) = -1 := by simp [Yo, h]
theorem open_21 {f : Nat → IV} {k : Nat} (h : (f k).op = 21) : Yo f (k + 1) = (k : Int) := by simp [Yo, h]
theorem open_no {f : Nat → IV} {k : Nat} (h : (f k).op ≠ 21) (h2 : (f k).op ≠ 22) : Yo f (k + 1) = Yo f k := by simp [Yo, h, h2]
set_option maxHeartbeats 1600000 in
theorem rOpen (w : World) (A B C : Option Addr) (n s m c d g u : Nat) (f : Nat → IV) (hI : Vx w A n f) (hu : u ≤ n) (hn : n ≤ 1000) :
   Calls Tryz.prog 20 #[Vf A B C n s m c d g, .int .i64 (u : Int)] w fun e w' => e = .returned (.int .i64 (Yo f u)) ∧ Below w.heap.size w w' := by
 have HI := Hh hI
 clear hI
 unfold Vf
 have B0 := Hh (Yk (Below.refl _ w) (.cells #[.slice A n c, .slice B s d, .slice C m g] 27))
 obtain ⟨G, hG⟩ : ∃ G, Yo f u = G := ⟨_, rfl⟩
 rw [hG]
 have HG := Hh hG
 clear hG
 go_enter Tryz.func20, Tryz.ntmps20
 go_wp2
 go_loop [5, 6] (fun h i => ∃ k : Nat, k ≤ u ∧ i = .int .i64 (k : Int) ∧ h = .int .i64 (Yo f k)) (fun _ i => u - (intOf i).toNat)
 case atStart => exact ⟨0, by omega, rfl, rfl⟩
 case round =>
   obtain ⟨k, hk, rfl, rfl⟩ := hrel
   by_cases hku : k < u
   · obtain ⟨x, rfl, hx, x0, x1, x2, x3, hwf⟩ := HI.out.get (i := k) (by omega) B0.out
     have l1 : decide ((k : Int) < u) = true := by simp [hku]
     have l2 : k < n := by omega
     have HS1 := Hh (open_22 (f := f) (k := k))
     have HS2 := Hh (open_21 (f := f) (k := k))
     have HS3 := Hh (open_no (f := f) (k := k))
     clear hwf
     generalize hdk : Yo f k = dk at *
     generalize hfk : (f k).op = op at *
     have HD := Hh hdk
     have HF := Hh hfk
     clear hdk hfk
     by_cases h21 : op = 21
     · subst h21
       go_wp2
       go_round
       case rel => exact ⟨k + 1, by omega, by go_num, by rw [HS2.out rfl]⟩
       case measure => simp [intOf]; omega
     · by_cases h22 : op = 22
       · subst h22
         go_wp2
         go_round
         case rel => exact ⟨k + 1, by omega, by go_num, by rw [HS1.out rfl]⟩
         case measure => simp [intOf]; omega
       · have g21 : (op == 21) = false := by simpa using h21
         have g22 : (op == 22) = false := by simpa using h22
         have HH := Hh (And.intro h21 h22)
         clear h21 h22
         go_wp2
         go_round
         case rel => exact ⟨k + 1, by omega, by go_num, by rw [HS3.out HH.out.1 HH.out.2]⟩
         case measure => simp [intOf]; omega
   · obtain rfl : k = u := by omega
     go_wp2
     go_ret
     exact ⟨rI HG.out, B0.out⟩
end Go.Proofs.YtjacgcjjdebbbaaGreat
