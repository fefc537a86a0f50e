/-
  Texts PrgRef2. No conditions but those that each theorem names.
-/
import Derived.Test.YtjacgcjjdebbbaaGreatQD4
namespace Go.Proofs.YtjacgcjjdebbbaaGreat
open Go.ChangeShapes Go.WideShapes Go.ChangeAt Go.RowKit
set_option linter.unusedVariables false
set_option linter.unusedSimpArgs false
theorem wf_bd {x : Int} (h : (Lit.int .i64 x).wf = true) : -9223372036854775808 ≤ x ∧ x ≤ 9223372036854775807 := bounds_i64 h
theorem Yj {w : World} {g : Nat} {t : TypeId} {a b c d : Value} (h : Zb w g t #[a, b, c, d]) : w.cell? ⟨g, 0, none⟩ = some a ∧ w.cell? ⟨g, 1, none⟩ = some b ∧ w.cell? ⟨g, 2, none⟩ = some c ∧ w.cell? ⟨g, 3, none⟩ = some d :=
 ⟨by rw [h.read]; rfl, by rw [h.read]; rfl, by rw [h.read]; rfl, by rw [h.read]; rfl⟩
def Xx (op a bb e : Int) (k : Nat) : Bool := decide ((op = 21 → e < 0) ∧ (op = 22 → 0 ≤ e ∧ a = e + 1 ∧ bb = k + 1))
def Vb (op h : Int) : Bool := decide (0 ≤ h ∧ (9 < op → h ≤ 0))
def Vg (x : IV) (n s m k : Nat) (e h bb : Int) : Int :=
 if x.op < 1 ∨ 26 < x.op then 13
 else if Wy x s m = false then 12
 else if Wz x k n = false then 12
 else if Xx x.op x.a bb e k = false then 12
 else if Vb x.op h = false then 16 else 0
theorem one_is (f : Nat → IV) (n s m k : Nat) : oneF f n s m k = Vg (f k) n s m k (Yo f k) (Yn f (k + 1)) (f (Yo f k).toNat).b := rfl
set_option maxHeartbeats 3200000 in
theorem rOne (w : World) (A B C : Option Addr) (n s m c d g k : Nat) (f : Nat → IV) (hI : Vx w A n f) (hk : k < n) (hn : n ≤ 1000) (hs : (s : Int) ≤ 1000) (hm : (m : Int) ≤ 1000) :
   Calls Tryz.prog 19 #[Vf A B C n s m c d g, .int .i64 (k : Int)] w fun e w' => e = .returned (.int .i64 (oneF f n s m k)) ∧ Below w.heap.size w w' := by
 obtain ⟨G, hG⟩ : ∃ G, oneF f n s m k = G := ⟨_, rfl⟩
 rw [hG]
 rw [one_is] at hG
 have HI := Hh hI
 have T0 := Hh (Two.start w 27 #[.slice A n c, .slice B s d, .slice C m g] 93 (f k).cells)
 have cO := fun x (hb : Below w.heap.size w x) => rOpen x A B C n s m c d g k f (hI.below hb) (by omega) hn
 have cD := fun x (hb : Below w.heap.size w x) => rDeep x A B C n s m c d g (k + 1) f (hI.below hb) (by omega) hn
 unfold Vf at cO cD ⊢
 have hdb := deep_bd f (k + 1)
 have hob := open_bd f k
 obtain ⟨x, rfl, hx, x0, x1, x2, x3, wf⟩ := HI.out.get (i := k) (by omega) (Yk (Below.refl _ w) (.cells #[.slice A n c, .slice B s d, .slice C m g] 27))
 obtain ⟨w0, w1, w2, w3⟩ := wf
 replace w0 := wf_bd w0
 replace w1 := wf_bd w1
 replace w2 := wf_bd w2
 replace w3 := wf_bd w3
 have HB : Hid (∀ j : Nat, Yo f k = j → ∀ w' : World, Below w.heap.size w w' → w'.cell? ⟨(x.add (j * 4)).block, (x.add (j * 4)).off + 2, none⟩ = some (.int .i64 (f (Yo f k).toNat).b)) := by
   refine Hh fun j hj w' hb => ?_
   rw [hj]
   have hjn : j < n := by rcases hob with h | h <;> omega
   obtain ⟨x', hx', _, _, _, y2, _⟩ := HI.out.get hjn hb
   cases hx'
   simpa using y2
 have e22 : Yo f k = -1 ∨ ∃ j : Nat, Yo f k = j ∧ j < k := by
   rcases hob with h | h
   · exact .inl h
   · exact .inr ⟨(Yo f k).toNat, by omega, by omega⟩
 unfold IV.cells at T0
 have hk1 : ((k + 1 : Nat) : Int) = (k : Int) + 1 := by omega
 rw [hk1] at cD
 clear hk1
 generalize (f (Yo f k).toNat).b = bb at *
 generalize hE : Yo f k = e at *
 generalize hD : Yn f (k + 1) = h at *
 generalize f k = y at *
 obtain ⟨op, a, b, cc⟩ := y
 simp only at x0 x1 x2 x3 w0 w1 w2 w3 T0
 have HG := Hh hG
 have CO := Hh cO
 have CD := Hh cD
 have E22 := Hh e22
 have l1 : k < n := hk
 clear hI cO cD hE hD hG e22 HI hob
 have hcls : (op < 1 ∨ 26 < op) ∨ op = 21 ∨ op = 22 ∨ op = 19 ∨ op = 20 ∨ op = 15 ∨ ((1 ≤ op ∧ op ≤ 26 ∧ op ≠ 21 ∧ op ≠ 22 ∧ op ≠ 19 ∧ op ≠ 20 ∧ op ≠ 15) ∧ Xc op = true) ∨ ((1 ≤ op ∧ op ≤ 26 ∧ op ≠ 21 ∧ op ≠ 22 ∧ op ≠ 19 ∧ op ≠ 20 ∧ op ≠ 15) ∧ Xc op = false) := by
   cases Xc op <;> simp <;> omega
 rcases hcls with hc | rfl | rfl | rfl | rfl | rfl | ⟨hc, hsel⟩ | ⟨hc, hsel⟩
 · go_enter Tryz.func19, Tryz.ntmps19
   go_wp2_with (first
 | (go_at_call 20; refine (CO.out _ T0.out.below).mono ?_; rintro e1 w5 ⟨rfl, b5⟩
    have T1 := Hh (T0.out.next b5)
    obtain ⟨p0, p1, p2, _, _, _⟩ := Zq T1.out.k0
    obtain ⟨i0, i1, i2, i3⟩ := Yj T1.out.k1
    clear b5)
 | (go_at_call 21; refine (CD.out _ T1.out.below).mono ?_; rintro e1 w6 ⟨rfl, b6⟩
    have T2 := Hh (T1.out.next b6)
    obtain ⟨p0, p1, p2, _, _, _⟩ := Zq T2.out.k0
    obtain ⟨i0, i1, i2, i3⟩ := Yj T2.out.k1
    clear b6))
   all_goals
     go_ret
     first
       | exact ⟨rI (by have hg := HG.out; (try simp only [beq_iff_eq, bne_iff_ne, ne_eq, beq_eq_false_iff_ne, bne_eq_false_iff_eq] at *); rw [← hg]; simp [Vg, Wy, Wz, Xx, Vb, Vk, Xc]; all_goals (repeat' (first | omega | split))), T2.out.below⟩
       | exact ⟨rI (by have hg := HG.out; (try simp only [beq_iff_eq, bne_iff_ne, ne_eq, beq_eq_false_iff_ne, bne_eq_false_iff_eq] at *); rw [← hg]; simp [Vg, Wy, Wz, Xx, Vb, Vk, Xc]; all_goals (repeat' (first | omega | split))), T1.out.below⟩
       | exact ⟨rI (by have hg := HG.out; (try simp only [beq_iff_eq, bne_iff_ne, ne_eq, beq_eq_false_iff_ne, bne_eq_false_iff_eq] at *); rw [← hg]; simp [Vg, Wy, Wz, Xx, Vb, Vk, Xc]; all_goals (repeat' (first | omega | split))), T0.out.below⟩
 · have CS : Hid (∀ w : World, Calls Tryz.prog 37 #[.int .i64 21] w fun e w' => e = .returned (.bool true) ∧ w = w') := Hh fun w => rSelB 21 w
   go_enter Tryz.func19, Tryz.ntmps19
   go_wp2_with (first
 | (go_at_call 37; refine (CS.out _).mono ?_; rintro e1 w1 ⟨rfl, rfl⟩)
 | (go_at_call 20; refine (CO.out _ T0.out.below).mono ?_; rintro e1 w5 ⟨rfl, b5⟩
    have T1 := Hh (T0.out.next b5)
    obtain ⟨p0, p1, p2, _, _, _⟩ := Zq T1.out.k0
    obtain ⟨i0, i1, i2, i3⟩ := Yj T1.out.k1
    clear b5)
 | (go_at_call 21; refine (CD.out _ T1.out.below).mono ?_; rintro e1 w6 ⟨rfl, b6⟩
    have T2 := Hh (T1.out.next b6)
    obtain ⟨p0, p1, p2, _, _, _⟩ := Zq T2.out.k0
    obtain ⟨i0, i1, i2, i3⟩ := Yj T2.out.k1
    clear b6))
   all_goals
     go_ret
     first
       | exact ⟨rI (by have hg := HG.out; (try simp only [beq_iff_eq, bne_iff_ne, ne_eq, beq_eq_false_iff_ne, bne_eq_false_iff_eq] at *); rw [← hg]; simp [Vg, Wy, Wz, Xx, Vb, Vk, Xc]; all_goals (repeat' (first | omega | split))), T2.out.below⟩
       | exact ⟨rI (by have hg := HG.out; (try simp only [beq_iff_eq, bne_iff_ne, ne_eq, beq_eq_false_iff_ne, bne_eq_false_iff_eq] at *); rw [← hg]; simp [Vg, Wy, Wz, Xx, Vb, Vk, Xc]; all_goals (repeat' (first | omega | split))), T1.out.below⟩
       | exact ⟨rI (by have hg := HG.out; (try simp only [beq_iff_eq, bne_iff_ne, ne_eq, beq_eq_false_iff_ne, bne_eq_false_iff_eq] at *); rw [← hg]; simp [Vg, Wy, Wz, Xx, Vb, Vk, Xc]; all_goals (repeat' (first | omega | split))), T0.out.below⟩
 · have CS : Hid (∀ w : World, Calls Tryz.prog 37 #[.int .i64 22] w fun e w' => e = .returned (.bool false) ∧ w = w') := Hh fun w => rSelB 22 w
   rcases E22.out with rfl | ⟨j, rfl, hjk⟩
   · go_enter Tryz.func19, Tryz.ntmps19
     go_wp2_with (first
 | (go_at_call 37; refine (CS.out _).mono ?_; rintro e1 w1 ⟨rfl, rfl⟩)
 | (go_at_call 20; refine (CO.out _ T0.out.below).mono ?_; rintro e1 w5 ⟨rfl, b5⟩
    have T1 := Hh (T0.out.next b5)
    obtain ⟨p0, p1, p2, _, _, _⟩ := Zq T1.out.k0
    obtain ⟨i0, i1, i2, i3⟩ := Yj T1.out.k1
    clear b5)
 | (go_at_call 21; refine (CD.out _ T1.out.below).mono ?_; rintro e1 w6 ⟨rfl, b6⟩
    have T2 := Hh (T1.out.next b6)
    obtain ⟨p0, p1, p2, _, _, _⟩ := Zq T2.out.k0
    obtain ⟨i0, i1, i2, i3⟩ := Yj T2.out.k1
    clear b6))
     all_goals
       go_ret
       first
         | exact ⟨rI (by have hg := HG.out; (try simp only [beq_iff_eq, bne_iff_ne, ne_eq, beq_eq_false_iff_ne, bne_eq_false_iff_eq] at *); rw [← hg]; simp [Vg, Wy, Wz, Xx, Vb, Vk, Xc]; all_goals (repeat' (first | omega | split))), T2.out.below⟩
         | exact ⟨rI (by have hg := HG.out; (try simp only [beq_iff_eq, bne_iff_ne, ne_eq, beq_eq_false_iff_ne, bne_eq_false_iff_eq] at *); rw [← hg]; simp [Vg, Wy, Wz, Xx, Vb, Vk, Xc]; all_goals (repeat' (first | omega | split))), T1.out.below⟩
         | exact ⟨rI (by have hg := HG.out; (try simp only [beq_iff_eq, bne_iff_ne, ne_eq, beq_eq_false_iff_ne, bne_eq_false_iff_eq] at *); rw [← hg]; simp [Vg, Wy, Wz, Xx, Vb, Vk, Xc]; all_goals (repeat' (first | omega | split))), T0.out.below⟩
   · have HBJ := Hh (HB.out j rfl)
     have hjn : j < n := by omega
     clear HB E22
     go_enter Tryz.func19, Tryz.ntmps19
     go_wp2_with (first
 | (go_at_call 37; refine (CS.out _).mono ?_; rintro e1 w1 ⟨rfl, rfl⟩)
 | (go_at_call 20; refine (CO.out _ T0.out.below).mono ?_; rintro e1 w5 ⟨rfl, b5⟩
    have T1 := Hh (T0.out.next b5)
    obtain ⟨p0, p1, p2, _, _, _⟩ := Zq T1.out.k0
    obtain ⟨i0, i1, i2, i3⟩ := Yj T1.out.k1
    have y2 := HBJ.out _ T1.out.below
    clear b5)
 | (go_at_call 21; refine (CD.out _ T1.out.below).mono ?_; rintro e1 w6 ⟨rfl, b6⟩
    have T2 := Hh (T1.out.next b6)
    obtain ⟨p0, p1, p2, _, _, _⟩ := Zq T2.out.k0
    obtain ⟨i0, i1, i2, i3⟩ := Yj T2.out.k1
    clear b6))
     all_goals
       go_ret
       first
         | exact ⟨rI (by have hg := HG.out; (try simp only [beq_iff_eq, bne_iff_ne, ne_eq, beq_eq_false_iff_ne, bne_eq_false_iff_eq] at *); rw [← hg]; simp [Vg, Wy, Wz, Xx, Vb, Vk, Xc]; all_goals (repeat' (first | omega | split))), T2.out.below⟩
         | exact ⟨rI (by have hg := HG.out; (try simp only [beq_iff_eq, bne_iff_ne, ne_eq, beq_eq_false_iff_ne, bne_eq_false_iff_eq] at *); rw [← hg]; simp [Vg, Wy, Wz, Xx, Vb, Vk, Xc]; all_goals (repeat' (first | omega | split))), T1.out.below⟩
         | exact ⟨rI (by have hg := HG.out; (try simp only [beq_iff_eq, bne_iff_ne, ne_eq, beq_eq_false_iff_ne, bne_eq_false_iff_eq] at *); rw [← hg]; simp [Vg, Wy, Wz, Xx, Vb, Vk, Xc]; all_goals (repeat' (first | omega | split))), T0.out.below⟩
 · have CS : Hid (∀ w : World, Calls Tryz.prog 37 #[.int .i64 19] w fun e w' => e = .returned (.bool false) ∧ w = w') := Hh fun w => rSelB 19 w
   go_enter Tryz.func19, Tryz.ntmps19
   go_wp2_with (first
 | (go_at_call 37; refine (CS.out _).mono ?_; rintro e1 w1 ⟨rfl, rfl⟩)
 | (go_at_call 20; refine (CO.out _ T0.out.below).mono ?_; rintro e1 w5 ⟨rfl, b5⟩
    have T1 := Hh (T0.out.next b5)
    obtain ⟨p0, p1, p2, _, _, _⟩ := Zq T1.out.k0
    obtain ⟨i0, i1, i2, i3⟩ := Yj T1.out.k1
    clear b5)
 | (go_at_call 21; refine (CD.out _ T1.out.below).mono ?_; rintro e1 w6 ⟨rfl, b6⟩
    have T2 := Hh (T1.out.next b6)
    obtain ⟨p0, p1, p2, _, _, _⟩ := Zq T2.out.k0
    obtain ⟨i0, i1, i2, i3⟩ := Yj T2.out.k1
    clear b6))
   all_goals
     go_ret
     first
       | exact ⟨rI (by have hg := HG.out; (try simp only [beq_iff_eq, bne_iff_ne, ne_eq, beq_eq_false_iff_ne, bne_eq_false_iff_eq] at *); rw [← hg]; simp [Vg, Wy, Wz, Xx, Vb, Vk, Xc]; all_goals (repeat' (first | omega | split))), T2.out.below⟩
       | exact ⟨rI (by have hg := HG.out; (try simp only [beq_iff_eq, bne_iff_ne, ne_eq, beq_eq_false_iff_ne, bne_eq_false_iff_eq] at *); rw [← hg]; simp [Vg, Wy, Wz, Xx, Vb, Vk, Xc]; all_goals (repeat' (first | omega | split))), T1.out.below⟩
       | exact ⟨rI (by have hg := HG.out; (try simp only [beq_iff_eq, bne_iff_ne, ne_eq, beq_eq_false_iff_ne, bne_eq_false_iff_eq] at *); rw [← hg]; simp [Vg, Wy, Wz, Xx, Vb, Vk, Xc]; all_goals (repeat' (first | omega | split))), T0.out.below⟩
 · have CS : Hid (∀ w : World, Calls Tryz.prog 37 #[.int .i64 20] w fun e w' => e = .returned (.bool false) ∧ w = w') := Hh fun w => rSelB 20 w
   go_enter Tryz.func19, Tryz.ntmps19
   go_wp2_with (first
 | (go_at_call 37; refine (CS.out _).mono ?_; rintro e1 w1 ⟨rfl, rfl⟩)
 | (go_at_call 20; refine (CO.out _ T0.out.below).mono ?_; rintro e1 w5 ⟨rfl, b5⟩
    have T1 := Hh (T0.out.next b5)
    obtain ⟨p0, p1, p2, _, _, _⟩ := Zq T1.out.k0
    obtain ⟨i0, i1, i2, i3⟩ := Yj T1.out.k1
    clear b5)
 | (go_at_call 21; refine (CD.out _ T1.out.below).mono ?_; rintro e1 w6 ⟨rfl, b6⟩
    have T2 := Hh (T1.out.next b6)
    obtain ⟨p0, p1, p2, _, _, _⟩ := Zq T2.out.k0
    obtain ⟨i0, i1, i2, i3⟩ := Yj T2.out.k1
    clear b6))
   all_goals
     go_ret
     first
       | exact ⟨rI (by have hg := HG.out; (try simp only [beq_iff_eq, bne_iff_ne, ne_eq, beq_eq_false_iff_ne, bne_eq_false_iff_eq] at *); rw [← hg]; simp [Vg, Wy, Wz, Xx, Vb, Vk, Xc]; all_goals (repeat' (first | omega | split))), T2.out.below⟩
       | exact ⟨rI (by have hg := HG.out; (try simp only [beq_iff_eq, bne_iff_ne, ne_eq, beq_eq_false_iff_ne, bne_eq_false_iff_eq] at *); rw [← hg]; simp [Vg, Wy, Wz, Xx, Vb, Vk, Xc]; all_goals (repeat' (first | omega | split))), T1.out.below⟩
       | exact ⟨rI (by have hg := HG.out; (try simp only [beq_iff_eq, bne_iff_ne, ne_eq, beq_eq_false_iff_ne, bne_eq_false_iff_eq] at *); rw [← hg]; simp [Vg, Wy, Wz, Xx, Vb, Vk, Xc]; all_goals (repeat' (first | omega | split))), T0.out.below⟩
 · have CS : Hid (∀ w : World, Calls Tryz.prog 37 #[.int .i64 15] w fun e w' => e = .returned (.bool false) ∧ w = w') := Hh fun w => rSelB 15 w
   go_enter Tryz.func19, Tryz.ntmps19
   go_wp2_with (first
 | (go_at_call 37; refine (CS.out _).mono ?_; rintro e1 w1 ⟨rfl, rfl⟩)
 | (go_at_call 20; refine (CO.out _ T0.out.below).mono ?_; rintro e1 w5 ⟨rfl, b5⟩
    have T1 := Hh (T0.out.next b5)
    obtain ⟨p0, p1, p2, _, _, _⟩ := Zq T1.out.k0
    obtain ⟨i0, i1, i2, i3⟩ := Yj T1.out.k1
    clear b5)
 | (go_at_call 21; refine (CD.out _ T1.out.below).mono ?_; rintro e1 w6 ⟨rfl, b6⟩
    have T2 := Hh (T1.out.next b6)
    obtain ⟨p0, p1, p2, _, _, _⟩ := Zq T2.out.k0
    obtain ⟨i0, i1, i2, i3⟩ := Yj T2.out.k1
    clear b6))
   all_goals
     go_ret
     first
       | exact ⟨rI (by have hg := HG.out; (try simp only [beq_iff_eq, bne_iff_ne, ne_eq, beq_eq_false_iff_ne, bne_eq_false_iff_eq] at *); rw [← hg]; simp [Vg, Wy, Wz, Xx, Vb, Vk, Xc]; all_goals (repeat' (first | omega | split))), T2.out.below⟩
       | exact ⟨rI (by have hg := HG.out; (try simp only [beq_iff_eq, bne_iff_ne, ne_eq, beq_eq_false_iff_ne, bne_eq_false_iff_eq] at *); rw [← hg]; simp [Vg, Wy, Wz, Xx, Vb, Vk, Xc]; all_goals (repeat' (first | omega | split))), T1.out.below⟩
       | exact ⟨rI (by have hg := HG.out; (try simp only [beq_iff_eq, bne_iff_ne, ne_eq, beq_eq_false_iff_ne, bne_eq_false_iff_eq] at *); rw [← hg]; simp [Vg, Wy, Wz, Xx, Vb, Vk, Xc]; all_goals (repeat' (first | omega | split))), T0.out.below⟩
 · have CS : Hid (∀ w : World, Calls Tryz.prog 37 #[.int .i64 op] w fun e w' => e = .returned (.bool true) ∧ w = w') := Hh fun w => by have := rSelB op w; rwa [hsel] at this
   obtain ⟨o1, o26, n21, n22, n19, n20, n15⟩ := hc
   have g21 : (op == 21) = false := by simpa using n21
   have g22 : (op == 22) = false := by simpa using n22
   have g19 : (op == 19) = false := by simpa using n19
   have g20 : (op == 20) = false := by simpa using n20
   have g15 : (op == 15) = false := by simpa using n15
   have HN := Hh (And.intro hsel (And.intro n21 (And.intro n22 (And.intro n19 (And.intro n20 n15)))))
   clear hsel n21 n22 n19 n20 n15
   go_enter Tryz.func19, Tryz.ntmps19
   go_wp2_with (first
 | (go_at_call 37; refine (CS.out _).mono ?_; rintro e1 w1 ⟨rfl, rfl⟩)
 | (go_at_call 20; refine (CO.out _ T0.out.below).mono ?_; rintro e1 w5 ⟨rfl, b5⟩
    have T1 := Hh (T0.out.next b5)
    obtain ⟨p0, p1, p2, _, _, _⟩ := Zq T1.out.k0
    obtain ⟨i0, i1, i2, i3⟩ := Yj T1.out.k1
    clear b5)
 | (go_at_call 21; refine (CD.out _ T1.out.below).mono ?_; rintro e1 w6 ⟨rfl, b6⟩
    have T2 := Hh (T1.out.next b6)
    obtain ⟨p0, p1, p2, _, _, _⟩ := Zq T2.out.k0
    obtain ⟨i0, i1, i2, i3⟩ := Yj T2.out.k1
    clear b6))
   all_goals
     go_ret
     first
       | exact ⟨rI (by have hg := HG.out; obtain ⟨hsel, n21, n22, n19, n20, n15⟩ := HN.out; (try simp only [beq_iff_eq, bne_iff_ne, ne_eq, beq_eq_false_iff_ne, bne_eq_false_iff_eq] at *); rw [← hg]; simp [Vg, Wy, Wz, Xx, Vb, Vk, hsel, n21, n22, n19, n20, n15]; all_goals (repeat' (first | omega | split))), T2.out.below⟩
       | exact ⟨rI (by have hg := HG.out; obtain ⟨hsel, n21, n22, n19, n20, n15⟩ := HN.out; (try simp only [beq_iff_eq, bne_iff_ne, ne_eq, beq_eq_false_iff_ne, bne_eq_false_iff_eq] at *); rw [← hg]; simp [Vg, Wy, Wz, Xx, Vb, Vk, hsel, n21, n22, n19, n20, n15]; all_goals (repeat' (first | omega | split))), T1.out.below⟩
       | exact ⟨rI (by have hg := HG.out; obtain ⟨hsel, n21, n22, n19, n20, n15⟩ := HN.out; (try simp only [beq_iff_eq, bne_iff_ne, ne_eq, beq_eq_false_iff_ne, bne_eq_false_iff_eq] at *); rw [← hg]; simp [Vg, Wy, Wz, Xx, Vb, Vk, hsel, n21, n22, n19, n20, n15]; all_goals (repeat' (first | omega | split))), T0.out.below⟩
 · have CS : Hid (∀ w : World, Calls Tryz.prog 37 #[.int .i64 op] w fun e w' => e = .returned (.bool false) ∧ w = w') := Hh fun w => by have := rSelB op w; rwa [hsel] at this
   obtain ⟨o1, o26, n21, n22, n19, n20, n15⟩ := hc
   have g21 : (op == 21) = false := by simpa using n21
   have g22 : (op == 22) = false := by simpa using n22
   have g19 : (op == 19) = false := by simpa using n19
   have g20 : (op == 20) = false := by simpa using n20
   have g15 : (op == 15) = false := by simpa using n15
   have HN := Hh (And.intro hsel (And.intro n21 (And.intro n22 (And.intro n19 (And.intro n20 n15)))))
   clear hsel n21 n22 n19 n20 n15
   go_enter Tryz.func19, Tryz.ntmps19
   go_wp2_with (first
 | (go_at_call 37; refine (CS.out _).mono ?_; rintro e1 w1 ⟨rfl, rfl⟩)
 | (go_at_call 20; refine (CO.out _ T0.out.below).mono ?_; rintro e1 w5 ⟨rfl, b5⟩
    have T1 := Hh (T0.out.next b5)
    obtain ⟨p0, p1, p2, _, _, _⟩ := Zq T1.out.k0
    obtain ⟨i0, i1, i2, i3⟩ := Yj T1.out.k1
    clear b5)
 | (go_at_call 21; refine (CD.out _ T1.out.below).mono ?_; rintro e1 w6 ⟨rfl, b6⟩
    have T2 := Hh (T1.out.next b6)
    obtain ⟨p0, p1, p2, _, _, _⟩ := Zq T2.out.k0
    obtain ⟨i0, i1, i2, i3⟩ := Yj T2.out.k1
    clear b6))
   all_goals
     go_ret
     first
       | exact ⟨rI (by have hg := HG.out; obtain ⟨hsel, n21, n22, n19, n20, n15⟩ := HN.out; (try simp only [beq_iff_eq, bne_iff_ne, ne_eq, beq_eq_false_iff_ne, bne_eq_false_iff_eq] at *); rw [← hg]; simp [Vg, Wy, Wz, Xx, Vb, Vk, hsel, n21, n22, n19, n20, n15]; all_goals (repeat' (first | omega | split))), T2.out.below⟩
       | exact ⟨rI (by have hg := HG.out; obtain ⟨hsel, n21, n22, n19, n20, n15⟩ := HN.out; (try simp only [beq_iff_eq, bne_iff_ne, ne_eq, beq_eq_false_iff_ne, bne_eq_false_iff_eq] at *); rw [← hg]; simp [Vg, Wy, Wz, Xx, Vb, Vk, hsel, n21, n22, n19, n20, n15]; all_goals (repeat' (first | omega | split))), T1.out.below⟩
       | exact ⟨rI (by have hg := HG.out; obtain ⟨hsel, n21, n22, n19, n20, n15⟩ := HN.out; (try simp only [beq_iff_eq, bne_iff_ne, ne_eq, beq_eq_false_iff_ne, bne_eq_false_iff_eq] at *); rw [← hg]; simp [Vg, Wy, Wz, Xx, Vb, Vk, hsel, n21, n22, n19, n20, n15]; all_goals (repeat' (first | omega | split))), T0.out.below⟩
end Go.Proofs.YtjacgcjjdebbbaaGreat
