/-
  The document's answer: the state of no cards. No conditions.
-/
import Derived.Test.YtkalpclckgbedaaStGet
import Derived.Test.YtkalpclckgbedaaStSameT
namespace Go.Proofs.Ytkalpclckgbedaa
open Go.ChangeShapes Go.WideShapes Go.ChangeAt Go.RowKit
set_option linter.unusedVariables false
set_option linter.unusedSimpArgs false
set_option maxRecDepth 20000
set_option maxHeartbeats 3200000
theorem wpList_const {P : Program} {ops : Array Oper} {rest : List Oper} {o : Oper} {a : Act} {w : World} {Q : Exit → Act → World → Prop} (v : Value) (hgd : o.guard = none) (h : ∀ w, (execOp a.eval o).run P w = .ok (.value v) w)
    (k : wpList P ops Q rest (a.put o.dst v) w) : wpList P ops Q (o :: rest) a w := by
  refine wpList_plain hgd fun K hK => ?_
  unfold Oper.wp
  rw [h w]
  exact hK _ _ k
def emptyC (n : Int) (i : Nat) : Sc := ⟨n, 1, 100, 0, 0, 0, fun j => if j < i then -1 else 0, fun _ => false, fun _ => 0, fun _ => 0, fun _ => false⟩
def nilR (_ : Nat) : Value := .slice none 0 0
theorem emptyC_next (n : Int) (i : Nat) (hi : i < 3) : (stC (emptyC n i) nilR).toArray.setIfInBounds (1 + i * 4) (.int .i64 (-1)) = (stC (emptyC n (i + 1)) nilR).toArray := by
  match i, hi with
  | 0, _ => rfl
  | 1, _ => rfl
  | 2, _ => rfl
theorem nilR_rows (w : World) : Rows12 w nilR fun _ => [] := fun i _ => ⟨none, 0, rfl, .inl rfl, Nat.le_refl _, fun _ => rfl, Nat.zero_le _⟩
theorem nil_one {c : Sc} : ∀ v ∈ stC c nilR, v.oneCell' = true := stC_one fun _ _ => rfl
theorem rDealt0 (w : World) : Calls Try.prog 39 #[.slice none 0 0, .slice none 0 0, .slice none 0 0, .slice none 0 0] w fun e w' => e = .returned (stV (emptyC 1 3) nilR) ∧ Below w.heap.size w w' := by
  have Z1 : Hid (Whole ((w.alloc (.cells zeroSt.toArray 33)).alloc (.cells zeroSt.toArray 33)) w.heap.size 33 zeroSt.toArray) := Lib.hid ((Whole.made w _ _).alloc _)
  have Z2 : Hid (Whole ((w.alloc (.cells zeroSt.toArray 33)).alloc (.cells zeroSt.toArray 33)) (w.heap.size + 1) 33 zeroSt.toArray) := Lib.hid (by
    have h2 := Whole.made (w.alloc (.cells zeroSt.toArray 33)) 33 zeroSt.toArray
    rw [World.size_alloc] at h2
    exact h2)
  have ZB : Hid (Below w.heap.size w ((w.alloc (.cells zeroSt.toArray 33)).alloc (.cells zeroSt.toArray 33))) := Lib.hid (((Below.refl _ _).alloc (Nat.le_refl _) _).alloc (by simp) _)
  go_enter Try.func39, Try.ntmps39
  go_wp2_with (first
    | ((with_reducible refine at_ld 15 ?_); refine wpList_const (.agg (stC (emptyC 1 0) nilR).toArray) rfl (fun w => by kernel_rfl) ?_)
    | ((with_reducible refine at_st 9 15 ?_); refine wpList_storeW 33 (.tmp 9) (.tmp 15) 33 (w.heap.size + 1) zeroSt (stC (emptyC 1 0) nilR) Z2.out rfl (by kernel_rfl) nil_one rfl rfl rfl rfl rfl ?_; intro w2 p2; have X2 := Lib.hid p2.whole; have X1 := Lib.hid (p2.keeps.whole Z1.out (fun e => by have e2 : w.heap.size = w.heap.size + 1 := e; omega)); have XB := Lib.hid (ZB.out.trans (p2.keeps.below ZB.out.size (fun k h => by have e2 : k = w.heap.size + 1 := h; omega))); clear p2))
  go_loopw [10] (fun v wr => ∃ i : Nat, v = .int .i64 i ∧ i ≤ 3 ∧ Whole wr w.heap.size 33 zeroSt.toArray ∧ Whole wr (w.heap.size + 1) 33 (stC (emptyC 1 i) nilR).toArray ∧ Below w.heap.size w wr) (fun v _ => 3 - (intOf v).toNat)
  case atStart => exact ⟨0, rfl, by omega, X1.out, X2.out, XB.out⟩
  case round =>
    obtain ⟨i, rfl, hi, h1, h2, hb⟩ := hrel
    have H1 := Lib.hid h1
    have H2 := Lib.hid h2
    have HB := Lib.hid hb
    by_cases hi3 : i < 3
    · have li : (i : Int) < 3 := by omega
      have c0 := (st_lane h2 i hi3).1
      have f0 : wr.frozen? ⟨w.heap.size + 1, 1 + i * 4, none⟩ = false := h2.thawed _
      have N2 : Hid (Whole (wr.setCell ⟨w.heap.size + 1, 1 + i * 4, none⟩ (.int .i64 (-1))) (w.heap.size + 1) 33 (stC (emptyC 1 (i + 1)) nilR).toArray) := Lib.hid (by rw [← emptyC_next 1 i hi3]; exact h2.write _ _)
      have k1 : Keeps (fun k => k = w.heap.size + 1) wr (wr.setCell ⟨w.heap.size + 1, 1 + i * 4, none⟩ (.int .i64 (-1))) := Keeps.setCell (S := fun k => k = w.heap.size + 1) (Keeps.refl _ wr) (p := ⟨w.heap.size + 1, 1 + i * 4, none⟩) rfl _
      have N1 := Lib.hid (k1.whole h1 (fun e => by have e2 : w.heap.size = w.heap.size + 1 := e; omega))
      have NB := Lib.hid (hb.trans (k1.below hb.size (fun k h => by have e2 : k = w.heap.size + 1 := h; omega)))
      clear h1 h2 hb k1
      go_wp2
      go_roundw
      case rel => exact ⟨i + 1, by go_num, by omega, N1.out, N2.out, NB.out⟩
      case measure => simp [intOf]; omega
    · have e3 : i = 3 := by omega
      have li : ¬ (i : Int) < 3 := by omega
      rw [e3] at H2
      clear h1 h2 hb
      go_wp2
      go_loop [11] (fun v => v = .int .i64 0) (fun _ => 0)
      case atStart => exact rfl
      case round =>
        subst hrel
        go_wp2_with (first
          | ((with_reducible refine at_ld 142 ?_); refine wpList_loadW 33 (.tmp 9) 33 (w.heap.size + 1) (stC (emptyC 1 3) nilR) H2.out (by kernel_rfl) (by kernel_rfl) rfl rfl rfl ?_)
          | ((with_reducible refine at_st 8 142 ?_); refine wpList_storeW 33 (.tmp 8) (.tmp 142) 33 w.heap.size zeroSt (stC (emptyC 1 3) nilR) H1.out rfl (by kernel_rfl) nil_one rfl rfl rfl rfl rfl ?_; intro w9 p9; have P9 := Lib.hid p9; clear p9))
        refine bodyPost_ret (results_cell_row Try.results39 _ _ w.heap.size 33 (stC (emptyC 1 3) nilR).toArray (0, 0) _ rfl P9.out.whole Try.underlying33 rfl (by kernel_rfl)) rfl ⟨rfl, ?_⟩
        exact HB.out.trans (P9.out.keeps.below HB.out.size (fun k h => Nat.le_of_eq (Eq.symm h)))
theorem rEmpty (w : World) : Calls Try.prog 22 #[] w fun e w' => e = .returned (stV (emptyC 0 3) nilR) ∧ Below w.heap.size w w' := by
  have Z1 : Hid (Whole (w.alloc (.cells zeroSt.toArray 33)) w.heap.size 33 zeroSt.toArray) := Lib.hid (Whole.made w _ _)
  have ZB : Hid (Below w.heap.size w (w.alloc (.cells zeroSt.toArray 33))) := Lib.hid ((Below.refl _ _).alloc (Nat.le_refl _) _)
  have KD := Lib.hid (rDealt0 (w.alloc (.cells zeroSt.toArray 33)))
  have ZA : Hid (∀ x : World, Whole (x.alloc (.cells zeroSt.toArray 33)) x.heap.size 33 zeroSt.toArray) := Lib.hid fun x => Whole.made x _ _
  have EQ : Hid ((stC (emptyC 1 3) nilR).toArray.setIfInBounds 0 (.int .i64 0) = (stC (emptyC 0 3) nilR).toArray) := Lib.hid rfl
  obtain ⟨S1, hS1⟩ : ∃ S1, stC (emptyC 1 3) nilR = S1 := ⟨_, rfl⟩
  obtain ⟨S2, hS2⟩ : ∃ S2, stC (emptyC 0 3) nilR = S2 := ⟨_, rfl⟩
  have L1 : Hid (S1.length = 30 ∧ (∀ v ∈ S1, v.oneCell' = true) ∧ S1[0]? = some (.int .i64 1)) := Lib.hid (by rw [← hS1]; exact ⟨rfl, nil_one, rfl⟩)
  have L2 : Hid (S2.length = 30 ∧ ∀ v ∈ S2, v.oneCell' = true) := Lib.hid (by rw [← hS2]; exact ⟨rfl, nil_one⟩)
  have HI : Hid ((Try.prog.info? 33).map (·.size) = some 30) := Lib.hid (by kernel_rfl)
  unfold stV at KD ⊢
  rw [hS1] at KD EQ
  rw [hS2] at EQ ⊢
  clear hS1 hS2
  go_enter Try.func22, Try.ntmps22
  go_wp2_with (first
    | (go_at_call 39; refine KD.out.mono ?_; rintro e w1 ⟨rfl, b1⟩; have Y1 := Lib.hid (Z1.out.below b1 Z1.out.inside); have YB := Lib.hid (bthen ZB.out b1); have lt1 := Y1.out.inside; clear b1)
    | ((with_reducible refine at_st 1 2 ?_); refine wpList_storeW 33 (.tmp 1) (.tmp 2) 33 w1.heap.size zeroSt S1 (ZA.out w1) L1.out.1 (by rw [L1.out.1]; exact HI.out) L1.out.2.1 rfl rfl rfl rfl rfl ?_; intro w2 p2; have c0 : w2.cell? ⟨w1.heap.size, 0, none⟩ = some (.int .i64 1) := (by rw [p2.whole.read]; simpa using L1.out.2.2); have f0 : w2.frozen? ⟨w1.heap.size, 0, none⟩ = false := p2.whole.thawed 0; have V1 := Lib.hid (p2.keeps.whole ((Y1.out).alloc _) (fun e => by have e2 : w.heap.size = w1.heap.size := e; omega)); have V2 := Lib.hid p2.whole; have VB := Lib.hid ((YB.out.alloc YB.out.size _).trans (p2.keeps.below (by have := YB.out.size; simp; omega) (fun k h => by have e2 : k = w1.heap.size := h; omega))); clear p2)
    | ((with_reducible refine at_ld 4 ?_); refine wpList_loadW 33 (.tmp 1) 33 w1.heap.size S2 (by have h := V2.out.write 0 (.int .i64 0); rw [EQ.out] at h; exact h) (by kernel_rfl) (by rw [L2.out.1]; exact HI.out) rfl rfl rfl ?_)
    | ((with_reducible refine at_st 0 4 ?_); refine wpList_storeW 33 (.tmp 0) (.tmp 4) 33 w.heap.size zeroSt S2 ((Keeps.setCell (S := fun k => k = w1.heap.size) (Keeps.refl _ w2) (p := ⟨w1.heap.size, 0, none⟩) rfl _).whole V1.out (fun e => by have e2 : w.heap.size = w1.heap.size := e; omega)) L2.out.1 (by rw [L2.out.1]; exact HI.out) L2.out.2 rfl rfl rfl rfl rfl ?_; intro w3 p3; have P3 := Lib.hid p3; clear p3))
  refine bodyPost_ret (results_cell_row Try.results22 _ _ w.heap.size 33 S2.toArray (0, 0) _ rfl P3.out.whole Try.underlying33 rfl (by rw [List.size_toArray, L2.out.1]; exact HI.out)) rfl ⟨rfl, ?_⟩
  have k1 : Keeps (fun k => k = w1.heap.size) w2 (w2.setCell ⟨w1.heap.size, 0, none⟩ (.int .i64 0)) := Keeps.setCell (S := fun k => k = w1.heap.size) (Keeps.refl _ w2) (p := ⟨w1.heap.size, 0, none⟩) rfl _
  have b2 := VB.out.trans (k1.below VB.out.size (fun k h => by have e2 : k = w1.heap.size := h; omega))
  exact b2.trans (P3.out.keeps.below b2.size (fun k h => Nat.le_of_eq (Eq.symm h)))
end Go.Proofs.Ytkalpclckgbedaa
