/-
  The document's answer: all cards that are somewhere, with their seats; how many. Conditions: no more cards than memory holds.
-/
import Derived.Test.YtkalpclckgbedaaStAll
import Derived.Test.YtkalpclckgbedaaStSameT
import Derived.Test.YtkalpclckgbedaaDigList
import Derived.BigQuiet
import Derived.Deep.DeepCutAuto
namespace Go.Proofs.Ytkalpclckgbedaa
open Go.ChangeShapes Go.WideShapes Go.ChangeAt Go.RowKit
set_option linter.unusedVariables false
set_option linter.unusedSimpArgs false
set_option maxRecDepth 20000
set_option maxHeartbeats 3200000
def handL (L : Nat → List Ins) (k : Nat) : List Ins := L (6 + 3 * k) ++ L (6 + 3 * k + 1) ++ L (6 + 3 * k + 2)
def sideL (L : Nat → List Ins) (k : Nat) : Nat → List Ins
  | 0 => []
  | i + 1 => sideL L k i ++ L (2 * i + k)
def mineL (L : Nat → List Ins) (k : Nat) : List Ins := handL L k ++ sideL L k 3
def pilesL (L : Nat → List Ins) : Nat → List Ins
  | 0 => []
  | k + 1 => pilesL L k ++ mineL L k
def seatsL (L : Nat → List Ins) : Nat → List Value
  | 0 => []
  | k + 1 => seatsL L k ++ List.replicate (mineL L k).length (.int .i64 k)
theorem seatsL_len (L : Nat → List Ins) : ∀ k, (seatsL L k).length = (pilesL L k).length
  | 0 => rfl
  | k + 1 => by unfold seatsL pilesL; rw [List.length_append, List.length_append, seatsL_len L k, List.length_replicate]
structure PiAt (w : World) (c : Sc) (r : Nat → Value) (l : List Ins) (ss : List Value) (x : World) (v u : Value) : Prop where
  whole : Whole x w.heap.size 33 (stC c r).toArray
  own : OwnI x (w.heap.size + 1) v l
  seats : x.ownsRow (w.heap.size + 1) 3 1 u ss.length ss
  apart : Apart v u
  below : Below w.heap.size w x
  size : w.heap.size + 1 ≤ x.heap.size
theorem PiAt.next {w : World} {c : Sc} {r : Nat → Value} {l : List Ins} {ss : List Value} {x y : World} {v u : Value} (h : PiAt w c r l ss x v u) (hb : Below x.heap.size x y) : PiAt w c r l ss y v u :=
  ⟨h.whole.below hb (by have := h.size; omega), h.own.below hb, own_below h.seats hb, h.apart, h.below.trans (hb.mono h.below.size), Nat.le_trans h.size hb.size⟩
/-- A row of the call's own beside what stands. -/
structure MiAt (w : World) (c : Sc) (r : Nat → Value) (l : List Ins) (ss : List Value) (m : List Ins) (x : World) (v u t : Value) : Prop where
  pi : PiAt w c r l ss x v u
  mine : OwnI x (w.heap.size + 1) t m
  a1 : Apart t v
  a2 : Apart t u
theorem MiAt.cat {w : World} {c : Sc} {r : Nat → Value} {l : List Ins} {ss : List Value} {m p : List Ins} {x y : World} {v u t t' : Value} (h : MiAt w c r l ss m x v u t) (ho : y.ownsRow (w.heap.size + 1) 50 7 t' (m.length + p.length) (insC m ++ insC p)) (hg : x.grownBy y t.ownBlock)
    (hat : t'.ownBlock = t.ownBlock ∨ t'.ownBlock = some x.heap.size) : MiAt w c r l ss (m ++ p) y v u t' := by
  have k : Keeps (fun k => w.heap.size + 1 ≤ k) x y := (Keeps.refl _ x).grown hg (fun k hk => (World.ownsRow.lt h.mine k hk).1)
  have hs := h.pi.size
  refine ⟨⟨k.whole h.pi.whole (fun e => by have e2 : w.heap.size + 1 ≤ w.heap.size := e; omega), Apart.kept h.a1.symm h.pi.own hg, Apart.kept h.a2.symm h.pi.seats hg, h.pi.apart, h.pi.below.trans (k.below h.pi.below.size (fun k h => by have h2 : w.heap.size + 1 ≤ k := h; omega)), Nat.le_trans h.pi.size hg.size⟩, ?_, (Apart.grown h.a1.symm h.pi.own (Nat.le_refl _) hat).symm, (Apart.grown h.a2.symm h.pi.seats (Nat.le_refl _) hat).symm⟩
  unfold OwnI
  rw [insC_app, List.length_append]
  exact ho
/-- The other row grows. -/
theorem MiAt.push {w : World} {c : Sc} {r : Nat → Value} {l : List Ins} {ss : List Value} {m p : List Ins} {x y : World} {v u t v' : Value} (h : MiAt w c r l ss m x v u t) (ho : y.ownsRow (w.heap.size + 1) 50 7 v' (l.length + p.length) (insC l ++ insC p)) (hg : x.grownBy y v.ownBlock)
    (hat : v'.ownBlock = v.ownBlock ∨ v'.ownBlock = some x.heap.size) : MiAt w c r (l ++ p) ss m y v' u t := by
  have k : Keeps (fun k => w.heap.size + 1 ≤ k) x y := (Keeps.refl _ x).grown hg (fun k hk => (World.ownsRow.lt h.pi.own k hk).1)
  refine ⟨⟨k.whole h.pi.whole (fun e => by have e2 : w.heap.size + 1 ≤ w.heap.size := e; omega), ?_, Apart.kept h.pi.apart.symm h.pi.seats hg, (Apart.grown h.pi.apart.symm h.pi.seats (Nat.le_refl _) hat).symm, h.pi.below.trans (k.below h.pi.below.size (fun k h => by have h2 : w.heap.size + 1 ≤ k := h; omega)), Nat.le_trans h.pi.size hg.size⟩, Apart.kept h.a1 h.mine hg, Apart.grown h.a1 h.mine (Nat.le_refl _) hat, h.a2⟩
  unfold OwnI
  rw [insC_app, List.length_append]
  exact ho
/-- The seats grow by one. -/
theorem MiAt.seat {w : World} {c : Sc} {r : Nat → Value} {l : List Ins} {ss : List Value} {m : List Ins} {x y : World} {v u t u' s : Value} (h : MiAt w c r l ss m x v u t) (ho : y.ownsRow (w.heap.size + 1) 3 1 u' (ss.length + 1) (ss ++ [s])) (hg : x.grownBy y u.ownBlock)
    (hat : u'.ownBlock = u.ownBlock ∨ u'.ownBlock = some (x.heap.size + 1)) : MiAt w c r l (ss ++ [s]) m y v u' t := by
  have k : Keeps (fun k => w.heap.size + 1 ≤ k) x y := (Keeps.refl _ x).grown hg (fun k hk => (h.pi.seats.lt k hk).1)
  refine ⟨⟨k.whole h.pi.whole (fun e => by have e2 : w.heap.size + 1 ≤ w.heap.size := e; omega), Apart.kept h.pi.apart h.pi.own hg, by simpa using ho, Apart.grown h.pi.apart h.pi.own (Nat.le_succ _) hat, h.pi.below.trans (k.below h.pi.below.size (fun k h => by have h2 : w.heap.size + 1 ≤ k := h; omega)), Nat.le_trans h.pi.size hg.size⟩, Apart.kept h.a2 h.mine hg, h.a1, Apart.grown h.a2 h.mine (Nat.le_succ _) hat⟩
theorem wpList_push8 {P : Program} {w : World} {ops : Array Oper} {rest : List Oper} {o : Oper} {a : Act} {Q : Exit → Act → World → Prop} (s x : Operand) (t e : TypeId) (bytes : Nat) (z : Value)
    (ht : P.underlying t = some (.slice e)) (hinfo : (P.info? e).map (fun i => (i.zero, i.size, i.bytes)) = some (some z, 1, bytes)) (hzs : z.cells.size = 1) (hby : bytes = 8)
    (hgd : o.guard = none) (ho : o.op = .call { callee := .builtin .append, args := #[s, x], argTypes := #[t, t] })
    (base : Nat) (v : Value) (n : Nat) (xs : List Value) (u : Value) (hs : a.eval s = v) (hown : w.ownsRow base e 1 v n xs) (hx : a.eval x = .slice (some ⟨w.heap.size, 0, none⟩) 1 1) (h1 : u.oneCell' = true)
    (hn : n ≤ 2199023255552) (hbase : base ≤ w.heap.size)
    (h : ∀ v' w', w'.ownsRow base e 1 v' (n + 1) (xs ++ [u]) → w.grownBy w' v.ownBlock → (v'.ownBlock = v.ownBlock ∨ v'.ownBlock = some (w.heap.size + 1)) → wpList P ops Q rest (a.put o.dst v') w') :
    wpList P ops Q (o :: rest) a (w.alloc (.cells #[u] e)) := by
  obtain ⟨i, hi, hz, hsize, hbytes⟩ := info_parts hinfo
  refine wpList_append_own_at (w.alloc (.cells #[u] e)) hgd s x t ho base e i z 1 bytes ht hi hz hsize hbytes hzs (by decide) v n xs hs (hown.alloc _) ⟨w.heap.size, 0, none⟩ 1 1 [u] hx rfl (cell_one_new _ _ _)
    (by intro y hy; rw [List.mem_singleton] at hy; rw [hy]; exact h1) (by unfold maxLen; omega) ?_ (by simp; omega) ?_
  · subst hby; omega
  · intro v' w' ho' hg _ hat
    refine h v' w' ho' ((World.grownBy_alloc w _ _).trans hg) ?_
    rcases hat with e | e
    · exact .inl e
    · refine .inr (by simpa using e)
/-- What a push leaves of all that was there before the call began. -/
theorem MiAt.next {w : World} {c : Sc} {r : Nat → Value} {l : List Ins} {ss : List Value} {m : List Ins} {x y : World} {v u t : Value} (h : MiAt w c r l ss m x v u t) (hb : Below x.heap.size x y) : MiAt w c r l ss m y v u t :=
  ⟨h.pi.next hb, h.mine.below hb, h.a1, h.a2⟩
theorem rowR_one (x : World) (y : Ins) : RowR (x.alloc (.cells #[.int .i64 y.id, .int .i64 y.card, .string y.name, .int .i64 y.cost, .int .i64 y.power, .int .i64 y.plus, .int .i64 y.owner] 50)) (.slice (some ⟨x.heap.size, 0, none⟩) 1 1) [y] := by
  refine ⟨_, 1, rfl, ?_, Nat.le_refl _, (fun e => by cases e), by unfold maxLen; simp⟩
  have h := Reads.made x #[.int .i64 y.id, .int .i64 y.card, .string y.name, .int .i64 y.cost, .int .i64 y.power, .int .i64 y.plus, .int .i64 y.owner] 50
  simpa [insC, Ins.cells] using h
theorem pilesL_le {L : Nat → List Ins} {k : Nat} (hk : k < 2) : (pilesL L k).length + (mineL L k).length ≤ (pilesL L 2).length := by
  match k, hk with
  | 0, _ => simp only [pilesL, List.length_append, List.length_nil]; omega
  | 1, _ => simp only [pilesL, List.length_append, List.length_nil]; omega
theorem sideL_le {L : Nat → List Ins} {k i : Nat} (hi : i < 3) : (sideL L k i).length + (L (2 * i + k)).length ≤ (sideL L k 3).length := by
  match i, hi with
  | 0, _ => simp only [sideL, List.length_append, List.length_nil]; omega
  | 1, _ => simp only [sideL, List.length_append, List.length_nil]; omega
  | 2, _ => simp only [sideL, List.length_append, List.length_nil]; omega
theorem own_len {w : World} {B : Nat} {v : Value} {l : List Ins} (h : OwnI w B v l) : ∃ A c, v = .slice A l.length c := by
  obtain ⟨A, c, e, _⟩ := own_form h
  exact ⟨A, c, e⟩
theorem rPiles (c : Sc) (r : Nat → Value) (L : Nat → List Ins) (w : World) (hR : Rows12 w r L) (hT : (pilesL L 2).length ≤ 2199023255488) :
    Calls Try.prog 32 #[stV c r] w fun e w' => ∃ V U, e = .returned (.tuple #[V, U]) ∧ PiAt w c r (pilesL L 2) (seatsL L 2) w' V U := by
  have hv : stV c r = .agg (stC c r).toArray := rfl
  have A0 : Hid (PiAt w c r [] [] (w.alloc (.cells (stC c r).toArray 33)) (.slice none 0 0) (.slice none 0 0)) := Lib.hid ⟨Whole.made w _ _, World.ownsRow_nil _ _ _ _, World.ownsRow_nil _ _ _ _, Apart.nil _, (Below.refl _ _).alloc (Nat.le_refl _) _, by simp⟩
  rw [hv]
  have HT := Lib.hid hT
  have HR := Lib.hid hR
  clear hR hv hT
  generalize hA : (stC c r).toArray = arr at *
  go_enter Try.func32, Try.ntmps32
  go_wp2
  go_loopw [4, 5, 6] (fun v u j wr => ∃ k : Nat, j = .int .i64 k ∧ k ≤ 2 ∧ PiAt w c r (pilesL L k) (seatsL L k) wr v u) (fun _ _ j _ => 2 - (intOf j).toNat)
  case atStart => exact ⟨0, rfl, by omega, A0.out⟩
  case round =>
    obtain ⟨k, rfl, hk, hF⟩ := hrel
    have HF := Lib.hid hF
    clear hF
    by_cases hk2 : k < 2
    · have lk : (k : Int) < 2 := by omega
      obtain ⟨p0, p1, p2, p3, p4, p5⟩ := st_player HF.out.whole k hk2
      obtain ⟨A0, a0, e0, _⟩ := HR.out (6 + 3 * k) (by omega)
      have R0 : Hid (∀ x, Below w.heap.size w x → RowR x (.slice A0 (L (6 + 3 * k)).length a0) (L (6 + 3 * k))) := Lib.hid fun x hx => by rw [← e0]; exact (HR.out (6 + 3 * k) (by omega)).below hx
      rw [e0] at p0
      clear e0
      obtain ⟨A1, a1, e1, _⟩ := HR.out (6 + 3 * k + 1) (by omega)
      have R1 : Hid (∀ x, Below w.heap.size w x → RowR x (.slice A1 (L (6 + 3 * k + 1)).length a1) (L (6 + 3 * k + 1))) := Lib.hid fun x hx => by rw [← e1]; exact (HR.out (6 + 3 * k + 1) (by omega)).below hx
      rw [e1] at p1
      clear e1
      obtain ⟨A2, a2, e2, _⟩ := HR.out (6 + 3 * k + 2) (by omega)
      have R2 : Hid (∀ x, Below w.heap.size w x → RowR x (.slice A2 (L (6 + 3 * k + 2)).length a2) (L (6 + 3 * k + 2))) := Lib.hid fun x hx => by rw [← e2]; exact (HR.out (6 + 3 * k + 2) (by omega)).below hx
      rw [e2] at p2
      clear e2
      have HL := Lib.hid (pilesL_le (L := L) hk2)
      have hml : (mineL L k).length = (L (6 + 3 * k)).length + (L (6 + 3 * k + 1)).length + (L (6 + 3 * k + 2)).length + (sideL L k 3).length := by unfold mineL handL; simp only [List.length_append]
      have HZ0 : Hid (0 + (L (6 + 3 * k)).length ≤ 2199023255552) := Lib.hid (by have := HL.out; have := HT.out; omega)
      have HZ1 : Hid (0 + (L (6 + 3 * k)).length + (L (6 + 3 * k + 1)).length ≤ 2199023255552) := Lib.hid (by have := HL.out; have := HT.out; omega)
      have HZ2 : Hid (0 + (L (6 + 3 * k)).length + (L (6 + 3 * k + 1)).length + (L (6 + 3 * k + 2)).length ≤ 2199023255552) := Lib.hid (by have := HL.out; have := HT.out; omega)
      have hlt : w.heap.size < wr.heap.size := by have := HF.out.size; omega
      have HML := Lib.hid hml
      clear hml
      have KB : Hid (∀ (o o2 : Obj) (y : World), ((wr.alloc o).drew.alloc o2).grownBy y (some (wr.heap.size + 1)) → Below (wr.heap.size + 1) (wr.alloc o) y) := Lib.hid fun o o2 y g => by
        have k1 := ((Keeps.refl (fun k => wr.heap.size + 1 ≤ k) (wr.alloc o)).drew.alloc o2).grown g (fun k hk => by injection hk with hk; exact Nat.le_of_eq hk)
        exact k1.below (by simp) (fun k h => h)
      have KG : Hid (∀ (x y : World) (v : Value) (n : Nat) (xs : List Value), x.ownsRow (wr.heap.size + 1) 50 7 v n xs → wr.heap.size + 1 ≤ x.heap.size → x.grownBy y v.ownBlock → Below (wr.heap.size + 1) x y) := Lib.hid fun x y v n xs ho hx g =>
        ((Keeps.refl (fun k => wr.heap.size + 1 ≤ k) x).grown g (fun k hk => (ho.lt k hk).1)).below hx (fun k h => h)
      have WM : Hid (∀ (q : Array Value) (y : World), Below (wr.heap.size + 1) (wr.alloc (.cells q 28)) y → ∀ j, y.cell? ⟨wr.heap.size, j, none⟩ = q[j]?) := Lib.hid fun q y hb j => ((Whole.made wr 28 q).below hb (Nat.lt_succ_self _)).read j
      have BW : Hid (∀ (o : Obj) (y : World), Below (wr.heap.size + 1) (wr.alloc o) y → Below wr.heap.size wr y) := Lib.hid fun o y hb => ((Below.refl _ _).alloc (Nat.le_refl _) o).trans (hb.mono (Nat.le_succ _))
      have BD : Hid (∀ (o o2 : Obj), Below w.heap.size w ((wr.alloc o).drew.alloc o2)) := Lib.hid fun o o2 => HF.out.below.trans (((((Below.refl _ _).alloc (Nat.le_refl _) o).drew).alloc (by simp) o2).mono HF.out.below.size)
      have MI : Hid (∀ y v, Below wr.heap.size wr y → y.ownsRow (wr.heap.size + 1) 50 7 v (0 + (L (6 + 3 * k)).length + (L (6 + 3 * k + 1)).length + (L (6 + 3 * k + 2)).length) ([] ++ insC (L (6 + 3 * k)) ++ insC (L (6 + 3 * k + 1)) ++ insC (L (6 + 3 * k + 2))) → MiAt w c r (pilesL L k) (seatsL L k) (handL L k) y u4 u5 v) := Lib.hid fun y v hb ho => by
        have ho2 : y.ownsRow (wr.heap.size + 1) 50 7 v (handL L k).length (insC (handL L k)) := by
          unfold handL
          rw [insC_app, insC_app, List.length_append, List.length_append]
          simpa using ho
        have hsz := HF.out.size
        refine ⟨HF.out.next hb, own_mono ho2 (by omega), fun j h1 h2 => ?_, fun j h1 h2 => ?_⟩
        · have := (ho2.lt j h1).1
          have := (World.ownsRow.lt HF.out.own j h2).2
          omega
        · have := (ho2.lt j h1).1
          have := (World.ownsRow.lt HF.out.seats j h2).2
          omega
      go_wp2_with fail
      go_cut [8] from 19 to 28 (fun t wx => MiAt w c r (pilesL L k) (seatsL L k) (handL L k) wx u4 u5 t)
      case first =>
        go_region_law (first
          | (refine step_cat _ (.tmp 19) (.tmp 21) (wr.heap.size + 1) _ _ 0 [] (L (6 + 3 * k)) (ownI_at (by simp) (by simp)) (R0.out _ (BD.out _ _)) HZ0.out (by simp) rfl rfl rfl rfl ?_; intro v3 w3 o3 g3 _; have b3 := KB.out _ _ _ g3; have O3 := Lib.hid o3; have B3 := Lib.hid b3; have x1 := WM.out _ _ b3 1; have x2 := WM.out _ _ b3 2; simp at x1 x2; clear o3 g3 b3)
          | (refine step_cat _ (.tmp 22) (.tmp 24) (wr.heap.size + 1) _ _ _ _ (L (6 + 3 * k + 1)) O3.out (R1.out _ (HF.out.below.trans ((BW.out _ _ B3.out).mono HF.out.below.size))) HZ1.out (by have h := B3.out.size; simp at h; exact h) rfl rfl rfl rfl ?_; intro v4 w4 o4 g4 _; have h4 := KG.out _ _ _ _ _ O3.out (by have h := B3.out.size; simp at h; exact h) g4; have O4 := Lib.hid o4; have b4 := B3.out.trans h4; have B4 := Lib.hid b4; have x2 := WM.out _ _ b4 2; simp at x2; clear o4 g4 h4 b4 x1)
          | (refine step_cat _ (.tmp 25) (.tmp 27) (wr.heap.size + 1) _ _ _ _ (L (6 + 3 * k + 2)) O4.out (R2.out _ (HF.out.below.trans ((BW.out _ _ B4.out).mono HF.out.below.size))) HZ2.out (by have h := B4.out.size; simp at h; exact h) rfl rfl rfl rfl ?_; intro v5 w5 o5 g5 _; have h5 := KG.out _ _ _ _ _ O4.out (by have h := B4.out.size; simp at h; exact h) g5; have O5 := Lib.hid o5; have B5 := Lib.hid (BW.out _ _ (B4.out.trans h5)); clear o5 g5 h5))
        all_goals
          go_wp2
          go_meet
          exact MI.out _ _ B5.out O5.out
      case rest =>
        have HM := Lib.hid hcut
        clear hcut p0 p1 p2 p3 p4 p5 KB KG WM BW BD MI R0 R1 R2 HZ0 HZ1 HZ2
        have HML2 : Hid ((mineL L k).length = (handL L k).length + (sideL L k 3).length) := Lib.hid (by unfold mineL; rw [List.length_append])
        go_wp2
        go_loopw [8, 9] (fun t j wx => ∃ i : Nat, j = .int .i64 i ∧ i ≤ 3 ∧ MiAt w c r (pilesL L k) (seatsL L k) (handL L k ++ sideL L k i) wx u4 u5 t) (fun _ j _ => 3 - (intOf j).toNat)
        case atStart => exact ⟨0, rfl, by omega, by simpa [sideL] using HM.out⟩
        case round =>
          obtain ⟨i, rfl, hi, hM⟩ := hrel
          have HM := Lib.hid hM
          clear hM
          by_cases hi3 : i < 3
          · have li : (i : Int) < 3 := by omega
            have hrow := (HR.out (2 * i + k) (by omega)).below HM.out.pi.below
            have hc := st_side HM.out.pi.whole i k hi3 hk2
            obtain ⟨A, cp, e, _⟩ := id hrow
            rw [e] at hc hrow
            have RW := Lib.hid hrow
            have HZ : Hid ((handL L k ++ sideL L k i).length + (L (2 * i + k)).length ≤ 2199023255552) := Lib.hid (by have := sideL_le (L := L) (k := k) hi3; have := HML2.out; have := HL.out; have := HT.out; rw [List.length_append]; omega)
            clear e hrow
            go_wp2_with (at_builtin; refine wpList_cat _ (.tmp 33) (.tmp 40) (w.heap.size + 1) _ _ _ _ (L (2 * i + k)) HM.out.mine RW.out HZ.out HM.out.pi.size rfl rfl rfl rfl ?_; intro v3 w3 o3 g3 a3; have N3 := Lib.hid (HM.out.cat o3 g3 a3); clear o3 g3 a3)
            go_roundw
            case rel => exact ⟨i + 1, by go_num, by omega, by have h := N3.out; rw [List.append_assoc] at h; exact h⟩
            case measure => simp [intOf]; omega
          · have e3 : i = 3 := by omega
            have li : ¬ (i : Int) < 3 := by omega
            have HM2 : Hid (MiAt w c r (pilesL L k) (seatsL L k) (mineL L k) _ u4 u5 _) := Lib.hid (by have h := HM.out; rw [e3] at h; exact h)
            clear HM e3
            obtain ⟨A8, a8, e8⟩ := own_len HM2.out.mine
            obtain ⟨M, hM⟩ : ∃ M, mineL L k = M := ⟨_, rfl⟩
            rw [hM] at HM2 HL e8
            have SU : Hid (pilesL L (k + 1) = pilesL L k ++ M ∧ seatsL L (k + 1) = seatsL L k ++ List.replicate M.length (.int .i64 k)) := Lib.hid ⟨by rw [← hM]; rfl, by rw [← hM]; rfl⟩
            obtain ⟨nM, hnM⟩ : ∃ n, M.length = n := ⟨_, rfl⟩
            have HNM := Lib.hid hnM
            rw [hnM] at HL SU e8
            subst e8
            have hnb : nM ≤ 2199023255488 := by have := HL.out; have := HT.out; omega
            have SL := Lib.hid (seatsL_len L k)
            clear hM hnM HML HML2
            go_wp2
            go_loopw [4, 5, 10] (fun v u j wx => ∃ n : Nat, j = .int .i64 n ∧ n ≤ nM ∧ MiAt w c r (pilesL L k ++ M.take n) (seatsL L k ++ List.replicate n (.int .i64 k)) M wx v u (.slice A8 nM a8)) (fun _ _ j _ => nM - (intOf j).toNat)
            case atStart => exact ⟨0, rfl, by omega, by simpa using HM2.out⟩
            case round =>
              obtain ⟨n, rfl, hn, hM⟩ := hrel
              have HM := Lib.hid hM
              clear hM
              by_cases hnn : n < nM
              · have ln : (n : Int) < (nM : Int) := by omega
                have hlt2 : n < M.length := by rw [HNM.out]; exact hnn
                obtain ⟨A9, a9, e9, hr9, _⟩ := HM.out.mine.row
                injection e9 with e91 e92 e93
                subst e91 e93
                clear e92
                obtain ⟨g, off, rfl, hg, hcs⟩ := row_lit hr9 (by omega)
                obtain ⟨c0, c1, c2, c3, c4, c5, c6⟩ := hcs n hlt2
                have ET : Hid (M.take (n + 1) = M.take n ++ [M[n]]) := Lib.hid (List.take_succ_eq_append_getElem hlt2)
                obtain ⟨y, hy⟩ : ∃ y, M[n] = y := ⟨_, rfl⟩
                rw [hy] at c0 c1 c2 c3 c4 c5 c6 ET
                obtain ⟨y0, y1, y2, y3, y4, y5, y6⟩ := y
                simp only at c0 c1 c2 c3 c4 c5 c6
                have BA : Hid (∀ (x : World) o, Below x.heap.size x (x.alloc o)) := Lib.hid fun x o => (Below.refl _ _).alloc (Nat.le_refl _) o
                have HZ : Hid ((pilesL L k ++ M.take n).length + [(⟨y0, y1, y2, y3, y4, y5, y6⟩ : Ins)].length ≤ 2199023255552) := Lib.hid (by have := HL.out; have := HT.out; rw [List.length_append, List.length_take, HNM.out, List.length_singleton]; omega)
                have HZS : Hid ((seatsL L k ++ List.replicate n (Value.int .i64 k)).length ≤ 2199023255552) := Lib.hid (by have := SL.out; have := HL.out; have := HT.out; rw [List.length_append, List.length_replicate]; omega)
                clear hcs hr9 hlt2 hy
                go_wp2_with (first
                  | (at_builtin; refine wpList_cat _ (.tmp 48) (.tmp 53) (w.heap.size + 1) _ _ _ _ [⟨y0, y1, y2, y3, y4, y5, y6⟩] (HM.out.next (BA.out _ _)).pi.own (rowR_one _ _) HZ.out (by have := HM.out.pi.size; simp; omega) rfl rfl rfl rfl ?_; intro v3 w3 o3 g3 a3; have N3 := Lib.hid ((HM.out.next (BA.out _ _)).push o3 g3 a3); clear o3 g3 a3)
                  | (at_builtin; refine wpList_push8 (.tmp 55) (.tmp 57) 62 3 8 (.int .i64 0) und_ints3 info_int3 rfl rfl rfl rfl (w.heap.size + 1) _ _ _ _ rfl N3.out.pi.seats rfl rfl HZS.out N3.out.pi.size ?_; intro v4 w4 o4 g4 a4; have N4 := Lib.hid (N3.out.seat o4 g4 a4); clear o4 g4 a4))
                go_roundw
                case rel => exact ⟨n + 1, by go_num, by omega, by rw [ET.out, List.replicate_succ', ← List.append_assoc, ← List.append_assoc]; exact N4.out⟩
                case measure => simp [intOf]; omega
              · have e3 : n = nM := by omega
                have ln : ¬ (n : Int) < (nM : Int) := by omega
                have HP : Hid (PiAt w c r (pilesL L (k + 1)) (seatsL L (k + 1)) _ _ _) := Lib.hid (by have h := HM.out.pi; rw [e3, List.take_of_length_le (by rw [HNM.out]; exact Nat.le_refl _)] at h; rw [SU.out.1, SU.out.2]; exact h)
                clear HM e3
                go_wp2
                go_roundw
                case rel => exact ⟨k + 1, by go_num, by omega, HP.out⟩
                case measure => simp [intOf]; omega
    · have e2 : k = 2 := by omega
      have lk : ¬ (k : Int) < 2 := by omega
      rw [e2] at HF
      go_wp2
      go_ret2
      exact ⟨_, _, rfl, HF.out⟩
end Go.Proofs.Ytkalpclckgbedaa
