/-
  Texts Q1. No conditions but those that each theorem names.
-/
import Derived.Deep.RegionWith
import Derived.Deep.DeepCutAuto
import Derived.Deep.RegionHeld3
import Derived.StillTailTactics
import Derived.Test.YtljdgdphldckhaaGreatQA23
set_option maxRecDepth 20000
set_option maxHeartbeats 12800000
namespace Go.Proofs.YtljdgdphldckhaaGreat
open Go.Great Go.ChangeShapes Go.WideShapes Go.ChangeAt Go.RowKit
set_option linter.unusedVariables false
set_option linter.unusedSimpArgs false
section
variable {w0 x : World} {b : Nat} {st : List Int × Bool} {own : List Bk}
theorem vqWord (h : PE w0 b st own x) (k : Int) (q n c : Nat) (L : List ByteArray) (hq : q = x.heap.size) (hn : n = L.length) (h1 : 1 ≤ k) (h2 : k ≤ L.length) (h3 : L.length ≤ 1000) :
   Calls Tryz.prog 117 #[.int .i64 k, .slice (some ⟨q, 0, none⟩) n c] (x.alloc (.cells (Zaf L) 9)) fun e y => e = .returned (.string (wd L k)) ∧ PE w0 b st own y :=
 (uWordL x k q n c L hq hn h1 h2 h3).mono fun e y ⟨he, hw⟩ => ⟨he, hw ▸ h.call (Za _ _)⟩
theorem vqSide (h : PE w0 b st own x) (k : Int) (h1 : 1 ≤ k) (h2 : k ≤ 3) : Calls Tryz.prog 118 #[.int .i64 k] x fun e y => e = .returned (.string (wd Zt k)) ∧ PE w0 b st own y :=
 (uSide k x h1 h2).mono fun e y ⟨he, hb⟩ => ⟨he, h.call hb⟩
theorem vqOp (h : PE w0 b st own x) (k : Int) (h1 : 1 ≤ k) (h2 : k ≤ 6) : Calls Tryz.prog 161 #[.int .i64 k] x fun e y => e = .returned (.string (wd wOp k)) ∧ PE w0 b st own y :=
 (uOp k x h1 h2).mono fun e y ⟨he, hb⟩ => ⟨he, h.call hb⟩
theorem vqNum (h : PE w0 b st own x) (n : Int) (h1 : -99 ≤ n) (h2 : n ≤ 99) : Calls Tryz.prog 109 #[.int .i64 n] x fun e y => e = .returned (.string (putS n)) ∧ PE w0 b st own y :=
 (dPut_any n (by omega) (by omega) x).mono fun e y ⟨he, hb⟩ => ⟨he, h.call hb⟩
theorem vqName (h : PE w0 b st own x) (s : ByteArray) (hs : s.size ≤ 10000000000) : Calls Tryz.prog 108 #[.string s] x fun e y => e = .returned (.string (qN s)) ∧ PE w0 b st own y :=
 (uName s x hs).mono fun e y ⟨he, hb⟩ => ⟨he, hb ▸ h⟩
theorem Xd {s2 : List Int × Bool} {ts : List ByteArray} (e : s2 = Zp st ts) (r : Yk st ts) (ht : ts.length ≤ 1000) (own : List Bk) (x : World) (q n c : Nat) (h : PE w0 b st own x) (hq : q = x.heap.size) (hn : n = ts.length) :
   Calls Tryz.prog 107 #[.pointer (some ⟨b, 0, none⟩), .slice (some ⟨q, 0, none⟩) n c] (x.alloc (.cells (Zaf ts) 9)) (QPost w0 b s2 own) := by
 subst e
 exact pPut h ts q n c r ht hq hn
end
def Xa (w0 : World) (f : Nat) (arg : Value) (K : List ByteArray) : Prop := ∀ (b : Nat) (st : List Int × Bool) (own : List Bk) (x : World), PE w0 b st own x → Yk st K →
 Calls Tryz.prog f #[.pointer (some ⟨b, 0, none⟩), arg] x (QPost w0 b (Zp st K) own)
theorem Xa.at_ {w0 : World} {f : Nat} {arg : Value} {K : List ByteArray} (h : Xa w0 f arg K) {b : Nat} {s1 s2 : List Int × Bool} (e : s2 = Zp s1 K) (r : Yk s1 K) (own : List Bk) (x : World) (hp : PE w0 b s1 own x) :
   Calls Tryz.prog f #[.pointer (some ⟨b, 0, none⟩), arg] x (QPost w0 b s2 own) := by
 subst e
 exact h b s1 own x hp r
theorem Zb.nthQ {w : World} {g : Nat} {t : TypeId} {l : List Value} (h : Zb w g t l.toArray) (i : Nat) {v : Value} (hv : l[i]? = some v) : w.cell? ⟨g, i, none⟩ = some v := by
 rw [h.read, List.getElem?_toArray]; exact hv
section
variable {P : Program} {ops : Array Oper} {rest : List Oper} {o : Oper} {a : Act} {w : World} {Q : Exit → Act → World → Prop}
theorem Zy (T : TypeId) (x : Operand) (g n : Nat) (vs : List Value) (hR : w.rangeAt g n vs)
   (hu : (P.underlying T).map TypeDesc.isRow = some true) (hi : (P.info? T).map (·.size) = some vs.length)
   (hgd : o.guard = none) (ho : o.op = .load T x) (hx : a.eval x = .pointer (some ⟨g, n, none⟩))
   (h : wpList P ops Q rest (a.put o.dst (.agg vs.toArray)) w) : wpList P ops Q (o :: rest) a w := by
 obtain ⟨d, hu, hr⟩ := Option.map_eq_some_iff.1 hu
 exact wpList_load_mid hgd T x ho g n hx vs d hR hu hr hi h
end
theorem Xg {P : Program} {md : Region.Mode} {ops : Array Oper} {Q : Exit → Act → World → Prop} {S : World → Prop} {i k : Nat} {oi : Oper} {v : Value} {fuel : Nat} {listed : Array Bool} {l : List Value} {d : List Deferred} {w : World} (hi : ops[i]? = some oi) (hd : oi.dst = some k)
   (hs : Region.noSelect ops = true) (hf : Region.free md ops listed i = true) (hr : (Region.ready md ops listed).contains i = true)
   (hQ : ∀ c a w, Q (.panic c) (a.put oi.dst v) w → Q (.panic c) a w) (hy : YieldsIf P ops S oi v ⟨l.toArray, d⟩) (hS : S w)
   (h : wpAnyH P md ops Q S fuel (listed.setIfInBounds i true) ⟨(l.set k v).toArray, d⟩ w) : wpAnyH P md ops Q S (fuel + 1) listed ⟨l.toArray, d⟩ w := by
 refine wpAnyH_take hi hs hf hr hQ hy hS ?_
 rw [hd]
 simpa [Act.put] using h
theorem qyMove {P : Program} {ops : Array Oper} {S : World → Prop} {o : Oper} {a : Act} {x : Operand} {v : Value} (g : o.guard = none) (ho : o.op = .move x) (e : a.eval x = v) : YieldsIf P ops S o v a :=
 .inl ⟨by unfold Region.wanted; rw [g], fun w _ => by unfold execOp; rw [ho]; simp [e, Sem.run_pure]⟩
theorem qrow_fil : (Tryz.prog.underlying 115).map TypeDesc.isRow = some true := by kernel_rfl
theorem qsize_fil : (Tryz.prog.info? 115).map (·.size) = some 4 := by kernel_rfl
theorem qrow_to : (Tryz.prog.underlying 48).map TypeDesc.isRow = some true := by kernel_rfl
theorem qsize_to : (Tryz.prog.info? 48).map (·.size) = some 2 := by kernel_rfl
theorem Jl : (Tryz.prog.underlying 46).map TypeDesc.isRow = some true := by kernel_rfl
theorem Um : (Tryz.prog.info? 46).map (·.size) = some 6 := by kernel_rfl
theorem Xu : (Tryz.prog.underlying 51).map TypeDesc.isRow = some true := by kernel_rfl
theorem Xb : (Tryz.prog.info? 51).map (·.size) = some 12 := by kernel_rfl
theorem qrow_cond : (Tryz.prog.underlying 55).map TypeDesc.isRow = some true := by kernel_rfl
theorem qsize_cond : (Tryz.prog.info? 55).map (·.size) = some 25 := by kernel_rfl
theorem qrow_act : (Tryz.prog.underlying 57).map TypeDesc.isRow = some true := by kernel_rfl
theorem qsize_act : (Tryz.prog.info? 57).map (·.size) = some 53 := by kernel_rfl
theorem qrow_ru : (Tryz.prog.underlying 66).map TypeDesc.isRow = some true := by kernel_rfl
theorem qsize_ru : (Tryz.prog.info? 66).map (·.size) = some 5 := by kernel_rfl
theorem qrow_pl : (Tryz.prog.underlying 38).map TypeDesc.isRow = some true := by kernel_rfl
theorem qsize_pl : (Tryz.prog.info? 38).map (·.size) = some 4 := by kernel_rfl
theorem qrow_fi : (Tryz.prog.underlying 26).map TypeDesc.isRow = some true := by kernel_rfl
theorem qsize_fi : (Tryz.prog.info? 26).map (·.size) = some 2 := by kernel_rfl
theorem qz_fil : (Tryz.prog.info? 115).map (fun i => i.zero.map Value.cells) = some (some ([.int .i64 0, .int .i64 0, .int .i64 0, .string ⟨#[]⟩] : List Value).toArray) := by kernel_rfl
theorem PE.ranges {w0 x : World} {b : Nat} {st : List Int × Bool} {own : List Bk} (h : PE w0 b st own x) {g n : Nat} {ys : List Value} (hr : w0.rangeAt g n ys) (hg : g < w0.heap.size) : x.rangeAt g n ys :=
 fun j v hv => (World.cell?_of_block (a := ⟨g, n + j, none⟩) (h.below.block g hg)).trans (hr j v hv)
def kTo (k l : Int) : List ByteArray := [wd wTo k] ++ (if k = 4 then [putS l] else [])
theorem pTo_4 (w0 : World) (l : Int) (hl : 0 ≤ l ∧ l ≤ 99) : Xa w0 123 (.agg #[.int .i64 4, .int .i64 l]) ([wd wTo 4] ++ ([putS l])) := by
 intro b st own x h hr
 obtain ⟨s1, E1⟩ : ∃ s, s = Zp st ([wd wTo 4]) := ⟨_, rfl⟩
 have R1 := Hh (Yk.first hr)
 replace hr := Yk.next hr
 rw [← E1] at hr
 obtain ⟨s2, E2⟩ : ∃ s, s = Zp s1 ([putS l]) := ⟨_, rfl⟩
 have R2 := Hh hr
 clear hr
 have EK : Zp st (([wd wTo 4]) ++ (([putS l]))) = s2 := by simp only [Yd, E1, E2]
 rw [EK]
 clear EK
 have P1 := Hh (fun own x => Xd (w0 := w0) (b := b) E1 R1.out (by simp) own x)
 have P2 := Hh (fun own x => Xd (w0 := w0) (b := b) E2 R2.out (by simp) own x)
 have HE1 := Hh E1
 clear E1
 have HE2 := Hh E2
 clear E2
 have T := Hh h
 clear h
 go_enter Tryz.func123, Tryz.ntmps123
 go_wp2_with (first
 | ((with_reducible refine Ze 3 ?_); refine Ya T.out 48 _ ([.int .i64 4, .int .i64 l]) rfl rfl rfl ?_; intro wn g0 tn; have T := Hh tn; clear tn; have c0_0 : wn.cell? ⟨g0, 0, none⟩ = some (.int .i64 4) := (T.out.get 0 rfl).read 0; have c0_1 : wn.cell? ⟨g0, 1, none⟩ = some (.int .i64 l) := (T.out.get 0 rfl).read 1)
 | (go_at_call 117; refine (vqWord T.out (4) _ 4 4 wTo rfl rfl (by omega) (by show _ ≤ ((4 : Nat) : Int); omega) (by decide)).mono ?_; rintro e wn ⟨rfl, tn⟩; have T := Hh tn; clear tn; have c0_0 : wn.cell? ⟨g0, 0, none⟩ = some (.int .i64 4) := (T.out.get 0 rfl).read 0; have c0_1 : wn.cell? ⟨g0, 1, none⟩ = some (.int .i64 l) := (T.out.get 0 rfl).read 1)
 | (go_at_call 109; (with_reducible refine (vqNum T.out (l) (by omega) (by omega)).mono ?_); rintro e wn ⟨rfl, tn⟩; have T := Hh tn; clear tn; have c0_0 : wn.cell? ⟨g0, 0, none⟩ = some (.int .i64 4) := (T.out.get 0 rfl).read 0; have c0_1 : wn.cell? ⟨g0, 1, none⟩ = some (.int .i64 l) := (T.out.get 0 rfl).read 1)
 | (go_at_call 107; refine (P1.out _ _ _ _ _ T.out rfl rfl).mono ?_; rintro e wn ⟨rfl, tn⟩; have T := Hh tn; clear tn; have c0_0 : wn.cell? ⟨g0, 0, none⟩ = some (.int .i64 4) := (T.out.get 0 rfl).read 0; have c0_1 : wn.cell? ⟨g0, 1, none⟩ = some (.int .i64 l) := (T.out.get 0 rfl).read 1)
 | (go_at_call 107; refine (P2.out _ _ _ _ _ T.out rfl rfl).mono ?_; rintro e wn ⟨rfl, tn⟩; have T := Hh tn; clear tn; have c0_0 : wn.cell? ⟨g0, 0, none⟩ = some (.int .i64 4) := (T.out.get 0 rfl).read 0; have c0_1 : wn.cell? ⟨g0, 1, none⟩ = some (.int .i64 l) := (T.out.get 0 rfl).read 1))
 go_end0
 exact ⟨rfl, T.out.tail⟩
theorem pTo_k (w0 : World) (k l : Int) (hk : 1 ≤ k ∧ k ≤ 3) : Xa w0 123 (.agg #[.int .i64 k, .int .i64 l]) ([wd wTo k]) := by
 intro b st own x h hr
 obtain ⟨s1, E1⟩ : ∃ s, s = Zp st ([wd wTo k]) := ⟨_, rfl⟩
 have R1 := Hh hr
 clear hr
 have EK : Zp st (([wd wTo k])) = s1 := by simp only [Yd, E1]
 rw [EK]
 clear EK
 have P1 := Hh (fun own x => Xd (w0 := w0) (b := b) E1 R1.out (by simp) own x)
 have HE1 := Hh E1
 clear E1
 have hk4 : (k == 4) = false := by rw [beq_eq_false_iff_ne]; omega
 have T := Hh h
 clear h
 go_enter Tryz.func123, Tryz.ntmps123
 go_wp2_with (first
 | ((with_reducible refine Ze 3 ?_); refine Ya T.out 48 _ ([.int .i64 k, .int .i64 l]) rfl rfl rfl ?_; intro wn g0 tn; have T := Hh tn; clear tn; have c0_0 : wn.cell? ⟨g0, 0, none⟩ = some (.int .i64 k) := (T.out.get 0 rfl).read 0; have c0_1 : wn.cell? ⟨g0, 1, none⟩ = some (.int .i64 l) := (T.out.get 0 rfl).read 1)
 | (go_at_call 117; refine (vqWord T.out (k) _ 4 4 wTo rfl rfl (by omega) (by show _ ≤ ((4 : Nat) : Int); omega) (by decide)).mono ?_; rintro e wn ⟨rfl, tn⟩; have T := Hh tn; clear tn; have c0_0 : wn.cell? ⟨g0, 0, none⟩ = some (.int .i64 k) := (T.out.get 0 rfl).read 0; have c0_1 : wn.cell? ⟨g0, 1, none⟩ = some (.int .i64 l) := (T.out.get 0 rfl).read 1)
 | (go_at_call 107; refine (P1.out _ _ _ _ _ T.out rfl rfl).mono ?_; rintro e wn ⟨rfl, tn⟩; have T := Hh tn; clear tn; have c0_0 : wn.cell? ⟨g0, 0, none⟩ = some (.int .i64 k) := (T.out.get 0 rfl).read 0; have c0_1 : wn.cell? ⟨g0, 1, none⟩ = some (.int .i64 l) := (T.out.get 0 rfl).read 1))
 go_end0
 exact ⟨rfl, T.out.tail⟩
theorem pTo (w0 : World) (k l : Int) (hv : VTo k l) : Xa w0 123 (.agg #[.int .i64 k, .int .i64 l]) (kTo k l) := by
 unfold kTo
 rcases hv with ⟨hk, _⟩ | ⟨rfl, hl⟩
 · rw [if_neg (by omega)]; exact pTo_k w0 k l hk
 · rw [if_pos rfl]; exact pTo_4 w0 l hl
end Go.Proofs.YtljdgdphldckhaaGreat
