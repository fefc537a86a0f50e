/-
  No conditions but those that each theorem names.
-/
import Derived.Test.YtljdgdphldckhaaGreatQV46
set_option maxRecDepth 20000
set_option maxHeartbeats 12800000
namespace Go.Proofs.YtljdgdphldckhaaGreat
open Go Go.RowKit
set_option linter.unusedVariables false
set_option linter.unusedSimpArgs false
theorem deep_fi {N : Nat → Prop} {w : World} {cs : List Ca} {ps : List Pl} {c p : Nat} {u v : Value} (hc : c = cs.length) (hp : p = ps.length) (h1 : Deep N w (.row c (casDs cs) .nil) [u]) (h2 : Deep N w (.row p (plsDs ps) .nil) [v]) : Deep N w (Fi.ds ⟨cs, ps⟩) [u, v] := by
  subst hc hp
  exact Deep.app (x := .row cs.length (casDs cs) .nil) h2 h1
theorem Within.pre {N : Nat → Prop} {w : World} {A : Option Addr} {a b : List Value} (h : Within N w A (a ++ b)) : Within N w A a := by
  rcases h with h | ⟨g, e, h1, h2, h3⟩
  · exact .inl (List.append_eq_nil_iff.1 h).1
  · refine .inr ⟨g, e, h1, h2, fun j hj => ?_⟩
    have := h3 j (by rw [List.length_append]; omega)
    rwa [List.getElem?_append_left hj] at this
theorem rusDs_dropl {l : List Ru} (h : l ≠ []) : rusDs l = (rusDs l.dropLast).app (l.getLast h).ds := by
  have e := List.dropLast_concat_getLast h
  rw [← rusDs_snoc, e]
theorem ca_cells {N : Nat → Prop} {w : World} {cd : Ca} {ys : List Value} (h : Deep N w cd.ds ys) : ∃ (R : Option Addr) (cR : Nat) (zs : List Value), ys = [.string cd.name, .int .i64 cd.cost, .int .i64 cd.power, .int .i64 cd.line, .int .i64 cd.col, .slice R cd.rules.length cR] ∧
    (cd.rules.length ≤ 9223372036854775807 ∧ cd.rules.length ≤ cR) ∧ Within N w R zs ∧ Deep N w (rusDs cd.rules) zs := by
  obtain ⟨_, rfl, _, rfl, _, rfl, _, rfl, _, rfl, R, cR, zs, _, rfl, nR, wR, dR, rfl⟩ := h
  exact ⟨R, cR, zs, rfl, nR, wR, dR⟩
theorem ca_with {N : Nat → Prop} {w : World} (cd : Ca) {l : List Ru} {R : Option Addr} {n cR : Nat} {zs : List Value} (hl : n = l.length) (hn : n ≤ 9223372036854775807 ∧ n ≤ cR) (hw : Within N w R zs) (hd : Deep N w (rusDs l) zs) :
    Deep N w ({ cd with rules := l } : Ca).ds [.string cd.name, .int .i64 cd.cost, .int .i64 cd.power, .int .i64 cd.line, .int .i64 cd.col, .slice R n cR] := by
  subst hl
  exact ⟨_, rfl, _, rfl, _, rfl, _, rfl, _, rfl, R, cR, zs, _, rfl, hn, hw, hd, rfl⟩
theorem ca_row {N : Nat → Prop} {w : World} (cd : Ca) {l : List Ru} {v : Value} {n : Nat} (hl : n = l.length) (h : Deep N w (.row n (rusDs l) .nil) [v]) :
    Deep N w ({ cd with rules := l } : Ca).ds [.string cd.name, .int .i64 cd.cost, .int .i64 cd.power, .int .i64 cd.line, .int .i64 cd.col, v] := by
  subst hl
  exact ⟨_, rfl, _, rfl, _, rfl, _, rfl, _, rfl, h⟩
theorem ca_drop {N : Nat → Prop} {w : World} {cd : Ca} {R : Option Addr} {cR : Nat} {zs : List Value} (hn : cd.rules.length ≤ 9223372036854775807 ∧ cd.rules.length ≤ cR) (hw : Within N w R zs) (hd : Deep N w (rusDs cd.rules) zs) :
    Deep N w ({ cd with rules := cd.rules.dropLast } : Ca).ds [.string cd.name, .int .i64 cd.cost, .int .i64 cd.power, .int .i64 cd.line, .int .i64 cd.col, .slice R (cd.rules.length - 1) cR] := by
  by_cases h : cd.rules = []
  · have e : zs = [] := by rw [h] at hd; exact hd
    subst e
    exact ca_with cd (by rw [List.length_dropLast]) ⟨by omega, by omega⟩ hw (by rw [h]; exact rfl)
  · rw [rusDs_dropl h] at hd
    obtain ⟨a, b, rfl, h1, h2⟩ := hd.split
    exact ca_with cd (by rw [List.length_dropLast]) ⟨by omega, by omega⟩ hw.pre h1
theorem front_len : ∀ x : Acs, x.front.len = x.len - 1
  | .nil => rfl
  | .cons h t e .nil => rfl
  | .cons h t e (.cons h2 t2 e2 r2) => by
    have := front_len (.cons h2 t2 e2 r2)
    have e1 : Acs.front (.cons h t e (.cons h2 t2 e2 r2)) = .cons h t e (Acs.front (.cons h2 t2 e2 r2)) := rfl
    have e9 : (Acs.cons h2 t2 e2 r2).len = r2.len + 1 := rfl
    rw [e1]
    show (Acs.front (.cons h2 t2 e2 r2)).len + 1 = (Acs.cons h2 t2 e2 r2).len + 1 - 1
    rw [this, e9]
    omega
theorem front_ds : ∀ x : Acs, ∃ y : Ds, x.ds = x.front.ds.app y
  | .nil => ⟨.nil, rfl⟩
  | .cons h t e .nil => ⟨Acs.ds (.cons h t e .nil), rfl⟩
  | .cons h t e (.cons h2 t2 e2 r2) => by
    obtain ⟨y, hy⟩ := front_ds (.cons h2 t2 e2 r2)
    have e1 : Acs.front (.cons h t e (.cons h2 t2 e2 r2)) = .cons h t e (Acs.front (.cons h2 t2 e2 r2)) := rfl
    refine ⟨y, ?_⟩
    rw [e1, Acs.ds, hy, Acs.ds, Ds.app_assoc]
theorem ru_cells {N : Nat → Prop} {w : World} {r : Ru} {ys : List Value} (h : Deep N w r.ds ys) : ∃ (R : Option Addr) (cR : Nat) (zs : List Value), ys = [.int .i64 r.when_, .int .i64 r.stratum, .int .i64 r.line, .int .i64 r.col, .slice R r.acts.len cR] ∧
    (r.acts.len ≤ 9223372036854775807 ∧ r.acts.len ≤ cR) ∧ Within N w R zs ∧ Deep N w r.acts.ds zs := by
  obtain ⟨_, rfl, _, rfl, _, rfl, _, rfl, R, cR, zs, _, rfl, nR, wR, dR, rfl⟩ := h
  exact ⟨R, cR, zs, rfl, nR, wR, dR⟩
theorem ru_less {N : Nat → Prop} {w : World} {r : Ru} {R : Option Addr} {cR : Nat} {zs : List Value} (hn : r.acts.len ≤ 9223372036854775807 ∧ r.acts.len ≤ cR) (hw : Within N w R zs) (hd : Deep N w r.acts.ds zs) :
    Deep N w r.less.ds [.int .i64 r.when_, .int .i64 r.stratum, .int .i64 r.line, .int .i64 r.col, .slice R (r.acts.len - 1) cR] := by
  obtain ⟨y, hy⟩ := front_ds r.acts
  rw [hy] at hd
  obtain ⟨a, b, rfl, h1, h2⟩ := hd.split
  have e : r.acts.len - 1 = r.acts.front.len := (front_len _).symm
  have e2 : r.less.acts.len = r.acts.front.len := rfl
  rw [e]
  exact ⟨_, rfl, _, rfl, _, rfl, _, rfl, R, cR, a, _, rfl, ⟨by omega, by omega⟩, hw.pre, h1, rfl⟩
theorem ru_at {N : Nat → Prop} {w : World} {l : List Ru} {R : Option Addr} {zs : List Value} (hw : Within N w R zs) (hd : Deep N w (rusDs l) zs) {k : Nat} (hk : k < l.length) :
    ∃ g ys, R = some ⟨g, 0, none⟩ ∧ g < w.heap.size ∧ w.rangeAt g (k * 5) ys ∧ Deep N w (l[k]'hk).ds ys := by
  obtain ⟨pre, ys, post, rfl, hpre, hd⟩ := rus_at hd k hk
  rcases hw with hw | ⟨g, rfl, h1, h2, h3⟩
  · have hl := hd.len
    simp at hw
    rw [hw.2.1] at hl
    simp [Ru.ds, Ds.len] at hl
  · refine ⟨g, ys, rfl, h2, ?_, hd⟩
    intro j v hj
    have hlt := (List.getElem?_eq_some_iff.1 hj).1
    have h4 := h3 (k * 5 + j) (by simp; omega)
    rw [h4, ← hpre, List.append_assoc, List.getElem?_append_right (by omega), List.getElem?_append_left (by omega)]
    rw [show pre.length + j - pre.length = j from by omega]
    exact hj
theorem cut_rus (g k c : Nat) (i : Int) (a : Nat) (hi : i = (a : Int)) (ha : a ≤ k) (hk : k ≤ c) (h0 : 0 < k) (w : World) :
    (Instr.slice 33 (.slice (some ⟨g, 0, none⟩) k c) none (some (.int .i64 i)) none).run Tryz.prog w = .ok (.slice (some ⟨g, 0, none⟩) a c) w := by
  subst hi
  have hs : ∀ w, (Go.sizeOf (Tryz.prog.elem 33)).run Tryz.prog w = .ok 5 w := fun w => by kernel_rfl
  rw [run_slice_h w 33 (some ⟨g, 0, none⟩) k c (by kernel_rfl) .i64 (a : Int) (by omega) (by omega), hs]
  simp only [Result.andThen, sliced, Int.toNat_natCast]
  have h : ¬ c = 0 := by omega
  simp [h, Addr.add]
theorem cut_acs (g k c : Nat) (i : Int) (a : Nat) (hi : i = (a : Int)) (ha : a ≤ k) (hk : k ≤ c) (h0 : 0 < k) (w : World) :
    (Instr.slice 41 (.slice (some ⟨g, 0, none⟩) k c) none (some (.int .i64 i)) none).run Tryz.prog w = .ok (.slice (some ⟨g, 0, none⟩) a c) w := by
  subst hi
  have hs : ∀ w, (Go.sizeOf (Tryz.prog.elem 41)).run Tryz.prog w = .ok 53 w := fun w => by kernel_rfl
  rw [run_slice_h w 41 (some ⟨g, 0, none⟩) k c (by kernel_rfl) .i64 (a : Int) (by omega) (by omega), hs]
  simp only [Result.andThen, sliced, Int.toNat_natCast]
  have h : ¬ c = 0 := by omega
  simp [h, Addr.add]
theorem lund_rus : Tryz.prog.underlying 33 = some (.slice 66) := by kernel_rfl
theorem linfo_ru : (Tryz.prog.info? 66).map (fun i => (i.zero, i.size, i.bytes)) = some (some (.agg #[.int .i64 0, .int .i64 0, .int .i64 0, .int .i64 0, .slice none 0 0]), 5, 56) := by kernel_rfl
theorem lsize_rus : (Tryz.prog.info? 33).map (·.size) = some 1 := by kernel_rfl
theorem lsize_acs : (Tryz.prog.info? 41).map (·.size) = some 1 := by kernel_rfl
theorem lsz_ru : (Tryz.prog.info? 66).map (·.size) = some 5 := by kernel_rfl
theorem lrow_ru2 : (Tryz.prog.underlying 66).map TypeDesc.isRow = some true := by kernel_rfl
theorem lz_ca2 : (Tryz.prog.info? 35).map (fun i => i.zero.map Value.cells) = some (some ([.string ⟨#[]⟩, .int .i64 0, .int .i64 0, .int .i64 0, .int .i64 0, .slice none 0 0] : List Value).toArray) := by kernel_rfl
theorem lz_ru2 : (Tryz.prog.info? 66).map (fun i => i.zero.map Value.cells) = some (some ([.int .i64 0, .int .i64 0, .int .i64 0, .int .i64 0, .slice none 0 0] : List Value).toArray) := by kernel_rfl
theorem rusLess_take {l : List Ru} {k : Nat} (hk : k < l.length) : rusDs ((l.take (k + 1)).map Ru.less) = (rusDs ((l.take k).map Ru.less)).app (l[k]'hk).less.ds := by
  rw [List.take_add_one, List.getElem?_eq_getElem hk, List.map_append]
  exact rusDs_snoc _ _
end Go.Proofs.YtljdgdphldckhaaGreat
