/-
  Texts SynR3, SynS0, SynS1, SynR4, SynR5, SynR6, SynR8. No conditions but those that each theorem names.
-/
import Derived.Great.Ranges
import Derived.Great.Walk
import Derived.Deep.QuietTactic
import Derived.BigQuiet
import Derived.RegionTactic
import Derived.IntWalk
import Derived.Test.YtabegjepejgllaaGreatQL28
namespace Go.Proofs.YtabegjepejgllaaGreat
open Go Go.RowKit Go.Great
set_option linter.unusedSimpArgs false
set_option linter.unusedVariables false
abbrev Bk := Nat × TypeId × List Value
structure Rw where
 v : Value
 e : TypeId
 sz : Nat
 n : Nat
 xs : List Value
def Free (w : World) (bs : List Bk) (rs : List Rw) (k : Nat) : Prop := w.heap.size ≤ k ∧ (∀ b ∈ bs, b.1 ≠ k) ∧ ∀ r ∈ rs, r.v.ownBlock ≠ some k
structure Env (w : World) (bs : List Bk) (rs : List Rw) (ts : List (Ds × List Value)) (x : World) : Prop where
 at_ : ∀ b ∈ bs, Zb x b.1 b.2.1 b.2.2.toArray
 lo : ∀ b ∈ bs, w.heap.size ≤ b.1
 nod : (bs.map (·.1)).Nodup
 row : ∀ r ∈ rs, x.ownsRow w.heap.size r.e r.sz r.v r.n r.xs
 apart : ∀ r ∈ rs, ∀ b ∈ bs, r.v.ownBlock ≠ some b.1
 rapart : rs.Pairwise fun a b => ∀ k, a.v.ownBlock = some k → b.v.ownBlock ≠ some k
 deep : ∀ t ∈ ts, Zi (Free w bs rs) x t.1 t.2
 below : Below w.heap.size w x
section
variable {w x y : World} {bs : List Bk} {rs : List Rw} {ts : List (Ds × List Value)}
theorem Env.start (w : World) : Env w [] [] [] w :=
 ⟨(fun _ h => nomatch h), (fun _ h => nomatch h), List.nodup_nil, (fun _ h => nomatch h), (fun _ h => nomatch h), List.Pairwise.nil, (fun _ h => nomatch h), Below.refl _ _⟩
theorem Env.box (h : Env w bs rs ts x) (t : TypeId) (vs : List Value) : Env w (bs ++ [(x.heap.size, t, vs)]) rs ts (x.alloc (.cells vs.toArray t)) := by
 have hk : Zn (fun _ => False) x (x.alloc (.cells vs.toArray t)) := Zn.of_below (Za x _)
 refine ⟨fun b hb => ?_, fun b hb => ?_, ?_, fun r hr => hk.owns (h.row r hr) (fun _ _ => id), fun r hr b hb => ?_, h.rapart, fun u hu => ?_, h.below.alloc h.below.size _⟩
 · rcases List.mem_append.1 hb with hb | hb
   · exact (h.at_ b hb).alloc _
   · cases List.mem_singleton.1 hb; exact Zb.made x t vs.toArray
 · rcases List.mem_append.1 hb with hb | hb
   · exact h.lo b hb
   · cases List.mem_singleton.1 hb; exact h.below.size
 · rw [List.map_append, List.nodup_append]
   refine ⟨h.nod, by simp, fun a ha b hb => ?_⟩
   obtain ⟨c, hc, rfl⟩ := List.mem_map.1 ha
   simp at hb
   subst hb
   have := (h.at_ c hc).inside
   omega
 · rcases List.mem_append.1 hb with hb | hb
   · exact h.apart r hr b hb
   · cases List.mem_singleton.1 hb
     intro c
     have := ((h.row r hr).lt _ c).2
     exact Nat.lt_irrefl _ this
 · refine (h.deep u hu).keeps hk fun k hk hn => ⟨id, hn.1, fun b hb => ?_, hn.2.2⟩
   rcases List.mem_append.1 hb with hb | hb
   · exact hn.2.1 b hb
   · cases List.mem_singleton.1 hb
     show x.heap.size ≠ k
     omega
theorem Env.call (h : Env w bs rs ts x) (b : Below x.heap.size x y) : Env w bs rs ts y :=
 ⟨fun c hc => (h.at_ c hc).below b (h.at_ c hc).inside, h.lo, h.nod, fun r hr => (Zn.of_below (S := fun _ => False) b).owns (h.row r hr) (fun _ _ => id), h.apart, h.rapart, fun t ht => (h.deep t ht).below b, h.below.trans (b.mono h.below.size)⟩
theorem Env.tree (h : Env w bs rs ts x) (b : Below x.heap.size x y) {ds : Ds} {vs : List Value} (d : Zi (fun k => x.heap.size ≤ k) y ds vs) : Env w bs rs (ts ++ [(ds, vs)]) y := by
 have h' := h.call b
 refine ⟨h'.at_, h'.lo, h'.nod, h'.row, h'.apart, h'.rapart, fun u hu => ?_, h'.below⟩
 rcases List.mem_append.1 hu with hu | hu
 · exact h'.deep u hu
 · cases List.mem_singleton.1 hu
   refine d.mono fun k hk hn => ⟨?_, fun c hc => ?_, fun r hr c => ?_⟩
   · have := h.below.size; omega
   · have := (h.at_ c hc).inside; omega
   · have := ((h.row r hr).lt _ c).2; omega
theorem Env.drew (h : Env w bs rs ts x) : Env w bs rs ts x.drew := h.call ⟨rfl, rfl, rfl, Nat.le_refl _, fun _ _ => rfl⟩
theorem Env.drewN (h : Env w bs rs ts x) (n : Nat) : Env w bs rs ts (x.drewN n) := h.call ⟨rfl, rfl, rfl, Nat.le_refl _, fun _ _ => rfl⟩
theorem Env.get (h : Env w bs rs ts x) (i : Nat) {g : Nat} {t : TypeId} {vs : List Value} (hi : bs[i]? = some (g, t, vs)) : Zb x g t vs.toArray :=
 h.at_ (g, t, vs) (List.mem_of_getElem? hi)
theorem Env.leaf (h : Env w bs rs ts x) (i : Nat) {ds : Ds} {vs : List Value} (hi : ts[i]? = some (ds, vs)) : Zi (fun k => w.heap.size ≤ k) x ds vs :=
 (h.deep (ds, vs) (List.mem_of_getElem? hi)).mono fun k _ hn => hn.1
theorem map_set_same {bs : List Bk} {i g : Nat} {t : TypeId} {old ys : List Value} (hi : bs[i]? = some (g, t, old)) : (bs.set i (g, t, ys)).map (·.1) = bs.map (·.1) := by
 apply List.ext_getElem?
 intro j
 rw [List.getElem?_map, List.getElem?_map, List.getElem?_set]
 by_cases hj : i = j
 · subst hj
   have hlt := (List.getElem?_eq_some_iff.1 hi).1
   rw [if_pos rfl, if_pos hlt, hi]
   rfl
 · rw [if_neg hj]
theorem free_set {bs : List Bk} {rs : List Rw} {i g : Nat} {t : TypeId} {old ys : List Value} (hi : bs[i]? = some (g, t, old)) {k : Nat} (h : Free w bs rs k) : Free w (bs.set i (g, t, ys)) rs k := by
 refine ⟨h.1, fun b hb => ?_, h.2.2⟩
 have : b.1 ∈ (bs.set i (g, t, ys)).map (·.1) := List.mem_map_of_mem hb
 rw [map_set_same hi] at this
 obtain ⟨c, hc, e⟩ := List.mem_map.1 this
 rw [← e]
 exact h.2.1 c hc
theorem Env.put (h : Env w bs rs ts x) (i : Nat) {g : Nat} {t : TypeId} {old ys : List Value} (hi : bs[i]? = some (g, t, old)) (p : Put x y g t ys) : Env w (bs.set i (g, t, ys)) rs ts y := by
 have hm := map_set_same (ys := ys) hi
 have hmem := List.mem_of_getElem? hi
 have hin : ∀ b ∈ bs.set i (g, t, ys), ∃ c ∈ bs, c.1 = b.1 := fun b hb => by
   have : b.1 ∈ (bs.set i (g, t, ys)).map (·.1) := List.mem_map_of_mem hb
   rw [hm] at this
   exact List.mem_map.1 this
 refine ⟨fun b hb => ?_, fun b hb => ?_, by rw [hm]; exact h.nod, fun r hr => p.keeps.owns (h.row r hr) (fun k hk e => ?_), fun r hr b hb => ?_, h.rapart, fun u hu => ?_, h.below.trans (p.keeps.below h.below.size fun k e => by rw [e]; exact h.lo _ hmem)⟩
 · obtain ⟨j, hj, hb'⟩ := List.getElem_of_mem hb
   rw [List.getElem_set] at hb'
   rw [List.length_set] at hj
   by_cases e : i = j
   · rw [if_pos e] at hb'
     rw [← hb']
     exact p.whole
   · rw [if_neg e] at hb'
     rw [← hb']
     refine p.keeps.whole (h.at_ _ (List.getElem_mem hj)) fun c => e ?_
     obtain ⟨hlt, hge⟩ := List.getElem?_eq_some_iff.1 hi
     have h1 : (bs.map (·.1))[i]'(by simpa using hlt) = (bs.map (·.1))[j]'(by simpa using hj) := by simp [hge, c]
     have hp := List.pairwise_iff_getElem.1 h.nod
     rcases Nat.lt_trichotomy i j with q | q | q
     · exact absurd h1 (hp i j _ _ q)
     · exact q
     · exact absurd h1.symm (hp j i _ _ q)
 · obtain ⟨c, hc, e⟩ := hin b hb
   rw [← e]; exact h.lo c hc
 · exact h.apart r hr _ hmem (by rw [hk, e])
 · obtain ⟨c, hc, e⟩ := hin b hb
   rw [← e]; exact h.apart r hr c hc
 · exact (h.deep u hu).keeps p.keeps fun k _ hn => ⟨fun e => hn.2.1 _ hmem e.symm, free_set hi hn⟩
theorem Env.push {v' : Value} {e : TypeId} {sz n : Nat} {xs news : List Value} {v : Value} (h : Env w bs [⟨v, e, sz, n, xs⟩] ts x) (ho : y.ownsRow w.heap.size e sz v' (n + 1) (xs ++ news)) (hg : x.grownBy y v.ownBlock)
   (hat : v'.ownBlock = v.ownBlock ∨ v'.ownBlock = some x.heap.size) : Env w bs [⟨v', e, sz, n + 1, xs ++ news⟩] ts y := by
 have hk : Zn (fun k => v.ownBlock = some k) x y := Zn.grown (Zn.refl _ _) hg fun k hk => hk
 have hr := h.row _ (List.mem_singleton.2 rfl)
 have ha := h.apart _ (List.mem_singleton.2 rfl)
 refine ⟨fun b hb => hk.whole (h.at_ b hb) (ha b hb), h.lo, h.nod, fun r hr => ?_, fun r hr b hb => ?_, List.pairwise_singleton _ _, fun u hu => ?_, h.below.trans (hk.below h.below.size fun k e => (hr.lt k e).1)⟩
 · cases List.mem_singleton.1 hr; exact ho
 · cases List.mem_singleton.1 hr
   rcases hat with e | e
   · show v'.ownBlock ≠ _
     rw [e]; exact ha b hb
   · show v'.ownBlock ≠ _
     rw [e]
     intro c
     have := (h.at_ b hb).inside
     injection c with c
     omega
 · refine (h.deep u hu).keeps hk fun k hk' hn => ⟨hn.2.2 _ (List.mem_singleton.2 rfl), hn.1, hn.2.1, fun r hr => ?_⟩
   cases List.mem_singleton.1 hr
   rcases hat with e | e
   · show v'.ownBlock ≠ _
     rw [e]; exact hn.2.2 _ (List.mem_singleton.2 rfl)
   · show v'.ownBlock ≠ _
     rw [e]
     intro c
     injection c with c
     omega
theorem Env.row1 (h : Env w bs [] ts x) (e : TypeId) (sz : Nat) : Env w bs [⟨.slice none 0 0, e, sz, 0, []⟩] ts x :=
 ⟨h.at_, h.lo, h.nod, (fun r hr => by cases List.mem_singleton.1 hr; exact ⟨by simp, .inl ⟨rfl, rfl⟩⟩), (fun r hr b hb => by cases List.mem_singleton.1 hr; simp [Value.ownBlock]), List.pairwise_singleton _ _,
   fun u hu => (h.deep u hu).mono fun k _ hn => ⟨hn.1, hn.2.1, (fun r hr => by cases List.mem_singleton.1 hr; simp [Value.ownBlock])⟩, h.below⟩
variable {P : Program} {ops : Array Oper} {rest : List Oper} {o : Oper} {a : Act} {Q : Exit → Act → World → Prop}
theorem wpList_boxE (h : Env w bs rs ts x) (t : TypeId) (v : Operand) (vs : List Value) (hg : o.guard = none) (ho : o.op = .box t v) (hv : a.eval v = .agg vs.toArray)
   (hn : ∀ y g, Env w (bs ++ [(g, t, vs)]) rs ts y → wpList P ops Q rest (a.put o.dst (.pointer (some ⟨g, 0, none⟩))) y) : wpList P ops Q (o :: rest) a x :=
 wpList_boxTo hg t v ho o.dst rfl x.heap.size rfl vs.toArray (by rw [hv]; rfl) (hn _ _ (h.box t vs))
theorem wpList_allocE (h : Env w bs rs ts x) (t : TypeId) (vs : List Value) (hg : o.guard = none) (ho : o.op = .alloc t) (hz : (P.info? t).map (fun i => i.zero.map Value.cells) = some (some vs.toArray))
   (hn : ∀ y g, Env w (bs ++ [(g, t, vs)]) rs ts y → wpList P ops Q rest (a.put o.dst (.pointer (some ⟨g, 0, none⟩))) y) : wpList P ops Q (o :: rest) a x := by
 obtain ⟨i, hi, hzz⟩ := Option.map_eq_some_iff.1 hz
 obtain ⟨z, hz1, hz2⟩ := Option.map_eq_some_iff.1 hzz
 refine wpList_runTo hg o.dst rfl (.pointer (some ⟨x.heap.size, 0, none⟩)) (x.alloc (.cells vs.toArray t)) ?_ (hn _ _ (h.box t vs))
 unfold execOp
 rw [ho]
 simp [Instr.alloc, zeroValue, typeInfo, hi, hz1, newVar, newRow, hz2, Sem.run_bind, Sem.run_pure, run_newObj_alloc]
end
end Go.Proofs.YtabegjepejgllaaGreat
namespace Go.Proofs.YtabegjepejgllaaGreat
open Go Go.RowKit
set_option linter.unusedVariables false
set_option linter.unusedSimpArgs false
theorem Env.more {w x y : World} {bs cs : List Bk} (h : Env w bs [] [] x) (k : Env x cs [] [] y) : Env w (bs ++ cs) [] [] y := by
 have h' := h.call k.below
 refine ⟨fun b hb => ?_, fun b hb => ?_, ?_, (fun r hr => by cases hr), (fun r hr => by cases hr), List.Pairwise.nil, (fun u hu => by cases hu), h'.below⟩
 · rcases List.mem_append.1 hb with hb | hb
   · exact h'.at_ b hb
   · exact k.at_ b hb
 · rcases List.mem_append.1 hb with hb | hb
   · exact h'.lo b hb
   · exact Nat.le_trans h.below.size (k.lo b hb)
 · rw [List.map_append, List.nodup_append]
   refine ⟨h'.nod, k.nod, fun a ha b hb e => ?_⟩
   obtain ⟨u, hu, rfl⟩ := List.mem_map.1 ha
   obtain ⟨v, hv, rfl⟩ := List.mem_map.1 hb
   have h1 := (h.at_ u hu).inside
   have h2 := k.lo v hv
   omega
section
variable {P : Program} {ops : Array Oper} {Q : Exit → Act → World → Prop}
end
end Go.Proofs.YtabegjepejgllaaGreat
namespace Go.Proofs.YtabegjepejgllaaGreat
open Go.ChangeShapes Go.WideShapes Go.ChangeAt Go.RowKit
set_option linter.unusedVariables false
set_option linter.unusedSimpArgs false
theorem Within.reads {N : Nat → Prop} {w : World} {A : Option Addr} {xs : List Value} (h : Within N w A xs) (hx : 0 < xs.length) : ∃ g, A = some ⟨g, 0, none⟩ ∧ g < w.heap.size ∧ ∀ j, j < xs.length → w.cell? ⟨g, j, none⟩ = xs[j]? := by
 rcases h with h | ⟨g, e, _, h2, h3⟩
 · rw [h] at hx; cases hx
 · exact ⟨g, e, h2, h3⟩
theorem Zi.inRow {N : Nat → Prop} {w : World} {n : Nat} {ds : Ds} {v : Value} (h : Zi N w (.row n ds .nil) [v]) : ∃ A c xs, v = .slice A n c ∧ n ≤ 9223372036854775807 ∧ Within N w A xs ∧ Zi N w ds xs := by
 obtain ⟨A, c, xs, t, e, hn, hw, hd, _⟩ := h
 injection e with e1 e2
 exact ⟨A, c, xs, e1, hn, hw, hd⟩
theorem Zi.inRow1 {N : Nat → Prop} {w : World} {n : Nat} {ds : Ds} {vs : List Value} (h : Zi N w (.row n ds .nil) vs) : ∃ A c xs, vs = [.slice A n c] ∧ n ≤ 9223372036854775807 ∧ Within N w A xs ∧ Zi N w ds xs := by
 obtain ⟨A, c, xs, t, e, hn, hw, hd, ht⟩ := h
 have ht : t = [] := ht
 exact ⟨A, c, xs, by rw [e, ht], hn, hw, hd⟩
def Fl.vals (f : Fl) : List Value := [.int .i64 f.kind, .int .i64 f.op, .int .i64 f.n, .string f.name]
theorem fls_at {N : Nat → Prop} {w : World} : ∀ {l : List Fl} {xs : List Value}, Zi N w (flsDs l) xs → ∀ (k : Nat) (hk : k < l.length) (j : Nat), j < 4 → xs[k * 4 + j]? = (l[k]'hk).vals[j]? := by
 intro l
 induction l with
 | nil => intro xs _ k hk; cases hk
 | cons f l ih =>
   intro xs h k hk j hj
   obtain ⟨_, rfl, _, rfl, _, rfl, xs, rfl, h⟩ := h
   cases k with
   | zero =>
     rcases (show j = 0 ∨ j = 1 ∨ j = 2 ∨ j = 3 by omega) with rfl | rfl | rfl | rfl <;> rfl
   | succ k =>
     have := ih h k (by simpa using hk) j hj
     rw [show (k + 1) * 4 + j = (k * 4 + j) + 4 by omega]
     simpa using this
theorem fls_len {N : Nat → Prop} {w : World} : ∀ {l : List Fl} {xs : List Value}, Zi N w (flsDs l) xs → xs.length = l.length * 4 := by
 intro l
 induction l with
 | nil => intro xs h; cases h; rfl
 | cons f l ih =>
   intro xs h
   obtain ⟨_, rfl, _, rfl, _, rfl, xs, rfl, h⟩ := h
   have := ih h
   simp only [List.length_cons]; omega
theorem fil_at {N : Nat → Prop} {w : World} {A : Option Addr} {l : List Fl} {xs : List Value} (hw : Within N w A xs) (hd : Zi N w (flsDs l) xs) {k : Nat} (hk : k < l.length) :
   ∃ x, A = some x ∧ x.block < w.heap.size ∧ w.cell? (x.add (k * 4)) = some (.int .i64 (l[k]'hk).kind) ∧ w.cell? ⟨(x.add (k * 4)).block, (x.add (k * 4)).off + 1, none⟩ = some (.int .i64 (l[k]'hk).op) ∧
     w.cell? ⟨(x.add (k * 4)).block, (x.add (k * 4)).off + 2, none⟩ = some (.int .i64 (l[k]'hk).n) ∧ w.cell? ⟨(x.add (k * 4)).block, (x.add (k * 4)).off + 3, none⟩ = some (.string (l[k]'hk).name) := by
 have hl := fls_len hd
 obtain ⟨g, hA, hg, hc⟩ := hw.reads (by omega)
 have key : ∀ j, j < 4 → w.cell? (((⟨g, 0, none⟩ : Addr).add (k * 4)).add j) = (l[k]'hk).vals[j]? := fun j hj => by
   rw [Addr.add_add, Addr.add_lit, Nat.zero_add, hc _ (by omega), fls_at hd k hk j hj]
 exact ⟨⟨g, 0, none⟩, hA, hg, key 0 (by omega), key 1 (by omega), key 2 (by omega), key 3 (by omega)⟩
theorem Env.ne {w x : World} {bs : List Bk} {rs : List Rw} {ts : List (Ds × List Value)} (h : Env w bs rs ts x) (i j : Nat) (hij : i ≠ j) {b c : Bk} (hi : bs[i]? = some b) (hj : bs[j]? = some c) : b.1 ≠ c.1 := by
 obtain ⟨h1, e1⟩ := List.getElem?_eq_some_iff.1 hi
 obtain ⟨h2, e2⟩ := List.getElem?_eq_some_iff.1 hj
 have hp := List.pairwise_iff_getElem.1 h.nod
 have g1 : (bs.map (·.1))[i]'(by simpa using h1) = b.1 := by simp [e1]
 have g2 : (bs.map (·.1))[j]'(by simpa using h2) = c.1 := by simp [e2]
 intro e
 rcases Nat.lt_trichotomy i j with q | q | q
 · exact hp i j _ _ q (by rw [g1, g2, e])
 · exact hij q
 · exact hp j i _ _ q (by rw [g1, g2, e])
theorem mixed : (Tryz.prog).follows .mixedOrders = true := by kernel_rfl
end Go.Proofs.YtabegjepejgllaaGreat
namespace Go.Proofs.YtabegjepejgllaaGreat
open Go Go.RowKit
set_option linter.unusedVariables false
set_option linter.unusedSimpArgs false
end Go.Proofs.YtabegjepejgllaaGreat
