/-
  Texts Env. No conditions but those that each theorem names.
-/
import Derived.Great.Ranges
import Derived.Great.Walk
import Derived.Test.YtljdgdphldckhaaGreatQA9
set_option maxRecDepth 20000
set_option maxHeartbeats 12800000
namespace Go.Proofs.YtljdgdphldckhaaGreat
open Go Go.RowKit Go.Great
set_option linter.unusedSimpArgs false
set_option linter.unusedVariables false
abbrev Bk := Nat × TypeId × List Value
structure Rw where
 v : Value
 e : TypeId
 sz : Nat
 n : Nat
 xs : List Value
def Free (w : World) (bs : List Bk) (rs : List Rw) (k : Nat) : Prop := w.heap.size ≤ k ∧ (∀ b ∈ bs, b.1 ≠ k) ∧ ∀ r ∈ rs, r.v.ownBlock ≠ some k
structure Env (w : World) (bs : List Bk) (rs : List Rw) (ts : List (Ds × List Value)) (x : World) : Prop where
 at_ : ∀ b ∈ bs, Zb x b.1 b.2.1 b.2.2.toArray
 lo : ∀ b ∈ bs, w.heap.size ≤ b.1
 nod : (bs.map (·.1)).Nodup
 row : ∀ r ∈ rs, x.ownsRow w.heap.size r.e r.sz r.v r.n r.xs
 apart : ∀ r ∈ rs, ∀ b ∈ bs, r.v.ownBlock ≠ some b.1
 rapart : rs.Pairwise fun a b => ∀ k, a.v.ownBlock = some k → b.v.ownBlock ≠ some k
 deep : ∀ t ∈ ts, Zh (Free w bs rs) x t.1 t.2
 below : Below w.heap.size w x
section
variable {w x y : World} {bs : List Bk} {rs : List Rw} {ts : List (Ds × List Value)}
theorem Env.start (w : World) : Env w [] [] [] w :=
 ⟨(fun _ h => nomatch h), (fun _ h => nomatch h), List.nodup_nil, (fun _ h => nomatch h), (fun _ h => nomatch h), List.Pairwise.nil, (fun _ h => nomatch h), Below.refl _ _⟩
theorem Env.box (h : Env w bs rs ts x) (t : TypeId) (vs : List Value) : Env w (bs ++ [(x.heap.size, t, vs)]) rs ts (x.alloc (.cells vs.toArray t)) := by
 have hk : Zo (fun _ => False) x (x.alloc (.cells vs.toArray t)) := Zo.of_below (Za x _)
 refine ⟨fun b hb => ?_, fun b hb => ?_, ?_, fun r hr => hk.owns (h.row r hr) (fun _ _ => id), fun r hr b hb => ?_, h.rapart, fun u hu => ?_, h.below.alloc h.below.size _⟩
 · rcases List.mem_append.1 hb with hb | hb
   · exact (h.at_ b hb).alloc _
   · cases List.mem_singleton.1 hb; exact Zb.made x t vs.toArray
 · rcases List.mem_append.1 hb with hb | hb
   · exact h.lo b hb
   · cases List.mem_singleton.1 hb; exact h.below.size
 · rw [List.map_append, List.nodup_append]
   refine ⟨h.nod, by simp, fun a ha b hb => ?_⟩
   obtain ⟨c, hc, rfl⟩ := List.mem_map.1 ha
   simp at hb
   subst hb
   have := (h.at_ c hc).inside
   omega
 · rcases List.mem_append.1 hb with hb | hb
   · exact h.apart r hr b hb
   · cases List.mem_singleton.1 hb
     intro c
     have := ((h.row r hr).lt _ c).2
     exact Nat.lt_irrefl _ this
 · refine (h.deep u hu).keeps hk fun k hk hn => ⟨id, hn.1, fun b hb => ?_, hn.2.2⟩
   rcases List.mem_append.1 hb with hb | hb
   · exact hn.2.1 b hb
   · cases List.mem_singleton.1 hb
     show x.heap.size ≠ k
     omega
theorem Env.call (h : Env w bs rs ts x) (b : Below x.heap.size x y) : Env w bs rs ts y :=
 ⟨fun c hc => (h.at_ c hc).below b (h.at_ c hc).inside, h.lo, h.nod, fun r hr => (Zo.of_below (S := fun _ => False) b).owns (h.row r hr) (fun _ _ => id), h.apart, h.rapart, fun t ht => (h.deep t ht).below b, h.below.trans (b.mono h.below.size)⟩
theorem Env.tree (h : Env w bs rs ts x) (b : Below x.heap.size x y) {ds : Ds} {vs : List Value} (d : Zh (fun k => x.heap.size ≤ k) y ds vs) : Env w bs rs (ts ++ [(ds, vs)]) y := by
 have h' := h.call b
 refine ⟨h'.at_, h'.lo, h'.nod, h'.row, h'.apart, h'.rapart, fun u hu => ?_, h'.below⟩
 rcases List.mem_append.1 hu with hu | hu
 · exact h'.deep u hu
 · cases List.mem_singleton.1 hu
   refine d.mono fun k hk hn => ⟨?_, fun c hc => ?_, fun r hr c => ?_⟩
   · have := h.below.size; omega
   · have := (h.at_ c hc).inside; omega
   · have := ((h.row r hr).lt _ c).2; omega
theorem Env.drew (h : Env w bs rs ts x) : Env w bs rs ts x.drew := h.call ⟨rfl, rfl, rfl, Nat.le_refl _, fun _ _ => rfl⟩
theorem Env.drewN (h : Env w bs rs ts x) (n : Nat) : Env w bs rs ts (x.drewN n) := h.call ⟨rfl, rfl, rfl, Nat.le_refl _, fun _ _ => rfl⟩
theorem Env.get (h : Env w bs rs ts x) (i : Nat) {g : Nat} {t : TypeId} {vs : List Value} (hi : bs[i]? = some (g, t, vs)) : Zb x g t vs.toArray :=
 h.at_ (g, t, vs) (List.mem_of_getElem? hi)
theorem Env.leaf (h : Env w bs rs ts x) (i : Nat) {ds : Ds} {vs : List Value} (hi : ts[i]? = some (ds, vs)) : Zh (fun k => w.heap.size ≤ k) x ds vs :=
 (h.deep (ds, vs) (List.mem_of_getElem? hi)).mono fun k _ hn => hn.1
theorem map_set_same {bs : List Bk} {i g : Nat} {t : TypeId} {old ys : List Value} (hi : bs[i]? = some (g, t, old)) : (bs.set i (g, t, ys)).map (·.1) = bs.map (·.1) := by
 apply List.ext_getElem?
 intro j
 rw [List.getElem?_map, List.getElem?_map, List.getElem?_set]
 by_cases hj : i = j
 · subst hj
   have hlt := (List.getElem?_eq_some_iff.1 hi).1
   rw [if_pos rfl, if_pos hlt, hi]
   rfl
 · rw [if_neg hj]
theorem free_set {bs : List Bk} {rs : List Rw} {i g : Nat} {t : TypeId} {old ys : List Value} (hi : bs[i]? = some (g, t, old)) {k : Nat} (h : Free w bs rs k) : Free w (bs.set i (g, t, ys)) rs k := by
 refine ⟨h.1, fun b hb => ?_, h.2.2⟩
 have : b.1 ∈ (bs.set i (g, t, ys)).map (·.1) := List.mem_map_of_mem hb
 rw [map_set_same hi] at this
 obtain ⟨c, hc, e⟩ := List.mem_map.1 this
 rw [← e]
 exact h.2.1 c hc
theorem Env.put (h : Env w bs rs ts x) (i : Nat) {g : Nat} {t : TypeId} {old ys : List Value} (hi : bs[i]? = some (g, t, old)) (p : Put x y g t ys) : Env w (bs.set i (g, t, ys)) rs ts y := by
 have hm := map_set_same (ys := ys) hi
 have hmem := List.mem_of_getElem? hi
 have hin : ∀ b ∈ bs.set i (g, t, ys), ∃ c ∈ bs, c.1 = b.1 := fun b hb => by
   have : b.1 ∈ (bs.set i (g, t, ys)).map (·.1) := List.mem_map_of_mem hb
   rw [hm] at this
   exact List.mem_map.1 this
 refine ⟨fun b hb => ?_, fun b hb => ?_, by rw [hm]; exact h.nod, fun r hr => p.keeps.owns (h.row r hr) (fun k hk e => ?_), fun r hr b hb => ?_, h.rapart, fun u hu => ?_, h.below.trans (p.keeps.below h.below.size fun k e => by rw [e]; exact h.lo _ hmem)⟩
 · obtain ⟨j, hj, hb'⟩ := List.getElem_of_mem hb
   rw [List.getElem_set] at hb'
   rw [List.length_set] at hj
   by_cases e : i = j
   · rw [if_pos e] at hb'
     rw [← hb']
     exact p.whole
   · rw [if_neg e] at hb'
     rw [← hb']
     refine p.keeps.whole (h.at_ _ (List.getElem_mem hj)) fun c => e ?_
     obtain ⟨hlt, hge⟩ := List.getElem?_eq_some_iff.1 hi
     have h1 : (bs.map (·.1))[i]'(by simpa using hlt) = (bs.map (·.1))[j]'(by simpa using hj) := by simp [hge, c]
     have hp := List.pairwise_iff_getElem.1 h.nod
     rcases Nat.lt_trichotomy i j with q | q | q
     · exact absurd h1 (hp i j _ _ q)
     · exact q
     · exact absurd h1.symm (hp j i _ _ q)
 · obtain ⟨c, hc, e⟩ := hin b hb
   rw [← e]; exact h.lo c hc
 · exact h.apart r hr _ hmem (by rw [hk, e])
 · obtain ⟨c, hc, e⟩ := hin b hb
   rw [← e]; exact h.apart r hr c hc
 · exact (h.deep u hu).keeps p.keeps fun k _ hn => ⟨fun e => hn.2.1 _ hmem e.symm, free_set hi hn⟩
theorem Env.push {v' : Value} {e : TypeId} {sz n : Nat} {xs news : List Value} {v : Value} (h : Env w bs [⟨v, e, sz, n, xs⟩] ts x) (ho : y.ownsRow w.heap.size e sz v' (n + 1) (xs ++ news)) (hg : x.grownBy y v.ownBlock)
   (hat : v'.ownBlock = v.ownBlock ∨ v'.ownBlock = some x.heap.size) : Env w bs [⟨v', e, sz, n + 1, xs ++ news⟩] ts y := by
 have hk : Zo (fun k => v.ownBlock = some k) x y := Zo.grown (Zo.refl _ _) hg fun k hk => hk
 have hr := h.row _ (List.mem_singleton.2 rfl)
 have ha := h.apart _ (List.mem_singleton.2 rfl)
 refine ⟨fun b hb => hk.whole (h.at_ b hb) (ha b hb), h.lo, h.nod, fun r hr => ?_, fun r hr b hb => ?_, List.pairwise_singleton _ _, fun u hu => ?_, h.below.trans (hk.below h.below.size fun k e => (hr.lt k e).1)⟩
 · cases List.mem_singleton.1 hr; exact ho
 · cases List.mem_singleton.1 hr
   rcases hat with e | e
   · show v'.ownBlock ≠ _
     rw [e]; exact ha b hb
   · show v'.ownBlock ≠ _
     rw [e]
     intro c
     have := (h.at_ b hb).inside
     injection c with c
     omega
 · refine (h.deep u hu).keeps hk fun k hk' hn => ⟨hn.2.2 _ (List.mem_singleton.2 rfl), hn.1, hn.2.1, fun r hr => ?_⟩
   cases List.mem_singleton.1 hr
   rcases hat with e | e
   · show v'.ownBlock ≠ _
     rw [e]; exact hn.2.2 _ (List.mem_singleton.2 rfl)
   · show v'.ownBlock ≠ _
     rw [e]
     intro c
     injection c with c
     omega
theorem Env.row1 (h : Env w bs [] ts x) (e : TypeId) (sz : Nat) : Env w bs [⟨.slice none 0 0, e, sz, 0, []⟩] ts x :=
 ⟨h.at_, h.lo, h.nod, (fun r hr => by cases List.mem_singleton.1 hr; exact ⟨by simp, .inl ⟨rfl, rfl⟩⟩), (fun r hr b hb => by cases List.mem_singleton.1 hr; simp [Value.ownBlock]), List.pairwise_singleton _ _,
   fun u hu => (h.deep u hu).mono fun k _ hn => ⟨hn.1, hn.2.1, (fun r hr => by cases List.mem_singleton.1 hr; simp [Value.ownBlock])⟩, h.below⟩
variable {P : Program} {ops : Array Oper} {rest : List Oper} {o : Oper} {a : Act} {Q : Exit → Act → World → Prop}
theorem Zg (h : Env w bs rs ts x) (t : TypeId) (v : Operand) (vs : List Value) (hg : o.guard = none) (ho : o.op = .box t v) (hv : a.eval v = .agg vs.toArray)
   (hn : ∀ y g, Env w (bs ++ [(g, t, vs)]) rs ts y → wpList P ops Q rest (a.put o.dst (.pointer (some ⟨g, 0, none⟩))) y) : wpList P ops Q (o :: rest) a x :=
 wpList_boxTo hg t v ho o.dst rfl x.heap.size rfl vs.toArray (by rw [hv]; rfl) (hn _ _ (h.box t vs))
theorem Zi (h : Env w bs rs ts x) (t : TypeId) (vs : List Value) (hg : o.guard = none) (ho : o.op = .alloc t) (hz : (P.info? t).map (fun i => i.zero.map Value.cells) = some (some vs.toArray))
   (hn : ∀ y g, Env w (bs ++ [(g, t, vs)]) rs ts y → wpList P ops Q rest (a.put o.dst (.pointer (some ⟨g, 0, none⟩))) y) : wpList P ops Q (o :: rest) a x := by
 obtain ⟨i, hi, hzz⟩ := Option.map_eq_some_iff.1 hz
 obtain ⟨z, hz1, hz2⟩ := Option.map_eq_some_iff.1 hzz
 refine wpList_runTo hg o.dst rfl (.pointer (some ⟨x.heap.size, 0, none⟩)) (x.alloc (.cells vs.toArray t)) ?_ (hn _ _ (h.box t vs))
 unfold execOp
 rw [ho]
 simp [Instr.alloc, zeroValue, typeInfo, hi, hz1, newVar, newRow, hz2, Sem.run_bind, Sem.run_pure, run_newObj_alloc]
end
theorem Env.less {w x : World} {bs cs : List Bk} {rs : List Rw} {ts us : List (Ds × List Value)} (h : Env w (bs ++ cs) rs (ts ++ us) x) : Env w bs rs ts x :=
 ⟨fun b hb => h.at_ b (List.mem_append_left _ hb), fun b hb => h.lo b (List.mem_append_left _ hb), by have := h.nod; rw [List.map_append, List.nodup_append] at this; exact this.1, h.row, fun r hr b hb => h.apart r hr b (List.mem_append_left _ hb), h.rapart,
   fun u hu => (h.deep u (List.mem_append_left _ hu)).mono fun k _ hn => ⟨hn.1, fun b hb => hn.2.1 b (List.mem_append_left _ hb), hn.2.2⟩, h.below⟩
theorem Env.cell {w x : World} {bs : List Bk} {rs : List Rw} {ts : List (Ds × List Value)} (h : Env w bs rs ts x) (i n : Nat) {g : Nat} {t : TypeId} {vs : List Value} {v : Value} (hi : bs[i]? = some (g, t, vs)) (hv : vs[n]? = some v) : x.cell? ⟨g, n, none⟩ = some v := by
 rw [(h.get i hi).read n, List.getElem?_toArray, hv]
theorem Env.perm {w x : World} {bs cs : List Bk} {rs : List Rw} {ts : List (Ds × List Value)} (h : Env w bs rs ts x) (p : bs.Perm cs) : Env w cs rs ts x :=
 ⟨fun b hb => h.at_ b (p.mem_iff.2 hb), fun b hb => h.lo b (p.mem_iff.2 hb), (p.map _).nodup_iff.1 h.nod, h.row, fun r hr b hb => h.apart r hr b (p.mem_iff.2 hb), h.rapart,
   fun t ht => (h.deep t ht).mono fun k _ hn => ⟨hn.1, fun b hb => hn.2.1 b (p.mem_iff.2 hb), hn.2.2⟩, h.below⟩
end Go.Proofs.YtljdgdphldckhaaGreat
