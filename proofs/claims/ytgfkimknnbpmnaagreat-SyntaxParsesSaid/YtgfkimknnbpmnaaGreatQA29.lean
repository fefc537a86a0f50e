/-
  Texts SynR3, SynS0, SynS1, SynR4, SynR5, SynR6, SynR8. No conditions but those that each theorem names.
-/
import Derived.Great.Ranges
import Derived.Great.Walk
import Derived.Deep.QuietTactic
import Derived.BigQuiet
import Derived.RegionTactic
import Derived.IntWalk
import Derived.Test.YtgfkimknnbpmnaaGreatQA28
namespace Go.Proofs.YtgfkimknnbpmnaaGreat
open Go Go.RowKit Go.Great
set_option linter.unusedSimpArgs false
set_option linter.unusedVariables false
abbrev Bk := Nat × TypeId × List Value
structure Rw where
 v : Value
 e : TypeId
 sz : Nat
 n : Nat
 xs : List Value
def Free (w : World) (bs : List Bk) (rs : List Rw) (k : Nat) : Prop := w.heap.size ≤ k ∧ (∀ b ∈ bs, b.1 ≠ k) ∧ ∀ r ∈ rs, r.v.ownBlock ≠ some k
structure Env (w : World) (bs : List Bk) (rs : List Rw) (ts : List (Ds × List Value)) (x : World) : Prop where
 at_ : ∀ b ∈ bs, Zg x b.1 b.2.1 b.2.2.toArray
 lo : ∀ b ∈ bs, w.heap.size ≤ b.1
 nod : (bs.map (·.1)).Nodup
 row : ∀ r ∈ rs, x.ownsRow w.heap.size r.e r.sz r.v r.n r.xs
 apart : ∀ r ∈ rs, ∀ b ∈ bs, r.v.ownBlock ≠ some b.1
 rapart : rs.Pairwise fun a b => ∀ k, a.v.ownBlock = some k → b.v.ownBlock ≠ some k
 deep : ∀ t ∈ ts, Zo (Free w bs rs) x t.1 t.2
 below : Below w.heap.size w x
section
variable {w x y : World} {bs : List Bk} {rs : List Rw} {ts : List (Ds × List Value)}
theorem Env.start (w : World) : Env w [] [] [] w :=
 ⟨(fun _ h => nomatch h), (fun _ h => nomatch h), List.nodup_nil, (fun _ h => nomatch h), (fun _ h => nomatch h), List.Pairwise.nil, (fun _ h => nomatch h), Below.refl _ _⟩
theorem Env.box (h : Env w bs rs ts x) (t : TypeId) (vs : List Value) : Env w (bs ++ [(x.heap.size, t, vs)]) rs ts (x.alloc (.cells vs.toArray t)) := by
 have hk : Zz (fun _ => False) x (x.alloc (.cells vs.toArray t)) := Zz.of_below (Zh x _)
 refine ⟨fun b hb => ?_, fun b hb => ?_, ?_, fun r hr => hk.owns (h.row r hr) (fun _ _ => id), fun r hr b hb => ?_, h.rapart, fun u hu => ?_, h.below.alloc h.below.size _⟩
 · rcases List.mem_append.1 hb with hb | hb
   · exact (h.at_ b hb).alloc _
   · cases List.mem_singleton.1 hb; exact Zg.made x t vs.toArray
 · rcases List.mem_append.1 hb with hb | hb
   · exact h.lo b hb
   · cases List.mem_singleton.1 hb; exact h.below.size
 · rw [List.map_append, List.nodup_append]
   refine ⟨h.nod, by simp, fun a ha b hb => ?_⟩
   obtain ⟨c, hc, rfl⟩ := List.mem_map.1 ha
   simp at hb
   subst hb
   have := (h.at_ c hc).inside
   omega
 · rcases List.mem_append.1 hb with hb | hb
   · exact h.apart r hr b hb
   · cases List.mem_singleton.1 hb
     intro c
     have := ((h.row r hr).lt _ c).2
     exact Nat.lt_irrefl _ this
 · refine (h.deep u hu).keeps hk fun k hk hn => ⟨id, hn.1, fun b hb => ?_, hn.2.2⟩
   rcases List.mem_append.1 hb with hb | hb
   · exact hn.2.1 b hb
   · cases List.mem_singleton.1 hb
     show x.heap.size ≠ k
     omega
theorem Env.call (h : Env w bs rs ts x) (b : Below x.heap.size x y) : Env w bs rs ts y :=
 ⟨fun c hc => (h.at_ c hc).below b (h.at_ c hc).inside, h.lo, h.nod, fun r hr => (Zz.of_below (S := fun _ => False) b).owns (h.row r hr) (fun _ _ => id), h.apart, h.rapart, fun t ht => (h.deep t ht).below b, h.below.trans (b.mono h.below.size)⟩
theorem Env.tree (h : Env w bs rs ts x) (b : Below x.heap.size x y) {ds : Ds} {vs : List Value} (d : Zo (fun k => x.heap.size ≤ k) y ds vs) : Env w bs rs (ts ++ [(ds, vs)]) y := by
 have h' := h.call b
 refine ⟨h'.at_, h'.lo, h'.nod, h'.row, h'.apart, h'.rapart, fun u hu => ?_, h'.below⟩
 rcases List.mem_append.1 hu with hu | hu
 · exact h'.deep u hu
 · cases List.mem_singleton.1 hu
   refine d.mono fun k hk hn => ⟨?_, fun c hc => ?_, fun r hr c => ?_⟩
   · have := h.below.size; omega
   · have := (h.at_ c hc).inside; omega
   · have := ((h.row r hr).lt _ c).2; omega
theorem Env.drew (h : Env w bs rs ts x) : Env w bs rs ts x.drew := h.call ⟨rfl, rfl, rfl, Nat.le_refl _, fun _ _ => rfl⟩
theorem Env.drewN (h : Env w bs rs ts x) (n : Nat) : Env w bs rs ts (x.drewN n) := h.call ⟨rfl, rfl, rfl, Nat.le_refl _, fun _ _ => rfl⟩
theorem Env.get (h : Env w bs rs ts x) (i : Nat) {g : Nat} {t : TypeId} {vs : List Value} (hi : bs[i]? = some (g, t, vs)) : Zg x g t vs.toArray :=
 h.at_ (g, t, vs) (List.mem_of_getElem? hi)
theorem Env.leaf (h : Env w bs rs ts x) (i : Nat) {ds : Ds} {vs : List Value} (hi : ts[i]? = some (ds, vs)) : Zo (fun k => w.heap.size ≤ k) x ds vs :=
 (h.deep (ds, vs) (List.mem_of_getElem? hi)).mono fun k _ hn => hn.1
theorem map_set_same {bs : List Bk} {i g : Nat} {t : TypeId} {old ys : List Value} (hi : bs[i]? = some (g, t, old)) : (bs.set i (g, t, ys)).map (·.1) = bs.map (·.1) := by
 apply List.ext_getElem?
 intro j
 rw [List.getElem?_map, List.getElem?_map, List.getElem?_set]
 by_cases hj : i = j
 · subst hj
   have hlt := (List.getElem?_eq_some_iff.1 hi).1
   rw [if_pos rfl, if_pos hlt, hi]
   rfl
 · rw [if_neg hj]
theorem free_set {bs : List Bk} {rs : List Rw} {i g : Nat} {t : TypeId} {old ys : List Value} (hi : bs[i]? = some (g, t, old)) {k : Nat} (h : Free w bs rs k) : Free w (bs.set i (g, t, ys)) rs k := by
 refine ⟨h.1, fun b hb => ?_, h.2.2⟩
 have : b.1 ∈ (bs.set i (g, t, ys)).map (·.1) := List.mem_map_of_mem hb
 rw [map_set_same hi] at this
 obtain ⟨c, hc, e⟩ := List.mem_map.1 this
 rw [← e]
 exact h.2.1 c hc
theorem Env.put (h : Env w bs rs ts x) (i : Nat) {g : Nat} {t : TypeId} {old ys : List Value} (hi : bs[i]? = some (g, t, old)) (p : Put x y g t ys) : Env w (bs.set i (g, t, ys)) rs ts y := by
 have hm := map_set_same (ys := ys) hi
 have hmem := List.mem_of_getElem? hi
 have hin : ∀ b ∈ bs.set i (g, t, ys), ∃ c ∈ bs, c.1 = b.1 := fun b hb => by
   have : b.1 ∈ (bs.set i (g, t, ys)).map (·.1) := List.mem_map_of_mem hb
   rw [hm] at this
   exact List.mem_map.1 this
 refine ⟨fun b hb => ?_, fun b hb => ?_, by rw [hm]; exact h.nod, fun r hr => p.keeps.owns (h.row r hr) (fun k hk e => ?_), fun r hr b hb => ?_, h.rapart, fun u hu => ?_, h.below.trans (p.keeps.below h.below.size fun k e => by rw [e]; exact h.lo _ hmem)⟩
 · obtain ⟨j, hj, hb'⟩ := List.getElem_of_mem hb
   rw [List.getElem_set] at hb'
   rw [List.length_set] at hj
   by_cases e : i = j
   · rw [if_pos e] at hb'
     rw [← hb']
     exact p.whole
   · rw [if_neg e] at hb'
     rw [← hb']
     refine p.keeps.whole (h.at_ _ (List.getElem_mem hj)) fun c => e ?_
     obtain ⟨hlt, hge⟩ := List.getElem?_eq_some_iff.1 hi
     have h1 : (bs.map (·.1))[i]'(by simpa using hlt) = (bs.map (·.1))[j]'(by simpa using hj) := by simp [hge, c]
     have hp := List.pairwise_iff_getElem.1 h.nod
     rcases Nat.lt_trichotomy i j with q | q | q
     · exact absurd h1 (hp i j _ _ q)
     · exact q
     · exact absurd h1.symm (hp j i _ _ q)
 · obtain ⟨c, hc, e⟩ := hin b hb
   rw [← e]; exact h.lo c hc
 · exact h.apart r hr _ hmem (by rw [hk, e])
 · obtain ⟨c, hc, e⟩ := hin b hb
   rw [← e]; exact h.apart r hr c hc
 · exact (h.deep u hu).keeps p.keeps fun k _ hn => ⟨fun e => hn.2.1 _ hmem e.symm, free_set hi hn⟩
theorem Env.ret2 (h : Env w bs rs ts x) (i j : Nat) {g3 g4 : Nat} {t3 t4 : TypeId} {o3 o4 vs us : List Value} (hi : bs[i]? = some (g3, t3, o3)) (hj : bs[j]? = some (g4, t4, o4)) (p : Ret2 x y g3 g4 t3 t4 vs us) :
   (∀ u ∈ ts, Zo (fun k => w.heap.size ≤ k) y u.1 u.2) ∧ Below w.heap.size w y :=
 ⟨fun u hu => (h.deep u hu).keeps p.keeps fun k _ hn => ⟨fun e => by
     rcases e with e | e
     · exact hn.2.1 _ (List.mem_of_getElem? hi) e.symm
     · exact hn.2.1 _ (List.mem_of_getElem? hj) e.symm, hn.1⟩,
   h.below.trans (p.keeps.below h.below.size fun k e => by
     rcases e with e | e
     · rw [e]; exact h.lo _ (List.mem_of_getElem? hi)
     · rw [e]; exact h.lo _ (List.mem_of_getElem? hj))⟩
theorem Env.push {v' : Value} {e : TypeId} {sz n : Nat} {xs news : List Value} {v : Value} (h : Env w bs [⟨v, e, sz, n, xs⟩] ts x) (ho : y.ownsRow w.heap.size e sz v' (n + 1) (xs ++ news)) (hg : x.grownBy y v.ownBlock)
   (hat : v'.ownBlock = v.ownBlock ∨ v'.ownBlock = some x.heap.size) : Env w bs [⟨v', e, sz, n + 1, xs ++ news⟩] ts y := by
 have hk : Zz (fun k => v.ownBlock = some k) x y := Zz.grown (Zz.refl _ _) hg fun k hk => hk
 have hr := h.row _ (List.mem_singleton.2 rfl)
 have ha := h.apart _ (List.mem_singleton.2 rfl)
 refine ⟨fun b hb => hk.whole (h.at_ b hb) (ha b hb), h.lo, h.nod, fun r hr => ?_, fun r hr b hb => ?_, List.pairwise_singleton _ _, fun u hu => ?_, h.below.trans (hk.below h.below.size fun k e => (hr.lt k e).1)⟩
 · cases List.mem_singleton.1 hr; exact ho
 · cases List.mem_singleton.1 hr
   rcases hat with e | e
   · show v'.ownBlock ≠ _
     rw [e]; exact ha b hb
   · show v'.ownBlock ≠ _
     rw [e]
     intro c
     have := (h.at_ b hb).inside
     injection c with c
     omega
 · refine (h.deep u hu).keeps hk fun k hk' hn => ⟨hn.2.2 _ (List.mem_singleton.2 rfl), hn.1, hn.2.1, fun r hr => ?_⟩
   cases List.mem_singleton.1 hr
   rcases hat with e | e
   · show v'.ownBlock ≠ _
     rw [e]; exact hn.2.2 _ (List.mem_singleton.2 rfl)
   · show v'.ownBlock ≠ _
     rw [e]
     intro c
     injection c with c
     omega
theorem Env.row1 (h : Env w bs [] ts x) (e : TypeId) (sz : Nat) : Env w bs [⟨.slice none 0 0, e, sz, 0, []⟩] ts x :=
 ⟨h.at_, h.lo, h.nod, (fun r hr => by cases List.mem_singleton.1 hr; exact ⟨by simp, .inl ⟨rfl, rfl⟩⟩), (fun r hr b hb => by cases List.mem_singleton.1 hr; simp [Value.ownBlock]), List.pairwise_singleton _ _,
   fun u hu => (h.deep u hu).mono fun k _ hn => ⟨hn.1, hn.2.1, (fun r hr => by cases List.mem_singleton.1 hr; simp [Value.ownBlock])⟩, h.below⟩
variable {P : Program} {ops : Array Oper} {rest : List Oper} {o : Oper} {a : Act} {Q : Exit → Act → World → Prop}
theorem Zs (h : Env w bs rs ts x) (t : TypeId) (v : Operand) (vs : List Value) (hg : o.guard = none) (ho : o.op = .box t v) (hv : a.eval v = .agg vs.toArray)
   (hn : ∀ y g, Env w (bs ++ [(g, t, vs)]) rs ts y → wpList P ops Q rest (a.put o.dst (.pointer (some ⟨g, 0, none⟩))) y) : wpList P ops Q (o :: rest) a x :=
 wpList_boxTo hg t v ho o.dst rfl x.heap.size rfl vs.toArray (by rw [hv]; rfl) (hn _ _ (h.box t vs))
theorem Zc (h : Env w bs rs ts x) (t : TypeId) (vs : List Value) (hg : o.guard = none) (ho : o.op = .alloc t) (hz : (P.info? t).map (fun i => i.zero.map Value.cells) = some (some vs.toArray))
   (hn : ∀ y g, Env w (bs ++ [(g, t, vs)]) rs ts y → wpList P ops Q rest (a.put o.dst (.pointer (some ⟨g, 0, none⟩))) y) : wpList P ops Q (o :: rest) a x := by
 obtain ⟨i, hi, hzz⟩ := Option.map_eq_some_iff.1 hz
 obtain ⟨z, hz1, hz2⟩ := Option.map_eq_some_iff.1 hzz
 refine wpList_runTo hg o.dst rfl (.pointer (some ⟨x.heap.size, 0, none⟩)) (x.alloc (.cells vs.toArray t)) ?_ (hn _ _ (h.box t vs))
 unfold execOp
 rw [ho]
 simp [Instr.alloc, zeroValue, typeInfo, hi, hz1, newVar, newRow, hz2, Sem.run_bind, Sem.run_pure, run_newObj_alloc]
end
end Go.Proofs.YtgfkimknnbpmnaaGreat
namespace Go.Proofs.YtgfkimknnbpmnaaGreat
open Go Go.RowKit
set_option linter.unusedVariables false
set_option linter.unusedSimpArgs false
theorem Env.permB {w x : World} {bs cs : List Bk} {rs : List Rw} {ts : List (Ds × List Value)} (h : Env w bs rs ts x) (hp : bs.Perm cs) : Env w cs rs ts x :=
 ⟨fun b hb => h.at_ b (hp.mem_iff.2 hb), fun b hb => h.lo b (hp.mem_iff.2 hb), (hp.map _).nodup_iff.1 h.nod, h.row, fun r hr b hb => h.apart r hr b (hp.mem_iff.2 hb), h.rapart,
   fun u hu => (h.deep u hu).mono fun k _ hn => ⟨hn.1, fun b hb => hn.2.1 b (hp.mem_iff.2 hb), hn.2.2⟩, h.below⟩
theorem Env.more {w x y : World} {bs cs : List Bk} (h : Env w bs [] [] x) (k : Env x cs [] [] y) : Env w (bs ++ cs) [] [] y := by
 have h' := h.call k.below
 refine ⟨fun b hb => ?_, fun b hb => ?_, ?_, (fun r hr => by cases hr), (fun r hr => by cases hr), List.Pairwise.nil, (fun u hu => by cases hu), h'.below⟩
 · rcases List.mem_append.1 hb with hb | hb
   · exact h'.at_ b hb
   · exact k.at_ b hb
 · rcases List.mem_append.1 hb with hb | hb
   · exact h'.lo b hb
   · exact Nat.le_trans h.below.size (k.lo b hb)
 · rw [List.map_append, List.nodup_append]
   refine ⟨h'.nod, k.nod, fun a ha b hb e => ?_⟩
   obtain ⟨u, hu, rfl⟩ := List.mem_map.1 ha
   obtain ⟨v, hv, rfl⟩ := List.mem_map.1 hb
   have h1 := (h.at_ u hu).inside
   have h2 := k.lo v hv
   omega
theorem put_all {w : World} {g : Nat} {t : TypeId} {old ys : List Value} (hW : Zg w g t old.toArray) (hl : ys.length = old.length) : Put w (w.setCells g 0 ys) g t ys :=
 ⟨by have e := Zg.setCells (g := g) (t := t) [] ys old [] w hl (by simpa using hW); simpa using e, Zz.setCells (S := fun k => k = g) rfl ys 0 (Zz.refl _ w)⟩
section
variable {P : Program} {ops : Array Oper} {Q : Exit → Act → World → Prop}
theorem wp_allocZ {o : Oper} {a : Act} {x : World} {K : Act → World → Prop} {t : TypeId} {z : List Value} (ho : o.op = .alloc t) (hz : (P.info? t).map (fun i => i.zero.map Value.cells) = some (some z.toArray))
   (hk : K (a.put o.dst (.pointer (some ⟨x.heap.size, 0, none⟩))) (x.alloc (.cells z.toArray t))) : Oper.wp P o a x K Q := by
 obtain ⟨i, hi, hzz⟩ := Option.map_eq_some_iff.1 hz
 obtain ⟨v, hz1, hz2⟩ := Option.map_eq_some_iff.1 hzz
 have hrun : (execOp a.eval o).run P x = .ok (.value (.pointer (some ⟨x.heap.size, 0, none⟩))) (x.alloc (.cells z.toArray t)) := by
   unfold execOp
   rw [ho]
   simp [Instr.alloc, zeroValue, typeInfo, hi, hz1, newVar, newRow, hz2, Sem.run_bind, Sem.run_pure, run_newObj_alloc]
 unfold Oper.wp
 simp only [hrun, Oper.upon]
 exact hk
theorem tail4 {x x' : World} {l : Array Bool} {iA iB iC iD : Nat} {oA oB oC oD : Oper} {a0 : Act} {T : TypeId} {z xs ys : List Value} {a1 a2 v1 v2 : Nat}
   (r0 : Region.ready .any ops l = [iA, iB]) (rA : Region.ready .any ops (l.setIfInBounds iA true) = [iB]) (rB : Region.ready .any ops (l.setIfInBounds iB true) = [iA])
   (rAB : Region.ready .any ops ((l.setIfInBounds iA true).setIfInBounds iB true) = [iC]) (rBA : Region.ready .any ops ((l.setIfInBounds iB true).setIfInBounds iA true) = [iC])
   (rABC : Region.ready .any ops (((l.setIfInBounds iA true).setIfInBounds iB true).setIfInBounds iC true) = [iD]) (rBAC : Region.ready .any ops (((l.setIfInBounds iB true).setIfInBounds iA true).setIfInBounds iC true) = [iD])
   (f1 : Region.ready .any ops ((((l.setIfInBounds iA true).setIfInBounds iB true).setIfInBounds iC true).setIfInBounds iD true) = []) (f3 : Region.ready .any ops ((((l.setIfInBounds iB true).setIfInBounds iA true).setIfInBounds iC true).setIfInBounds iD true) = [])
   (hA : ops[iA]? = some oA) (hB : ops[iB]? = some oB) (hC : ops[iC]? = some oC) (hD : ops[iD]? = some oD)
   (gA : oA.guard = none) (gB : oB.guard = none) (gC : oC.guard = none) (gD : oD.guard = none)
   (pA : oA.op = .alloc T) (pB : oB.op = .alloc T) (pC : oC.op = .store T (.tmp a1) (.tmp v1)) (pD : oD.op = .store T (.tmp a2) (.tmp v2))
   (dA : oA.dst = some a1) (dB : oB.dst = some a2) (dC : oC.dst = none) (dD : oD.dst = none) (hne : a1 ≠ a2)
   (hz : (P.info? T).map (fun i => i.zero.map Value.cells) = some (some z.toArray)) (hs : (P.info? T).map (·.size) = some z.length)
   (lx : xs.length = z.length) (ly : ys.length = z.length) (ox : ∀ v ∈ xs, v.oneCell' = true) (oy : ∀ v ∈ ys, v.oneCell' = true)
   (eAB : ∀ p q, ((a0.put (some a1) p).put (some a2) q).eval (.tmp a1) = p ∧ ((a0.put (some a1) p).put (some a2) q).eval (.tmp v1) = .agg xs.toArray ∧ ((a0.put (some a1) p).put (some a2) q).eval (.tmp a2) = q ∧ ((a0.put (some a1) p).put (some a2) q).eval (.tmp v2) = .agg ys.toArray)
   (hE : Env x [] [] [] x')
   (h : ∀ y p q, Env x [(p, T, xs), (q, T, ys)] [] [] y → Q .normal ((a0.put (some a1) (.pointer (some ⟨p, 0, none⟩))).put (some a2) (.pointer (some ⟨q, 0, none⟩))) y) :
   wpAnyH P .any ops Q (fun y => Below x.heap.size x y) 4 l a0 x' := by
 have hcm : ∀ p q, (a0.put (some a2) q).put (some a1) p = (a0.put (some a1) p).put (some a2) q := fun p q => Act.put_comm a0 _ _ (by intro d hd; injection hd with hd; subst hd; intro c; injection c with c; exact hne c)
 have st : ∀ {y : World} {bs : List Bk} (o : Oper) (a : Act) (av vv : Nat) (g : Nat) (old new : List Value) (K : Act → World → Prop) (i : Nat), Env x bs [] [] y → o.op = .store T (.tmp av) (.tmp vv) → o.dst = none → bs[i]? = some (g, T, old) → old.length = z.length → new.length = z.length → (∀ v ∈ new, v.oneCell' = true) →
     a.eval (.tmp av) = .pointer (some ⟨g, 0, none⟩) → a.eval (.tmp vv) = .agg new.toArray → (∀ y', Env x (bs.set i (g, T, new)) [] [] y' → K a y') → Oper.wp P o a y K Q := fun {y bs} o a av vv g old new K i hy ho hd hi lo ln on e1 e2 hk => by
   have hW := hy.get i hi
   refine wp_store_mid T _ _ ho g 0 new.toArray e1 e2 ?_ (by rw [hs, List.size_toArray, ln]) (all_oneCell_toArray on) ?_
   · have := Zg.there (a := []) (b := old) (c := []) (by simpa using hW)
     rw [List.size_toArray, ln, ← lo]; exact this
   · rw [hd]
     exact hk _ (hy.put i hi (put_all hW (by rw [ln, lo])))
 refine wpAnyH_ready r0 (by simp) (AllReadyH.cons hA (fun K hK => ?_) (AllReadyH.cons hB (fun K hK => ?_) AllReadyH.nil))
 · rw [if_pos (Yv gA)]
   refine wp_allocZ pA hz ?_
   rw [dA]
   have E1 := hE.box T z
   refine hK.out _ _ E1.below fun _ => ?_
   generalize x'.heap.size = p at *
   generalize x'.alloc (.cells z.toArray T) = y1 at *
   refine wpAnyH_ready rA (by simp) (AllReadyH.cons hB (fun K hK => ?_) AllReadyH.nil)
   rw [if_pos (Yv gB)]
   refine wp_allocZ pB hz ?_
   rw [dB]
   have E2 := E1.box T z
   refine hK.out _ _ E2.below fun _ => ?_
   generalize y1.heap.size = q at *
   generalize y1.alloc (.cells z.toArray T) = y2 at *
   obtain ⟨e1, e2, e3, e4⟩ := eAB (.pointer (some ⟨p, 0, none⟩)) (.pointer (some ⟨q, 0, none⟩))
   refine wpAnyH_ready rAB (by simp) (AllReadyH.cons hC (fun K hK => ?_) AllReadyH.nil)
   rw [if_pos (Yv gC)]
   refine st oC _ a1 v1 p z xs K 0 E2 pC dC rfl rfl lx ox e1 e2 fun y3 E3 => hK.out _ _ E3.below fun _ => ?_
   refine wpAnyH_ready rABC (by simp) (AllReadyH.cons hD (fun K hK => ?_) AllReadyH.nil)
   rw [if_pos (Yv gD)]
   exact st oD _ a2 v2 q z ys K 1 E3 pD dD rfl rfl ly oy e3 e4 fun y4 E4 => hK.out _ _ E4.below fun _ => wpAnyH_done f1 (h y4 p q E4) _
 · rw [if_pos (Yv gB)]
   refine wp_allocZ pB hz ?_
   rw [dB]
   have E1 := hE.box T z
   refine hK.out _ _ E1.below fun _ => ?_
   generalize x'.heap.size = q at *
   generalize x'.alloc (.cells z.toArray T) = y1 at *
   refine wpAnyH_ready rB (by simp) (AllReadyH.cons hA (fun K hK => ?_) AllReadyH.nil)
   rw [if_pos (Yv gA)]
   refine wp_allocZ pA hz ?_
   rw [dA]
   have E2 := E1.box T z
   refine hK.out _ _ E2.below fun _ => ?_
   generalize y1.heap.size = p at *
   generalize y1.alloc (.cells z.toArray T) = y2 at *
   rw [hcm]
   obtain ⟨e1, e2, e3, e4⟩ := eAB (.pointer (some ⟨p, 0, none⟩)) (.pointer (some ⟨q, 0, none⟩))
   refine wpAnyH_ready rBA (by simp) (AllReadyH.cons hC (fun K hK => ?_) AllReadyH.nil)
   rw [if_pos (Yv gC)]
   refine st oC _ a1 v1 p z xs K 1 E2 pC dC rfl rfl lx ox e1 e2 fun y3 E3 => hK.out _ _ E3.below fun _ => ?_
   refine wpAnyH_ready rBAC (by simp) (AllReadyH.cons hD (fun K hK => ?_) AllReadyH.nil)
   rw [if_pos (Yv gD)]
   exact st oD _ a2 v2 q z ys K 0 E3 pD dD rfl rfl ly oy e3 e4 fun y4 E4 => hK.out _ _ E4.below fun _ => wpAnyH_done f3 (h y4 p q (E4.permB (List.Perm.swap _ _ _))) _
theorem noPanic_normal {a : Act} {w : World} (h : Q .normal a w) : NoPanic Q .normal a w := h
theorem put2_lit {l : List Value} {d : List Deferred} {i j : Nat} {u v : Value} {w : World} (h : Q .normal ⟨((l.set i u).set j v).toArray, d⟩ w) : Q .normal (((⟨l.toArray, d⟩ : Act).put (some i) u).put (some j) v) w := by
 simpa [Act.put] using h
end
end Go.Proofs.YtgfkimknnbpmnaaGreat
namespace Go.Proofs.YtgfkimknnbpmnaaGreat
open Go.ChangeShapes Go.WideShapes Go.ChangeAt Go.RowKit
set_option linter.unusedVariables false
set_option linter.unusedSimpArgs false
theorem Within.reads {N : Nat → Prop} {w : World} {A : Option Addr} {xs : List Value} (h : Within N w A xs) (hx : 0 < xs.length) : ∃ g, A = some ⟨g, 0, none⟩ ∧ g < w.heap.size ∧ ∀ j, j < xs.length → w.cell? ⟨g, j, none⟩ = xs[j]? := by
 rcases h with h | ⟨g, e, _, h2, h3⟩
 · rw [h] at hx; cases hx
 · exact ⟨g, e, h2, h3⟩
theorem Zo.inRow {N : Nat → Prop} {w : World} {n : Nat} {ds : Ds} {v : Value} (h : Zo N w (.row n ds .nil) [v]) : ∃ A c xs, v = .slice A n c ∧ n ≤ 9223372036854775807 ∧ Within N w A xs ∧ Zo N w ds xs := by
 obtain ⟨A, c, xs, t, e, hn, hw, hd, _⟩ := h
 injection e with e1 e2
 exact ⟨A, c, xs, e1, hn, hw, hd⟩
theorem Zo.inRow1 {N : Nat → Prop} {w : World} {n : Nat} {ds : Ds} {vs : List Value} (h : Zo N w (.row n ds .nil) vs) : ∃ A c xs, vs = [.slice A n c] ∧ n ≤ 9223372036854775807 ∧ Within N w A xs ∧ Zo N w ds xs := by
 obtain ⟨A, c, xs, t, e, hn, hw, hd, ht⟩ := h
 have ht : t = [] := ht
 exact ⟨A, c, xs, by rw [e, ht], hn, hw, hd⟩
def Fl.vals (f : Fl) : List Value := [.int .i64 f.kind, .int .i64 f.op, .int .i64 f.n, .string f.name]
theorem fls_at {N : Nat → Prop} {w : World} : ∀ {l : List Fl} {xs : List Value}, Zo N w (flsDs l) xs → ∀ (k : Nat) (hk : k < l.length) (j : Nat), j < 4 → xs[k * 4 + j]? = (l[k]'hk).vals[j]? := by
 intro l
 induction l with
 | nil => intro xs _ k hk; cases hk
 | cons f l ih =>
   intro xs h k hk j hj
   obtain ⟨_, rfl, _, rfl, _, rfl, xs, rfl, h⟩ := h
   cases k with
   | zero =>
     rcases (show j = 0 ∨ j = 1 ∨ j = 2 ∨ j = 3 by omega) with rfl | rfl | rfl | rfl <;> rfl
   | succ k =>
     have := ih h k (by simpa using hk) j hj
     rw [show (k + 1) * 4 + j = (k * 4 + j) + 4 by omega]
     simpa using this
theorem fls_len {N : Nat → Prop} {w : World} : ∀ {l : List Fl} {xs : List Value}, Zo N w (flsDs l) xs → xs.length = l.length * 4 := by
 intro l
 induction l with
 | nil => intro xs h; cases h; rfl
 | cons f l ih =>
   intro xs h
   obtain ⟨_, rfl, _, rfl, _, rfl, xs, rfl, h⟩ := h
   have := ih h
   simp only [List.length_cons]; omega
theorem fil_at {N : Nat → Prop} {w : World} {A : Option Addr} {l : List Fl} {xs : List Value} (hw : Within N w A xs) (hd : Zo N w (flsDs l) xs) {k : Nat} (hk : k < l.length) :
   ∃ x, A = some x ∧ x.block < w.heap.size ∧ w.cell? (x.add (k * 4)) = some (.int .i64 (l[k]'hk).kind) ∧ w.cell? ⟨(x.add (k * 4)).block, (x.add (k * 4)).off + 1, none⟩ = some (.int .i64 (l[k]'hk).op) ∧
     w.cell? ⟨(x.add (k * 4)).block, (x.add (k * 4)).off + 2, none⟩ = some (.int .i64 (l[k]'hk).n) ∧ w.cell? ⟨(x.add (k * 4)).block, (x.add (k * 4)).off + 3, none⟩ = some (.string (l[k]'hk).name) := by
 have hl := fls_len hd
 obtain ⟨g, hA, hg, hc⟩ := hw.reads (by omega)
 have key : ∀ j, j < 4 → w.cell? (((⟨g, 0, none⟩ : Addr).add (k * 4)).add j) = (l[k]'hk).vals[j]? := fun j hj => by
   rw [Addr.add_add, Addr.add_lit, Nat.zero_add, hc _ (by omega), fls_at hd k hk j hj]
 exact ⟨⟨g, 0, none⟩, hA, hg, key 0 (by omega), key 1 (by omega), key 2 (by omega), key 3 (by omega)⟩
set_option maxRecDepth 20000 in
set_option maxHeartbeats 1600000 in
theorem sSel (s : Se) (w : World) (N M : Nat → Prop) (vs us : List Value) (h1 : Zo N w s.ds vs) (h2 : Zo M w s.ds us) :
   Calls Tryz.prog 34 #[.agg vs.toArray, .agg us.toArray] w fun e w' => e = .returned (.bool true) ∧ Below w.heap.size w w' := by
 obtain ⟨k, sd, wh, ln, fs, pk⟩ := s
 obtain ⟨_, rfl, _, rfl, _, rfl, _, rfl, A, c, xs, _, rfl, hn, hA, hx, _, rfl, rfl⟩ := h1
 obtain ⟨_, rfl, _, rfl, _, rfl, _, rfl, B, d, ys, _, rfl, _, hB, hy, _, rfl, rfl⟩ := h2
 dsimp only at *
 have T0 := Hh (Env.start w)
 have HA := Hh (And.intro hA hx)
 have HB := Hh (And.intro hB hy)
 clear hA hx hB hy
 obtain ⟨n, hn0⟩ : ∃ n, n = fs.length := ⟨_, rfl⟩
 rw [← hn0] at hn ⊢
 have HN := Hh hn0
 clear hn0
 go_enter Tryz.func34, Tryz.ntmps34
 go_wp2_with (first
 | ((with_reducible refine Zf 2 ?_); refine Zs T0.out 39 _ ([.int .i64 k, .int .i64 sd, .int .i64 wh, .int .i64 ln, .slice A n c, .int .i64 pk]) rfl rfl rfl ?_; intro w1 g0 t1
    have T1 : Hid (Env w [(g0, 39, [.int .i64 k, .int .i64 sd, .int .i64 wh, .int .i64 ln, .slice A n c, .int .i64 pk])] [] [] w1) := Hh t1
    clear t1)
 | ((with_reducible refine Zf 3 ?_); refine Zs T1.out 39 _ ([.int .i64 k, .int .i64 sd, .int .i64 wh, .int .i64 ln, .slice B n d, .int .i64 pk]) rfl rfl rfl ?_; intro w2 g1 t2
    have T2 : Hid (Env w [(g0, 39, [.int .i64 k, .int .i64 sd, .int .i64 wh, .int .i64 ln, .slice A n c, .int .i64 pk]), (g1, 39, [.int .i64 k, .int .i64 sd, .int .i64 wh, .int .i64 ln, .slice B n d, .int .i64 pk])] [] [] w2) := Hh t2
    obtain ⟨a0, a1, a2, a3, a4, a5⟩ := Xy (t2.get 0 rfl)
    obtain ⟨b0, b1, b2, b3, b4, b5⟩ := Xy (t2.get 1 rfl)
    clear t2))
 go_loopw [5] (fun i wr => ∃ m q : Nat, i = .int .i64 m ∧ m ≤ n ∧ wr = w2.drewN q) (fun i _ => n - (intOf i).toNat)
 case atStart => exact ⟨0, 0, rfl, by omega, rfl⟩
 case round =>
   obtain ⟨m, q, rfl, hm, rfl⟩ := hrel
   by_cases hml : m < n
   · have hk1 : m < fs.length := by rw [← HN.out]; exact hml
     obtain ⟨x, rfl, hx1, p0, p1, p2, p3⟩ := fil_at (w := w2) (HA.out.1.keeps (Zz.of_below (S := fun _ => False) T2.out.below) (fun k _ hn => ⟨id, hn⟩)) (HA.out.2.below T2.out.below) hk1
     obtain ⟨y, rfl, hy1, r0, r1, r2, r3⟩ := fil_at (w := w2) (HB.out.1.keeps (Zz.of_below (S := fun _ => False) T2.out.below) (fun k _ hn => ⟨id, hn⟩)) (HB.out.2.below T2.out.below) hk1
     generalize fs[m] = t at *
     have lk : (m : Int) < (n : Int) := by omega
     have lk0 : (0 : Int) ≤ (m : Int) := by omega
     have hkn : ((m : Int)).toNat = m := by omega
     clear hk1
     go_wp2_with fail
     go_quiet (fail)
     go_wp2
     go_roundw
     case rel => exact ⟨m + 1, _, by go_num, by omega, rfl⟩
     case measure => simp [intOf]; omega
   · go_wp2
     go_ret
     exact ⟨rfl, below_drewN T2.out.below q⟩
theorem z_P : (Tryz.prog.info? 62).map (fun i => i.zero.map Value.cells) = some (some ([.slice none 0 0, .int .i64 0, .int .i64 0, .int .i64 0, .int .i64 0, .int .i64 0] : List Value).toArray) := by kernel_rfl
theorem z_C : (Tryz.prog.info? 60).map (fun i => i.zero.map Value.cells) = some (some ([.slice none 0 0, .int .i64 0, .int .i64 0] : List Value).toArray) := by kernel_rfl
theorem z_F : (Tryz.prog.info? 29).map (fun i => i.zero.map Value.cells) = some (some ([.int .i64 0, .int .i64 0, .int .i64 0] : List Value).toArray) := by kernel_rfl
theorem z_T : (Tryz.prog.info? 41).map (fun i => i.zero.map Value.cells) = some (some ([.int .i64 0, .int .i64 0] : List Value).toArray) := by kernel_rfl
theorem qmayB (w : World) (r K G : Nat) (L : List TokV) (st : St) (vs : List Value) (ws : List ByteArray) (n m : Nat) (cs : Array Value) (hcs : cs = (ws.map Value.string).toArray) (hG : G = w.heap.size) (ho : Zy w r K L) (hp : RPv r K L st vs) (hn : n = ws.length) (hl : n ≤ 64) :
   Calls Tryz.prog 20 #[.agg vs.toArray, .slice (some ⟨G, 0, none⟩) n m] (w.alloc (.cells cs 9)) (PVo w r K L (Yo L ws st) (.int .i64 (Zk L ws st))) := by
 subst hcs hG
 have nb := Zh w (.cells (ws.map Value.string).toArray 9)
 refine (qmay _ r K L st vs ws w.heap.size n m (ho.below nb) hp (Zg.made w _ _) hn hl).mono ?_
 rintro e w' ⟨v, h1, h2, h3⟩
 exact ⟨v, h1, h2, Vr nb h3⟩
set_option maxRecDepth 20000 in
set_option maxHeartbeats 3200000 in
theorem qmust (w : World) (r K : Nat) (L : List TokV) (st : St) (vs : List Value) (ws : List ByteArray) (g n m : Nat) (ho : Zy w r K L) (hp : RPv r K L st vs) (hw : Words w g ws) (hn : n = ws.length) (hl : n ≤ 64) :
   Calls Tryz.prog 47 #[.agg vs.toArray, .slice (some ⟨g, 0, none⟩) n m] w (PVo w r K L (Zm L ws st) (.int .i64 (Zk L ws st))) := by
 have T0 := Hh (Env.start w)
 by_cases hz : Zk L ws st = 0
 · have e1 : Zm L ws st = wrongS L (Yo L ws st) := by unfold Zm; rw [if_pos hz, Vi L hz]
   have e2 : ((Zk L ws st : Int) == 0) = true := by rw [hz]; rfl
   have e3 : Value.int .i64 (Zk L ws st : Int) = .int .i64 0 := by rw [hz]; rfl
   have E1 := Hh e1
   have E3 := Hh e3
   have HZ := Hh (And.intro hw hn)
   clear e1 e3 hz hn
   go_enter Tryz.func47, Tryz.ntmps47
   go_wp2_with (first
 | ((with_reducible refine Zf 2 ?_); refine Zs T0.out 62 _ (vs) rfl rfl rfl ?_; intro w1 g0 t1
    have T1 := Hh (t1)
    clear t1)
 | ((with_reducible refine Zf 4 ?_); refine Zc T1.out 62 _ rfl rfl z_P ?_; intro w2 g1 t2
    have T2 := Hh (t2)
    clear t2)
 | ((with_reducible refine Zf 9 ?_); refine Zb 62 _ 62 g0 _ (T2.out.get 0 rfl) Zp (Ze hp.len) rfl rfl rfl ?_)
 | (go_at_call 20; refine (qmay _ r K L st vs ws g n m (ho.below T2.out.below) hp (Zg.below HZ.out.1 T2.out.below HZ.out.1.inside) HZ.out.2 hl).mono ?_; rintro e w3 ⟨v3, rfl, h3, b3⟩
    have T3 := Hh (T2.out.call b3)
    clear b3)
 | ((with_reducible refine Zf 6 ?_); refine Zc T3.out 62 _ rfl rfl z_P ?_; intro w4 g2 t4
    have T4 := Hh (t4)
    clear t4)
 | ((with_reducible refine Zj 6 12 ?_); refine Za 62 _ _ 62 g2 _ (v3) (T4.out.get 2 rfl) h3.len (Ze h3.len) h3.one rfl rfl rfl rfl rfl ?_
    intro w5 p5
    have T5 := Hh (T4.out.put 2 rfl p5)
    clear p5)
 | ((with_reducible refine Zf 16 ?_); refine Zb 62 _ 62 g2 _ (T5.out.get 2 rfl) Zp (Ze h3.len) rfl rfl rfl ?_)
 | (go_at_call 49; refine (qbad _ r K L _ v3 (ho.below T5.out.below) h3).mono ?_; rintro e w6 ⟨v6, rfl, h6, b6⟩
    have T6 := Hh (T5.out.call b6)
    clear b6)
 | ((with_reducible refine Zj 4 17 ?_); refine Za 62 _ _ 62 g1 _ (v6) (T6.out.get 1 rfl) h6.len (Ze h6.len) h6.one rfl rfl rfl rfl rfl ?_
    intro w7 p7
    have T7 : Hid (Env w [(g0, 62, vs), (g1, 62, v6), (g2, 62, v3)] [] [] w7) := Hh (T6.out.put 1 rfl p7)
    clear p7))
   refine Xj 4 62 5 62 _ _ _ rfl (T7.out.get 1 rfl) Zp (Ze h6.len) rfl rfl rfl ?_
   rw [E1.out, E3.out]
   exact ⟨v6, rfl, h6, T7.out.below⟩
 · have e1 : Zm L ws st = Yo L ws st := by unfold Zm; rw [if_neg hz]
   have e2 : ((Zk L ws st : Int) == 0) = false := by rw [beq_eq_false_iff_ne]; omega
   have E1 := Hh e1
   have HZ := Hh (And.intro hw hn)
   clear e1 hz hn
   go_enter Tryz.func47, Tryz.ntmps47
   go_wp2_with (first
 | ((with_reducible refine Zf 2 ?_); refine Zs T0.out 62 _ (vs) rfl rfl rfl ?_; intro w1 g0 t1
    have T1 := Hh (t1)
    clear t1)
 | ((with_reducible refine Zf 4 ?_); refine Zc T1.out 62 _ rfl rfl z_P ?_; intro w2 g1 t2
    have T2 := Hh (t2)
    clear t2)
 | ((with_reducible refine Zf 9 ?_); refine Zb 62 _ 62 g0 _ (T2.out.get 0 rfl) Zp (Ze hp.len) rfl rfl rfl ?_)
 | (go_at_call 20; refine (qmay _ r K L st vs ws g n m (ho.below T2.out.below) hp (Zg.below HZ.out.1 T2.out.below HZ.out.1.inside) HZ.out.2 hl).mono ?_; rintro e w3 ⟨v3, rfl, h3, b3⟩
    have T3 := Hh (T2.out.call b3)
    clear b3)
 | ((with_reducible refine Zf 6 ?_); refine Zc T3.out 62 _ rfl rfl z_P ?_; intro w4 g2 t4
    have T4 := Hh (t4)
    clear t4)
 | ((with_reducible refine Zj 6 12 ?_); refine Za 62 _ _ 62 g2 _ (v3) (T4.out.get 2 rfl) h3.len (Ze h3.len) h3.one rfl rfl rfl rfl rfl ?_
    intro w5 p5
    have T5 := Hh (T4.out.put 2 rfl p5)
    clear p5)
 | ((with_reducible refine Zf 18 ?_); refine Zb 62 _ 62 g2 _ (T5.out.get 2 rfl) Zp (Ze h3.len) rfl rfl rfl ?_)
 | ((with_reducible refine Zj 4 18 ?_); refine Za 62 _ _ 62 g1 _ (v3) (T5.out.get 1 rfl) h3.len (Ze h3.len) h3.one rfl rfl rfl rfl rfl ?_
    intro w6 p6
    have T6 : Hid (Env w [(g0, 62, vs), (g1, 62, v3), (g2, 62, v3)] [] [] w6) := Hh (T5.out.put 1 rfl p6)
    clear p6))
   refine Xj 4 62 5 62 _ _ _ rfl (T6.out.get 1 rfl) Zp (Ze h3.len) rfl rfl rfl ?_
   rw [E1.out]
   exact ⟨v3, rfl, h3, T6.out.below⟩
theorem qmustB (w : World) (r K G : Nat) (L : List TokV) (st : St) (vs : List Value) (ws : List ByteArray) (n m : Nat) (cs : Array Value) (hcs : cs = (ws.map Value.string).toArray) (hG : G = w.heap.size) (ho : Zy w r K L) (hp : RPv r K L st vs) (hn : n = ws.length) (hl : n ≤ 64) :
   Calls Tryz.prog 47 #[.agg vs.toArray, .slice (some ⟨G, 0, none⟩) n m] (w.alloc (.cells cs 9)) (PVo w r K L (Zm L ws st) (.int .i64 (Zk L ws st))) := by
 subst hcs hG
 have nb := Zh w (.cells (ws.map Value.string).toArray 9)
 refine (qmust _ r K L st vs ws w.heap.size n m (ho.below nb) hp (Zg.made w _ _) hn hl).mono ?_
 rintro e w' ⟨v, h1, h2, h3⟩
 exact ⟨v, h1, h2, Vr nb h3⟩
theorem one_want (L : List TokV) (t : ByteArray) (st : St) : Zm L [t] st = Ye L t st := by
 cases st with
 | bad F => rfl
 | ok a d =>
   unfold Zm Ye
   show (if Jz (Yg L a) [t] = 0 then _ else if Jz (Yg L a) [t] = 0 then _ else _) = if isT (Yg L a) t = true then St.ok (Zab L a t) d else _
   unfold Jz Jz Zab
   by_cases h : isT (Yg L a) t = true
   · simp [h]
   · simp [h]
theorem kindA_in {L : List TokV} (h : Ends L) {a : Nat} (ha : a < L.length) (k : Int) : Vj L a k < L.length := by
 unfold Vj
 split
 · exact h.on ha
 · exact ha
theorem signA_in {L : List TokV} (h : Ends L) {a : Nat} (ha : a < L.length) : signA L a < L.length := by
 unfold signA
 split
 · split
   · exact h.on (h.on ha)
   · exact ha
 · exact kindA_in h ha 2
theorem kindF_ok (L : List TokV) (a : Nat) (k : Int) (h : (We L a k).1 = 0) : We L a k = okF := by
 unfold We at *
 split
 · rfl
 · rename_i hk
   rw [if_neg hk] at h
   exact absurd h (wrF_ne _)
theorem signF_ok (L : List TokV) (a : Nat) (h : (Ju L a).1 = 0) : Ju L a = okF := by
 unfold Ju at *
 split
 · rename_i hk
   rw [if_pos hk] at h
   exact kindF_ok _ _ _ h
 · rename_i hk
   rw [if_neg hk] at h
   exact kindF_ok _ _ _ h
theorem downF_ok (L : List TokV) (a d : Nat) (h : (Vv L a d).1 = 0) : Vv L a d = okF := by
 unfold Vv at *
 split
 · rename_i hk
   rw [if_pos hk] at h
   exact absurd h (by simp)
 · rfl
theorem RPv.note {r K : Nat} {L : List TokV} {a d n : Nat} {F : Int × Nat × Nat} (hF : F.1 = 0 → F = okF) (hn : n = L.length) (ha : a < L.length) (hd : d ≤ 8) :
   RPv r K L (Ue F (.ok a d)) [.slice (some ⟨r, 0, none⟩) n K, .int .i64 (a : Int), .int .i64 (d : Int), .int .i64 F.1, .int .i64 (F.2.1 : Int), .int .i64 (F.2.2 : Int)] := by
 show RPv r K L (if F.1 = 0 then St.ok a d else .bad F) _
 by_cases h : F.1 = 0
 · rw [if_pos h, hF h]
   exact RPv.mkOk hn ha hd
 · rw [if_neg h]
   exact RPv.mkBad _ _ _ _ _ hd h
theorem Env.ne {w x : World} {bs : List Bk} {rs : List Rw} {ts : List (Ds × List Value)} (h : Env w bs rs ts x) (i j : Nat) (hij : i ≠ j) {b c : Bk} (hi : bs[i]? = some b) (hj : bs[j]? = some c) : b.1 ≠ c.1 := by
 obtain ⟨h1, e1⟩ := List.getElem?_eq_some_iff.1 hi
 obtain ⟨h2, e2⟩ := List.getElem?_eq_some_iff.1 hj
 have hp := List.pairwise_iff_getElem.1 h.nod
 have g1 : (bs.map (·.1))[i]'(by simpa using h1) = b.1 := by simp [e1]
 have g2 : (bs.map (·.1))[j]'(by simpa using h2) = c.1 := by simp [e2]
 intro e
 rcases Nat.lt_trichotomy i j with q | q | q
 · exact hp i j _ _ q (by rw [g1, g2, e])
 · exact hij q
 · exact hp j i _ _ q (by rw [g1, g2, e])
set_option maxRecDepth 20000 in
set_option maxHeartbeats 3200000 in
theorem Ur (w : World) (r K : Nat) (L : List TokV) (st : St) (vs : List Value) (t : ByteArray) (ho : Zy w r K L) (hp : RPv r K L st vs) :
   Calls Tryz.prog 23 #[.agg vs.toArray, .string t] w (PPo w r K L (Ye L t st)) := by
 have T0 := Hh (Env.start w)
 go_enter Tryz.func23, Tryz.ntmps23
 go_wp2_with (first
 | ((with_reducible refine Zf 2 ?_); refine Zs T0.out 62 _ (vs) rfl rfl rfl ?_; intro w1 g0 t1
    have T1 := Hh (t1)
    clear t1)
 | ((with_reducible refine Zf 4 ?_); refine Zc T1.out 62 _ rfl rfl z_P ?_; intro w2 g1 t2
    have T2 := Hh (t2)
    clear t2)
 | ((with_reducible refine Zf 8 ?_); refine Zb 62 _ 62 g0 _ (T2.out.get 0 rfl) Zp (Ze hp.len) rfl rfl rfl ?_)
 | (go_at_call 47; refine (qmustB _ r K _ L st vs [t] 1 1 _ rfl rfl (ho.below T2.out.below) hp rfl (by decide)).mono ?_; rintro e w3 ⟨v3, rfl, h3, b3⟩
    have T3 := Hh (T2.out.call b3)
    clear b3)
 | ((with_reducible refine Zf 5 ?_); refine Zc T3.out 62 _ rfl rfl z_P ?_; intro w4 g2 t4
    have T4 := Hh (t4)
    clear t4)
 | ((with_reducible refine Zj 5 12 ?_); refine Za 62 _ _ 62 g2 _ (v3) (T4.out.get 2 rfl) h3.len (Ze h3.len) h3.one rfl rfl rfl rfl rfl ?_
    intro w5 p5
    have T5 := Hh (T4.out.put 2 rfl p5)
    clear p5)
 | ((with_reducible refine Zf 14 ?_); refine Zb 62 _ 62 g2 _ (T5.out.get 2 rfl) Zp (Ze h3.len) rfl rfl rfl ?_)
 | ((with_reducible refine Zj 4 14 ?_); refine Za 62 _ _ 62 g1 _ (v3) (T5.out.get 1 rfl) h3.len (Ze h3.len) h3.one rfl rfl rfl rfl rfl ?_
    intro w6 p6
    have T6 : Hid (Env w [(g0, 62, vs), (g1, 62, v3), (g2, 62, v3)] [] [] w6) := Hh (T5.out.put 1 rfl p6)
    clear p6))
 refine Yw 4 62 62 _ _ rfl (T6.out.get 1 rfl) Zp (Ze h3.len) rfl rfl ?_
 rw [← one_want]
 exact ⟨v3, rfl, h3, T6.out.below⟩
set_option maxRecDepth 20000 in
set_option maxHeartbeats 3200000 in
theorem qside (w : World) (r K : Nat) (L : List TokV) (st : St) (vs : List Value) (ho : Zy w r K L) (hp : RPv r K L st vs) :
   Calls Tryz.prog 75 #[.agg vs.toArray] w (PVo w r K L (Zm L Zr st) (.int .i64 (Zk L Zr st))) := by
 have T0 := Hh (Env.start w)
 go_enter Tryz.func75, Tryz.ntmps75
 go_wp2_with (first
 | ((with_reducible refine Zf 1 ?_); refine Zs T0.out 62 _ (vs) rfl rfl rfl ?_; intro w1 g0 t1
    have T1 := Hh (t1)
    clear t1)
 | ((with_reducible refine Zf 2 ?_); refine Zc T1.out 62 _ rfl rfl z_P ?_; intro w2 g1 t2
    have T2 := Hh (t2)
    clear t2)
 | ((with_reducible refine Zf 4 ?_); refine Zb 62 _ 62 g0 _ (T2.out.get 0 rfl) Zp (Ze hp.len) rfl rfl rfl ?_)
 | (go_at_call 47; refine (qmustB _ r K _ L st vs Zr 3 3 _ rfl rfl (ho.below T2.out.below) hp rfl (by decide)).mono ?_; rintro e w3 ⟨v3, rfl, h3, b3⟩
    have T3 := Hh (T2.out.call b3)
    clear b3)
 | ((with_reducible refine Zj 2 7 ?_); refine Za 62 _ _ 62 g1 _ (v3) (T3.out.get 1 rfl) h3.len (Ze h3.len) h3.one rfl rfl rfl rfl rfl ?_
    intro w4 p4
    have T4 : Hid (Env w [(g0, 62, vs), (g1, 62, v3)] [] [] w4) := Hh (T3.out.put 1 rfl p4)
    clear p4))
 exact Xj 2 62 3 62 _ _ _ rfl (T4.out.get 1 rfl) Zp (Ze h3.len) rfl rfl rfl ⟨v3, rfl, h3, T4.out.below⟩
set_option maxRecDepth 20000 in
set_option maxHeartbeats 3200000 in
theorem qop (w : World) (r K : Nat) (L : List TokV) (st : St) (vs : List Value) (ho : Zy w r K L) (hp : RPv r K L st vs) :
   Calls Tryz.prog 77 #[.agg vs.toArray] w (PVo w r K L (Zm L wOp st) (.int .i64 (Zk L wOp st))) := by
 have T0 := Hh (Env.start w)
 go_enter Tryz.func77, Tryz.ntmps77
 go_wp2_with (first
 | ((with_reducible refine Zf 1 ?_); refine Zs T0.out 62 _ (vs) rfl rfl rfl ?_; intro w1 g0 t1
    have T1 := Hh (t1)
    clear t1)
 | ((with_reducible refine Zf 2 ?_); refine Zc T1.out 62 _ rfl rfl z_P ?_; intro w2 g1 t2
    have T2 := Hh (t2)
    clear t2)
 | ((with_reducible refine Zf 4 ?_); refine Zb 62 _ 62 g0 _ (T2.out.get 0 rfl) Zp (Ze hp.len) rfl rfl rfl ?_)
 | (go_at_call 47; refine (qmustB _ r K _ L st vs wOp 6 6 _ rfl rfl (ho.below T2.out.below) hp rfl (by decide)).mono ?_; rintro e w3 ⟨v3, rfl, h3, b3⟩
    have T3 := Hh (T2.out.call b3)
    clear b3)
 | ((with_reducible refine Zj 2 7 ?_); refine Za 62 _ _ 62 g1 _ (v3) (T3.out.get 1 rfl) h3.len (Ze h3.len) h3.one rfl rfl rfl rfl rfl ?_
    intro w4 p4
    have T4 : Hid (Env w [(g0, 62, vs), (g1, 62, v3)] [] [] w4) := Hh (T3.out.put 1 rfl p4)
    clear p4))
 exact Xj 2 62 3 62 _ _ _ rfl (T4.out.get 1 rfl) Zp (Ze h3.len) rfl rfl rfl ⟨v3, rfl, h3, T4.out.below⟩
set_option maxRecDepth 20000 in
set_option maxHeartbeats 3200000 in
theorem qnumber (w : World) (r K : Nat) (L : List TokV) (st : St) (vs : List Value) (ho : Zy w r K L) (hp : RPv r K L st vs) :
   Calls Tryz.prog 22 #[.agg vs.toArray] w (PVo w r K L (Jl L st) (.int .i64 (Zbn L st))) := by
 have T0 := Hh (Env.start w)
 cases st with
 | ok a d =>
   obtain ⟨n, hn, rfl, ha, hd⟩ := hp.ok
   have hrow := ho (by omega)
   have HR := Hh hrow
   have HN := Hh (And.intro hn ha)
   clear ho hp hn
   go_enter Tryz.func22, Tryz.ntmps22
   go_wp2_with (first
 | ((with_reducible refine Zf 1 ?_); refine Zs T0.out 62 _ ([.slice (some ⟨r, 0, none⟩) n K, .int .i64 (a : Int), .int .i64 (d : Int), .int .i64 0, .int .i64 0, .int .i64 0]) rfl rfl rfl ?_; intro w1 g0 t1
    have T1 := Hh (t1)
    clear t1)
 | ((with_reducible refine Zf 2 ?_); refine Zc T1.out 62 _ rfl rfl z_P ?_; intro w2 g1 t2
    have T2 := Hh (t2)
    obtain ⟨c0, c1, c2, c3, c4, c5⟩ := Xy (T2.out.get 0 rfl)
    clear t2)
 | ((with_reducible refine Zf 14 ?_); refine Xt 60 _ 62 g0 0 ([]) ([.slice (some ⟨r, 0, none⟩) n K, .int .i64 (a : Int), .int .i64 (d : Int)]) ([.int .i64 0, .int .i64 0, .int .i64 0]) (T2.out.get 0 rfl) rfl Zaj Wm rfl rfl rfl ?_)
 | (go_at_call 46; refine (qInt _ r K L n a d HN.out.1 (HR.out.below T2.out.below) HN.out.2).mono ?_; rintro e w3 ⟨rfl, b3⟩
    have T3 := Hh (T2.out.call b3)
    clear b3)
 | ((with_reducible refine Zf 4 ?_); refine Zc T3.out 60 _ rfl rfl z_C ?_; intro w4 g2 t4
    have T4 := Hh (t4)
    clear t4)
 | ((with_reducible refine Zf 6 ?_); refine Zc T4.out 29 _ rfl rfl z_F ?_; intro w5 g3 t5
    have T5 := Hh (t5)
    clear t5)
 | ((with_reducible refine Zj 4 16 ?_); refine Za 60 _ _ 60 g2 _ ([.slice (some ⟨r, 0, none⟩) n K, .int .i64 (Vj L a 2 : Int), .int .i64 (d : Int)]) (T5.out.get 2 rfl) rfl Wm (by simp [Value.oneCell']) rfl rfl rfl rfl rfl ?_
    intro w6 p6
    have T6 := Hh (T5.out.put 2 rfl p6)
    clear p6)
 | ((with_reducible refine Zj 6 18 ?_); refine Za 29 _ _ 29 g3 _ ([.int .i64 (We L a 2).1, .int .i64 ((We L a 2).2.1 : Int), .int .i64 ((We L a 2).2.2 : Int)]) (T6.out.get 3 rfl) rfl Xr (by simp [Value.oneCell']) rfl rfl rfl rfl rfl ?_
    intro w7 p7
    have T7 := Hh (T6.out.put 3 rfl p7)
    clear p7)
 | ((with_reducible refine Zf 19 ?_); refine Zb 60 _ 60 g2 _ (T7.out.get 2 rfl) Zaj Wm rfl rfl rfl ?_)
 | ((with_reducible refine Zf 20 ?_); refine Zb 29 _ 29 g3 _ (T7.out.get 3 rfl) Ux Xr rfl rfl rfl ?_)
 | ((with_reducible refine Zj 2 21 ?_); refine Za 62 _ _ 62 g1 _ ([.slice (some ⟨r, 0, none⟩) n K, .int .i64 (Vj L a 2 : Int), .int .i64 (d : Int), .int .i64 (We L a 2).1, .int .i64 ((We L a 2).2.1 : Int), .int .i64 ((We L a 2).2.2 : Int)]) (T7.out.get 1 rfl) rfl Yf (by simp [Value.oneCell']) rfl rfl rfl rfl rfl ?_
    intro w8 p8
    have T8 : Hid (Env w [(g0, 62, [.slice (some ⟨r, 0, none⟩) n K, .int .i64 (a : Int), .int .i64 (d : Int), .int .i64 0, .int .i64 0, .int .i64 0]), (g1, 62, [.slice (some ⟨r, 0, none⟩) n K, .int .i64 (Vj L a 2 : Int), .int .i64 (d : Int), .int .i64 (We L a 2).1, .int .i64 ((We L a 2).2.1 : Int), .int .i64 ((We L a 2).2.2 : Int)]), (g2, 60, [.slice (some ⟨r, 0, none⟩) n K, .int .i64 (Vj L a 2 : Int), .int .i64 (d : Int)]), (g3, 29, [.int .i64 (We L a 2).1, .int .i64 ((We L a 2).2.1 : Int), .int .i64 ((We L a 2).2.2 : Int)])] [] [] w8) := Hh (T7.out.put 1 rfl p8)
    clear p8))
   exact Xj 2 62 3 62 _ _ _ rfl (T8.out.get 1 rfl) Zp Yf rfl rfl rfl ⟨_, rfl, RPv.note (kindF_ok L a 2) HN.out.1 (kindA_in HR.out.ends HN.out.2 2) hd, T8.out.below⟩
 | bad F =>
   obtain ⟨A, n, k, a, d, rfl, hd, hF⟩ := hp.bad
   obtain ⟨f0, f1, f2⟩ := F
   have z0 : (f0 != 0) = true := by rw [bne_iff_ne]; exact hF
   have HF := Hh hF
   clear ho hp hF
   go_enter Tryz.func22, Tryz.ntmps22
   go_wp2_with (first
 | ((with_reducible refine Zf 1 ?_); refine Zs T0.out 62 _ ([.slice A n k, .int .i64 (a : Int), .int .i64 (d : Int), .int .i64 f0, .int .i64 (f1 : Int), .int .i64 (f2 : Int)]) rfl rfl rfl ?_; intro w1 g0 t1
    have T1 := Hh (t1)
    clear t1)
 | ((with_reducible refine Zf 2 ?_); refine Zc T1.out 62 _ rfl rfl z_P ?_; intro w2 g1 t2
    have T2 := Hh (t2)
    obtain ⟨c0, c1, c2, c3, c4, c5⟩ := Xy (T2.out.get 0 rfl)
    clear t2)
 | ((with_reducible refine Zf 11 ?_); refine Zb 62 _ 62 g0 _ (T2.out.get 0 rfl) Zp Yf rfl rfl rfl ?_)
 | ((with_reducible refine Zj 2 11 ?_); refine Za 62 _ _ 62 g1 _ ([.slice A n k, .int .i64 (a : Int), .int .i64 (d : Int), .int .i64 f0, .int .i64 (f1 : Int), .int .i64 (f2 : Int)]) (T2.out.get 1 rfl) rfl Yf (by simp [Value.oneCell']) rfl rfl rfl rfl rfl ?_
    intro w3 p3
    have T3 : Hid (Env w [(g0, 62, [.slice A n k, .int .i64 (a : Int), .int .i64 (d : Int), .int .i64 f0, .int .i64 (f1 : Int), .int .i64 (f2 : Int)]), (g1, 62, [.slice A n k, .int .i64 (a : Int), .int .i64 (d : Int), .int .i64 f0, .int .i64 (f1 : Int), .int .i64 (f2 : Int)])] [] [] w3) := Hh (T2.out.put 1 rfl p3)
    clear p3))
   exact Xj 2 62 3 62 _ _ _ rfl (T3.out.get 1 rfl) Zp Yf rfl rfl rfl ⟨_, rfl, RPv.mkBad (F := (f0, f1, f2)) _ _ _ _ _ hd HF.out, T3.out.below⟩
set_option maxRecDepth 20000 in
set_option maxHeartbeats 3200000 in
theorem qsigned (w : World) (r K : Nat) (L : List TokV) (st : St) (vs : List Value) (ho : Zy w r K L) (hp : RPv r K L st vs) :
   Calls Tryz.prog 24 #[.agg vs.toArray] w (PVo w r K L (Uo L st) (.int .i64 (Zai L st))) := by
 have T0 := Hh (Env.start w)
 cases st with
 | ok a d =>
   obtain ⟨n, hn, rfl, ha, hd⟩ := hp.ok
   have hrow := ho (by omega)
   have HR := Hh hrow
   have HN := Hh (And.intro hn ha)
   clear ho hp hn
   go_enter Tryz.func24, Tryz.ntmps24
   go_wp2_with (first
 | ((with_reducible refine Zf 1 ?_); refine Zs T0.out 62 _ ([.slice (some ⟨r, 0, none⟩) n K, .int .i64 (a : Int), .int .i64 (d : Int), .int .i64 0, .int .i64 0, .int .i64 0]) rfl rfl rfl ?_; intro w1 g0 t1
    have T1 := Hh (t1)
    clear t1)
 | ((with_reducible refine Zf 2 ?_); refine Zc T1.out 62 _ rfl rfl z_P ?_; intro w2 g1 t2
    have T2 := Hh (t2)
    obtain ⟨c0, c1, c2, c3, c4, c5⟩ := Xy (T2.out.get 0 rfl)
    clear t2)
 | ((with_reducible refine Zf 14 ?_); refine Xt 60 _ 62 g0 0 ([]) ([.slice (some ⟨r, 0, none⟩) n K, .int .i64 (a : Int), .int .i64 (d : Int)]) ([.int .i64 0, .int .i64 0, .int .i64 0]) (T2.out.get 0 rfl) rfl Zaj Wm rfl rfl rfl ?_)
 | (go_at_call 48; refine (qSigned _ r K L n a d HN.out.1 (HR.out.below T2.out.below) HN.out.2).mono ?_; rintro e w3 ⟨rfl, b3⟩
    have T3 := Hh (T2.out.call b3)
    clear b3)
 | ((with_reducible refine Zf 4 ?_); refine Zc T3.out 60 _ rfl rfl z_C ?_; intro w4 g2 t4
    have T4 := Hh (t4)
    clear t4)
 | ((with_reducible refine Zf 6 ?_); refine Zc T4.out 29 _ rfl rfl z_F ?_; intro w5 g3 t5
    have T5 := Hh (t5)
    clear t5)
 | ((with_reducible refine Zj 4 16 ?_); refine Za 60 _ _ 60 g2 _ ([.slice (some ⟨r, 0, none⟩) n K, .int .i64 (signA L a : Int), .int .i64 (d : Int)]) (T5.out.get 2 rfl) rfl Wm (by simp [Value.oneCell']) rfl rfl rfl rfl rfl ?_
    intro w6 p6
    have T6 := Hh (T5.out.put 2 rfl p6)
    clear p6)
 | ((with_reducible refine Zj 6 18 ?_); refine Za 29 _ _ 29 g3 _ ([.int .i64 (Ju L a).1, .int .i64 ((Ju L a).2.1 : Int), .int .i64 ((Ju L a).2.2 : Int)]) (T6.out.get 3 rfl) rfl Xr (by simp [Value.oneCell']) rfl rfl rfl rfl rfl ?_
    intro w7 p7
    have T7 := Hh (T6.out.put 3 rfl p7)
    clear p7)
 | ((with_reducible refine Zf 19 ?_); refine Zb 60 _ 60 g2 _ (T7.out.get 2 rfl) Zaj Wm rfl rfl rfl ?_)
 | ((with_reducible refine Zf 20 ?_); refine Zb 29 _ 29 g3 _ (T7.out.get 3 rfl) Ux Xr rfl rfl rfl ?_)
 | ((with_reducible refine Zj 2 21 ?_); refine Za 62 _ _ 62 g1 _ ([.slice (some ⟨r, 0, none⟩) n K, .int .i64 (signA L a : Int), .int .i64 (d : Int), .int .i64 (Ju L a).1, .int .i64 ((Ju L a).2.1 : Int), .int .i64 ((Ju L a).2.2 : Int)]) (T7.out.get 1 rfl) rfl Yf (by simp [Value.oneCell']) rfl rfl rfl rfl rfl ?_
    intro w8 p8
    have T8 : Hid (Env w [(g0, 62, [.slice (some ⟨r, 0, none⟩) n K, .int .i64 (a : Int), .int .i64 (d : Int), .int .i64 0, .int .i64 0, .int .i64 0]), (g1, 62, [.slice (some ⟨r, 0, none⟩) n K, .int .i64 (signA L a : Int), .int .i64 (d : Int), .int .i64 (Ju L a).1, .int .i64 ((Ju L a).2.1 : Int), .int .i64 ((Ju L a).2.2 : Int)]), (g2, 60, [.slice (some ⟨r, 0, none⟩) n K, .int .i64 (signA L a : Int), .int .i64 (d : Int)]), (g3, 29, [.int .i64 (Ju L a).1, .int .i64 ((Ju L a).2.1 : Int), .int .i64 ((Ju L a).2.2 : Int)])] [] [] w8) := Hh (T7.out.put 1 rfl p8)
    clear p8))
   exact Xj 2 62 3 62 _ _ _ rfl (T8.out.get 1 rfl) Zp Yf rfl rfl rfl ⟨_, rfl, RPv.note (signF_ok L a) HN.out.1 (signA_in HR.out.ends HN.out.2) hd, T8.out.below⟩
 | bad F =>
   obtain ⟨A, n, k, a, d, rfl, hd, hF⟩ := hp.bad
   obtain ⟨f0, f1, f2⟩ := F
   have z0 : (f0 != 0) = true := by rw [bne_iff_ne]; exact hF
   have HF := Hh hF
   clear ho hp hF
   go_enter Tryz.func24, Tryz.ntmps24
   go_wp2_with (first
 | ((with_reducible refine Zf 1 ?_); refine Zs T0.out 62 _ ([.slice A n k, .int .i64 (a : Int), .int .i64 (d : Int), .int .i64 f0, .int .i64 (f1 : Int), .int .i64 (f2 : Int)]) rfl rfl rfl ?_; intro w1 g0 t1
    have T1 := Hh (t1)
    clear t1)
 | ((with_reducible refine Zf 2 ?_); refine Zc T1.out 62 _ rfl rfl z_P ?_; intro w2 g1 t2
    have T2 := Hh (t2)
    obtain ⟨c0, c1, c2, c3, c4, c5⟩ := Xy (T2.out.get 0 rfl)
    clear t2)
 | ((with_reducible refine Zf 11 ?_); refine Zb 62 _ 62 g0 _ (T2.out.get 0 rfl) Zp Yf rfl rfl rfl ?_)
 | ((with_reducible refine Zj 2 11 ?_); refine Za 62 _ _ 62 g1 _ ([.slice A n k, .int .i64 (a : Int), .int .i64 (d : Int), .int .i64 f0, .int .i64 (f1 : Int), .int .i64 (f2 : Int)]) (T2.out.get 1 rfl) rfl Yf (by simp [Value.oneCell']) rfl rfl rfl rfl rfl ?_
    intro w3 p3
    have T3 : Hid (Env w [(g0, 62, [.slice A n k, .int .i64 (a : Int), .int .i64 (d : Int), .int .i64 f0, .int .i64 (f1 : Int), .int .i64 (f2 : Int)]), (g1, 62, [.slice A n k, .int .i64 (a : Int), .int .i64 (d : Int), .int .i64 f0, .int .i64 (f1 : Int), .int .i64 (f2 : Int)])] [] [] w3) := Hh (T2.out.put 1 rfl p3)
    clear p3))
   exact Xj 2 62 3 62 _ _ _ rfl (T3.out.get 1 rfl) Zp Yf rfl rfl rfl ⟨_, rfl, RPv.mkBad (F := (f0, f1, f2)) _ _ _ _ _ hd HF.out, T3.out.below⟩
set_option maxRecDepth 20000 in
set_option maxHeartbeats 3200000 in
theorem qname (w : World) (r K : Nat) (L : List TokV) (st : St) (vs : List Value) (ho : Zy w r K L) (hp : RPv r K L st vs) :
   Calls Tryz.prog 21 #[.agg vs.toArray] w (PVo w r K L (Wl L st) (.string (Jh L st))) := by
 have T0 := Hh (Env.start w)
 cases st with
 | ok a d =>
   obtain ⟨n, hn, rfl, ha, hd⟩ := hp.ok
   have hrow := ho (by omega)
   have HR := Hh hrow
   have HN := Hh (And.intro hn ha)
   clear ho hp hn
   go_enter Tryz.func21, Tryz.ntmps21
   go_wp2_with (first
 | ((with_reducible refine Zf 1 ?_); refine Zs T0.out 62 _ ([.slice (some ⟨r, 0, none⟩) n K, .int .i64 (a : Int), .int .i64 (d : Int), .int .i64 0, .int .i64 0, .int .i64 0]) rfl rfl rfl ?_; intro w1 g0 t1
    have T1 := Hh (t1)
    clear t1)
 | ((with_reducible refine Zf 2 ?_); refine Zc T1.out 62 _ rfl rfl z_P ?_; intro w2 g1 t2
    have T2 := Hh (t2)
    obtain ⟨c0, c1, c2, c3, c4, c5⟩ := Xy (T2.out.get 0 rfl)
    clear t2)
 | ((with_reducible refine Zf 14 ?_); refine Xt 60 _ 62 g0 0 ([]) ([.slice (some ⟨r, 0, none⟩) n K, .int .i64 (a : Int), .int .i64 (d : Int)]) ([.int .i64 0, .int .i64 0, .int .i64 0]) (T2.out.get 0 rfl) rfl Zaj Wm rfl rfl rfl ?_)
 | (go_at_call 45; refine (qName _ r K L n a d HN.out.1 (HR.out.below T2.out.below) HN.out.2).mono ?_; rintro e w3 ⟨rfl, b3⟩
    have T3 := Hh (T2.out.call b3)
    clear b3)
 | ((with_reducible refine Zf 4 ?_); refine Zc T3.out 60 _ rfl rfl z_C ?_; intro w4 g2 t4
    have T4 := Hh (t4)
    clear t4)
 | ((with_reducible refine Zf 6 ?_); refine Zc T4.out 29 _ rfl rfl z_F ?_; intro w5 g3 t5
    have T5 := Hh (t5)
    clear t5)
 | ((with_reducible refine Zj 4 16 ?_); refine Za 60 _ _ 60 g2 _ ([.slice (some ⟨r, 0, none⟩) n K, .int .i64 (Vj L a 3 : Int), .int .i64 (d : Int)]) (T5.out.get 2 rfl) rfl Wm (by simp [Value.oneCell']) rfl rfl rfl rfl rfl ?_
    intro w6 p6
    have T6 := Hh (T5.out.put 2 rfl p6)
    clear p6)
 | ((with_reducible refine Zj 6 18 ?_); refine Za 29 _ _ 29 g3 _ ([.int .i64 (We L a 3).1, .int .i64 ((We L a 3).2.1 : Int), .int .i64 ((We L a 3).2.2 : Int)]) (T6.out.get 3 rfl) rfl Xr (by simp [Value.oneCell']) rfl rfl rfl rfl rfl ?_
    intro w7 p7
    have T7 := Hh (T6.out.put 3 rfl p7)
    clear p7)
 | ((with_reducible refine Zf 19 ?_); refine Zb 60 _ 60 g2 _ (T7.out.get 2 rfl) Zaj Wm rfl rfl rfl ?_)
 | ((with_reducible refine Zf 20 ?_); refine Zb 29 _ 29 g3 _ (T7.out.get 3 rfl) Ux Xr rfl rfl rfl ?_)
 | ((with_reducible refine Zj 2 21 ?_); refine Za 62 _ _ 62 g1 _ ([.slice (some ⟨r, 0, none⟩) n K, .int .i64 (Vj L a 3 : Int), .int .i64 (d : Int), .int .i64 (We L a 3).1, .int .i64 ((We L a 3).2.1 : Int), .int .i64 ((We L a 3).2.2 : Int)]) (T7.out.get 1 rfl) rfl Yf (by simp [Value.oneCell']) rfl rfl rfl rfl rfl ?_
    intro w8 p8
    have T8 : Hid (Env w [(g0, 62, [.slice (some ⟨r, 0, none⟩) n K, .int .i64 (a : Int), .int .i64 (d : Int), .int .i64 0, .int .i64 0, .int .i64 0]), (g1, 62, [.slice (some ⟨r, 0, none⟩) n K, .int .i64 (Vj L a 3 : Int), .int .i64 (d : Int), .int .i64 (We L a 3).1, .int .i64 ((We L a 3).2.1 : Int), .int .i64 ((We L a 3).2.2 : Int)]), (g2, 60, [.slice (some ⟨r, 0, none⟩) n K, .int .i64 (Vj L a 3 : Int), .int .i64 (d : Int)]), (g3, 29, [.int .i64 (We L a 3).1, .int .i64 ((We L a 3).2.1 : Int), .int .i64 ((We L a 3).2.2 : Int)])] [] [] w8) := Hh (T7.out.put 1 rfl p8)
    clear p8))
   exact Xj 2 62 3 62 _ _ _ rfl (T8.out.get 1 rfl) Zp Yf rfl rfl rfl ⟨_, rfl, RPv.note (kindF_ok L a 3) HN.out.1 (kindA_in HR.out.ends HN.out.2 3) hd, T8.out.below⟩
 | bad F =>
   obtain ⟨A, n, k, a, d, rfl, hd, hF⟩ := hp.bad
   obtain ⟨f0, f1, f2⟩ := F
   have z0 : (f0 != 0) = true := by rw [bne_iff_ne]; exact hF
   have HF := Hh hF
   clear ho hp hF
   go_enter Tryz.func21, Tryz.ntmps21
   go_wp2_with (first
 | ((with_reducible refine Zf 1 ?_); refine Zs T0.out 62 _ ([.slice A n k, .int .i64 (a : Int), .int .i64 (d : Int), .int .i64 f0, .int .i64 (f1 : Int), .int .i64 (f2 : Int)]) rfl rfl rfl ?_; intro w1 g0 t1
    have T1 := Hh (t1)
    clear t1)
 | ((with_reducible refine Zf 2 ?_); refine Zc T1.out 62 _ rfl rfl z_P ?_; intro w2 g1 t2
    have T2 := Hh (t2)
    obtain ⟨c0, c1, c2, c3, c4, c5⟩ := Xy (T2.out.get 0 rfl)
    clear t2)
 | ((with_reducible refine Zf 11 ?_); refine Zb 62 _ 62 g0 _ (T2.out.get 0 rfl) Zp Yf rfl rfl rfl ?_)
 | ((with_reducible refine Zj 2 11 ?_); refine Za 62 _ _ 62 g1 _ ([.slice A n k, .int .i64 (a : Int), .int .i64 (d : Int), .int .i64 f0, .int .i64 (f1 : Int), .int .i64 (f2 : Int)]) (T2.out.get 1 rfl) rfl Yf (by simp [Value.oneCell']) rfl rfl rfl rfl rfl ?_
    intro w3 p3
    have T3 : Hid (Env w [(g0, 62, [.slice A n k, .int .i64 (a : Int), .int .i64 (d : Int), .int .i64 f0, .int .i64 (f1 : Int), .int .i64 (f2 : Int)]), (g1, 62, [.slice A n k, .int .i64 (a : Int), .int .i64 (d : Int), .int .i64 f0, .int .i64 (f1 : Int), .int .i64 (f2 : Int)])] [] [] w3) := Hh (T2.out.put 1 rfl p3)
    clear p3))
   exact Xj 2 62 3 62 _ _ _ rfl (T3.out.get 1 rfl) Zp Yf rfl rfl rfl ⟨_, rfl, RPv.mkBad (F := (f0, f1, f2)) _ _ _ _ _ hd HF.out, T3.out.below⟩
set_option maxRecDepth 20000 in
set_option maxHeartbeats 3200000 in
theorem qdeeper (w : World) (r K : Nat) (L : List TokV) (st : St) (vs : List Value) (ho : Zy w r K L) (hp : RPv r K L st vs) :
   Calls Tryz.prog 98 #[.agg vs.toArray] w (PPo w r K L (Ue (downV L st) (deeperS st))) := by
 have T0 := Hh (Env.start w)
 cases st with
 | ok a d =>
   obtain ⟨n, hn, rfl, ha, hd⟩ := hp.ok
   have hrow := ho (by omega)
   have HR := Hh hrow
   have HN := Hh (And.intro hn ha)
   have hdd : Zbm d ≤ 8 := by unfold Zbm; split <;> omega
   have HD := Hh hdd
   clear ho hp hn hdd
   go_enter Tryz.func98, Tryz.ntmps98
   go_wp2_with (first
 | ((with_reducible refine Zf 1 ?_); refine Zs T0.out 62 _ ([.slice (some ⟨r, 0, none⟩) n K, .int .i64 (a : Int), .int .i64 (d : Int), .int .i64 0, .int .i64 0, .int .i64 0]) rfl rfl rfl ?_; intro w1 g0 t1
    have T1 := Hh (t1)
    clear t1)
 | ((with_reducible refine Zf 2 ?_); refine Zc T1.out 62 _ rfl rfl z_P ?_; intro w2 g1 t2
    have T2 := Hh (t2)
    obtain ⟨c0, c1, c2, c3, c4, c5⟩ := Xy (T2.out.get 0 rfl)
    clear t2)
 | ((with_reducible refine Zf 12 ?_); refine Xt 60 _ 62 g0 0 ([]) ([.slice (some ⟨r, 0, none⟩) n K, .int .i64 (a : Int), .int .i64 (d : Int)]) ([.int .i64 0, .int .i64 0, .int .i64 0]) (T2.out.get 0 rfl) rfl Zaj Wm rfl rfl rfl ?_)
 | (go_at_call 119; refine (qDown _ r K L n a d HN.out.1 (HR.out.below T2.out.below) HN.out.2 hd).mono ?_; rintro e w3 ⟨rfl, b3⟩
    have T3 := Hh (T2.out.call b3)
    clear b3)
 | ((with_reducible refine Zf 3 ?_); refine Zc T3.out 60 _ rfl rfl z_C ?_; intro w4 g2 t4
    have T4 := Hh (t4)
    clear t4)
 | ((with_reducible refine Zf 4 ?_); refine Zc T4.out 29 _ rfl rfl z_F ?_; intro w5 g3 t5
    have T5 := Hh (t5)
    clear t5)
 | ((with_reducible refine Zj 3 14 ?_); refine Za 60 _ _ 60 g2 _ ([.slice (some ⟨r, 0, none⟩) n K, .int .i64 (a : Int), .int .i64 (Zbm d : Int)]) (T5.out.get 2 rfl) rfl Wm (by simp [Value.oneCell']) rfl rfl rfl rfl rfl ?_
    intro w6 p6
    have T6 := Hh (T5.out.put 2 rfl p6)
    clear p6)
 | ((with_reducible refine Zj 4 15 ?_); refine Za 29 _ _ 29 g3 _ ([.int .i64 (Vv L a d).1, .int .i64 ((Vv L a d).2.1 : Int), .int .i64 ((Vv L a d).2.2 : Int)]) (T6.out.get 3 rfl) rfl Xr (by simp [Value.oneCell']) rfl rfl rfl rfl rfl ?_
    intro w7 p7
    have T7 := Hh (T6.out.put 3 rfl p7)
    clear p7)
 | ((with_reducible refine Zf 16 ?_); refine Zb 60 _ 60 g2 _ (T7.out.get 2 rfl) Zaj Wm rfl rfl rfl ?_)
 | ((with_reducible refine Zf 17 ?_); refine Zb 29 _ 29 g3 _ (T7.out.get 3 rfl) Ux Xr rfl rfl rfl ?_)
 | ((with_reducible refine Zj 2 18 ?_); refine Za 62 _ _ 62 g1 _ ([.slice (some ⟨r, 0, none⟩) n K, .int .i64 (a : Int), .int .i64 (Zbm d : Int), .int .i64 (Vv L a d).1, .int .i64 ((Vv L a d).2.1 : Int), .int .i64 ((Vv L a d).2.2 : Int)]) (T7.out.get 1 rfl) rfl Yf (by simp [Value.oneCell']) rfl rfl rfl rfl rfl ?_
    intro w8 p8
    have T8 : Hid (Env w [(g0, 62, [.slice (some ⟨r, 0, none⟩) n K, .int .i64 (a : Int), .int .i64 (d : Int), .int .i64 0, .int .i64 0, .int .i64 0]), (g1, 62, [.slice (some ⟨r, 0, none⟩) n K, .int .i64 (a : Int), .int .i64 (Zbm d : Int), .int .i64 (Vv L a d).1, .int .i64 ((Vv L a d).2.1 : Int), .int .i64 ((Vv L a d).2.2 : Int)]), (g2, 60, [.slice (some ⟨r, 0, none⟩) n K, .int .i64 (a : Int), .int .i64 (Zbm d : Int)]), (g3, 29, [.int .i64 (Vv L a d).1, .int .i64 ((Vv L a d).2.1 : Int), .int .i64 ((Vv L a d).2.2 : Int)])] [] [] w8) := Hh (T7.out.put 1 rfl p8)
    clear p8))
   exact Yw 2 62 62 _ _ rfl (T8.out.get 1 rfl) Zp Yf rfl rfl ⟨_, rfl, RPv.note (downF_ok L a d) HN.out.1 HN.out.2 HD.out, T8.out.below⟩
 | bad F =>
   obtain ⟨A, n, k, a, d, rfl, hd, hF⟩ := hp.bad
   obtain ⟨f0, f1, f2⟩ := F
   have z0 : (f0 != 0) = true := by rw [bne_iff_ne]; exact hF
   have HF := Hh hF
   clear ho hp hF
   go_enter Tryz.func98, Tryz.ntmps98
   go_wp2_with (first
 | ((with_reducible refine Zf 1 ?_); refine Zs T0.out 62 _ ([.slice A n k, .int .i64 (a : Int), .int .i64 (d : Int), .int .i64 f0, .int .i64 (f1 : Int), .int .i64 (f2 : Int)]) rfl rfl rfl ?_; intro w1 g0 t1
    have T1 := Hh (t1)
    clear t1)
 | ((with_reducible refine Zf 2 ?_); refine Zc T1.out 62 _ rfl rfl z_P ?_; intro w2 g1 t2
    have T2 := Hh (t2)
    obtain ⟨c0, c1, c2, c3, c4, c5⟩ := Xy (T2.out.get 0 rfl)
    clear t2)
 | ((with_reducible refine Zf 9 ?_); refine Zb 62 _ 62 g0 _ (T2.out.get 0 rfl) Zp Yf rfl rfl rfl ?_)
 | ((with_reducible refine Zj 2 9 ?_); refine Za 62 _ _ 62 g1 _ ([.slice A n k, .int .i64 (a : Int), .int .i64 (d : Int), .int .i64 f0, .int .i64 (f1 : Int), .int .i64 (f2 : Int)]) (T2.out.get 1 rfl) rfl Yf (by simp [Value.oneCell']) rfl rfl rfl rfl rfl ?_
    intro w3 p3
    have T3 : Hid (Env w [(g0, 62, [.slice A n k, .int .i64 (a : Int), .int .i64 (d : Int), .int .i64 f0, .int .i64 (f1 : Int), .int .i64 (f2 : Int)]), (g1, 62, [.slice A n k, .int .i64 (a : Int), .int .i64 (d : Int), .int .i64 f0, .int .i64 (f1 : Int), .int .i64 (f2 : Int)])] [] [] w3) := Hh (T2.out.put 1 rfl p3)
    clear p3))
   exact Yw 2 62 62 _ _ rfl (T3.out.get 1 rfl) Zp Yf rfl rfl ⟨_, rfl, RPv.mkBad (F := (f0, f1, f2)) _ _ _ _ _ hd HF.out, T3.out.below⟩
theorem Vu : (Tryz.prog).follows .mixedOrders = true := by kernel_rfl
def PTo (w : World) (r K : Nat) (L : List TokV) (st : St) (ds : Ds) (e : Ending) (w' : World) : Prop :=
 ∃ vs us : List Value, e = .returned (.tuple #[.agg vs.toArray, .agg us.toArray]) ∧ RPv r K L st vs ∧ Zo (fun k => w.heap.size ≤ k) w' ds us ∧ Below w.heap.size w w'
set_option maxRecDepth 20000 in
set_option maxHeartbeats 3200000 in
theorem qover (w : World) (r K : Nat) (L : List TokV) (st : St) (vs : List Value) (ho : Zy w r K L) (hp : RPv r K L st vs) :
   Calls Tryz.prog 26 #[.agg vs.toArray] w (PPo w r K L (Xh L st)) := by
 have T0 := Hh (Env.start w)
 cases st with
 | ok a d =>
   obtain ⟨n, hn, rfl, ha, hd⟩ := hp.ok
   have hrow := ho (by omega)
   have HR := Hh hrow
   have HN := Hh (And.intro hn ha)
   have hfd := fun w => tok_field (Yg L a).k (Yg L a).n ((Yg L a).line : Int) ((Yg L a).col : Int) (Yg L a).t w
   clear ho hp hn
   by_cases hk : (Yg L a).k = 0
   · have e1 : ((Yg L a).k != 0) = false := by rw [hk]; rfl
     have e2 : Xh L (.ok a d) = .ok a d := if_pos hk
     have E2 := Hh e2
     clear e2 hk
     go_enter Tryz.func26, Tryz.ntmps26
     go_wp2_with (first
 | ((with_reducible refine Zf 1 ?_); refine Zs T0.out 62 _ ([.slice (some ⟨r, 0, none⟩) n K, .int .i64 (a : Int), .int .i64 (d : Int), .int .i64 0, .int .i64 0, .int .i64 0]) rfl rfl rfl ?_; intro w1 g0 t1
    have T1 := Hh (t1)
    clear t1)
 | ((with_reducible refine Zf 2 ?_); refine Zc T1.out 62 _ rfl rfl z_P ?_; intro w2 g1 t2
    have T2 := Hh (t2)
    obtain ⟨c0, c1, c2, c3, c4, c5⟩ := Xy (T2.out.get 0 rfl)
    clear t2)
 | (go_at_call 19; refine (qHere _ r K L n a d HN.out.1 (HR.out.below T2.out.below) HN.out.2).mono ?_; rintro e w3 ⟨rfl, b3⟩
    have T3 := Hh (T2.out.call b3)
    simp only [Wt]
    clear b3)
 | ((with_reducible refine Zf 16 ?_); refine Zb 62 _ 62 g0 _ (T3.out.get 0 rfl) Zp Yf rfl rfl rfl ?_)
 | ((with_reducible refine Zj 2 16 ?_); refine Za 62 _ _ 62 g1 _ ([.slice (some ⟨r, 0, none⟩) n K, .int .i64 (a : Int), .int .i64 (d : Int), .int .i64 0, .int .i64 0, .int .i64 0]) (T3.out.get 1 rfl) rfl Yf (by simp [Value.oneCell']) rfl rfl rfl rfl rfl ?_
    intro w4 p4
    have T4 : Hid (Env w [(g0, 62, [.slice (some ⟨r, 0, none⟩) n K, .int .i64 (a : Int), .int .i64 (d : Int), .int .i64 0, .int .i64 0, .int .i64 0]), (g1, 62, [.slice (some ⟨r, 0, none⟩) n K, .int .i64 (a : Int), .int .i64 (d : Int), .int .i64 0, .int .i64 0, .int .i64 0])] [] [] w4) := Hh (T3.out.put 1 rfl p4)
    clear p4))
     refine Yw 2 62 62 _ _ rfl (T4.out.get 1 rfl) Zp Yf rfl rfl ?_
     rw [E2.out]
     exact ⟨_, rfl, RPv.mkOk HN.out.1 HN.out.2 hd, T4.out.below⟩
   · have e1 : ((Yg L a).k != 0) = true := by rw [bne_iff_ne]; exact hk
     have e2 : Xh L (.ok a d) = wrongS L (.ok a d) := if_neg hk
     have E2 := Hh e2
     clear e2 hk
     go_enter Tryz.func26, Tryz.ntmps26
     go_wp2_with (first
 | ((with_reducible refine Zf 1 ?_); refine Zs T0.out 62 _ ([.slice (some ⟨r, 0, none⟩) n K, .int .i64 (a : Int), .int .i64 (d : Int), .int .i64 0, .int .i64 0, .int .i64 0]) rfl rfl rfl ?_; intro w1 g0 t1
    have T1 := Hh (t1)
    clear t1)
 | ((with_reducible refine Zf 2 ?_); refine Zc T1.out 62 _ rfl rfl z_P ?_; intro w2 g1 t2
    have T2 := Hh (t2)
    obtain ⟨c0, c1, c2, c3, c4, c5⟩ := Xy (T2.out.get 0 rfl)
    clear t2)
 | (go_at_call 19; refine (qHere _ r K L n a d HN.out.1 (HR.out.below T2.out.below) HN.out.2).mono ?_; rintro e w3 ⟨rfl, b3⟩
    have T3 := Hh (T2.out.call b3)
    simp only [Wt]
    clear b3)
 | ((with_reducible refine Zf 14 ?_); refine Zb 62 _ 62 g0 _ (T3.out.get 0 rfl) Zp Yf rfl rfl rfl ?_)
 | (go_at_call 49; refine (qbad _ r K L (.ok a d) [.slice (some ⟨r, 0, none⟩) n K, .int .i64 (a : Int), .int .i64 (d : Int), .int .i64 0, .int .i64 0, .int .i64 0] (fun _ => HR.out.below T3.out.below) (RPv.mkOk HN.out.1 HN.out.2 hd)).mono ?_; rintro e w4 ⟨v4, rfl, h4, b4⟩
    have T4 := Hh (T3.out.call b4)
    clear b4)
 | ((with_reducible refine Zj 2 15 ?_); refine Za 62 _ _ 62 g1 _ (v4) (T4.out.get 1 rfl) h4.len (Ze h4.len) h4.one rfl rfl rfl rfl rfl ?_
    intro w5 p5
    have T5 : Hid (Env w [(g0, 62, [.slice (some ⟨r, 0, none⟩) n K, .int .i64 (a : Int), .int .i64 (d : Int), .int .i64 0, .int .i64 0, .int .i64 0]), (g1, 62, v4)] [] [] w5) := Hh (T4.out.put 1 rfl p5)
    clear p5))
     refine Yw 2 62 62 _ _ rfl (T5.out.get 1 rfl) Zp (Ze h4.len) rfl rfl ?_
     rw [E2.out]
     exact ⟨v4, rfl, h4, T5.out.below⟩
 | bad F =>
   obtain ⟨A, n, k, a, d, rfl, hd, hF⟩ := hp.bad
   obtain ⟨f0, f1, f2⟩ := F
   have z0 : (f0 == 0) = false := by rw [beq_eq_false_iff_ne]; exact hF
   have HF := Hh hF
   clear ho hp hF
   go_enter Tryz.func26, Tryz.ntmps26
   go_wp2_with (first
 | ((with_reducible refine Zf 1 ?_); refine Zs T0.out 62 _ ([.slice A n k, .int .i64 (a : Int), .int .i64 (d : Int), .int .i64 f0, .int .i64 (f1 : Int), .int .i64 (f2 : Int)]) rfl rfl rfl ?_; intro w1 g0 t1
    have T1 := Hh (t1)
    clear t1)
 | ((with_reducible refine Zf 2 ?_); refine Zc T1.out 62 _ rfl rfl z_P ?_; intro w2 g1 t2
    have T2 := Hh (t2)
    obtain ⟨c0, c1, c2, c3, c4, c5⟩ := Xy (T2.out.get 0 rfl)
    clear t2)
 | ((with_reducible refine Zf 16 ?_); refine Zb 62 _ 62 g0 _ (T2.out.get 0 rfl) Zp Yf rfl rfl rfl ?_)
 | ((with_reducible refine Zj 2 16 ?_); refine Za 62 _ _ 62 g1 _ ([.slice A n k, .int .i64 (a : Int), .int .i64 (d : Int), .int .i64 f0, .int .i64 (f1 : Int), .int .i64 (f2 : Int)]) (T2.out.get 1 rfl) rfl Yf (by simp [Value.oneCell']) rfl rfl rfl rfl rfl ?_
    intro w3 p3
    have T3 : Hid (Env w [(g0, 62, [.slice A n k, .int .i64 (a : Int), .int .i64 (d : Int), .int .i64 f0, .int .i64 (f1 : Int), .int .i64 (f2 : Int)]), (g1, 62, [.slice A n k, .int .i64 (a : Int), .int .i64 (d : Int), .int .i64 f0, .int .i64 (f1 : Int), .int .i64 (f2 : Int)])] [] [] w3) := Hh (T2.out.put 1 rfl p3)
    clear p3))
   exact Yw 2 62 62 _ _ rfl (T3.out.get 1 rfl) Zp Yf rfl rfl ⟨_, rfl, RPv.mkBad (F := (f0, f1, f2)) _ _ _ _ _ hd HF.out, T3.out.below⟩
set_option maxRecDepth 20000 in
set_option maxHeartbeats 3200000 in
theorem qto (w : World) (r K : Nat) (L : List TokV) (st : St) (vs : List Value) (ho : Zy w r K L) (hp : RPv r K L st vs) :
   Calls Tryz.prog 76 #[.agg vs.toArray] w (PTo w r K L (toS L st) (.int (toK L st) (.int (toL L st) .nil))) := by
 have T0 := Hh (Env.start w)
 by_cases hz : Zk L wTo st = 4
 · have e1 : toS L st = Jl L (Zm L wTo st) := if_pos hz
   have e2 : toL L st = Zbn L (Zm L wTo st) := if_pos hz
   have e3 : ((Zk L wTo st : Int) == 4) = true := by rw [hz]; rfl
   have E1 := Hh (And.intro e1 e2)
   clear e1 e2 hz
   go_enter Tryz.func76, Tryz.ntmps76
   go_wp2_with (first
 | ((with_reducible refine Zf 1 ?_); refine Zs T0.out 62 _ (vs) rfl rfl rfl ?_; intro w1 g0 t1
    have T1 := Hh (t1)
    clear t1)
 | ((with_reducible refine Zf 2 ?_); refine Zc T1.out 62 _ rfl rfl z_P ?_; intro w2 g1 t2
    have T2 := Hh (t2)
    clear t2)
 | ((with_reducible refine Zf 3 ?_); refine Zc T2.out 41 _ rfl rfl z_T ?_; intro w3 g2 t3
    have T3 := Hh (t3)
    clear t3)
 | ((with_reducible refine Zf 10 ?_); refine Zb 62 _ 62 g0 _ (T3.out.get 0 rfl) Zp (Ze hp.len) rfl rfl rfl ?_)
 | (go_at_call 47; refine (qmustB _ r K _ L st vs wTo 4 4 _ rfl rfl (ho.below T3.out.below) hp rfl (by decide)).mono ?_; rintro e w4 ⟨v4, rfl, h4, b4⟩
    have T4 := Hh (T3.out.call b4)
    clear b4)
 | ((with_reducible refine Zf 4 ?_); refine Zc T4.out 62 _ rfl rfl z_P ?_; intro w5 g3 t5
    have T5 := Hh (t5)
    clear t5)
 | ((with_reducible refine Zj 4 13 ?_); refine Za 62 _ _ 62 g3 _ (v4) (T5.out.get 3 rfl) h4.len (Ze h4.len) h4.one rfl rfl rfl rfl rfl ?_
    intro w6 p6
    have T6 := Hh (T5.out.put 3 rfl p6)
    clear p6)
 | ((with_reducible refine Zf 6 ?_); refine Zc T6.out 41 _ rfl rfl z_T ?_; intro w7 g4 t7
    have T7 := Hh (t7)
    clear t7)
 | ((with_reducible refine Zj 6 16 ?_); refine Za 41 _ _ 41 g4 _ ([.int .i64 (Zk L wTo st : Int), .int .i64 0]) (T7.out.get 4 rfl) rfl Vd (by simp [Value.oneCell']) rfl rfl rfl rfl rfl ?_
    intro w8 p8
    have T8 := Hh (T7.out.put 4 rfl p8)
    clear p8)
 | ((with_reducible refine Zf 20 ?_); refine Zb 62 _ 62 g3 _ (T8.out.get 3 rfl) Zp (Ze h4.len) rfl rfl rfl ?_)
 | (go_at_call 22; refine (qnumber _ r K L _ v4 (ho.below T8.out.below) h4).mono ?_; rintro e w9 ⟨v9, rfl, h9, b9⟩
    have T9 := Hh (T8.out.call b9)
    clear b9)
 | ((with_reducible refine Zf 7 ?_); refine Zc T9.out 62 _ rfl rfl z_P ?_; intro w10 g5 t10
    have T10 := Hh (t10)
    clear t10)
 | ((with_reducible refine Zj 7 22 ?_); refine Za 62 _ _ 62 g5 _ (v9) (T10.out.get 5 rfl) h9.len (Ze h9.len) h9.one rfl rfl rfl rfl rfl ?_
    intro w11 p11
    have T11 := Hh (T10.out.put 5 rfl p11)
    clear p11)
 | ((with_reducible refine Zj 25 24 ?_); refine Zl 3 _ _ 41 g4 1 [.int .i64 (Zk L wTo st : Int)] (.int .i64 0) (.int .i64 (Zbn L (Zm L wTo st))) [] (T11.out.get 4 rfl) rfl Yd rfl rfl rfl rfl rfl rfl ?_
    intro w12 p12
    have T12 : Hid (Env w [(g0, 62, vs), (g1, 62, [.slice none 0 0, .int .i64 0, .int .i64 0, .int .i64 0, .int .i64 0, .int .i64 0]), (g2, 41, [.int .i64 0, .int .i64 0]), (g3, 62, v4), (g4, 41, [.int .i64 (Zk L wTo st : Int), .int .i64 (Zbn L (Zm L wTo st))]), (g5, 62, v9)] [] [] w12) := Hh (T11.out.put 4 rfl p12)
    clear p12))
   refine ret2 Vu (by kernel_rfl) (by kernel_rfl) (by kernel_rfl) (by kernel_rfl) (by kernel_rfl) (by kernel_rfl) (by kernel_rfl) (by kernel_rfl) rfl rfl rfl rfl rfl rfl rfl rfl rfl rfl g5 g4 g1 g2 (v9) ([.int .i64 (Zk L wTo st : Int), .int .i64 (Zbn L (Zm L wTo st))]) ([.slice none 0 0, .int .i64 0, .int .i64 0, .int .i64 0, .int .i64 0, .int .i64 0]) ([.int .i64 0, .int .i64 0]) (T12.out.get 5 rfl) (T12.out.get 4 rfl) (T12.out.get 1 rfl) (T12.out.get 2 rfl) h9.len rfl h9.one (by simp [Value.oneCell']) (T12.out.ne 5 1 (by decide) rfl rfl) (T12.out.ne 5 2 (by decide) rfl rfl) (T12.out.ne 4 1 (by decide) rfl rfl) (T12.out.ne 4 2 (by decide) rfl rfl) (T12.out.ne 1 2 (by decide) rfl rfl) Zp (Ze h9.len) row_to Vd rfl rfl rfl rfl rfl rfl ?_
   intro wz hR
   have HZ := Hh hR
   clear hR
   go_wp2
   obtain ⟨dz, bz⟩ := T12.out.ret2 1 2 rfl rfl HZ.out
   refine Yt 2 62 3 41 62 41 _ _ _ _ rfl HZ.out.one HZ.out.two Zp (Ze h9.len) row_to Vd rfl rfl rfl ?_
   rw [E1.out.1, E1.out.2]
   exact ⟨_, _, rfl, h9, ⟨_, rfl, _, rfl, rfl⟩, bz⟩
 · have e1 : toS L st = Zm L wTo st := if_neg hz
   have e2 : toL L st = 0 := if_neg hz
   have e3 : ((Zk L wTo st : Int) == 4) = false := by rw [beq_eq_false_iff_ne]; omega
   have E1 := Hh (And.intro e1 e2)
   clear e1 e2 hz
   go_enter Tryz.func76, Tryz.ntmps76
   go_wp2_with (first
 | ((with_reducible refine Zf 1 ?_); refine Zs T0.out 62 _ (vs) rfl rfl rfl ?_; intro w1 g0 t1
    have T1 := Hh (t1)
    clear t1)
 | ((with_reducible refine Zf 2 ?_); refine Zc T1.out 62 _ rfl rfl z_P ?_; intro w2 g1 t2
    have T2 := Hh (t2)
    clear t2)
 | ((with_reducible refine Zf 3 ?_); refine Zc T2.out 41 _ rfl rfl z_T ?_; intro w3 g2 t3
    have T3 := Hh (t3)
    clear t3)
 | ((with_reducible refine Zf 10 ?_); refine Zb 62 _ 62 g0 _ (T3.out.get 0 rfl) Zp (Ze hp.len) rfl rfl rfl ?_)
 | (go_at_call 47; refine (qmustB _ r K _ L st vs wTo 4 4 _ rfl rfl (ho.below T3.out.below) hp rfl (by decide)).mono ?_; rintro e w4 ⟨v4, rfl, h4, b4⟩
    have T4 := Hh (T3.out.call b4)
    clear b4)
 | ((with_reducible refine Zf 4 ?_); refine Zc T4.out 62 _ rfl rfl z_P ?_; intro w5 g3 t5
    have T5 := Hh (t5)
    clear t5)
 | ((with_reducible refine Zj 4 13 ?_); refine Za 62 _ _ 62 g3 _ (v4) (T5.out.get 3 rfl) h4.len (Ze h4.len) h4.one rfl rfl rfl rfl rfl ?_
    intro w6 p6
    have T6 := Hh (T5.out.put 3 rfl p6)
    clear p6)
 | ((with_reducible refine Zf 6 ?_); refine Zc T6.out 41 _ rfl rfl z_T ?_; intro w7 g4 t7
    have T7 := Hh (t7)
    clear t7)
 | ((with_reducible refine Zj 6 16 ?_); refine Za 41 _ _ 41 g4 _ ([.int .i64 (Zk L wTo st : Int), .int .i64 0]) (T7.out.get 4 rfl) rfl Vd (by simp [Value.oneCell']) rfl rfl rfl rfl rfl ?_
    intro w8 p8
    have T8 : Hid (Env w [(g0, 62, vs), (g1, 62, [.slice none 0 0, .int .i64 0, .int .i64 0, .int .i64 0, .int .i64 0, .int .i64 0]), (g2, 41, [.int .i64 0, .int .i64 0]), (g3, 62, v4), (g4, 41, [.int .i64 (Zk L wTo st : Int), .int .i64 0])] [] [] w8) := Hh (T7.out.put 4 rfl p8)
    clear p8))
   refine ret2 Vu (by kernel_rfl) (by kernel_rfl) (by kernel_rfl) (by kernel_rfl) (by kernel_rfl) (by kernel_rfl) (by kernel_rfl) (by kernel_rfl) rfl rfl rfl rfl rfl rfl rfl rfl rfl rfl g3 g4 g1 g2 (v4) ([.int .i64 (Zk L wTo st : Int), .int .i64 0]) ([.slice none 0 0, .int .i64 0, .int .i64 0, .int .i64 0, .int .i64 0, .int .i64 0]) ([.int .i64 0, .int .i64 0]) (T8.out.get 3 rfl) (T8.out.get 4 rfl) (T8.out.get 1 rfl) (T8.out.get 2 rfl) h4.len rfl h4.one (by simp [Value.oneCell']) (T8.out.ne 3 1 (by decide) rfl rfl) (T8.out.ne 3 2 (by decide) rfl rfl) (T8.out.ne 4 1 (by decide) rfl rfl) (T8.out.ne 4 2 (by decide) rfl rfl) (T8.out.ne 1 2 (by decide) rfl rfl) Zp (Ze h4.len) row_to Vd rfl rfl rfl rfl rfl rfl ?_
   intro wz hR
   have HZ := Hh hR
   clear hR
   go_wp2
   obtain ⟨dz, bz⟩ := T8.out.ret2 1 2 rfl rfl HZ.out
   refine Yt 2 62 3 41 62 41 _ _ _ _ rfl HZ.out.one HZ.out.two Zp (Ze h4.len) row_to Vd rfl rfl rfl ?_
   rw [E1.out.1, E1.out.2]
   exact ⟨_, _, rfl, h4, ⟨_, rfl, _, rfl, rfl⟩, bz⟩
end Go.Proofs.YtgfkimknnbpmnaaGreat
namespace Go.Proofs.YtgfkimknnbpmnaaGreat
open Go Go.RowKit
set_option linter.unusedVariables false
set_option linter.unusedSimpArgs false
theorem ret3 {P : Program} {id : Nat} {Q : Exit → Act → World → Prop} {a : Act} {w : World} {o0 o1 o2 o3 o4 : Oper} (hm : P.follows .mixedOrders = true)
   (cs : Region.noSelect #[o0, o1, o2, o3, o4] = true) (cf0 : Region.free .any #[o0, o1, o2, o3, o4] (Array.replicate 5 false) 0 = true) (cr0 : (Region.ready .any #[o0, o1, o2, o3, o4] (Array.replicate 5 false)).contains 0 = true)
   (cf2 : Region.free .any #[o0, o1, o2, o3, o4] ((Array.replicate 5 false).setIfInBounds 0 true) 2 = true) (cr2 : (Region.ready .any #[o0, o1, o2, o3, o4] ((Array.replicate 5 false).setIfInBounds 0 true)).contains 2 = true)
   (c1 : Region.ready .any #[o0, o1, o2, o3, o4] (((Array.replicate 5 false).setIfInBounds 0 true).setIfInBounds 2 true) = [1])
   (c3 : Region.ready .any #[o0, o1, o2, o3, o4] ((((Array.replicate 5 false).setIfInBounds 0 true).setIfInBounds 2 true).setIfInBounds 1 true) = [3])
   (c4 : Region.ready .any #[o0, o1, o2, o3, o4] (((((Array.replicate 5 false).setIfInBounds 0 true).setIfInBounds 2 true).setIfInBounds 1 true).setIfInBounds 3 true) = [4])
   (c5 : Region.ready .any #[o0, o1, o2, o3, o4] ((((((Array.replicate 5 false).setIfInBounds 0 true).setIfInBounds 2 true).setIfInBounds 1 true).setIfInBounds 3 true).setIfInBounds 4 true) = [])
   {T1 T2 : TypeId} {x1 x2 y1 y2 z1 z2 : Operand} (h0 : o0.op = .load T1 x1) (h2 : o2.op = .load T2 x2) (h3 : o3.op = .store T1 y1 z1) (h4 : o4.op = .store T2 y2 z2)
   (n0 : o0.guard = none) (n1 : o1.guard = none) (n2 : o2.guard = none) (n3 : o3.guard = none) (n4 : o4.guard = none) (k3 : o3.dst = none) (k4 : o4.dst = none)
   (g1 g2 g3 g4 : Nat) {t1 t2 t3 t4 : TypeId} (vs us old3 old4 : List Value) (W1 : Zg w g1 t1 vs.toArray) (W2 : Zg w g2 t2 us.toArray) (W3 : Zg w g3 t3 old3.toArray) (W4 : Zg w g4 t4 old4.toArray)
   (f : FuncId) (args : Array Value) (R : List Value → Prop)
   (hrun : ∀ x, (execOp ((a.put o0.dst (.agg vs.toArray)).put o2.dst (.agg us.toArray)).eval o1).run P x = .ok (.enter f args) x)
   (hc : Calls P f args w.drew fun e w'' => ∃ vs' : List Value, e = .returned (.agg vs'.toArray) ∧ R vs' ∧ Below w.drew.heap.size w.drew w'')
   (hl3 : ∀ vs', R vs' → vs'.length = old3.length) (hl4 : us.length = old4.length) (ho1 : ∀ vs', R vs' → ∀ v ∈ vs', v.oneCell' = true) (ho2 : ∀ v ∈ us, v.oneCell' = true)
   (d13 : g1 ≠ g3) (d14 : g1 ≠ g4) (d23 : g2 ≠ g3) (d24 : g2 ≠ g4) (d34 : g3 ≠ g4) (hvl : vs.length = old3.length)
   (hu1 : (P.underlying T1).map TypeDesc.isRow = some true) (hi1 : (P.info? T1).map (·.size) = some vs.length) (hu2 : (P.underlying T2).map TypeDesc.isRow = some true) (hi2 : (P.info? T2).map (·.size) = some us.length)
   (e1 : a.eval x1 = .pointer (some ⟨g1, 0, none⟩)) (e2 : (a.put o0.dst (.agg vs.toArray)).eval x2 = .pointer (some ⟨g2, 0, none⟩))
   (e3 : ∀ v, (((a.put o0.dst (.agg vs.toArray)).put o2.dst (.agg us.toArray)).put o1.dst v).eval y1 = .pointer (some ⟨g3, 0, none⟩)) (e4 : ∀ v, (((a.put o0.dst (.agg vs.toArray)).put o2.dst (.agg us.toArray)).put o1.dst v).eval z1 = v)
   (e5 : ∀ v, (((a.put o0.dst (.agg vs.toArray)).put o2.dst (.agg us.toArray)).put o1.dst v).eval y2 = .pointer (some ⟨g4, 0, none⟩)) (e6 : ∀ v, (((a.put o0.dst (.agg vs.toArray)).put o2.dst (.agg us.toArray)).put o1.dst v).eval z2 = .agg us.toArray)
   (h : ∀ vs' w', R vs' → Ret2 w w' g3 g4 t3 t4 vs' us → Q .normal (((a.put o0.dst (.agg vs.toArray)).put o2.dst (.agg us.toArray)).put o1.dst (.agg vs'.toArray)) w') : (Code.region id #[o0, o1, o2, o3, o4] true).wp P Q a w := by
 obtain ⟨d1, hu1, hr1⟩ := Option.map_eq_some_iff.1 hu1
 obtain ⟨d2, hu2, hr2⟩ := Option.map_eq_some_iff.1 hu2
 refine wp_region_noPanic (wp_region_held_drew (S := fun x => Zg x g1 t1 vs.toArray ∧ Zg x g2 t2 us.toArray) hm ⟨W1.drew, W2.drew⟩ fun hS => ?_)
 have rg : ∀ {x : World} {g : Nat} {t : TypeId} {l : List Value}, Zg x g t l.toArray → x.rangeAt g 0 l := fun {x g t l} hx => Zg.range (a := []) (b := l) (c := []) (by simpa using hx)
 refine wpAnyH_take (i := 0) (oi := o0) (v := .agg vs.toArray) rfl cs cf0 cr0 (fun _ _ _ h => h) (yieldsIf_load_mid (Yv n0) T1 x1 h0 g1 0 e1 vs d1 (fun x hx => rg hx.1) hu1 hr1 hi1) hS ?_
 refine wpAnyH_take (i := 2) (oi := o2) (v := .agg us.toArray) rfl cs cf2 cr2 (fun _ _ _ h => h) (yieldsIf_load_mid (Yv n2) T2 x2 h2 g2 0 e2 us d2 (fun x hx => rg hx.2) hu2 hr2 hi2) hS ?_
 refine wpAnyH_ready (rs := [1]) c1 (by simp) (AllReadyH.cons (o := o1) rfl (fun K hK => ?_) AllReadyH.nil)
 rw [if_pos (Yv n1)]
 unfold Oper.wp
 rw [hrun, Oper.upon_enter]
 refine hc.mono fun e w1 hh => ?_
 obtain ⟨vs', rfl, hR, hB⟩ := hh
 have kB := Zz.of_below (S := fun _ => False) hB
 have V1 := kB.whole W1.drew not_false
 have V2 := kB.whole W2.drew not_false
 have V3 := kB.whole W3.drew not_false
 have V4 := kB.whole W4.drew not_false
 refine hK.out _ _ ⟨V1, V2⟩ fun hS1 => ?_
 have th : ∀ {x : World} {g : Nat} {t : TypeId} {l : List Value}, Zg x g t l.toArray → x.there g 0 l.length := fun {x g t l} hx => Zg.there (a := []) (b := l) (c := []) (by simpa using hx)
 have p3 : Zg (w1.setCells g3 0 vs') g3 t3 vs'.toArray := by
   have e := Zg.setCells (g := g3) (t := t3) [] vs' old3 [] w1 (hl3 _ hR) (by simpa using V3)
   simpa using e
 have k3' := Zz.setCells (S := fun k => k = g3) (g := g3) rfl vs' 0 (Zz.refl _ w1)
 have q4 : Zg (w1.setCells g3 0 vs') g4 t4 old4.toArray := k3'.whole V4 (Ne.symm d34)
 have p4 : Zg ((w1.setCells g3 0 vs').setCells g4 0 us) g4 t4 us.toArray := by
   have e := Zg.setCells (g := g4) (t := t4) [] us old4 [] (w1.setCells g3 0 vs') hl4 (by simpa using q4)
   simpa using e
 have k4' := Zz.setCells (S := fun k => k = g4) (g := g4) rfl us 0 (Zz.refl _ (w1.setCells g3 0 vs'))
 refine wpAnyH_ready (rs := [3]) c3 (by simp) (AllReadyH.cons (o := o3) rfl (fun K hK => ?_) AllReadyH.nil)
 rw [if_pos (Yv n3)]
 refine wp_store_mid T1 y1 z1 h3 g3 0 vs'.toArray (e3 _) (e4 _) (by rw [List.size_toArray, hl3 _ hR]; exact th V3) (by rw [List.size_toArray, hl3 _ hR, ← hvl]; exact hi1) (all_oneCell_toArray (ho1 _ hR)) ?_
 rw [k3]
 refine hK.out _ _ ⟨k3'.whole V1 d13, k3'.whole V2 d23⟩ fun hS3 => ?_
 refine wpAnyH_ready (rs := [4]) c4 (by simp) (AllReadyH.cons (o := o4) rfl (fun K hK => ?_) AllReadyH.nil)
 rw [if_pos (Yv n4)]
 refine wp_store_mid T2 y2 z2 h4 g4 0 us.toArray (e5 _) (e6 _) (by rw [List.size_toArray, hl4]; exact th q4) (by simpa using hi2) (all_oneCell_toArray ho2) ?_
 rw [k4]
 refine hK.out _ _ ⟨k4'.whole (k3'.whole V1 d13) d14, k4'.whole (k3'.whole V2 d23) d24⟩ fun hS4 => ?_
 refine wpAnyH_done c5 ?_ _
 refine h _ _ hR ⟨k4'.whole p3 d34, p4, ?_⟩
 exact (Zz.drew (Zz.refl _ w)).trans ((kB.mono fun k e => e.elim).trans ((k3'.mono fun k e => .inl e).trans (k4'.mono fun k e => .inr e)))
end Go.Proofs.YtgfkimknnbpmnaaGreat
