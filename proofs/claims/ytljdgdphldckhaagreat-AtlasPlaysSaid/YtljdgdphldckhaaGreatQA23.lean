/-
  Texts Pe. No conditions but those that each theorem names.
-/
import Derived.Test.YtljdgdphldckhaaGreatQA22
set_option maxRecDepth 20000
set_option maxHeartbeats 12800000
namespace Go.Proofs.YtljdgdphldckhaaGreat
open Go.Great Go.ChangeShapes Go.WideShapes Go.ChangeAt Go.RowKit
set_option linter.unusedVariables false
set_option linter.unusedSimpArgs false
structure PE (w0 : World) (b : Nat) (st : List Int × Bool) (own : List Bk) (x : World) : Prop where
 ex : ∃ a v : Value, Env w0 ((b, 162, [a, v, .bool st.2]) :: own) [⟨v, 5, 1, st.1.length, st.1.map (Value.int .u8)⟩] [] x ∧ (a = .pointer none ∨ a = .pointer (some ⟨b, 0, none⟩))
def QPost (w0 : World) (b : Nat) (st : List Int × Bool) (own : List Bk) (e : Ending) (y : World) : Prop := e = .returned (.tuple #[]) ∧ PE w0 b st own y
section
variable {w0 x y : World} {b : Nat} {st : List Int × Bool} {own : List Bk}
theorem PE.perm {own2 : List Bk} (h : PE w0 b st own x) (p : own.Perm own2) : PE w0 b st own2 x := by
 obtain ⟨a, v, h, u⟩ := h
 exact ⟨a, v, h.perm (p.cons _), u⟩
theorem PE.box (h : PE w0 b st own x) (t : TypeId) (vs : List Value) : PE w0 b st ((x.heap.size, t, vs) :: own) (x.alloc (.cells vs.toArray t)) := by
 obtain ⟨a, v, h, u⟩ := h
 refine ⟨a, v, (h.box t vs).perm ?_, u⟩
 exact (List.perm_append_singleton _ own).cons _
theorem PE.call (h : PE w0 b st own x) (hb : Below x.heap.size x y) : PE w0 b st own y := by
 obtain ⟨a, v, h, u⟩ := h
 exact ⟨a, v, h.call hb, u⟩
theorem PE.drew (h : PE w0 b st own x) : PE w0 b st own x.drew := h.call ⟨rfl, rfl, rfl, Nat.le_refl _, fun _ _ => rfl⟩
theorem PE.drewN (h : PE w0 b st own x) (n : Nat) : PE w0 b st own (x.drewN n) := h.call ⟨rfl, rfl, rfl, Nat.le_refl _, fun _ _ => rfl⟩
theorem PE.get (h : PE w0 b st own x) (i : Nat) {g : Nat} {t : TypeId} {vs : List Value} (hi : own[i]? = some (g, t, vs)) : Zb x g t vs.toArray := by
 obtain ⟨a, v, h, u⟩ := h
 exact h.get (i + 1) (by simpa using hi)
theorem PE.put (h : PE w0 b st own x) (i : Nat) {g : Nat} {t : TypeId} {old ys : List Value} (hi : own[i]? = some (g, t, old)) (p : Put x y g t ys) : PE w0 b st (own.set i (g, t, ys)) y := by
 obtain ⟨a, v, h, u⟩ := h
 exact ⟨a, v, h.put (i + 1) (by simpa using hi) p, u⟩
theorem PE.tail {p : Bk} (h : PE w0 b st (p :: own) x) : PE w0 b st own x := by
 obtain ⟨a, v, h, u⟩ := h
 have h2 := h.perm (cs := ((b, 162, [a, v, .bool st.2]) :: own) ++ [p]) ((List.perm_append_singleton p own).symm.cons _)
 exact ⟨a, v, Env.less (ts := []) (us := []) h2, u⟩
theorem PE.below (h : PE w0 b st own x) : Below w0.heap.size w0 x := by
 obtain ⟨a, v, h, u⟩ := h
 exact h.below
theorem PE.inside (h : PE w0 b st own x) (i : Nat) {g : Nat} {t : TypeId} {vs : List Value} (hi : own[i]? = some (g, t, vs)) : g < x.heap.size := (h.get i hi).inside
theorem PE.print {P : Program} {f : Nat} {args : Array Value} {st2 : List Int × Bool} {x2 : World} (h : PE w0 b st own x)
   (hc : ∀ a v, Uk 162 [.bool st.2] w0.heap.size x b a v st.1 → w0.heap.size ≤ x.heap.size → Calls P f args x2 (FlPost w0.heap.size x b v st2)) : Calls P f args x2 (QPost w0 b st2 own) := by
 obtain ⟨a, v, h, u⟩ := h
 have h0 : (b, 162, [a, v, .bool st.2]) ∈ (b, 162, [a, v, Value.bool st.2]) :: own := by simp
 have hr := h.row _ (List.mem_singleton.2 rfl)
 have ha := h.apart _ (List.mem_singleton.2 rfl)
 have hb : Uk 162 [.bool st.2] w0.heap.size x b a v st.1 := ⟨h.at_ _ h0, hr, h.lo _ h0, ha _ h0, u⟩
 refine (hc a v hb h.below.size).mono ?_
 rintro e y ⟨rfl, a2, v2, h2, s2⟩
 have hn := List.nodup_cons.1 h.nod
 refine ⟨rfl, a2, v2, ⟨fun c hc => ?_, fun c hc => ?_, h.nod, fun r hr => ?_, fun r hr c hc => ?_, List.pairwise_singleton _ _, (fun _ h => nomatch h), ?_⟩, h2.used⟩
 · rcases List.mem_cons.1 hc with rfl | hc
   · exact h2.whole
   · refine s2.keeps.whole (h.at_ c (List.mem_cons_of_mem _ hc)) fun q => ?_
     rcases q with q | q
     · exact hn.1 (List.mem_map.2 ⟨c, hc, q⟩)
     · exact ha c (List.mem_cons_of_mem _ hc) q
 · rcases List.mem_cons.1 hc with rfl | hc
   · have := h.lo _ h0; exact this
   · exact h.lo c (List.mem_cons_of_mem _ hc)
 · cases List.mem_singleton.1 hr; exact h2.row
 · cases List.mem_singleton.1 hr
   rcases List.mem_cons.1 hc with rfl | hc
   · exact h2.far
   · intro q
     rcases s2.fresh _ q with q | q
     · exact ha c (List.mem_cons_of_mem _ hc) q
     · have := (h.at_ c (List.mem_cons_of_mem _ hc)).inside; omega
 · exact h.below.trans (s2.keeps.below h.below.size fun k q => by
     rcases q with rfl | q
     · exact h.lo _ h0
     · exact (hr.lt k q).1)
variable {P : Program} {ops : Array Oper} {rest : List Oper} {o : Oper} {a : Act} {Q : Exit → Act → World → Prop}
theorem Ya (h : PE w0 b st own x) (t : TypeId) (v : Operand) (vs : List Value) (hg : o.guard = none) (ho : o.op = .box t v) (hv : a.eval v = .agg vs.toArray)
   (hn : ∀ y g, PE w0 b st ((g, t, vs) :: own) y → wpList P ops Q rest (a.put o.dst (.pointer (some ⟨g, 0, none⟩))) y) : wpList P ops Q (o :: rest) a x :=
 wpList_boxTo hg t v ho o.dst rfl x.heap.size rfl vs.toArray (by rw [hv]; rfl) (hn _ _ (h.box t vs))
theorem Vg (h : PE w0 b st own x) (t : TypeId) (vs : List Value) (hg : o.guard = none) (ho : o.op = .alloc t) (hz : (P.info? t).map (fun i => i.zero.map Value.cells) = some (some vs.toArray))
   (hn : ∀ y g, PE w0 b st ((g, t, vs) :: own) y → wpList P ops Q rest (a.put o.dst (.pointer (some ⟨g, 0, none⟩))) y) : wpList P ops Q (o :: rest) a x := by
 obtain ⟨i, hi, hzz⟩ := Option.map_eq_some_iff.1 hz
 obtain ⟨z, hz1, hz2⟩ := Option.map_eq_some_iff.1 hzz
 refine wpList_runTo hg o.dst rfl (.pointer (some ⟨x.heap.size, 0, none⟩)) (x.alloc (.cells vs.toArray t)) ?_ (hn _ _ (h.box t vs))
 unfold execOp
 rw [ho]
 simp [Instr.alloc, zeroValue, typeInfo, hi, hz1, newVar, newRow, hz2, Sem.run_bind, Sem.run_pure, run_newObj_alloc]
end
def Yk (st : List Int × Bool) (k : List ByteArray) : Prop := st.1.length + lenB k ≤ 10000000000
theorem Yk.app {st : List Int × Bool} {k l : List ByteArray} (h : Yk st (k ++ l)) : Yk st k ∧ Yk (Zp st k) l := by
 unfold Yk at *
 rw [lenB_app] at h
 have := putsB_len k st
 omega
theorem Yk.first {st : List Int × Bool} {k l : List ByteArray} (h : Yk st (k ++ l)) : Yk st k := h.app.1
theorem Yk.next {st : List Int × Bool} {k l : List ByteArray} (h : Yk st (k ++ l)) : Yk (Zp st k) l := h.app.2
section
variable {w0 x : World} {b : Nat} {st : List Int × Bool} {own : List Bk}
theorem pPut (h : PE w0 b st own x) (ts : List ByteArray) (q n c : Nat) (hr : Yk st ts) (ht : ts.length ≤ 1000) (hq : q = x.heap.size) (hn : n = ts.length) :
   Calls Tryz.prog 107 #[.pointer (some ⟨b, 0, none⟩), .slice (some ⟨q, 0, none⟩) n c] (x.alloc (.cells (Zaf ts) 9)) (QPost w0 b (Zp st ts) own) :=
 h.print fun a v hb hB => prPutB _ x b a v st ts q n c hb hB hr ht hq hn
theorem pFilter (h : PE w0 b st own x) (f : Fl) (hv : VFl f) (hr : Yk st (kFl f)) :
   Calls Tryz.prog 119 #[.pointer (some ⟨b, 0, none⟩), .agg #[.int .i64 f.kind, .int .i64 f.op, .int .i64 f.n, .string f.name]] x (QPost w0 b (Zp st (kFl f)) own) :=
 h.print fun a v hb hB => prFilter _ x b a v st f hv hb hB hr
end
end Go.Proofs.YtljdgdphldckhaaGreat
