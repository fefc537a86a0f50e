/-
  Texts Plays. No conditions but those that each theorem names.
-/
import Derived.Deep.QuietTactic
import Derived.BigQuiet
import Derived.Test.YtdhmklnfiaahhaaGreatQP35
namespace Go.Proofs.YtdhmklnfiaahhaaGreat
open Go.Great Go.ChangeShapes Go.WideShapes Go.ChangeAt Go.RowKit
set_option maxRecDepth 20000
set_option maxHeartbeats 12800000
set_option linter.unusedVariables false
set_option linter.unusedSimpArgs false
theorem Env.got {w x y : World} {bs : List Bk} {rs : List Rw} {ts : List (Ds × List Value)} (h : Env w bs rs ts x) (b : Below x.heap.size x y) {g : Nat} {t : TypeId} {vs : List Value} (hg : x.heap.size ≤ g) (hw : Zb y g t vs.toArray) : Env w (bs ++ [(g, t, vs)]) rs ts y := by
 have h' := h.call b
 refine ⟨fun c hc => ?_, fun c hc => ?_, ?_, h'.row, fun r hr c hc => ?_, h.rapart, fun u hu => ?_, h'.below⟩
 · rcases List.mem_append.1 hc with hc | hc
   · exact h'.at_ c hc
   · cases List.mem_singleton.1 hc; exact hw
 · rcases List.mem_append.1 hc with hc | hc
   · exact h.lo c hc
   · cases List.mem_singleton.1 hc; exact Nat.le_trans h.below.size hg
 · rw [List.map_append, List.nodup_append]
   refine ⟨h.nod, by simp, fun a ha b hb => ?_⟩
   obtain ⟨c, hc, rfl⟩ := List.mem_map.1 ha
   simp at hb
   subst hb
   have := (h.at_ c hc).inside
   omega
 · rcases List.mem_append.1 hc with hc | hc
   · exact h.apart r hr c hc
   · cases List.mem_singleton.1 hc
     intro q
     have := ((h.row r hr).lt _ q).2
     omega
 · refine (h.deep u hu).keeps (Zo.of_below (S := fun _ => False) b) fun k hk hn => ⟨id, hn.1, fun c hc => ?_, hn.2.2⟩
   rcases List.mem_append.1 hc with hc | hc
   · exact hn.2.1 c hc
   · cases List.mem_singleton.1 hc
     show g ≠ k
     omega
theorem one_card {N : Nat → Prop} {w : World} {c : Ca} {v0 v1 : Value} (d : Zi N w (⟨[c], []⟩ : Fi).ds [v0, v1]) : ∃ gc kc B kb, v0 = .slice (some ⟨gc, 0, none⟩) 1 kc ∧ v1 = .slice B 0 kb := by
 obtain ⟨A, kc, xs, _, e, _, hw, hd, B, kb, ys, _, rfl, _, _, _, rfl⟩ := d
 injection e with e1 e2
 injection e2 with e2 _
 have hl := hd.len
 have hl : xs.length = 6 := hl
 obtain ⟨g, rfl, _⟩ := hw.reads (by omega)
 exact ⟨g, kc, B, kb, e1, e2⟩
theorem one_cardAt {N : Nat → Prop} {w : World} {c : Ca} {gc kc : Nat} {v1 : Value} (d : Zi N w (⟨[c], []⟩ : Fi).ds [.slice (some ⟨gc, 0, none⟩) 1 kc, v1]) : ∃ ys, ys.length = 6 ∧ w.rangeAt gc 0 ys ∧ Zi N w c.ds ys ∧ w.cell? ⟨gc, 0, none⟩ = some (.string c.name) := by
 obtain ⟨A, kc2, xs, _, e, _, hw, hd, _⟩ := d
 injection e with e1 e2
 injection e1 with e1 _ _
 have hd2 : Zi N w (c.ds.app .nil) xs := hd
 rw [Ds.app_nil] at hd2
 have hl : xs.length = 6 := hd2.len
 subst e1
 obtain ⟨g, e3, _, hc⟩ := hw.reads (by omega)
 injection e3 with e3
 injection e3 with e3 _ _
 subst e3
 obtain ⟨r, er, _⟩ := id hd2
 refine ⟨xs, hl, fun j v hv => ?_, hd2, ?_⟩
 · rw [Nat.zero_add, hc j (List.getElem?_eq_some_iff.1 hv).1]; exact hv
 · rw [hc 0 (by omega), er]; rfl
theorem one_card6 {N : Nat → Prop} {w : World} {c : Ca} {gc kc : Nat} {v1 : Value} (d : Zi N w (⟨[c], []⟩ : Fi).ds [.slice (some ⟨gc, 0, none⟩) 1 kc, v1]) : ∃ v : Value, w.cell? ⟨gc, 0, none⟩ = some (.string c.name) ∧ w.cell? ⟨gc, 1, none⟩ = some (.int .i64 c.cost) ∧ w.cell? ⟨gc, 2, none⟩ = some (.int .i64 c.power) ∧ w.cell? ⟨gc, 3, none⟩ = some (.int .i64 c.line) ∧ w.cell? ⟨gc, 4, none⟩ = some (.int .i64 c.col) ∧ w.cell? ⟨gc, 5, none⟩ = some v ∧
   Zi N w c.ds [.string c.name, .int .i64 c.cost, .int .i64 c.power, .int .i64 c.line, .int .i64 c.col, v] := by
 obtain ⟨ys, hl, hr, hd, _⟩ := one_cardAt d
 obtain ⟨_, rfl, _, rfl, _, rfl, _, rfl, _, rfl, A, k, xs, _, rfl, r1, r2, r3, rfl⟩ := id hd
 exact ⟨_, hr 0 _ rfl, hr 1 _ rfl, hr 2 _ rfl, hr 3 _ rfl, hr 4 _ rfl, hr 5 _ rfl, hd⟩
def cardOf (s : ByteArray) : Ca := match (parseF 5 s).1.cards with | c :: _ => c | [] => ⟨⟨#[]⟩, 0, 0, 0, 0, []⟩
def goodB (s nm : ByteArray) : Bool := match parseF 5 s with
 | (⟨[c], []⟩, F) => decide (F = okF) && decide (lCards (-1) 0 [c] = (0, 0, 0)) && decide (strOfNums (Zp ([], false) (kCa c)).1 = s) && decide (lenB (kCa c) ≤ 10000) && decide (s.size ≤ 65536) && decide (c.name = nm)
 | _ => false
def Ul (S M : List ByteArray) (a n : Nat) : Bool := (List.range n).all fun i => goodB (S.getD (a + i) ⟨#[]⟩) (M.getD (a + i) ⟨#[]⟩)
theorem Xn {S M : List ByteArray} {a n : Nat} (h : Ul S M a n = true) {k : Nat} (h1 : a ≤ k) (h2 : k < a + n) : goodB (S.getD k ⟨#[]⟩) (M.getD k ⟨#[]⟩) = true := by
 unfold Ul at h
 rw [List.all_eq_true] at h
 have := h (k - a) (List.mem_range.2 (by omega))
 rwa [show a + (k - a) = k from by omega] at this
theorem twice_one (s : ByteArray) : Uz (Yt [s]) = -1 := by
 unfold Uz
 rw [show (Yt [s]).length = 1 from by rw [Wo]; rfl]
 have h : isF (Yt [s]) 0 = true := by simp [isF, Ur, Jy, Yt, List.findIdx_cons]
 simp [List.range_succ, h]
structure CardOK (s : ByteArray) (c : Ca) : Prop where
 parse : parseF 5 s = (⟨[c], []⟩, okF)
 lint : lCheck ⟨[c], []⟩ = (0, 0, 0)
 text : strOfNums (Zp ([], false) (kCa c)).1 = s
 room : Yk ([], false) (kCa c)
 size : s.size ≤ 65536
 val : VCa c
theorem good_of {s nm : ByteArray} (h : goodB s nm = true) : CardOK s (cardOf s) ∧ (cardOf s).name = nm := by
 have hv := parse_val 5 s
 unfold goodB at h
 unfold cardOf
 obtain ⟨⟨cs, ps⟩, F, hp⟩ : ∃ f F, parseF 5 s = (f, F) := ⟨_, _, rfl⟩
 rw [hp] at h hv ⊢
 match cs, ps, h with
 | [c], [], h =>
   simp only [Bool.and_eq_true, decide_eq_true_eq] at h
   obtain ⟨⟨⟨⟨⟨h1, h2⟩, h3⟩, h4⟩, h5⟩, h6⟩ := h
   refine ⟨⟨by rw [hp, h1], ?_, h3, ?_, h5, (hv h5).1 c (by simp)⟩, h6⟩
   · show orF (lCards (Uz (Yt [_])) 0 [c]) (lPlaces (Uz (Yt [])) 0 []) = _
     rw [twice_one, h2]
     rfl
   · show 0 + lenB (kCa c) ≤ 10000000000; omega
theorem z_fiQ : (Tryz.prog.info? 26).map (fun i => i.zero.map Value.cells) = some (some ([.slice none 0 0, .slice none 0 0] : List Value).toArray) := by kernel_rfl
theorem z_faQ : (Tryz.prog.info? 29).map (fun i => i.zero.map Value.cells) = some (some ([.int .i64 0, .int .i64 0, .int .i64 0] : List Value).toArray) := by kernel_rfl
theorem s_faQ : (Tryz.prog.info? 29).map (·.size) = some 3 := by kernel_rfl
theorem pParse {s : ByteArray} {c : Ca} (h : CardOK s c) (x : World) : Calls Tryz.prog 28 #[.string s] x fun e w' => ∃ gc kc B kb, e = .returned (.tuple #[.agg ([.slice (some ⟨gc, 0, none⟩) 1 kc, .slice B 0 kb] : List Value).toArray, .agg #[.int .i64 0, .int .i64 0, .int .i64 0]]) ∧
   Zi (fun k => x.heap.size ≤ k) w' (⟨[c], []⟩ : Fi).ds [.slice (some ⟨gc, 0, none⟩) 1 kc, .slice B 0 kb] ∧ Below x.heap.size x w' := by
 have hp := xParse s x h.size
 rw [h.parse] at hp
 refine hp.mono ?_
 rintro e y ⟨vs, rfl, d, b⟩
 obtain ⟨v0, v1, rfl⟩ := two_vals vs d.len
 obtain ⟨gc, kc, B, kb, rfl, rfl⟩ := one_card d
 exact ⟨gc, kc, B, kb, rfl, d, b⟩
theorem pLint {s : ByteArray} {c : Ca} (h : CardOK s c) (x : World) (N : Nat → Prop) (vs : List Value) (d : Zi N x (⟨[c], []⟩ : Fi).ds vs) : Calls Tryz.prog 32 #[.agg vs.toArray] x fun e w' => e = .returned (.agg #[.int .i64 0, .int .i64 0, .int .i64 0]) ∧ Below x.heap.size x w' := by
 have hc := lCheck_any ⟨[c], []⟩ (by simp) (by simp) x N vs d
 rw [h.lint] at hc
 exact hc
theorem pText1 {s : ByteArray} {c : Ca} (h : CardOK s c) (x : World) (N : Nat → Prop) (vs : List Value) (d : Zi N x c.ds vs) : Calls Tryz.prog 11 #[.agg vs.toArray] x fun e w' => e = .returned (.string s) ∧ Below x.heap.size x w' := by
 have ht := tCard x N c h.val vs d h.room
 rw [h.text] at ht
 exact ht
end Go.Proofs.YtdhmklnfiaahhaaGreat
