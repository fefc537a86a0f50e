/-
  Texts SynS2, SynN1, SynN2, SynN3, SynN4, SynN5, SynS3, SynR10. No conditions but those that each theorem names.
-/
import Derived.StillTailTactics
import Derived.Test.YtgfkimknnbpmnaaGreatQA31
namespace Go.Proofs.YtgfkimknnbpmnaaGreat
open Go.ChangeShapes Go.WideShapes Go.ChangeAt Go.RowKit
set_option linter.unusedVariables false
set_option linter.unusedSimpArgs false
section
variable {P : Program} {ops : Array Oper} {S : World → Prop} {o : Oper} {a : Act}
theorem Vs {x : Operand} {v : Value} (g : o.guard = none) (ho : o.op = .move x) (e : a.eval x = v) : YieldsIf P ops S o v a :=
 .inl ⟨Yv g, fun w _ => by unfold execOp; rw [ho]; simp [e, Sem.run_pure]⟩
theorem Jm {t e : TypeId} {x y : Operand} {b n c k sz : Nat} (g : o.guard = none) (ho : o.op = .indexAddr t x y) (hx : a.eval x = .slice (some ⟨b, 0, none⟩) n c) (hy : a.eval y = .int .i64 (k : Int)) (hk : k < n)
   (hu : P.underlying t = some (.slice e)) (hs : (P.info? e).map (·.size) = some sz) : YieldsIf P ops S o (.pointer (some ⟨b, k * sz, none⟩)) a :=
 .inl ⟨Yv g, fun w _ => by
   obtain ⟨i, hi, hz⟩ := Option.map_eq_some_iff.1 hs
   unfold execOp
   rw [ho]
   have h0 : (0 : Int) ≤ (k : Int) := by omega
   have h1 : (k : Int) < (n : Int) := by omega
   have h2 : ((k : Int)).toNat = k := by omega
   simp [hx, hy, Instr.indexAt, asIntOf, run_underlying hu, sizeOf, typeInfo, hi, hz, h1, Addr.add_lit, Sem.run_bind, Sem.run_pure]
   intro hle
   omega⟩
theorem Uw {T : TypeId} {x : Operand} {b k : Nat} {ys : List Value} (g : o.guard = none) (ho : o.op = .load T x) (hx : a.eval x = .pointer (some ⟨b, k, none⟩)) (hS : ∀ w, S w → w.rangeAt b k ys)
   (hu : (P.underlying T).map TypeDesc.isRow = some true) (hi : (P.info? T).map (·.size) = some ys.length) : YieldsIf P ops S o (.agg ys.toArray) a := by
 obtain ⟨d, hu, hr⟩ := Option.map_eq_some_iff.1 hu
 exact yieldsIf_load_mid (Yv g) T x ho b k hx ys d hS hu hr hi
end
theorem Jp {w y : World} {b k : Nat} {ys : List Value} (h : w.rangeAt b k ys) (hb : b < w.heap.size) (hy : Below w.heap.size w y) : y.rangeAt b k ys := fun j v hv => by
 have := h j v hv
 rw [← this]
 exact hy.cell (p := ⟨b, k + j, none⟩) hb
theorem still_take {P : Program} {ops : Array Oper} {w : World} {Q : Act → Prop} {a : Act} {o : Oper} {rest : List Oper} {v : Value} (hy : YieldsIf P ops (fun y => y = w) o v a) (h : wpStill P ops w Q rest (a.put o.dst v)) : wpStill P ops w Q (o :: rest) a := by
 unfold wpStill
 rcases hy with ⟨hw, hv⟩ | ⟨hw, rfl⟩
 · rw [if_pos hw]
   unfold Oper.still
   rw [hv w rfl, Oper.stillUpon_value]
   exact h
 · rw [if_neg (by rw [hw]; decide)]
   exact h
def exsDs : List Ex → Ds
 | [] => .nil
 | x :: r => x.ds.app (exsDs r)
theorem Ds.app_nilS : ∀ x : Ds, x.app .nil = x
 | .nil => rfl
 | .int n r => by rw [Ds.app, Ds.app_nilS r]
 | .str s r => by rw [Ds.app, Ds.app_nilS r]
 | .row n cs r => by rw [Ds.app, Ds.app_nilS r]
def Ex.kd : Ex → Int
 | .leaf k _ _ _ _ _ => k
 | .bin _ _ _ => 7
def Ex.nm : Ex → Int
 | .leaf _ n _ _ _ _ => n
 | .bin op _ _ => op
def Ex.se : Ex → Se
 | .leaf _ _ s _ _ _ => s
 | .bin _ _ _ => zSe
def Ex.sd : Ex → Int
 | .leaf _ _ _ d _ _ => d
 | .bin _ _ _ => 0
def Ex.tk : Ex → Int
 | .leaf _ _ _ _ t _ => t
 | .bin _ _ _ => 0
def Ex.tl : Ex → Int
 | .leaf _ _ _ _ _ t => t
 | .bin _ _ _ => 0
def Ex.ks : Ex → List Ex
 | .leaf _ _ _ _ _ _ => []
 | .bin _ l r => [l, r]
theorem Ex.ds_parts (x : Ex) : x.ds = .int x.kd (.int x.nm (x.se.ds.app (.int x.sd (.int x.tk (.int x.tl (.row x.ks.length (exsDs x.ks) .nil)))))) := by
 cases x with
 | leaf k n s d t l => rfl
 | bin op l r => show Ds.int 7 (.int op (zSe.ds.app (.int 0 (.int 0 (.int 0 (.row 2 (l.ds.app r.ds) .nil)))))) = Ds.int 7 (.int op (zSe.ds.app (.int 0 (.int 0 (.int 0 (.row 2 (l.ds.app (r.ds.app .nil)) .nil)))))); rw [Ds.app_nilS]
theorem exs_at {N : Nat → Prop} {w : World} : ∀ {l : List Ex} {xs : List Value}, Zo N w (exsDs l) xs → ∀ (k : Nat) (hk : k < l.length), ∃ pre ys post, xs = pre ++ ys ++ post ∧ pre.length = k * 12 ∧ Zo N w (l[k]'hk).ds ys := by
 intro l
 induction l with
 | nil => intro xs _ k hk; cases hk
 | cons f l ih =>
   intro xs h k hk
   obtain ⟨a, b, rfl, ha, hb⟩ := Zo.split (x := f.ds) h
   cases k with
   | zero => exact ⟨[], a, b, rfl, by simp, ha⟩
   | succ k =>
     obtain ⟨pre, ys, post, rfl, hp, hy⟩ := ih hb k (by simpa using hk)
     refine ⟨a ++ pre, ys, post, by simp, ?_, hy⟩
     rw [List.length_append, ha.len, Ex.ds_len, hp]; omega
theorem ex_at {N : Nat → Prop} {w : World} {A : Option Addr} {l : List Ex} {xs : List Value} (hw : Within N w A xs) (hd : Zo N w (exsDs l) xs) {k : Nat} (hk : k < l.length) :
   ∃ g ys, A = some ⟨g, 0, none⟩ ∧ g < w.heap.size ∧ w.rangeAt g (k * 12) ys ∧ Zo N w (l[k]'hk).ds ys := by
 obtain ⟨pre, ys, post, rfl, hp, hy⟩ := exs_at hd k hk
 have hl : ys.length = 12 := by rw [hy.len, Ex.ds_len]
 obtain ⟨g, hA, hg, hc⟩ := hw.reads (by simp; omega)
 refine ⟨g, ys, hA, hg, fun j v hv => ?_, hy⟩
 have hj : j < ys.length := by rcases Nat.lt_or_ge j ys.length with h | h; exact h; rw [List.getElem?_eq_none h] at hv; cases hv
 have := hc (k * 12 + j) (by simp; omega)
 rw [this, ← hp, List.append_assoc, List.getElem?_append_right (by omega), Nat.add_sub_cancel_left, List.getElem?_append_left hj, hv]
theorem sixS : ∀ (vs : List Value), vs.length = 6 → ∃ a b c d e f, vs = [a, b, c, d, e, f]
 | [a, b, c, d, e, f], _ => ⟨a, b, c, d, e, f, rfl⟩
def SExOK (x : Ex) : Prop := ∀ (w : World) (N M : Nat → Prop) (vs us : List Value), Zo N w x.ds vs → Zo M w x.ds us →
   Calls Tryz.prog 14 #[.agg vs.toArray, .agg us.toArray] w fun e w' => e = .returned (.bool true) ∧ Below w.heap.size w w'
set_option maxRecDepth 20000 in
set_option maxHeartbeats 3200000 in
theorem sExpr1 (x : Ex) (ih : ∀ (k : Nat) (hk : k < x.ks.length), SExOK (x.ks[k]'hk)) : SExOK x := by
 intro w N M vs us h1 h2
 rw [Ex.ds_parts] at h1 h2
 obtain ⟨_, rfl, _, rfl, h1⟩ := h1
 obtain ⟨sv, _, rfl, hsv, h1⟩ := Zo.split (x := x.se.ds) h1
 obtain ⟨_, rfl, _, rfl, _, rfl, A, c, xs, _, rfl, hn, hA, hx, rfl⟩ := h1
 obtain ⟨_, rfl, _, rfl, h2⟩ := h2
 obtain ⟨tv, _, rfl, htv, h2⟩ := Zo.split (x := x.se.ds) h2
 obtain ⟨_, rfl, _, rfl, _, rfl, B, d, ys, _, rfl, _, hB, hy, rfl⟩ := h2
 have hl1 : sv.length = 6 := by rw [hsv.len, Se.ds_len]
 have hl2 : tv.length = 6 := by rw [htv.len, Se.ds_len]
 obtain ⟨s0, s1, s2, s3, s4, s5, rfl⟩ := sixS sv hl1
 obtain ⟨u0, u1, u2, u3, u4, u5, rfl⟩ := sixS tv hl2
 clear hl1 hl2
 have T0 := Hh (Env.start w)
 have HA := Hh (And.intro hA hx)
 have HB := Hh (And.intro hB hy)
 have HS := Hh (And.intro hsv htv)
 have HI := Hh ih
 clear hA hx hB hy hsv htv ih
 generalize x.kd = kd at *
 generalize x.nm = nn at *
 generalize x.se = se at *
 generalize x.sd = sd at *
 generalize x.tk = tk at *
 generalize x.tl = tl at *
 generalize x.ks = ks at *
 obtain ⟨n, hn0⟩ : ∃ n, n = ks.length := ⟨_, rfl⟩
 rw [← hn0] at hn ⊢
 have HN := Hh hn0
 clear hn0
 have hsel : ∀ y, Below w.heap.size w y → Calls Tryz.prog 34 #[.agg #[s0, s1, s2, s3, s4, s5], .agg #[u0, u1, u2, u3, u4, u5]] y fun e w' => e = .returned (.bool true) ∧ Below y.heap.size y w' := fun y hb => sSel se y N M _ _ (HS.out.1.below hb) (HS.out.2.below hb)
 show Calls _ _ #[.agg #[.int .i64 kd, .int .i64 nn, s0, s1, s2, s3, s4, s5, .int .i64 sd, .int .i64 tk, .int .i64 tl, .slice A n c], .agg #[.int .i64 kd, .int .i64 nn, u0, u1, u2, u3, u4, u5, .int .i64 sd, .int .i64 tk, .int .i64 tl, .slice B n d]] _ _
 go_enter Tryz.func14, Tryz.ntmps14
 go_wp2_with (first
 | ((with_reducible refine Zf 2 ?_); refine Zs T0.out 44 _ ([.int .i64 kd, .int .i64 nn, s0, s1, s2, s3, s4, s5, .int .i64 sd, .int .i64 tk, .int .i64 tl, .slice A n c]) rfl rfl rfl ?_; intro w1 g0 t1
    have T1 : Hid (Env w [(g0, 44, [.int .i64 kd, .int .i64 nn, s0, s1, s2, s3, s4, s5, .int .i64 sd, .int .i64 tk, .int .i64 tl, .slice A n c])] [] [] w1) := Hh t1
    clear t1)
 | ((with_reducible refine Zf 3 ?_); refine Zs T1.out 44 _ ([.int .i64 kd, .int .i64 nn, u0, u1, u2, u3, u4, u5, .int .i64 sd, .int .i64 tk, .int .i64 tl, .slice B n d]) rfl rfl rfl ?_; intro w2 g1 t2
    have T2 : Hid (Env w [(g0, 44, [.int .i64 kd, .int .i64 nn, s0, s1, s2, s3, s4, s5, .int .i64 sd, .int .i64 tk, .int .i64 tl, .slice A n c]), (g1, 44, [.int .i64 kd, .int .i64 nn, u0, u1, u2, u3, u4, u5, .int .i64 sd, .int .i64 tk, .int .i64 tl, .slice B n d])] [] [] w2) := Hh t2
    obtain ⟨a0, a1, a2, a3, a4, a5, a6, a7, a8, a9, a10, a11, _⟩ := whole12 (t2.get 0 rfl)
    obtain ⟨b0, b1, b2, b3, b4, b5, b6, b7, b8, b9, b10, b11, _⟩ := whole12 (t2.get 1 rfl)
    clear t2)
 | (go_at_call 34; refine (hsel _ T2.out.below).mono ?_; rintro e w3 ⟨rfl, b3⟩
    have T3 : Hid (Env w [(g0, 44, [.int .i64 kd, .int .i64 nn, s0, s1, s2, s3, s4, s5, .int .i64 sd, .int .i64 tk, .int .i64 tl, .slice A n c]), (g1, 44, [.int .i64 kd, .int .i64 nn, u0, u1, u2, u3, u4, u5, .int .i64 sd, .int .i64 tk, .int .i64 tl, .slice B n d])] [] [] w3) := Hh (T2.out.call b3)
    have a11' := T3.out.cell 0 11 rfl rfl
    have b11' := T3.out.cell 1 11 rfl rfl
    clear b3))
 go_loopw [5] (fun i wr => ∃ m : Nat, i = .int .i64 m ∧ m ≤ n ∧ Env w [(g0, 44, [.int .i64 kd, .int .i64 nn, s0, s1, s2, s3, s4, s5, .int .i64 sd, .int .i64 tk, .int .i64 tl, .slice A n c]), (g1, 44, [.int .i64 kd, .int .i64 nn, u0, u1, u2, u3, u4, u5, .int .i64 sd, .int .i64 tk, .int .i64 tl, .slice B n d])] [] [] wr) (fun i _ => n - (intOf i).toNat)
 case atStart => exact ⟨0, rfl, by omega, T3.out⟩
 case round =>
   obtain ⟨m, rfl, hm, hE⟩ := hrel
   by_cases hml : m < n
   · have hk1 : m < ks.length := by rw [← HN.out]; exact hml
     obtain ⟨x, xv, rfl, hx1, xr, dx⟩ := ex_at (HA.out.1.keeps (Zz.of_below (S := fun _ => False) hE.below) (fun k _ hn => ⟨id, hn⟩)) (HA.out.2.below hE.below) hk1
     obtain ⟨y, yv, rfl, hy1, yr, dy⟩ := ex_at (HB.out.1.keeps (Zz.of_below (S := fun _ => False) hE.below) (fun k _ hn => ⟨id, hn⟩)) (HB.out.2.below hE.below) hk1
     have hi := HI.out m hk1
     generalize ks[m] = t at *
     have hcall : ∀ z, Below wr.heap.size wr z → Calls Tryz.prog 14 #[.agg xv.toArray, .agg yv.toArray] z fun e w' => e = .returned (.bool true) ∧ Below z.heap.size z w' := fun z hb => hi z N M _ _ (dx.below hb) (dy.below hb)
     have HX := Hh (And.intro xr yr)
     have HL := Hh (And.intro (dx.len.trans (Ex.ds_len t)) (dy.len.trans (Ex.ds_len t)))
     have a11 := hE.cell 0 11 rfl rfl
     have b11 := hE.cell 1 11 rfl rfl
     have T4 := Hh hE
     have lk : (m : Int) < (n : Int) := by omega
     have lk0 : (0 : Int) ≤ (m : Int) := by omega
     have hkn : ((m : Int)).toNat = m := by omega
     have hb0 := (show Below wr.heap.size wr wr.drew from Env.below (Env.drew (Env.start wr)))
     clear hk1 hi xr yr dx dy hE
     go_wp2_with fail
     go_still_tail 10, (by kernel_rfl)
     refine still_take (Uw rfl rfl rfl (ys := xv) (fun y e => by subst e; exact HX.out.1) Xc (Xg HL.out.1)) ?_
     repeat still_step
     refine still_take (Uw rfl rfl rfl (ys := yv) (fun y e => by subst e; exact HX.out.2) Xc (Xg HL.out.2)) ?_
     refine wpStill_nil ?_
     change wpList _ _ _ _ _ wr.drew
     go_wp2_with (first
 | (go_at_call 14; refine (hcall _ hb0).mono ?_; rintro e w5 ⟨rfl, b5⟩
    have T6 := Hh (T4.out.drew.call b5)
    clear b5))
     go_roundw
     case rel => exact ⟨m + 1, by go_num, by omega, T6.out⟩
     case measure => simp [intOf]; omega
   · have a11 := hE.cell 0 11 rfl rfl
     go_wp2
     go_ret
     exact ⟨rfl, hE.below⟩
theorem sExpr : ∀ x : Ex, SExOK x := by
 intro x
 induction x with
 | leaf k n s d t l => exact sExpr1 _ fun k hk => absurd hk (Nat.not_lt_zero k)
 | bin op l r ihl ihr =>
   refine sExpr1 _ fun k hk => ?_
   cases k with
   | zero => exact ihl
   | succ k => cases k with
     | zero => exact ihr
     | succ k => exact absurd hk (by show ¬ k + 2 < 2; omega)
end Go.Proofs.YtgfkimknnbpmnaaGreat
namespace Go.Proofs.YtgfkimknnbpmnaaGreat
open Go
set_option linter.unusedSimpArgs false
set_option linter.unusedVariables false
def TokSim (pl : Bool) (u v : TokV) : Prop := u.k = v.k ∧ u.t = v.t ∧ u.n = v.n ∧ (pl = true → u.line = v.line ∧ u.col = v.col)
structure RowSim (pl : Bool) (L M : List TokV) : Prop where
 len : L.length = M.length
 tok : ∀ a, TokSim pl (Yg L a) (Yg M a)
def FltSim (pl : Bool) (F G : Int × Nat × Nat) : Prop := F.1 = G.1 ∧ (pl = true → F = G)
def Xi (pl : Bool) : St → St → Prop
 | .ok a d, .ok b e => a = b ∧ d = e
 | .bad F, .bad G => FltSim pl F G
 | _, _ => False
theorem Xi.good {pl : Bool} : ∀ {s t : St}, Xi pl s t → s.good = t.good
 | .ok _ _, .ok _ _, _ => rfl
 | .bad _, .bad _, _ => rfl
theorem isT_sim {pl : Bool} {u v : TokV} (h : TokSim pl u v) (t : ByteArray) : isT u t = isT v t := by unfold isT; rw [h.1, h.2.1]
theorem idx_sim {pl : Bool} {u v : TokV} (h : TokSim pl u v) : ∀ ws : List ByteArray, Jz u ws = Jz v ws
 | [] => rfl
 | t :: r => by unfold Jz; rw [isT_sim h, idx_sim h r]
theorem wrF_sim {pl : Bool} {u v : TokV} (h : TokSim pl u v) : FltSim pl (wrF u) (wrF v) := by
 unfold wrF
 rw [h.1]
 split
 · exact ⟨rfl, fun hp => by rw [(h.2.2.2 hp).1, (h.2.2.2 hp).2]⟩
 · exact ⟨rfl, fun hp => by rw [(h.2.2.2 hp).1, (h.2.2.2 hp).2]⟩
section
variable {pl : Bool} {L M : List TokV} (h : RowSim pl L M)
include h
theorem onA_sim (a : Nat) : onA L a = onA M a := by unfold onA; rw [(h.tok a).1]
theorem kindA_sim (a : Nat) (k : Int) : Vj L a k = Vj M a k := by unfold Vj; rw [(h.tok a).1, onA_sim h]
theorem wantA_sim (a : Nat) (t : ByteArray) : Zab L a t = Zab M a t := by unfold Zab; rw [isT_sim (h.tok a), onA_sim h]
theorem intV_sim (a : Nat) : intV L a = intV M a := by unfold intV; rw [(h.tok a).1, (h.tok a).2.2.1]
theorem nameV_sim (a : Nat) : nameV L a = nameV M a := by unfold nameV; rw [(h.tok a).1, (h.tok a).2.1]
theorem signA_sim (a : Nat) : signA L a = signA M a := by unfold signA; rw [isT_sim (h.tok a), onA_sim h, (h.tok _).1, onA_sim h, kindA_sim h]
theorem signV_sim (a : Nat) : signV L a = signV M a := by unfold signV; rw [isT_sim (h.tok a), onA_sim h, (h.tok _).1, (h.tok _).2.2.1, intV_sim h]
theorem kindF_sim (a : Nat) (k : Int) : FltSim pl (We L a k) (We M a k) := by
 unfold We
 rw [(h.tok a).1]
 split
 · exact ⟨rfl, fun _ => rfl⟩
 · exact wrF_sim (h.tok a)
theorem signF_sim (a : Nat) : FltSim pl (Ju L a) (Ju M a) := by
 unfold Ju
 rw [isT_sim (h.tok a), onA_sim h]
 split
 · exact kindF_sim h _ 2
 · exact kindF_sim h _ 2
theorem downF_sim (a d : Nat) : FltSim pl (Vv L a d) (Vv M a d) := by
 unfold Vv
 split
 · exact ⟨rfl, fun hp => by rw [((h.tok a).2.2.2 hp).1, ((h.tok a).2.2.2 hp).2]⟩
 · exact ⟨rfl, fun _ => rfl⟩
omit h in
theorem note_sim {F G : Int × Nat × Nat} (hf : FltSim pl F G) : ∀ {s t : St}, Xi pl s t → Xi pl (Ue F s) (Ue G t)
 | .ok a d, .ok b e, ⟨h1, h2⟩ => by
   show Xi pl (if F.1 = 0 then St.ok a d else .bad F) (if G.1 = 0 then St.ok b e else .bad G)
   rw [hf.1]
   split
   · exact ⟨h1, h2⟩
   · exact hf
 | .bad F, .bad G, h => h
theorem wrongS_sim : ∀ {s t : St}, Xi pl s t → Xi pl (wrongS L s) (wrongS M t)
 | .ok a d, .ok b e, ⟨h1, h2⟩ => by subst h1; exact wrF_sim (h.tok a)
 | .bad F, .bad G, h => h
theorem isS_sim (t : ByteArray) : ∀ {s s' : St}, Xi pl s s' → isS L t s = isS M t s'
 | .ok a d, .ok b e, ⟨h1, h2⟩ => by subst h1; exact isT_sim (h.tok a) t
 | .bad F, .bad G, _ => rfl
theorem takeS_sim (t : ByteArray) : ∀ {s s' : St}, Xi pl s s' → Xi pl (Xz L t s) (Xz M t s')
 | .ok a d, .ok b e, ⟨h1, h2⟩ => by subst h1; exact ⟨wantA_sim h a t, h2⟩
 | .bad F, .bad G, h => h
theorem Jw (t : ByteArray) {s s' : St} (hs : Xi pl s s') : Xi pl (Ye L t s) (Ye M t s') := by
 unfold Ye
 rw [isS_sim h t hs]
 split
 · exact takeS_sim h t hs
 · exact wrongS_sim h hs
theorem intS_sim : ∀ {s s' : St}, Xi pl s s' → Xi pl (Jl L s) (Jl M s') ∧ Zbn L s = Zbn M s'
 | .ok a d, .ok b e, ⟨h1, h2⟩ => by subst h1 h2; exact ⟨note_sim (kindF_sim h a 2) (s := .ok _ d) (t := .ok _ d) ⟨kindA_sim h a 2, rfl⟩, intV_sim h a⟩
 | .bad F, .bad G, h => ⟨h, rfl⟩
theorem nameS_sim : ∀ {s s' : St}, Xi pl s s' → Xi pl (Wl L s) (Wl M s') ∧ Jh L s = Jh M s'
 | .ok a d, .ok b e, ⟨h1, h2⟩ => by subst h1 h2; exact ⟨note_sim (kindF_sim h a 3) (s := .ok _ d) (t := .ok _ d) ⟨kindA_sim h a 3, rfl⟩, nameV_sim h a⟩
 | .bad F, .bad G, h => ⟨h, rfl⟩
theorem signS_sim : ∀ {s s' : St}, Xi pl s s' → Xi pl (Uo L s) (Uo M s') ∧ Zai L s = Zai M s'
 | .ok a d, .ok b e, ⟨h1, h2⟩ => by subst h1 h2; exact ⟨note_sim (signF_sim h a) (s := .ok _ d) (t := .ok _ d) ⟨signA_sim h a, rfl⟩, signV_sim h a⟩
 | .bad F, .bad G, h => ⟨h, rfl⟩
theorem Wd (ws : List ByteArray) : ∀ {s s' : St}, Xi pl s s' → Zk L ws s = Zk M ws s'
 | .ok a d, .ok b e, ⟨h1, h2⟩ => by subst h1; exact idx_sim (h.tok a) ws
 | .bad F, .bad G, _ => rfl
theorem Zbl (ws : List ByteArray) : ∀ {s s' : St}, Xi pl s s' → Xi pl (Yo L ws s) (Yo M ws s')
 | .ok a d, .ok b e, ⟨h1, h2⟩ => by
   subst h1 h2
   show Xi pl (if Jz (Yg L a) ws = 0 then St.ok a d else .ok (onA L a) d) (if Jz (Yg M a) ws = 0 then St.ok a d else .ok (onA M a) d)
   rw [idx_sim (h.tok a), onA_sim h]
   split <;> exact ⟨rfl, rfl⟩
 | .bad F, .bad G, h => h
theorem Jv (ws : List ByteArray) {s s' : St} (hs : Xi pl s s') : Xi pl (Zm L ws s) (Zm M ws s') := by
 unfold Zm
 rw [Wd h ws hs]
 split
 · exact wrongS_sim h hs
 · exact Zbl h ws hs
theorem deepS_sim (t : ByteArray) : ∀ {s s' : St}, Xi pl s s' → Xi pl (deepS L t s) (deepS M t s')
 | .ok a d, .ok b e, ⟨h1, h2⟩ => by
   subst h1 h2
   show Xi pl (if isT (Yg L a) t = true then Ue (Vv L a d) (.ok a (Zbm d)) else .ok a d) (if isT (Yg M a) t = true then Ue (Vv M a d) (.ok a (Zbm d)) else .ok a d)
   rw [isT_sim (h.tok a)]
   split
   · exact note_sim (downF_sim h a d) ⟨rfl, rfl⟩
   · exact ⟨rfl, rfl⟩
 | .bad F, .bad G, h => h
omit h in
theorem upS_sim : ∀ {s s' : St}, Xi pl s s' → Xi pl (upS s) (upS s')
 | .ok a d, .ok b e, ⟨h1, h2⟩ => ⟨h1, by rw [h2]⟩
 | .bad F, .bad G, h => h
theorem overS_sim : ∀ {s s' : St}, Xi pl s s' → Xi pl (Xh L s) (Xh M s')
 | .ok a d, .ok b e, ⟨h1, h2⟩ => by
   subst h1 h2
   show Xi pl (if (Yg L a).k = 0 then St.ok a d else .bad (wrF (Yg L a))) (if (Yg M a).k = 0 then St.ok a d else .bad (wrF (Yg M a)))
   rw [(h.tok a).1]
   split
   · exact ⟨rfl, rfl⟩
   · exact wrF_sim (h.tok a)
 | .bad F, .bad G, h => h
end
theorem good_want {L : List TokV} {t : ByteArray} : ∀ {s : St}, (Ye L t s).good = true → s.good = true
 | .ok a d, _ => rfl
 | .bad F, h => h
theorem good_one {L : List TokV} {ws : List ByteArray} : ∀ {s : St}, (Zm L ws s).good = true → s.good = true
 | .ok a d, _ => rfl
 | .bad F, h => h
theorem good_up : ∀ {s : St}, (upS s).good = true → s.good = true
 | .ok a d, _ => rfl
 | .bad F, h => h
theorem good_found {L : List TokV} {ws : List ByteArray} : ∀ {s : St}, ¬ Zk L ws s = 0 → s.good = true
 | .ok a d, _ => rfl
 | .bad F, h => absurd rfl h
theorem good_isS {L : List TokV} {t : ByteArray} : ∀ {s : St}, isS L t s = true → s.good = true
 | .ok a d, _ => rfl
 | .bad F, h => by cases h
theorem filters_stop0 (nk : Int) (L : List TokV) (n : Nat) (F : Int × Nat × Nat) : Yh nk L (n + 1) (.bad F) = ([], .bad F) := by rw [Yh]; exact if_pos rfl
theorem good_filters {nk : Int} {L : List TokV} : ∀ {n : Nat} {s : St}, (Yh nk L n s).2.good = true → s.good = true
 | _, .ok a d, _ => rfl
 | 0, .bad F, h => h
 | n + 1, .bad F, h => by rw [filters_stop0 nk L n F] at h; exact h
def PSim {α : Type} (pl : Bool) (x y : α × St) : Prop := Xi pl x.2 y.2 ∧ (x.2.good = true → x.1 = y.1)
section
variable {pl : Bool} {L M : List TokV} (h : RowSim pl L M) (a b : Int)
include h
theorem filterF_sim (k : Nat) {s s' : St} (hs : Xi pl s s') : PSim pl (Ve a L k s) (Ve b M k s') := by
 unfold Ve
 have ho := Jv h wOp hs
 have hm := Jv h Um hs
 split
 · exact ⟨(signS_sim h ho).1, fun _ => by rw [Wd h wOp hs, (signS_sim h ho).2]⟩
 · split
   · exact ⟨(nameS_sim h hs).1, fun _ => by rw [(nameS_sim h hs).2]⟩
   · refine ⟨hm, fun hg => ?_⟩
     have hn : ¬ Zk L Um s = 0 := fun e => by
       have hg' : (Zm L Um s).good = true := hg
       unfold Zm at hg'
       rw [if_pos e] at hg'
       cases s <;> cases hg'
     rw [if_neg hn, if_neg (by rw [← Wd h Um hs]; exact hn), Wd h Um hs]
theorem filtersF_sim : ∀ (n : Nat) {s s' : St}, Xi pl s s' → PSim pl (Yh a L n s) (Yh b M n s')
 | 0, s, s', hs => ⟨hs, fun _ => rfl⟩
 | n + 1, s, s', hs => by
   rw [Yh, Yh, ← Wd h Wa hs]
   split
   · exact ⟨hs, fun _ => rfl⟩
   · have h1 := filterF_sim h a b (Zk L Wa s) (Zbl h Wa hs)
     have h2 := filtersF_sim n h1.1
     refine ⟨h2.1, fun hg => ?_⟩
     show _ :: _ = _ :: _
     rw [h1.2 (good_filters hg), h2.2 hg]
theorem where_sim {s s' : St} (hs : Xi pl s s') : Xi pl (whereS L s) (whereS M s') ∧ whereN L s = whereN M s' := by
 have h1 := Jv h Zr hs
 have h2 := Jv h Yr h1
 unfold whereS whereN
 rw [Wd h Zr hs, Wd h Yr h1]
 split
 · exact ⟨(intS_sim h h2).1, by rw [(intS_sim h h2).2]⟩
 · exact ⟨h2, rfl⟩
theorem selF_sim (n : Nat) {s s' : St} (hs : Xi pl s s') : PSim pl (Yz a L n s) (Yz b M n s') := by
 have h0 := Jv h Yx hs
 have h1 := where_sim h h0
 have h2 := filtersF_sim h a b n h1.1
 have h3 := Jv h Jn h2.1
 unfold Yz
 rw [← Wd h Yx hs]
 split
 · refine ⟨Jw h Jd h3, fun hg => ?_⟩
   show Se.mk _ _ _ _ _ _ = Se.mk _ _ _ _ _ _
   rw [h1.2, h2.2 (good_one (good_want hg)), Wd h Jn h2.1]
 · exact ⟨h0, fun _ => rfl⟩
theorem to_sim {s s' : St} (hs : Xi pl s s') : Xi pl (toS L s) (toS M s') ∧ toK L s = toK M s' ∧ toL L s = toL M s' := by
 have h1 := Jv h wTo hs
 unfold toS toK toL
 rw [← Wd h wTo hs]
 split
 · exact ⟨(intS_sim h h1).1, rfl, (intS_sim h h1).2⟩
 · exact ⟨h1, rfl, rfl⟩
theorem downS_sim (t : ByteArray) {s s' : St} (hs : Xi pl s s') : Xi pl (Vb L t s) (Vb M t s') := Jw h t (deepS_sim h t hs)
theorem riseS_sim (t : ByteArray) {s s' : St} (hs : Xi pl s s') : Xi pl (riseS L t s) (riseS M t s') := upS_sim (Jw h t hs)
theorem exprs_sim : ∀ n : Nat, (∀ {s s' : St}, Xi pl s s' → PSim pl (Ya a L n s) (Ya b M n s')) ∧ (∀ {x y : Ex × St}, PSim pl x y → PSim pl (Uu a L n x) (Uu b M n y)) ∧
   (∀ {s s' : St}, Xi pl s s' → PSim pl (Ww a L n s) (Ww b M n s')) ∧ (∀ {x y : Ex × St}, PSim pl x y → PSim pl (Us a L n x) (Us b M n y)) ∧ (∀ {s s' : St}, Xi pl s s' → PSim pl (Wh a L n s) (Wh b M n s'))
 | 0 => ⟨fun hs => ⟨hs, fun _ => rfl⟩, fun hx => hx, fun hs => ⟨hs, fun _ => rfl⟩, fun hx => hx, fun hs => ⟨hs, fun _ => rfl⟩⟩
 | n + 1 => by
   obtain ⟨e1, e2, e3, e4, e5⟩ := exprs_sim n
   refine ⟨fun hs => ?_, fun {x y} hx => ?_, fun hs => ?_, fun {x y} hx => ?_, fun {s s'} hs => ?_⟩
   · rw [Ya, Ya]; exact e2 (e3 hs)
   · rw [Uu, Uu, ← Wd h Zaf hx.1]
     split
     · exact hx
     · rename_i hk
       have h1 := e3 (Zbl h Zaf hx.1)
       refine e2 ⟨h1.1, fun hg => ?_⟩
       show Ex.bin _ _ _ = Ex.bin _ _ _
       rw [hx.2 (good_found hk), h1.2 hg]
   · rw [Ww, Ww]; exact e4 (e5 hs)
   · rw [Us, Us, ← isS_sim h Wn hx.1]
     split
     · rename_i hk
       have h1 := e5 (takeS_sim h Wn hx.1)
       refine e4 ⟨h1.1, fun hg => ?_⟩
       show Ex.bin _ _ _ = Ex.bin _ _ _
       rw [hx.2 (good_isS hk), h1.2 hg]
     · exact hx
   · have hf := Zbl h Wk hs
     have hsd := Jv h Zr hf
     rw [Wh, Wh, ← isS_sim h Vc hs, ← Wd h Wk hs]
     split
     · have h1 := e1 (downS_sim h Vc hs)
       exact ⟨riseS_sim h Jd h1.1, fun hg => h1.2 (good_want (good_up hg))⟩
     · split
       · exact ⟨(signS_sim h hs).1, fun _ => by rw [(signS_sim h hs).2]⟩
       · split
         · have h1 := selF_sim h a b n hf
           refine ⟨h1.1, fun hg => ?_⟩
           show Ex.leaf _ _ _ _ _ _ = Ex.leaf _ _ _ _ _ _
           rw [h1.2 hg]
         · split
           · exact ⟨hf, fun _ => rfl⟩
           · split
             · exact ⟨hsd, fun _ => by rw [Wd h Zr hf]⟩
             · exact ⟨(to_sim h hsd).1, fun _ => by rw [Wd h Zr hf, (to_sim h hsd).2.1, (to_sim h hsd).2.2]⟩
end
section
variable {nk : Int} {L : List TokV}
theorem exprs_bad : ∀ n : Nat, (∀ F, (Ya nk L n (.bad F)).2 = .bad F) ∧ (∀ e F, (Uu nk L n (e, .bad F)).2 = .bad F) ∧ (∀ F, (Ww nk L n (.bad F)).2 = .bad F) ∧ (∀ e F, (Us nk L n (e, .bad F)).2 = .bad F) ∧ (∀ F, (Wh nk L n (.bad F)).2 = .bad F)
 | 0 => ⟨fun F => rfl, fun e F => rfl, fun F => rfl, fun e F => rfl, fun F => rfl⟩
 | n + 1 => by
   obtain ⟨e1, e2, e3, e4, e5⟩ := exprs_bad n
   refine ⟨fun F => ?_, fun e F => ?_, fun F => ?_, fun e F => ?_, fun F => ?_⟩
   · rw [Ya]
     have : Ww nk L n (.bad F) = ((Ww nk L n (.bad F)).1, .bad F) := Prod.ext rfl (e3 F)
     rw [this]
     exact e2 _ F
   · rw [Uu]
     show (if (0 : Nat) = 0 then (e, St.bad F) else _).2 = _
     rw [if_pos rfl]
   · rw [Ww]
     have : Wh nk L n (.bad F) = ((Wh nk L n (.bad F)).1, .bad F) := Prod.ext rfl (e5 F)
     rw [this]
     exact e4 _ F
   · rw [Us]
     show (if false = true then _ else (e, St.bad F)).2 = _
     rw [if_neg Bool.false_ne_true]
   · rw [Wh]
     have h1 : ¬ isS L Vc (.bad F) = true := Bool.false_ne_true
     have h2 : Zk L Wk (.bad F) = 0 := rfl
     rw [if_neg h1, if_pos h2]
     rfl
theorem good_expr {n : Nat} : ∀ {s : St}, (Ya nk L n s).2.good = true → s.good = true
 | .ok a d, _ => rfl
 | .bad F, h => by rw [(exprs_bad n).1 F] at h; exact h
theorem good_to : ∀ {s : St}, (toS L s).good = true → s.good = true
 | .ok a d, _ => rfl
 | .bad F, h => h
end
def AHSim (pl : Bool) (x y : AH) : Prop := x = { y with line := x.line, col := x.col } ∧ (pl = true → x.line = y.line ∧ x.col = y.col)
section
variable {pl : Bool} {L M : List TokV} (h : RowSim pl L M) (a b : Int)
include h
theorem plain_sim (n k : Nat) {x y : AH} (hx : AHSim pl x y) {s s' : St} (hs : Xi pl s s') :
   Xi pl (Yl a L n x k s).2 (Yl b M n y k s').2 ∧ ((Yl a L n x k s).2.good = true → AHSim pl (Yl a L n x k s).1 (Yl b M n y k s').1) := by
 obtain ⟨y1, y2, y3, y4, y5, y6, y7, y8, y9, y10, y11, y12, y13⟩ := y
 obtain ⟨x1, x2, x3, x4, x5, x6, x7, x8, x9, x10, x11, x12, x13⟩ := x
 obtain ⟨e, p⟩ := hx
 injection e with e1 e2 e3 e4 e5 e6 e7 e8 e9 e10 e11 e12 e13
 subst e1 e4 e5 e6 e7 e8 e9 e10 e11 e12 e13
 have hsel := selF_sim h a b n hs
 have hsd := Jv h Zr hs
 have ex : ∀ {s s' : St}, Xi pl s s' → PSim pl (Ya a L n s) (Ya b M n s') := (exprs_sim h a b n).1
 unfold Yl
 by_cases h1 : k = 1 ∨ k = 2 ∨ k = 12
 · rw [if_pos h1, if_pos h1]
   have h2 := ex hsel.1
   exact ⟨h2.1, fun hg => ⟨by show AH.mk _ _ _ _ _ _ _ _ _ _ _ _ _ = AH.mk _ _ _ _ _ _ _ _ _ _ _ _ _; rw [hsel.2 (good_expr hg), h2.2 hg], p⟩⟩
 rw [if_neg h1, if_neg h1]
 by_cases h1 : k = 3 ∨ k = 5 ∨ k = 14
 · rw [if_pos h1, if_pos h1]
   exact ⟨hsel.1, fun hg => ⟨by show AH.mk _ _ _ _ _ _ _ _ _ _ _ _ _ = AH.mk _ _ _ _ _ _ _ _ _ _ _ _ _; rw [hsel.2 hg], p⟩⟩
 rw [if_neg h1, if_neg h1]
 by_cases h1 : k = 4
 · rw [if_pos h1, if_pos h1]
   have h2 := to_sim h hsel.1
   exact ⟨h2.1, fun hg => ⟨by show AH.mk _ _ _ _ _ _ _ _ _ _ _ _ _ = AH.mk _ _ _ _ _ _ _ _ _ _ _ _ _; rw [hsel.2 (good_to hg), h2.2.1, h2.2.2], p⟩⟩
 rw [if_neg h1, if_neg h1]
 by_cases h1 : k = 6
 · rw [if_pos h1, if_pos h1]
   have hn := nameS_sim h hs
   have h2 := Jv h Zr hn.1
   have h3 := to_sim h h2
   have h4 := ex h3.1
   exact ⟨h4.1, fun hg => ⟨by show AH.mk _ _ _ _ _ _ _ _ _ _ _ _ _ = AH.mk _ _ _ _ _ _ _ _ _ _ _ _ _; rw [h4.2 hg, h3.2.1, h3.2.2, hn.2, Wd h Zr hn.1], p⟩⟩
 rw [if_neg h1, if_neg h1]
 by_cases h1 : k = 7 ∨ k = 9
 · rw [if_pos h1, if_pos h1]
   have h4 := ex hsd
   exact ⟨h4.1, fun hg => ⟨by show AH.mk _ _ _ _ _ _ _ _ _ _ _ _ _ = AH.mk _ _ _ _ _ _ _ _ _ _ _ _ _; rw [h4.2 hg, Wd h Zr hs], p⟩⟩
 rw [if_neg h1, if_neg h1]
 by_cases h1 : k = 8
 · rw [if_pos h1, if_pos h1]
   exact ⟨Jv h wHow hsd, fun hg => ⟨by show AH.mk _ _ _ _ _ _ _ _ _ _ _ _ _ = AH.mk _ _ _ _ _ _ _ _ _ _ _ _ _; rw [Wd h wHow hsd, Wd h Zr hs], p⟩⟩
 rw [if_neg h1, if_neg h1]
 by_cases h1 : k = 13 ∨ k = 15
 · rw [if_pos h1, if_pos h1]
   have h3 := to_sim h hsd
   exact ⟨h3.1, fun hg => ⟨by show AH.mk _ _ _ _ _ _ _ _ _ _ _ _ _ = AH.mk _ _ _ _ _ _ _ _ _ _ _ _ _; rw [h3.2.1, h3.2.2, Wd h Zr hs], p⟩⟩
 rw [if_neg h1, if_neg h1]
 exact ⟨hs, fun _ => ⟨rfl, p⟩⟩
theorem cond_sim (n : Nat) {x y : AH} (hx : AHSim pl x y) {s s' : St} (hs : Xi pl s s') :
   Xi pl (Wi a L n x s).2 (Wi b M n y s').2 ∧ ((Wi a L n x s).2.good = true → AHSim pl (Wi a L n x s).1 (Wi b M n y s').1) := by
 obtain ⟨y1, y2, y3, y4, y5, y6, y7, y8, y9, y10, y11, y12, y13⟩ := y
 obtain ⟨x1, x2, x3, x4, x5, x6, x7, x8, x9, x10, x11, x12, x13⟩ := x
 obtain ⟨e, p⟩ := hx
 injection e with e1 e2 e3 e4 e5 e6 e7 e8 e9 e10 e11 e12 e13
 subst e1 e4 e5 e6 e7 e8 e9 e10 e11 e12 e13
 have ex : ∀ {s s' : St}, Xi pl s s' → PSim pl (Ya a L n s) (Ya b M n s') := (exprs_sim h a b n).1
 have h1 := ex hs
 have h2 := Jv h wOp h1.1
 have h3 := ex h2
 unfold Wi
 exact ⟨h3.1, fun hg => ⟨by show AH.mk _ _ _ _ _ _ _ _ _ _ _ _ _ = AH.mk _ _ _ _ _ _ _ _ _ _ _ _ _; rw [h1.2 (good_one (good_expr hg)), h3.2 hg, Wd h wOp h1.1], p⟩⟩
end
def Ud (pl : Bool) : Acs → Acs → Prop
 | .nil, .nil => True
 | .cons h t e r, .cons h' t' e' r' => AHSim pl h h' ∧ Ud pl t t' ∧ Ud pl e e' ∧ Ud pl r r'
 | _, _ => False
theorem acts_bad {nk : Int} {L : List TokV} : ∀ (n : Nat) (F : Int × Nat × Nat), (Xo nk L n (.bad F)).2 = .bad F
 | 0, F => rfl
 | n + 1, F => by
   have h2 : Zk L Vk (.bad F) = 0 := rfl
   rw [Xo, if_pos h2]
theorem good_acts {nk : Int} {L : List TokV} {n : Nat} : ∀ {s : St}, (Xo nk L n s).2.good = true → s.good = true
 | .ok a d, _ => rfl
 | .bad F, h => by rw [acts_bad n F] at h; exact h
theorem good_block {nk : Int} {L : List TokV} : ∀ {n : Nat} {s : St}, (Yj nk L n s).2.good = true → s.good = true
 | _, .ok a d, _ => rfl
 | 0, .bad F, h => h
 | n + 1, .bad F, h => by
   rw [Yj] at h
   have h1 := good_acts (good_want (good_up h))
   exact h1
section
variable {pl : Bool} {L M : List TokV} (h : RowSim pl L M) (a b : Int)
include h
theorem zero_sim {k k' : Int} (hk : k = k') : ∀ {s s' : St}, Xi pl s s' → AHSim pl (AH.zero k (s.tok L).line (s.tok L).col) (AH.zero k' (s'.tok M).line (s'.tok M).col)
 | .ok x d, .ok y e, ⟨h1, h2⟩ => by
   subst h1 hk
   refine ⟨rfl, fun hp => ?_⟩
   obtain ⟨u, v⟩ := (h.tok x).2.2.2 hp
   exact ⟨by show ((Yg L x).line : Int) = ((Yg M x).line : Int); rw [u], by show ((Yg L x).col : Int) = ((Yg M x).col : Int); rw [v]⟩
 | .bad F, .bad G, _ => by subst hk; exact ⟨rfl, fun _ => ⟨rfl, rfl⟩⟩
theorem acts_sim : ∀ n : Nat, (∀ {s s' : St}, Xi pl s s' → Xi pl (Xo a L n s).2 (Xo b M n s').2 ∧ ((Xo a L n s).2.good = true → Ud pl (Xo a L n s).1 (Xo b M n s').1)) ∧
   (∀ (k : Nat) {x y : AH} {s s' : St}, AHSim pl x y → Xi pl s s' → Xi pl (Wy a L n x k s).st (Wy b M n y k s').st ∧ ((Wy a L n x k s).st.good = true → AHSim pl (Wy a L n x k s).h (Wy b M n y k s').h ∧ Ud pl (Wy a L n x k s).thn (Wy b M n y k s').thn ∧ Ud pl (Wy a L n x k s).els (Wy b M n y k s').els)) ∧
   (∀ {s s' : St}, Xi pl s s' → Xi pl (Yj a L n s).2 (Yj b M n s').2 ∧ ((Yj a L n s).2.good = true → Ud pl (Yj a L n s).1 (Yj b M n s').1))
 | 0 => ⟨fun hs => ⟨hs, fun _ => trivial⟩, fun k {x y s s'} hx hs => ⟨hs, fun _ => ⟨hx, trivial, trivial⟩⟩, fun hs => ⟨hs, fun _ => trivial⟩⟩
 | n + 1 => by
   obtain ⟨e1, e2, e3⟩ := acts_sim n
   refine ⟨fun {s s'} hs => ?_, fun k {x y s s'} hx hs => ?_, fun {s s'} hs => ?_⟩
   · rw [Xo, Xo, ← Wd h Vk hs]
     split
     · exact ⟨hs, fun _ => trivial⟩
     · have h1 := e2 (Zk L Vk s) (zero_sim h (rfl : ((Zk L Vk s : Nat) : Int) = _) hs) (Zbl h Vk hs)
       have h2 := e1 h1.1
       refine ⟨h2.1, fun hg => ?_⟩
       have h3 := h1.2 (good_acts hg)
       exact ⟨h3.1, h3.2.1, h3.2.2, h2.2 hg⟩
   · rw [Wy, Wy]
     by_cases k10 : k = 10
     · rw [if_pos k10, if_pos k10]
       have hc := cond_sim h a b n hx hs
       have hb := e3 hc.1
       rw [← isS_sim h Vp hb.1]
       split
       · rename_i hi
         have h4 := e3 (takeS_sim h Vp hb.1)
         refine ⟨h4.1, fun hg => ?_⟩
         have g1 := good_isS hi
         exact ⟨hc.2 (good_block g1), hb.2 g1, h4.2 hg⟩
       · exact ⟨hb.1, fun hg => ⟨hc.2 (good_block hg), hb.2 hg, trivial⟩⟩
     · rw [if_neg k10, if_neg k10]
       by_cases k11 : k = 11
       · rw [if_pos k11, if_pos k11]
         have hsel := selF_sim h a b n hs
         have hb := e3 hsel.1
         refine ⟨hb.1, fun hg => ⟨?_, hb.2 hg, trivial⟩⟩
         obtain ⟨y1, y2, y3, y4, y5, y6, y7, y8, y9, y10, y11, y12, y13⟩ := y
         obtain ⟨x1, x2, x3, x4, x5, x6, x7, x8, x9, x10, x11, x12, x13⟩ := x
         obtain ⟨e, p⟩ := hx
         injection e with e1 e2 e3 e4 e5 e6 e7 e8 e9 e10 e11 e12 e13
         subst e1 e4 e5 e6 e7 e8 e9 e10 e11 e12 e13
         exact ⟨by show AH.mk _ _ _ _ _ _ _ _ _ _ _ _ _ = AH.mk _ _ _ _ _ _ _ _ _ _ _ _ _; rw [hsel.2 (good_block hg)], p⟩
       · rw [if_neg k11, if_neg k11]
         have hp := plain_sim h a b n k hx hs
         exact ⟨Jw h Xn hp.1, fun hg => ⟨hp.2 (good_want hg), trivial, trivial⟩⟩
   · rw [Yj, Yj]
     have h1 := e1 (downS_sim h Xe hs)
     exact ⟨riseS_sim h Xq h1.1, fun hg => h1.2 (good_want (good_up hg))⟩
end
end Go.Proofs.YtgfkimknnbpmnaaGreat
namespace Go.Proofs.YtgfkimknnbpmnaaGreat
open Go.ChangeShapes Go.WideShapes Go.ChangeAt Go.RowKit
set_option linter.unusedVariables false
set_option linter.unusedSimpArgs false
def Acs.at? : Acs → Nat → Option (AH × Acs × Acs)
 | .nil, _ => none
 | .cons h t e _, 0 => some (h, t, e)
 | .cons _ _ _ r, n + 1 => r.at? n
theorem Acs.at_some : ∀ (x : Acs) (k : Nat), k < x.len → ∃ u, x.at? k = some u
 | .nil, k, h => absurd h (Nat.not_lt_zero k)
 | .cons h t e r, 0, _ => ⟨(h, t, e), rfl⟩
 | .cons h t e r, k + 1, hk => Acs.at_some r k (Nat.lt_of_succ_lt_succ hk)
theorem Acs.at_lt : ∀ (x : Acs) (k : Nat) (u : AH × Acs × Acs), x.at? k = some u → SizeOf.sizeOf u.2.1 < SizeOf.sizeOf x ∧ SizeOf.sizeOf u.2.2 < SizeOf.sizeOf x
 | .nil, k, u, h => by cases h
 | .cons h t e r, 0, u, hu => by cases hu; simp only [Acs.cons.sizeOf_spec]; omega
 | .cons h t e r, k + 1, u, hu => by have := Acs.at_lt r k u hu; simp only [Acs.cons.sizeOf_spec]; omega
theorem Ud.len {pl : Bool} : ∀ (x y : Acs), Ud pl x y → x.len = y.len := by
 intro x
 induction x with
 | nil => intro y h; cases y with
   | nil => rfl
   | cons h t e r => exact h.elim
 | cons h t e r _ _ ih => intro y hs; cases y with
   | nil => exact hs.elim
   | cons h' t' e' r' => show r.len + 1 = r'.len + 1; rw [ih r' hs.2.2.2]
theorem Ud.at_ {pl : Bool} : ∀ (x y : Acs), Ud pl x y → ∀ (k : Nat) (u v : AH × Acs × Acs), x.at? k = some u → y.at? k = some v → AHSim pl u.1 v.1 ∧ Ud pl u.2.1 v.2.1 ∧ Ud pl u.2.2 v.2.2 := by
 intro x
 induction x with
 | nil => intro y h k u v hu; cases hu
 | cons h t e r _ _ ih => intro y hs k u v hu hv; cases y with
   | nil => exact hs.elim
   | cons h' t' e' r' => cases k with
     | zero => cases hu; cases hv; exact ⟨hs.1, hs.2.1, hs.2.2.1⟩
     | succ k => exact ih r' hs.2.2.2 k u v hu hv
theorem acs_at {N : Nat → Prop} {w : World} : ∀ {l : Acs} {xs : List Value}, Zo N w l.ds xs → ∀ (k : Nat) (u : AH × Acs × Acs), l.at? k = some u → ∃ pre ys post, xs = pre ++ ys ++ post ∧ pre.length = k * 53 ∧ Zo N w (u.1.dsr u.2.1.len u.2.1.ds u.2.2.len u.2.2.ds) ys := by
 intro l
 induction l with
 | nil => intro xs _ k u hu; cases hu
 | cons f t e r _ _ ih =>
   intro xs h k u hu
   obtain ⟨a, b, rfl, ha, hb⟩ := Zo.split (x := f.dsr t.len t.ds e.len e.ds) h
   cases k with
   | zero => cases hu; exact ⟨[], a, b, rfl, by simp, ha⟩
   | succ k =>
     obtain ⟨pre, ys, post, rfl, hp, hy⟩ := ih hb k u hu
     refine ⟨a ++ pre, ys, post, by simp, ?_, hy⟩
     rw [List.length_append, ha.len, AH.dsr_len, hp]; omega
theorem range_of {w : World} {g sz : Nat} {pre ys post : List Value} (hc : ∀ j, j < (pre ++ ys ++ post).length → w.cell? ⟨g, j, none⟩ = (pre ++ ys ++ post)[j]?) {k : Nat} (hp : pre.length = k * sz) : w.rangeAt g (k * sz) ys := fun j v hv => by
 have hj : j < ys.length := by rcases Nat.lt_or_ge j ys.length with h | h; exact h; rw [List.getElem?_eq_none h] at hv; cases hv
 have := hc (k * sz + j) (by simp; omega)
 rw [this, ← hp, List.append_assoc, List.getElem?_append_right (by omega), Nat.add_sub_cancel_left, List.getElem?_append_left hj, hv]
theorem act_at {N : Nat → Prop} {w : World} {A : Option Addr} {l : Acs} {xs : List Value} (hw : Within N w A xs) (hd : Zo N w l.ds xs) {k : Nat} {u : AH × Acs × Acs} (hu : l.at? k = some u) :
   ∃ g ys, A = some ⟨g, 0, none⟩ ∧ g < w.heap.size ∧ w.rangeAt g (k * 53) ys ∧ Zo N w (u.1.dsr u.2.1.len u.2.1.ds u.2.2.len u.2.2.ds) ys := by
 obtain ⟨pre, ys, post, rfl, hp, hy⟩ := acs_at hd k u hu
 have hl : ys.length = 53 := by rw [hy.len, AH.dsr_len]
 obtain ⟨g, hA, hg, hc⟩ := hw.reads (by simp; omega)
 exact ⟨g, ys, hA, hg, range_of hc hp, hy⟩
theorem act_of {N : Nat → Prop} {w : World} {h : AH} {tn en : Nat} {t e : Ds} {ys : List Value} (hd : Zo N w (h.dsr tn t en e) ys) :
   ∃ sel num cl cr thn els, ys = Zu h.kind h.line h.col sel num h.side h.tk h.tl h.how h.name h.cop cl cr thn els ∧ Zo N w h.sel.ds sel ∧ Zo N w h.num.ds num ∧ Zo N w h.cl.ds cl ∧ Zo N w h.cr.ds cr ∧ Zo N w (.row tn t .nil) [thn] ∧ Zo N w (.row en e .nil) [els] := by
 obtain ⟨_, rfl, _, rfl, _, rfl, k1⟩ := hd
 obtain ⟨sel, _, rfl, h1, k2⟩ := Zo.split (x := h.sel.ds) k1
 obtain ⟨num, _, rfl, h2, k3⟩ := Zo.split (x := h.num.ds) k2
 obtain ⟨_, rfl, _, rfl, _, rfl, _, rfl, _, rfl, _, rfl, k4⟩ := k3
 obtain ⟨cl, _, rfl, h3, k5⟩ := Zo.split (x := h.cl.ds) k4
 obtain ⟨cr, _, rfl, h4, k6⟩ := Zo.split (x := h.cr.ds) k5
 obtain ⟨a, b, rfl, h5, h6⟩ := Zo.split (x := .row tn t .nil) k6
 obtain ⟨A, c, xs, rfl, _⟩ := id h5.inRow1
 obtain ⟨B, d, zs, rfl, _⟩ := id h6.inRow1
 exact ⟨sel, num, cl, cr, _, _, by simp [Zu], h1, h2, h3, h4, h5, h6⟩
theorem actV_at {k l c sd tk tl how cop : Int} {nm : ByteArray} {sel num cl cr : List Value} {thn els : Value} (e1 : sel.length = 6) (e2 : num.length = 12) (e3 : cl.length = 12) (e4 : cr.length = 12) :
   (Zu k l c sel num sd tk tl how nm cop cl cr thn els)[0]? = some (.int .i64 k) ∧ (Zu k l c sel num sd tk tl how nm cop cl cr thn els)[1]? = some (.int .i64 l) ∧ (Zu k l c sel num sd tk tl how nm cop cl cr thn els)[2]? = some (.int .i64 c) ∧
   (Zu k l c sel num sd tk tl how nm cop cl cr thn els)[21]? = some (.int .i64 sd) ∧ (Zu k l c sel num sd tk tl how nm cop cl cr thn els)[22]? = some (.int .i64 tk) ∧ (Zu k l c sel num sd tk tl how nm cop cl cr thn els)[23]? = some (.int .i64 tl) ∧
   (Zu k l c sel num sd tk tl how nm cop cl cr thn els)[24]? = some (.int .i64 how) ∧ (Zu k l c sel num sd tk tl how nm cop cl cr thn els)[25]? = some (.string nm) ∧ (Zu k l c sel num sd tk tl how nm cop cl cr thn els)[26]? = some (.int .i64 cop) ∧
   (Zu k l c sel num sd tk tl how nm cop cl cr thn els)[51]? = some thn ∧ (Zu k l c sel num sd tk tl how nm cop cl cr thn els)[52]? = some els := by
 simp only [Zu]
 refine ⟨?_, ?_, ?_, ?_, ?_, ?_, ?_, ?_, ?_, ?_, ?_⟩ <;> simp [List.getElem?_append, e1, e2, e3, e4]
def QExprOK (n : Nat) : Prop := ∀ (w : World) (r K : Nat) (L : List TokV) (st : St) (vs : List Value), Zy w r K L → RPv r K L st vs → 4 * Zw L st + 3 ≤ n → Zw L st ≤ 68719476736 →
 Calls Tryz.prog 33 #[.agg vs.toArray] w (PTo w r K L (Ya 3 L n st).2 (Ya 3 L n st).1.ds)
def QProdOK (n : Nat) : Prop := ∀ (w : World) (r K : Nat) (L : List TokV) (st : St) (vs : List Value), Zy w r K L → RPv r K L st vs → 4 * Zw L st + 2 ≤ n → Zw L st ≤ 68719476736 →
 Calls Tryz.prog 55 #[.agg vs.toArray] w (PTo w r K L (Ww 3 L n st).2 (Ww 3 L n st).1.ds)
def QFactOK (n : Nat) : Prop := ∀ (w : World) (r K : Nat) (L : List TokV) (st : St) (vs : List Value), Zy w r K L → RPv r K L st vs → 4 * Zw L st + 1 ≤ n → Zw L st ≤ 68719476736 →
 Calls Tryz.prog 80 #[.agg vs.toArray] w (PTo w r K L (Wh 3 L n st).2 (Wh 3 L n st).1.ds)
theorem z_ex : (Tryz.prog.info? 44).map (fun i => i.zero.map Value.cells) = some (some ([.int .i64 0, .int .i64 0, .int .i64 0, .int .i64 0, .int .i64 0, .int .i64 0, .slice none 0 0, .int .i64 0, .int .i64 0, .int .i64 0, .int .i64 0, .slice none 0 0] : List Value).toArray) := by kernel_rfl
theorem RPv.up {r K : Nat} {L : List TokV} {st : St} {A : Option Addr} {n k a d : Nat} {f0 : Int} {f1 f2 : Nat} (h : RPv r K L st [.slice A n k, .int .i64 (a : Int), .int .i64 (d : Int), .int .i64 f0, .int .i64 (f1 : Int), .int .i64 (f2 : Int)]) :
   RPv r K L (upS st) [.slice A n k, .int .i64 (a : Int), .int .i64 ((d - 1 : Nat) : Int), .int .i64 f0, .int .i64 (f1 : Int), .int .i64 (f2 : Int)] := by
 obtain ⟨A', n', k', a', d', e, hd, hk⟩ := h.form
 have hF : Yy (upS st) = Yy st := by cases st <;> rfl
 injection e with e1 e
 injection e with e2 e
 injection e with e3 e
 injection e with e4 e
 injection e with e5 e
 injection e with e6 e
 injection e1 with e1 e1' e1''
 injection e2 with _ e2
 injection e3 with _ e3
 have e2' : a = a' := by omega
 have e3' : d = d' := by omega
 subst e1 e1' e1'' e2' e3'
 refine ⟨⟨A, n, k, a, d - 1, ?_, by omega, ?_⟩, ?_⟩
 · rw [hF, ← e4, ← e5, ← e6]
 · intro a1 d1 e
   cases st with
   | bad F => cases e
   | ok b c =>
     cases e
     obtain ⟨h1, h2, h3, h4, h5, h6⟩ := hk _ c rfl
     exact ⟨h1, h2, h3, h4, by rw [h5], h6⟩
 · intro F e
   cases st with
   | ok b c => cases e
   | bad G => cases e; exact h.flt _ rfl
theorem qUpA (w : World) (A : Option Addr) (n k a d : Nat) (hd : d ≤ 8) :
   Calls Tryz.prog 99 #[.agg #[.slice A n k, .int .i64 (a : Int), .int .i64 (d : Int)]] w fun e w' => e = .returned (.agg #[.slice A n k, .int .i64 (a : Int), .int .i64 ((d - 1 : Nat) : Int)]) ∧ Below w.heap.size w w' := by
 by_cases h0 : 0 < d
 · have l0 : (0 : Int) < (d : Int) := by omega
   have l1 : (d : Int) ≤ 8 := by omega
   have e1 : ((d - 1 : Nat) : Int) = (d : Int) - 1 := by omega
   have E := Hh e1
   have H0 := Hh h0
   clear hd e1
   go_enter Tryz.func99, Tryz.ntmps99
   go_wp2
   refine bodyPost_ret (v := .agg #[.slice A n k, .int .i64 (a : Int), .int .i64 ((d - 1 : Nat) : Int)]) (by simp [results, Tryz.results99, go_sem, qA, E.out]) rfl ⟨rfl, ?_⟩
   exact ((Below.refl _ _).alloc (Nat.le_refl _) _).alloc (by simp) _
 · obtain rfl : d = 0 := by omega
   go_enter Tryz.func99, Tryz.ntmps99
   go_wp2
   refine bodyPost_ret (v := .agg #[.slice A n k, .int .i64 (a : Int), .int .i64 0]) (by simp [results, Tryz.results99, go_sem, qA]) rfl ⟨rfl, ?_⟩
   exact ((Below.refl _ _).alloc (Nat.le_refl _) _).alloc (by simp) _
set_option maxRecDepth 20000 in
set_option maxHeartbeats 3200000 in
theorem qfact_open (n : Nat) (ih : QExprOK n) (w : World) (r K : Nat) (L : List TokV) (a d : Nat) (vs : List Value) (ho : Zy w r K L) (hp : RPv r K L (.ok a d) vs) (hn : 4 * Zw L (.ok a d) + 1 ≤ n + 1) (hLn : Zw L (.ok a d) ≤ 68719476736) (hb : isT (Yg L a) Vc = true) :
   Calls Tryz.prog 80 #[.agg vs.toArray] w (PTo w r K L (Wh 3 L (n + 1) (.ok a d)).2 (Wh 3 L (n + 1) (.ok a d)).1.ds) := by
   have T0 := Hh (Env.start w)
   have HP0 := Hh hp
   obtain ⟨nn, hnn, rfl, ha, hd⟩ := hp.ok
   have HP := Hh HP0.out
   clear HP0
   have hrow := ho (by omega)
   have HR := Hh hrow
   have HN := Hh (And.intro hnn ha)
   clear hp hrow hnn
   have hop : isS L Vc (.ok a d) = true := hb
   have hdn := rem_downed L hop
   have heq : Wh 3 L (n + 1) (.ok a d) = ((Ya 3 L n (Vb L Vc (.ok a d))).1, riseS L Jd (Ya 3 L n (Vb L Vc (.ok a d))).2) := by rw [Wh, if_pos hop]
   have his : ∀ x, Ug x r K L → Calls Tryz.prog 43 #[.agg #[.slice (some ⟨r, 0, none⟩) nn K, .int .i64 (a : Int), .int .i64 (d : Int)], .string ⟨#[40]⟩] x (fun e w' => e = .returned (.bool true) ∧ Below x.heap.size x w') := fun x h => by rw [← hb]; exact qIs x r K L nn a d Vc HN.out.1 h HN.out.2
   have hj1 : ∀ (x : World) (us : List Value), Zy x r K L → RPv r K L (Ue (downV L (.ok a d)) (deeperS (.ok a d))) us → Calls Tryz.prog 23 #[.agg us.toArray, .string ⟨#[40]⟩] x (PPo x r K L (Vb L Vc (.ok a d))) := fun x us h1 h2 => by
     rw [deep_note L Vc _ hop] at h2
     exact Ur x r K L _ us Vc h1 h2
   have hex : ∀ (x : World) (us : List Value), Zy x r K L → RPv r K L (Vb L Vc (.ok a d)) us → Calls Tryz.prog 33 #[.agg us.toArray] x (PTo x r K L (Ya 3 L n (Vb L Vc (.ok a d))).2 (Ya 3 L n (Vb L Vc (.ok a d))).1.ds) := fun x us h1 h2 => ih x r K L _ us h1 h2 (by omega) (by omega)
   rw [heq]
   generalize Ya 3 L n (Vb L Vc (.ok a d)) = x at *
   have HX := Hh x.1.ds_len
   have hj2 : ∀ (y : World) (us : List Value), Zy y r K L → RPv r K L x.2 us → Calls Tryz.prog 23 #[.agg us.toArray, .string ⟨#[41]⟩] y (PPo y r K L (Ye L Jd x.2)) := fun y us h1 h2 => Ur y r K L _ us Jd h1 h2
   show Calls _ _ _ _ (PTo w r K L (upS (Ye L Jd x.2)) x.1.ds)
   generalize Ye L Jd x.2 = s4 at *
   generalize Vb L Vc (.ok a d) = s2 at *
   clear hb hop hdn heq hn hLn
   go_enter Tryz.func80, Tryz.ntmps80
   go_wp2_with (first
 | ((with_reducible refine Zf 1 ?_); refine Zs T0.out 62 _ ([.slice (some ⟨r, 0, none⟩) nn K, .int .i64 (a : Int), .int .i64 (d : Int), .int .i64 0, .int .i64 0, .int .i64 0]) rfl rfl rfl ?_; intro w1 g0 t1
    have T1 := Hh (t1)
    clear t1)
 | ((with_reducible refine Zf 2 ?_); refine Zc T1.out 62 _ rfl rfl z_P ?_; intro w2 g1 t2
    have T2 := Hh (t2)
    clear t2)
 | ((with_reducible refine Zf 3 ?_); refine Zc T2.out 44 _ rfl rfl z_ex ?_; intro w3 g2 t3
    have T3 := Hh (t3)
    clear t3)
 | ((with_reducible refine Zf 4 ?_); refine Zc T3.out 44 _ rfl rfl z_ex ?_; intro w4 g3 t4
    have T4 := Hh (t4)
    clear t4)
 | ((with_reducible refine Zj 4 9 ?_); refine Za 44 _ _ 44 g3 _ ([.int .i64 0, .int .i64 0, .int .i64 0, .int .i64 0, .int .i64 0, .int .i64 0, .slice none 0 0, .int .i64 0, .int .i64 0, .int .i64 0, .int .i64 0, .slice none 0 0]) (T4.out.get 3 rfl) rfl Ym (by simp [Value.oneCell']) rfl rfl rfl rfl rfl ?_
    intro w5 p5
    have T5 := Hh (T4.out.put 3 rfl p5)
    obtain ⟨c0, c1, c2, c3, c4, c5⟩ := Xy (T5.out.get 0 rfl)
    clear p5)
 | (go_at_call 43; refine (his _ (HR.out.below T5.out.below)).mono ?_; rintro e w6 ⟨rfl, b6⟩
    have T6 := Hh (T5.out.call b6)
    clear b6)
 | ((with_reducible refine Zf 20 ?_); refine Zb 62 _ 62 g0 _ (T6.out.get 0 rfl) Zp Yf rfl rfl rfl ?_)
 | (go_at_call 98; refine (qdeeper _ r K L (.ok a d) [.slice (some ⟨r, 0, none⟩) nn K, .int .i64 (a : Int), .int .i64 (d : Int), .int .i64 0, .int .i64 0, .int .i64 0] (ho.below T6.out.below) HP.out).mono ?_; rintro e w7 ⟨v1, rfl, h1, b7⟩
    have T7 := Hh (T6.out.call b7)
    clear b7)
 | (go_at_call 23; (with_reducible refine (hj1 _ v1 (ho.below T7.out.below) h1).mono ?_); rintro e w8 ⟨v2, rfl, h2, b8⟩
    have T8 := Hh (T7.out.call b8)
    clear b8)
 | (go_at_call 33; refine (hex _ v2 (ho.below T8.out.below) h2).mono ?_; rintro e w9 ⟨v3, u3, rfl, h3, d3, b9⟩
    have T9 := Hh (T8.out.tree b9 d3)
    have l3 := (d3.len.trans HX.out)
    have o3 := Hh d3.one
    clear d3
    clear b9)
 | ((with_reducible refine Zf 5 ?_); refine Zc T9.out 62 _ rfl rfl z_P ?_; intro w10 g4 t10
    have T10 := Hh (t10)
    clear t10)
 | ((with_reducible refine Zf 6 ?_); refine Zc T10.out 44 _ rfl rfl z_ex ?_; intro w11 g5 t11
    have T11 := Hh (t11)
    clear t11)
 | ((with_reducible refine Zj 5 24 ?_); refine Za 62 _ _ 62 g4 _ (v3) (T11.out.get 4 rfl) h3.len (Ze h3.len) h3.one rfl rfl rfl rfl rfl ?_
    intro w12 p12
    have T12 := Hh (T11.out.put 4 rfl p12)
    clear p12)
 | ((with_reducible refine Zj 6 25 ?_); refine Za 44 _ _ 44 g5 _ (u3) (T12.out.get 5 rfl) l3 (Xg l3) o3.out rfl rfl rfl rfl rfl ?_
    intro w13 p13
    have T13 := Hh (T12.out.put 5 rfl p13)
    clear p13)
 | ((with_reducible refine Zf 26 ?_); refine Zb 62 _ 62 g4 _ (T13.out.get 4 rfl) Zp (Ze h3.len) rfl rfl rfl ?_)
 | (go_at_call 23; (with_reducible refine (hj2 _ v3 (ho.below T13.out.below) h3).mono ?_); rintro e w14 ⟨v4, rfl, h4, b14⟩
    obtain ⟨A4, n4, k4, a4, d4, rfl, hd4, _⟩ := h4.form
    have T14 := Hh (T13.out.call b14)
    clear b14)
 | ((with_reducible refine Zj 5 27 ?_); refine Za 62 _ _ 62 g4 _ ([.slice A4 n4 k4, .int .i64 (a4 : Int), .int .i64 (d4 : Int), .int .i64 (Yy s4).1, .int .i64 ((Yy s4).2.1 : Int), .int .i64 ((Yy s4).2.2 : Int)]) (T14.out.get 4 rfl) (h3.len.symm) Yf (by simp [Value.oneCell']) rfl rfl rfl rfl rfl ?_
    intro w15 p15
    have T15 := Hh (T14.out.put 4 rfl p15)
    clear p15)
 | ((with_reducible refine Zf 29 ?_); refine Xt 60 _ 62 g4 0 ([]) ([.slice A4 n4 k4, .int .i64 (a4 : Int), .int .i64 (d4 : Int)]) ([.int .i64 (Yy s4).1, .int .i64 ((Yy s4).2.1 : Int), .int .i64 ((Yy s4).2.2 : Int)]) (T15.out.get 4 rfl) rfl Zaj Wm rfl rfl rfl ?_)
 | (go_at_call 99; refine (qUpA _ A4 n4 k4 a4 d4 hd4).mono ?_; rintro e w16 ⟨rfl, b16⟩
    have T16 := Hh (T15.out.call b16)
    clear b16)
 | ((with_reducible refine Zj 31 30 ?_); refine Xf 60 _ _ 62 g4 0 ([]) ([.slice A4 n4 k4, .int .i64 (a4 : Int), .int .i64 (d4 : Int)]) ([.int .i64 (Yy s4).1, .int .i64 ((Yy s4).2.1 : Int), .int .i64 ((Yy s4).2.2 : Int)]) ([.slice A4 n4 k4, .int .i64 (a4 : Int), .int .i64 ((d4 - 1 : Nat) : Int)]) (T16.out.get 4 rfl) rfl rfl Wm (by simp [Value.oneCell']) rfl rfl rfl rfl rfl ?_
    intro w17 p17
    have T17 : Hid (Env w [(g0, 62, [.slice (some ⟨r, 0, none⟩) nn K, .int .i64 (a : Int), .int .i64 (d : Int), .int .i64 0, .int .i64 0, .int .i64 0]), (g1, 62, [.slice none 0 0, .int .i64 0, .int .i64 0, .int .i64 0, .int .i64 0, .int .i64 0]), (g2, 44, [.int .i64 0, .int .i64 0, .int .i64 0, .int .i64 0, .int .i64 0, .int .i64 0, .slice none 0 0, .int .i64 0, .int .i64 0, .int .i64 0, .int .i64 0, .slice none 0 0]), (g3, 44, [.int .i64 0, .int .i64 0, .int .i64 0, .int .i64 0, .int .i64 0, .int .i64 0, .slice none 0 0, .int .i64 0, .int .i64 0, .int .i64 0, .int .i64 0, .slice none 0 0]), (g4, 62, [.slice A4 n4 k4, .int .i64 (a4 : Int), .int .i64 ((d4 - 1 : Nat) : Int), .int .i64 (Yy s4).1, .int .i64 ((Yy s4).2.1 : Int), .int .i64 ((Yy s4).2.2 : Int)]), (g5, 44, u3)] [] [(x.1.ds, u3)] w17) := Hh (T16.out.put 4 rfl p17)
    clear p17))
   refine ret2 Vu (by kernel_rfl) (by kernel_rfl) (by kernel_rfl) (by kernel_rfl) (by kernel_rfl) (by kernel_rfl) (by kernel_rfl) (by kernel_rfl) rfl rfl rfl rfl rfl rfl rfl rfl rfl rfl g4 g5 g1 g2 ([.slice A4 n4 k4, .int .i64 (a4 : Int), .int .i64 ((d4 - 1 : Nat) : Int), .int .i64 (Yy s4).1, .int .i64 ((Yy s4).2.1 : Int), .int .i64 ((Yy s4).2.2 : Int)]) (u3) ([.slice none 0 0, .int .i64 0, .int .i64 0, .int .i64 0, .int .i64 0, .int .i64 0]) ([.int .i64 0, .int .i64 0, .int .i64 0, .int .i64 0, .int .i64 0, .int .i64 0, .slice none 0 0, .int .i64 0, .int .i64 0, .int .i64 0, .int .i64 0, .slice none 0 0]) (T17.out.get 4 rfl) (T17.out.get 5 rfl) (T17.out.get 1 rfl) (T17.out.get 2 rfl) rfl l3 (by simp [Value.oneCell']) o3.out (T17.out.ne 4 1 (by decide) rfl rfl) (T17.out.ne 4 2 (by decide) rfl rfl) (T17.out.ne 5 1 (by decide) rfl rfl) (T17.out.ne 5 2 (by decide) rfl rfl) (T17.out.ne 1 2 (by decide) rfl rfl) Zp Yf Xc (Xg l3) rfl rfl rfl rfl rfl rfl ?_
   intro wz hR
   have HZ := Hh hR
   clear hR
   go_wp2
   obtain ⟨dz, bz⟩ := T17.out.ret2 1 2 rfl rfl HZ.out
   refine Yt 2 62 3 44 62 44 _ _ _ _ rfl HZ.out.one HZ.out.two Zp Yf Xc (Xg l3) rfl rfl rfl ?_
   exact ⟨_, u3, rfl, h4.up, dz (_, u3) (List.mem_singleton.2 rfl), bz⟩
end Go.Proofs.YtgfkimknnbpmnaaGreat
