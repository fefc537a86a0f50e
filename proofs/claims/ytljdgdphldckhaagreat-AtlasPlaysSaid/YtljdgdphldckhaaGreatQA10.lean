/-
  Texts Bld. No conditions but those that each theorem names.
-/
import Derived.Lib.Builder
import Derived.Lib.UnsafeStr
import Derived.Lib.Hide
import Derived.Test.YtljdgdphldckhaaGreatQA2
import Derived.Test.YtljdgdphldckhaaGreatQA9
set_option maxRecDepth 20000
set_option maxHeartbeats 12800000
namespace Go.Proofs.YtljdgdphldckhaaGreat
open Go.ChangeShapes Go.WideShapes Go.ChangeAt Go.RowKit
set_option linter.unusedVariables false
set_option linter.unusedSimpArgs false
theorem Zb.shape {w : World} {g : Nat} {t : TypeId} {cs : Array Value} (h : Zb w g t cs) : w.shape? g = some (t, cs.size) := by
 unfold Zb at h
 simp [World.shape?, h]
theorem bd_size : ∃ j, Tryz.prog.info? 160 = some j ∧ j.size ≠ 0 := by
 have h : (Tryz.prog.info? 160).map (fun i => decide (i.size ≠ 0)) = some true := by kernel_rfl
 obtain ⟨j, hj, hz⟩ := Option.map_eq_some_iff.1 h
 exact ⟨j, hj, by simpa using hz⟩
theorem bd_used (b : Nat) (w : World) (h0 : w.cell? ⟨b, 0, none⟩ = some (.pointer (some ⟨b, 0, none⟩))) :
   Calls Tryz.prog 199 #[.pointer (some ⟨b, 0, none⟩)] w fun e w' => e = .returned (.tuple #[]) ∧ w = w' := by
 obtain ⟨j, hj, hz⟩ := bd_size
 have hq := Lib.run_neq_ptr_same (P := Tryz.prog) w ⟨b, 0, none⟩ Tryz.underlying157 hj
 go_enter Tryz.func199, Tryz.ntmps199
 go_wp2
 go_end0
 exact ⟨rfl, rfl⟩
theorem bd_fresh (T : TypeId) (n : Nat) (b : Nat) (w : World) (h0 : w.cell? ⟨b, 0, none⟩ = some (.pointer none)) (hsh : w.shape? b = some (T, n)) (hn : 0 < n) (hl : liesAt Tryz.prog Tryz.prog.depth T (n / Tryz.prog.cellsOf T) 0 160 1 = true) (hfz : w.frozen? ⟨b, 0, none⟩ = false) :
   Calls Tryz.prog 199 #[.pointer (some ⟨b, 0, none⟩)] w fun e w' => e = .returned (.tuple #[]) ∧ w' = w.setCell ⟨b, 0, none⟩ (.pointer (some ⟨b, 0, none⟩)) := by
 obtain ⟨j, hj, hz⟩ := bd_size
 have q1 := Lib.run_to_unsafe (P := Tryz.prog) w ⟨b, 0, none⟩ Tryz.underlying157 Tryz.underlying287 hj hz hsh hn
 have q2 := Lib.run_from_unsafe (P := Tryz.prog) w ⟨b, 0, none⟩ Tryz.underlying287 Tryz.underlying157 hj hsh hl
 have q3 : ∀ y, (callFunc 229 #[.pointer (some ⟨b, 0, none⟩)]).run Tryz.prog y = .ok (.value (.pointer (some ⟨b, 0, none⟩))) y := fun y => by
   rw [run_callFunc_extern Tryz.func229 (by kernel_rfl) (by kernel_rfl) (by kernel_rfl) (e := Extern.AbiNoEscape.same) (by kernel_rfl), Lib.run_noEscape]
   rfl
 have q4 := Lib.run_neq_ptr_same (P := Tryz.prog) (w.setCell ⟨b, 0, none⟩ (.pointer (some ⟨b, 0, none⟩))) ⟨b, 0, none⟩ Tryz.underlying157 hj
 clear hsh hl
 go_enter Tryz.func199, Tryz.ntmps199
 go_wp2
 go_end0
 exact ⟨rfl, rfl⟩
structure Uk (T : TypeId) (rest : List Value) (B : Nat) (w : World) (b : Nat) (a v : Value) (bs : List Int) : Prop where
 whole : Zb w b T (a :: v :: rest).toArray
 row : w.ownsRow B 5 1 v bs.length (bs.map (Value.int .u8))
 lo : B ≤ b
 far : v.ownBlock ≠ some b
 used : a = .pointer none ∨ a = .pointer (some ⟨b, 0, none⟩)
structure Wq (b : Nat) (v : Value) (w : World) (v' : Value) (w' : World) : Prop where
 keeps : Zo (fun k => k = b ∨ v.ownBlock = some k) w w'
 fresh : ∀ k, v'.ownBlock = some k → v.ownBlock = some k ∨ w.heap.size ≤ k
theorem Wq.refl (b : Nat) (v : Value) (w : World) : Wq b v w v w := ⟨Zo.refl _ _, fun _ h => .inl h⟩
theorem Wq.of_below {b : Nat} {v : Value} {w w' : World} (h : Below w.heap.size w w') : Wq b v w v w' := ⟨Zo.of_below h, fun _ h => .inl h⟩
theorem Wq.trans {b : Nat} {v v1 v2 : Value} {x y z : World} (h : Wq b v x v1 y) (k : Wq b v1 y v2 z) : Wq b v x v2 z := by
 refine ⟨⟨k.keeps.os.trans h.keeps.os, k.keeps.tape.trans h.keeps.tape, k.keeps.output.trans h.keeps.output, Nat.le_trans h.keeps.size k.keeps.size, fun i hi hn => ?_⟩, fun i hi => ?_⟩
 · refine (k.keeps.block i (Nat.lt_of_lt_of_le hi h.keeps.size) (fun c => ?_)).trans (h.keeps.block i hi hn)
   rcases c with c | c
   · exact hn (.inl c)
   · rcases h.fresh i c with e | e
     · exact hn (.inr e)
     · omega
 · rcases k.fresh i hi with e | e
   · exact h.fresh i e
   · exact .inr (Nat.le_trans h.keeps.size e)
theorem Uk.below {T : TypeId} {rest : List Value} {B : Nat} {w w' : World} {b : Nat} {a v : Value} {bs : List Int} (h : Uk T rest B w b a v bs) (hb : Below w.heap.size w w') : Uk T rest B w' b a v bs :=
 ⟨h.whole.below hb h.whole.inside, Un h.row hb, h.lo, h.far, h.used⟩
theorem Uk.self {T : TypeId} {rest : List Value} {B : Nat} {w : World} {b : Nat} {a v : Value} {bs : List Int} (h : Uk T rest B w b a v bs) : Uk T rest B (w.setCell ⟨b, 0, none⟩ (.pointer (some ⟨b, 0, none⟩))) b (.pointer (some ⟨b, 0, none⟩)) v bs :=
 ⟨by have := h.whole.write 0 (.pointer (some ⟨b, 0, none⟩)); simpa using this, Vx h.row h.far _, h.lo, h.far, .inr rfl⟩
theorem bdCheck {T : TypeId} {rest : List Value} {B : Nat} {w : World} {b : Nat} {a v : Value} {bs : List Int} (h : Uk T rest B w b a v bs) (hl : liesAt Tryz.prog Tryz.prog.depth T ((rest.length + 2) / Tryz.prog.cellsOf T) 0 160 1 = true) :
   Calls Tryz.prog 199 #[.pointer (some ⟨b, 0, none⟩)] w fun e w' => e = .returned (.tuple #[]) ∧ Uk T rest B w' b (.pointer (some ⟨b, 0, none⟩)) v bs ∧ Wq b v w v w' := by
 have c0 : w.cell? ⟨b, 0, none⟩ = some a := by rw [h.whole.read]; rfl
 rcases h.used with hu | hu
 · rw [hu] at c0
   refine (bd_fresh T (rest.length + 2) b w c0 (by rw [h.whole.shape]; simp) (by omega) hl (h.whole.thawed 0)).mono ?_
   rintro e w' ⟨rfl, rfl⟩
   exact ⟨rfl, h.self, (Zo.refl _ w).setCell (p := ⟨b, 0, none⟩) (.inl rfl) _, fun k hk => .inl hk⟩
 · rw [hu] at c0
   refine (bd_used b w c0).mono ?_
   rintro e w' ⟨rfl, rfl⟩
   subst hu
   exact ⟨rfl, h, Wq.refl _ _ _⟩
theorem Uk.pushed {T : TypeId} {rest : List Value} {B : Nat} {w w' : World} {b : Nat} {a v v' : Value} {bs m : List Int} (h : Uk T rest B w b a v bs) (ho : w'.ownsRow B 5 1 v' (bs.length + m.length) ((bs ++ m).map (Value.int .u8))) (hg : w.grownBy w' v.ownBlock)
   (hat : v'.ownBlock = v.ownBlock ∨ ∃ q, v'.ownBlock = some q ∧ w.heap.size ≤ q) : Uk T rest B (w'.setCell ⟨b, 1, none⟩ v') b a v' (bs ++ m) ∧ Wq b v w v' (w'.setCell ⟨b, 1, none⟩ v') := by
 have hk : Zo (fun k => v.ownBlock = some k) w w' := Zo.grown (Zo.refl _ _) hg fun k hk => hk
 have hin := h.whole.inside
 have n1 : v'.ownBlock ≠ some b := by
   rcases hat with e | ⟨q, e, hq⟩ <;> rw [e]
   · exact h.far
   · intro c; injection c with c; omega
 refine ⟨⟨by have := (hk.whole h.whole h.far).write 1 v'; simpa using this, ?_, h.lo, n1, h.used⟩, (hk.mono fun q hq => .inr hq).setCell (p := ⟨b, 1, none⟩) (.inl rfl) _, fun k hk => ?_⟩
 · rw [List.length_append]; exact Vx ho n1 _
 · rcases hat with e | ⟨q, e, hq⟩
   · exact .inl (by rw [← e]; exact hk)
   · rw [e] at hk; injection hk with hk; exact .inr (by omega)
theorem und_byt : Tryz.prog.underlying 158 = some (.slice 5) := by kernel_rfl
theorem info_byt : (Tryz.prog.info? 5).map (fun i => (i.zero, i.size, i.bytes)) = some (some (.int .u8 0), 1, 1) := by kernel_rfl
theorem bdString_w {T : TypeId} {rest : List Value} {B : Nat} {w : World} {b : Nat} {a v : Value} {bs : List Int} (m : List Int) (hm : ∀ x ∈ m, 0 ≤ x ∧ x < 256) (h : Uk T rest B w b a v bs) (hl : liesAt Tryz.prog Tryz.prog.depth T ((rest.length + 2) / Tryz.prog.cellsOf T) 0 160 1 = true)
   (hn : bs.length + m.length ≤ 1099511627776) (hB : B ≤ w.heap.size) :
   Calls Tryz.prog 152 #[.pointer (some ⟨b, 0, none⟩), .string (strOfNums m)] w fun e w' => e = .returned (.tuple #[.int .i64 (m.length : Int), .nilIface]) ∧ ∃ v', Uk T rest B w' b (.pointer (some ⟨b, 0, none⟩)) v' (bs ++ m) ∧ Wq b v w v' w' := by
 have C0 := Hh (bdCheck h hl)
 have HM := Hh hm
 have HN := Hh hn
 have hms := strOfNums_size m
 clear h hl hm hn
 go_enter Tryz.func152, Tryz.ntmps152
 go_wp2_with (first
 | (go_at_call 199; refine C0.out.mono ?_; rintro e w1 ⟨rfl, h1, s1⟩
    have H1 := Hh h1
    have S1 := Hh s1
    have c1 : w1.cell? ⟨b, 1, none⟩ = some v := by rw [h1.whole.read]; rfl
    have z1 := h1.whole.thawed 1
    have hsz := s1.keeps.size
    clear h1 s1)
 | (at_builtin; refine wpList_pushAt (.tmp 12) (.tmp 13) 158 9 5 und_byt (by kernel_rfl) info_byt rfl rfl B _ _ bs m rfl H1.out.row rfl HM.out HN.out (Nat.le_trans hB hsz) ?_; intro v2 w2 o2 g2 at2
    obtain ⟨A2, d2, rfl, _⟩ := Xx o2
    have P2 := Hh (H1.out.pushed o2 g2 (at2.elim .inl fun e => .inr ⟨_, e, Nat.le_refl _⟩))
    have hk2 : Zo (fun k => v.ownBlock = some k) w1 w2 := Zo.grown (Zo.refl _ _) g2 fun k hk => hk
    have z2 := (hk2.whole H1.out.whole H1.out.far).thawed 1
    have c2 : w2.cell? ⟨b, 1, none⟩ = some v := by rw [(hk2.whole H1.out.whole H1.out.far).read]; rfl
    clear o2 g2 at2 hk2))
 go_ret2
 exact ⟨rfl, _, P2.out.1, S1.out.trans P2.out.2⟩
theorem bdByte_w {T : TypeId} {rest : List Value} {B : Nat} {w : World} {b : Nat} {a v : Value} {bs : List Int} (c : Int) (h : Uk T rest B w b a v bs) (hl : liesAt Tryz.prog Tryz.prog.depth T ((rest.length + 2) / Tryz.prog.cellsOf T) 0 160 1 = true)
   (hn : bs.length ≤ 68719476736) (hB : B ≤ w.heap.size) :
   Calls Tryz.prog 151 #[.pointer (some ⟨b, 0, none⟩), .int .u8 c] w fun e w' => e = .returned .nilIface ∧ ∃ v', Uk T rest B w' b (.pointer (some ⟨b, 0, none⟩)) v' (bs ++ [c]) ∧ Wq b v w v' w' := by
 have C0 := Hh (bdCheck h hl)
 have HN := Hh hn
 clear h hl hn
 go_enter Tryz.func151, Tryz.ntmps151
 go_wp2_with (first
 | (go_at_call 199; refine C0.out.mono ?_; rintro e w1 ⟨rfl, h1, s1⟩
    have H1 := Hh h1
    have S1 := Hh s1
    have c1 : w1.cell? ⟨b, 1, none⟩ = some v := by rw [h1.whole.read]; rfl
    have z1 := h1.whole.thawed 1
    have hsz := s1.keeps.size
    clear h1 s1)
 | (at_builtin; refine Xm (.tmp 11) (.tmp 13) 158 5 1 1 _ und_byt info_byt rfl (by decide) (by decide) B v bs.length (bs.map (Value.int .u8)) [.int .u8 c] (Un H1.out.row (Za w1 _)) w1.heap.size (Zb.made _ _ _) rfl (by simp [Value.oneCell']) HN.out (by simp; omega) rfl rfl rfl rfl ?_; intro v2 w2 o2 g2 at2
    obtain ⟨A2, d2, rfl, _⟩ := Xx o2
    have H1' := H1.out.below (Za w1 (.cells #[.int .u8 c] 5))
    have P2 := Hh (H1'.pushed (m := [c]) (by simpa using o2) g2 (at2.elim .inl fun e => .inr ⟨_, e, Nat.le_refl _⟩))
    have S2 := Hh (S1.out.trans (Wq.of_below (Za w1 (.cells #[.int .u8 c] 5))))
    have hk2 : Zo (fun k => v.ownBlock = some k) _ w2 := Zo.grown (Zo.refl _ _) g2 fun k hk => hk
    have z2 := (hk2.whole H1'.whole H1'.far).thawed 1
    have c2 : w2.cell? ⟨b, 1, none⟩ = some v := by rw [(hk2.whole H1'.whole H1'.far).read]; rfl
    clear o2 g2 at2 hk2 H1'))
 go_ret
 exact ⟨rfl, _, P2.out.1, S2.out.trans P2.out.2⟩
set_option maxRecDepth 100000 in
theorem bdText {T : TypeId} {rest : List Value} {B : Nat} {w : World} {b : Nat} {a v : Value} (l : List UInt8) (h0 : l ≠ []) (h : Uk T rest B w b a v (l.map fun x => (x.toNat : Int))) :
   Calls Tryz.prog 106 #[.pointer (some ⟨b, 0, none⟩)] w fun e w' => e = .returned (.string ⟨l.toArray⟩) ∧ Below B w w' := by
 have hown := h.row
 have c1 : w.cell? ⟨b, 1, none⟩ = some v := by rw [h.whole.read]; rfl
 have hl0 : l.length ≠ 0 := by simpa using h0
 rw [List.length_map] at hown
 obtain ⟨g, cap, cur, rfl, hbg, hg, hnc, hcm, hcs, htake⟩ : ∃ g cap cur, v = .slice (some ⟨g, 0, none⟩) l.length cap ∧ B ≤ g ∧ w.heap[g]? = some (.cells cur 5 (0, 0)) ∧ l.length ≤ cap ∧ cap ≤ maxLen ∧ cur.size = cap * 1 ∧ cur.toList.take (l.length * 1) = (l.map fun x => (x.toNat : Int)).map (Value.int .u8) := by
   rcases hown.2 with ⟨_, hz⟩ | ⟨g, cap, cur, hv, r⟩
   · exact absurd hz hl0
   · exact ⟨g, cap, cur, hv, r⟩
 unfold maxLen at hcm
 have hSD : (Builtin.unsafeSliceData_ #[158] 206 #[.slice (some ⟨g, 0, none⟩) l.length cap]).run Tryz.prog w.drew = .ok (.pointer (some ⟨g, 0, none⟩)) w.drew :=
   Lib.run_unsafeSliceData_row _ _ _ _ _ _ (by omega)
 have hUS : (Builtin.unsafeString_ #[206, 3] 9 #[.pointer (some ⟨g, 0, none⟩), .int .i64 l.length]).run Tryz.prog w.drew = .ok (.string ⟨l.toArray⟩) (w.drew.freeze ⟨g, 0, none⟩ l.length) := by
   refine Lib.run_unsafeString_row w.drew 206 3 9 5 Tryz.underlying206 (by kernel_rfl) g cur.size (by have hg' : w.drew.heap[g]? = some (.cells cur 5 (0, 0)) := hg; simp [World.shape?, hg']) l h0 (by omega) (by omega) ?_
   intro j x hx
   have hj : j < l.length := (List.getElem?_eq_some_iff.1 hx).1
   have h3 := World.ownsRow.cellAt hown j (by omega)
   have h4 : w.cell? ⟨g, j, none⟩ = some (.int .u8 x.toNat) := by rw [h3]; simp [hx]
   have e : (⟨g, 0, none⟩ : Addr).add j = ⟨g, j, none⟩ := by rw [Addr.add_lit, Nat.zero_add]
   rw [e]
   exact h4
 clear hown htake hcs hg h
 go_enter Tryz.func106, Tryz.ntmps106
 go_wp2
 go_region
 all_goals (go_wp2; go_ret; exact ⟨rfl, Lib.below_freeze (Below.drew (Below.refl B w)) (p := ⟨g, 0, none⟩) hbg _⟩)
end Go.Proofs.YtljdgdphldckhaaGreat
