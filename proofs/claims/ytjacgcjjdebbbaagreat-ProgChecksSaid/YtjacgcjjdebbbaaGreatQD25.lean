/-
  Texts Lst. No conditions but those that each theorem names.
-/
import Derived.Test.YtjacgcjjdebbbaaGreatQD22
import Derived.Test.YtjacgcjjdebbbaaGreatQD23
import Derived.Test.YtjacgcjjdebbbaaGreatQD24
namespace Go.Proofs.YtjacgcjjdebbbaaGreat
open Go.ChangeShapes Go.WideShapes Go.ChangeAt Go.RowKit
set_option linter.unusedVariables false
set_option linter.unusedSimpArgs false
def strV (l : List ByteArray) : List Value := l.map Value.string
structure LsAt (B : Nat) (w : World) (p : Nat) (v : Value) (bo : Bool) (ws : List ByteArray) : Prop where
 whole : Zb w p 113 #[v, .bool bo]
 row : w.ownsRow B 9 1 v ws.length (strV ws)
 lo : B ≤ p
 far : v.ownBlock ≠ some p
theorem LsAt.below {B : Nat} {w w' : World} {p : Nat} {v : Value} {bo : Bool} {ws : List ByteArray} (h : LsAt B w p v bo ws) (hb : Below w.heap.size w w') : LsAt B w' p v bo ws := ⟨h.whole.below hb h.whole.inside, Xr h.row hb, h.lo, h.far⟩
theorem LsAt.pushed {B : Nat} {w w' : World} {p : Nat} {v v' : Value} {bo : Bool} {ws ms : List ByteArray} (h : LsAt B w p v bo ws) (ho : w'.ownsRow B 9 1 v' (ws.length + ms.length) (strV ws ++ strV ms)) (hg : w.grownBy w' v.ownBlock)
   (hat : v'.ownBlock = v.ownBlock ∨ ∃ q, v'.ownBlock = some q ∧ w.heap.size ≤ q) : LsAt B (w'.setCell ⟨p, 0, none⟩ v') p v' bo (ws ++ ms) ∧ Yv p v w v' (w'.setCell ⟨p, 0, none⟩ v') := by
 have hk : Zg (fun k => v.ownBlock = some k) w w' := Zg.grown (Zg.refl _ _) hg fun k hk => hk
 have hin := h.whole.inside
 have n1 : v'.ownBlock ≠ some p := by
   rcases hat with e | ⟨q, e, hq⟩ <;> rw [e]
   · exact h.far
   · intro c; injection c with c; omega
 refine ⟨⟨by have := (hk.whole h.whole h.far).write 0 v'; simpa using this, ?_, h.lo, n1⟩, (hk.mono fun q hq => .inr hq).setCell (p := ⟨p, 0, none⟩) (.inl rfl) _, fun k hk => ?_⟩
 · rw [List.length_append, strV, List.map_append]; exact Yx ho n1 _
 · rcases hat with e | ⟨q, e, hq⟩
   · exact .inl (by rw [← e]; exact hk)
   · rw [e] at hk; injection hk with hk; exact .inr (by omega)
set_option maxRecDepth 20000 in
set_option maxHeartbeats 3200000 in
theorem lPut (B : Nat) (w : World) (p : Nat) (v : Value) (bo : Bool) (ws ms : List ByteArray) (q c : Nat) (h : LsAt B w p v bo ws) (hm0 : 0 < ms.length) (hm : ms.length ≤ 1000) (hl : ws.length ≤ 1000000) (hB : B ≤ w.heap.size)
   (hq : ∀ j u, (strV ms)[j]? = some u → w.cell? ⟨q, j, none⟩ = some u) :
   Calls Tryz.prog 50 #[.pointer (some ⟨p, 0, none⟩), .slice (some ⟨q, 0, none⟩) ms.length c] w fun e w' => e = .returned (.tuple #[]) ∧ ∃ v', LsAt B w' p v' bo (ws ++ ms) ∧ Yv p v w v' w' := by
 obtain ⟨A, cp, rfl, hcp, hml, _⟩ := Xn h.row
 obtain ⟨i0, hi0, hz0, hsz0, hby0⟩ := info_parts info_str
 unfold maxLen at hml
 have H1 := Hh h
 have hp : p < w.heap.size := h.whole.inside
 obtain ⟨c0, c1, f0, f1⟩ := whole2 h.whole
 have hne : some p ≠ (Value.slice A ws.length cp).ownBlock := fun c => h.far c.symm
 have HQ := Hh hq
 have a1 : ws.length + ms.length ≤ maxLen := by unfold maxLen; omega
 have a2 : (ws.length + ms.length) * 16 ≤ 140737488355328 := by omega
 have a3 : ∀ (Y : World), Y.heap = w.heap → B ≤ Y.heap.size := fun Y e => by rw [e]; exact hB
 have a4 : ∀ (Y : World), Y.heap = w.heap → Y.heap.size = w.heap.size := fun Y e => by rw [e]
 have a5 : ∀ (Y : World), Y.heap = w.heap → ∀ j u, (strV ms)[j]? = some u → Y.cell? ((⟨q, 0, none⟩ : Addr).add j) = some u := fun Y e j u hu => by
   rw [Addr.add_lit, Nat.zero_add]
   have := hq j u hu
   simp only [World.cell?] at this ⊢
   rw [e]; exact this
 have hgr : ∀ (Y w3 : World), Y.grownBy w3 (Value.slice A ws.length cp).ownBlock → Y.heap = w.heap → Y.os = w.os → Y.tape = w.tape → Y.output = w.output → w.grownBy w3 (Value.slice A ws.length cp).ownBlock := fun Y w3 hg e1 e2 e3 e4 =>
   ⟨hg.os.trans e2, hg.tape.trans e3, hg.output.trans e4, by have := hg.size; rw [e1] at this; exact this, fun k hk hn => by have := hg.block k (by rw [e1]; exact hk) hn; rw [e1] at this; exact this⟩
 have hfar : ∀ (w3 : World), w.grownBy w3 (Value.slice A ws.length cp).ownBlock → w3.cell? ⟨p, 0, none⟩ = some (.slice A ws.length cp) ∧ w3.frozen? ⟨p, 0, none⟩ = false := fun w3 hg =>
   ⟨(hg.cell_far ⟨p, 0, none⟩ hp hne).trans c0, (hg.frozen_far ⟨p, 0, none⟩ hp hne).trans f0⟩
 have a6 : ∀ u ∈ strV ms, u.oneCell' = true := by intro u hu; obtain ⟨s, _, rfl⟩ := List.mem_map.1 hu; rfl
 have a7 : (strV ms).length = ms.length * 1 := by simp [strV]
 clear h hq
 go_enter Tryz.func50, Tryz.ntmps50
 go_wp2_with (at_builtin; refine wpList_append_lies _ rfl (.tmp 8) (.tmp 9) 25 rfl B 9 i0 _ 1 16 Tryz.underlying25 hi0 hz0 hsz0 hby0 rfl (by decide) (Value.slice A ws.length cp) ws.length (strV ws) rfl H1.out.row ⟨q, 0, none⟩ ms.length c (strV ms) rfl a7 (a5 _ rfl) a6 hm0 a1 a2 (a3 _ rfl) w.heap.size rfl ?_; intro gg cap1 w3 hown1 hgrow hat hlt3
              have f3a := (hfar _ hgrow).1
              have f3b := (hfar _ hgrow).2
              have hmid := Hh (H1.out.pushed hown1 hgrow (hat.elim (fun e => .inl e.symm) fun e => .inr ⟨gg, rfl, by omega⟩))
              clear hgrow hown1 hat hlt3)
 go_end0
 exact ⟨rfl, _, hmid.out.1, hmid.out.2⟩
end Go.Proofs.YtjacgcjjdebbbaaGreat
