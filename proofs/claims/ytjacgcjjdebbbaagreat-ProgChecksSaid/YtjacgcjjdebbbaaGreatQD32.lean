/-
  Texts Lv. No conditions but those that each theorem names.
-/
import Derived.Test.YtjacgcjjdebbbaaGreatQD31
namespace Go.Proofs.YtjacgcjjdebbbaaGreat
open Go.ChangeShapes Go.WideShapes Go.ChangeAt Go.RowKit
set_option linter.unusedVariables false
set_option linter.unusedSimpArgs false
def lvT : ByteArray := ⟨#[112, 111, 119, 101, 114, 32, 109, 101, 32, 49, 32, 43, 32, 50, 59]⟩
def lvX : Ex := .bin 1 (.leaf 1 1 zSe 0 0 0) (.leaf 1 2 zSe 0 0 0)
def lvH : AH := { AH.zero 1 1 1 with sel := ⟨1, 0, 0, 0, [], 0⟩, num := lvX }
def lvA : Acs := .cons lvH .nil .nil .nil
theorem lv_is : actsP 5 lvT = (lvA, okF) := by kernel_rfl
theorem lv_code : Wp lvX ++ [⟨10, 0, 0, 0⟩] = exL4 := by kernel_rfl
theorem one_row {N : Nat → Prop} {w : World} {n : Nat} {ds : Ds} {vs : List Value} (h : Deep N w (.row n ds .nil) vs) : ∃ A c xs, vs = [.slice A n c] ∧ Within N w A xs ∧ Deep N w ds xs := by
 obtain ⟨A, c, xs, t, e, hn, hw, hd, ht⟩ := h
 have ht : t = [] := ht
 exact ⟨A, c, xs, by rw [e, ht], hw, hd⟩
theorem lv_row {w : World} {v : Value} {N : Nat → Prop} (h : Deep N w (.row lvA.len lvA.ds .nil) [v]) : ∃ ab cap F fd num cl cr thn els, v = .slice (some ⟨ab, 0, none⟩) 1 cap ∧ ab < w.heap.size ∧
   w.rangeAt ab 0 (Zk 1 1 1 [.int .i64 1, .int .i64 0, .int .i64 0, .int .i64 0, .slice F 0 fd, .int .i64 0] num 0 0 0 0 ⟨#[]⟩ 0 cl cr thn els) ∧ Deep (fun q => q < w.heap.size) w lvX.ds num ∧ cl.length = 12 ∧ cr.length = 12 ∧
   ∀ u ∈ Zk 1 1 1 [.int .i64 1, .int .i64 0, .int .i64 0, .int .i64 0, .slice F 0 fd, .int .i64 0] num 0 0 0 0 ⟨#[]⟩ 0 cl cr thn els, u.oneCell' = true := by
 obtain ⟨A, cap, xs, hv, hw, hd⟩ := one_row h
 obtain rfl : v = .slice A lvA.len cap := by injection hv
 have hd' : Deep N w ((lvH.dsr 0 .nil 0 .nil).app .nil) xs := hd
 rw [Ds.app_nil] at hd'
 have hone := hd'.one
 have hlen := hd'.len
 rw [AH.dsr_len] at hlen
 obtain ⟨_, rfl, _, rfl, _, rfl, k1⟩ := hd'
 obtain ⟨sel, _, rfl, h1, k2⟩ := Deep.split (x := lvH.sel.ds) k1
 obtain ⟨num, _, rfl, h2, k3⟩ := Deep.split (x := lvH.num.ds) k2
 obtain ⟨_, rfl, _, rfl, _, rfl, _, rfl, _, rfl, _, rfl, k4⟩ := k3
 obtain ⟨cl, _, rfl, h3, k5⟩ := Deep.split (x := lvH.cl.ds) k4
 obtain ⟨cr, _, rfl, h4, k6⟩ := Deep.split (x := lvH.cr.ds) k5
 obtain ⟨a, b, rfl, h5, h6⟩ := Deep.split (x := .row 0 .nil .nil) k6
 obtain ⟨A5, c5, _, rfl, _, _⟩ := one_row h5
 obtain ⟨A6, c6, _, rfl, _, _⟩ := one_row h6
 obtain ⟨_, rfl, _, rfl, _, rfl, _, rfl, F, fd, z0, _, rfl, _, _, _, _, rfl, hnil⟩ := h1
 cases hnil
 rcases hw with hw | ⟨ab, rfl, _, hab, hcell⟩
 · cases hw
 refine ⟨ab, cap, F, fd, num, cl, cr, .slice A5 0 c5, .slice A6 0 c6, rfl, hab, fun j u hj => ?_, h2.mono (fun q hq _ => hq), h3.len.trans (Ex.ds_len _), h4.len.trans (Ex.ds_len _), ?_⟩
 · rw [Nat.zero_add, hcell j ?_]
   · simpa [Zk, lvH, AH.zero] using hj
   · have := (List.getElem?_eq_some_iff.1 hj).1
     rw [hlen]
     have e : (Zk 1 1 1 [.int .i64 1, .int .i64 0, .int .i64 0, .int .i64 0, .slice F 0 fd, .int .i64 0] num 0 0 0 0 ⟨#[]⟩ 0 cl cr (.slice A5 0 c5) (.slice A6 0 c6)).length = 53 := by
       have e1 := h2.len.trans (Ex.ds_len _); have e2 := h3.len.trans (Ex.ds_len _); have e3 := h4.len.trans (Ex.ds_len _)
       simp [Zk, e1, e2, e3]
     rw [← e]; exact this
 · intro u hu; exact hone u (by simpa [Zk, lvH, AH.zero] using hu)
theorem ivs_at {j : Nat} (hj : j < 4) : ∀ (l : List IV) (i : Nat) (x : IV), l[i]? = some x → (ivs l)[i * 4 + j]? = x.cells[j]? := by
 intro l
 induction l with
 | nil => intro i x h; cases h
 | cons y r ih =>
   intro i x h
   have e : ivs (y :: r) = y.cells.toList ++ ivs r := by simp [ivs]
   have hl : y.cells.toList.length = 4 := rfl
   rw [e]
   cases i with
   | zero =>
     cases h
     rw [Nat.zero_mul, Nat.zero_add, List.getElem?_append_left (by rw [hl]; exact hj), Array.getElem?_toList]
   | succ i =>
     rw [List.getElem?_append_right (by rw [hl]; omega), hl, show (i + 1) * 4 + j - 4 = i * 4 + j by omega]
     exact ih i x h
theorem own_inss {w : World} {base : Nat} {v : Value} {n : Nat} {l : List IV} {f : Nat → IV} (h : w.ownsRow base 93 4 v n (ivs l)) (hn : n = l.length) (h0 : 0 < n) (hf : ∀ i, i < n → l[i]? = some (f i) ∧ (f i).wf) :
   ∃ g c, v = .slice (some ⟨g, 0, none⟩) n c ∧ Vx w (some ⟨g, 0, none⟩) n f := by
 have hown := h
 rcases hown.2 with ⟨_, hz⟩ | ⟨g, cap, cur, rfl, r⟩
 · omega
 · refine ⟨g, cap, rfl, fun i hi => ⟨_, rfl, (h.lt g rfl).2, fun j hj => ?_, (hf i hi).2⟩⟩
   have hx : (ivs l)[i * 4 + j]? = (f i).cells[j]? := by
     exact ivs_at hj l i (f i) (hf i hi).1
   have hlt : i * 4 + j < n * 4 := by omega
   have hc := World.ownsRow.cellAt h (i * 4 + j) hlt
   rw [Addr.add_lit, Addr.add_lit, Nat.zero_add, hc, hx]
theorem own_sel {w : World} {base : Nat} {v : Value} {a b c d e f : Value} (h : w.ownsRow base 60 6 v 1 [a, b, c, d, e, f]) : ∃ g cp, v = .slice (some ⟨g, 0, none⟩) 1 cp ∧ g < w.heap.size ∧ w.rangeAt g 0 [a, b, c, d, e, f] := by
 have hown := h
 rcases hown.2 with ⟨_, hz⟩ | ⟨g, cap, cur, rfl, r⟩
 · omega
 · refine ⟨g, cap, rfl, (h.lt g rfl).2, fun j u hj => ?_⟩
   have hlt := (List.getElem?_eq_some_iff.1 hj).1
   have hc := World.ownsRow.cellAt h j (by simpa using hlt)
   rw [Nat.zero_add, hc, hj]
theorem lv_wf : ∀ i, i < 4 → exL4[i]? = some (exF i) ∧ (exF i).wf := by
 intro i hi
 match i, hi with
 | 0, _ => exact ⟨rfl, by decide, by decide, by decide, by decide⟩
 | 1, _ => exact ⟨rfl, by decide, by decide, by decide, by decide⟩
 | 2, _ => exact ⟨rfl, by decide, by decide, by decide, by decide⟩
 | 3, _ => exact ⟨rfl, by decide, by decide, by decide, by decide⟩
theorem lv_same : (⟨exU.toArray⟩ : ByteArray) = ⟨#[48, 32, 112, 117, 115, 104, 32, 49, 10, 49, 32, 112, 117, 115, 104, 32, 50, 10, 50, 32, 97, 100, 100, 10, 51, 32, 112, 111, 119, 101, 114, 32, 109, 101, 10]⟩ := by decide +kernel
set_option maxRecDepth 20000 in
set_option maxHeartbeats 3200000 in
theorem lives_any (w : World) : Calls Tryz.prog 5 #[] w fun e w' => e = .returned (.bool true) ∧ Below w.heap.size w w' := by
 have T0 := Hh (Env.start w)
 have hac : ∀ x, Calls Tryz.prog 16 #[.string ⟨#[112, 111, 119, 101, 114, 32, 109, 101, 32, 49, 32, 43, 32, 50, 59]⟩] x (fun e w' => ∃ v : Value, e = .returned (.tuple #[v, .agg #[.int .i64 0, .int .i64 0, .int .i64 0]]) ∧ Deep (fun k => x.heap.size ≤ k) w' (.row lvA.len lvA.ds .nil) [v] ∧ Below x.heap.size x w') := fun x => by
   have h := xActs lvT x (by decide)
   rw [lv_is] at h
   exact h
 have HAC := Hh hac
 clear hac
 go_enter Tryz.func5, Tryz.ntmps5
 go_wp2_with (first
 | (go_at_call 16; refine (HAC.out _).mono ?_; rintro e w1 ⟨v1, rfl, d1, b1⟩
    have B1 := Hh b1
    have N1 := Zd w1 (.cells #[.int .i64 0, .int .i64 0, .int .i64 0] 41)
    have D1 := Hh (d1.below N1)
    have B2 := Hh (Xq b1 N1)
    clear d1 b1 N1)
 | (go_at_call 17
    obtain ⟨ab, cap, F, fd, num, cl, cr, thn, els, rfl, hab, hr, dn, lcl, lcr, o53⟩ := lv_row D1.out
    refine (gCode1 _ lvX (gExpr lvX ⟨rfl, rfl⟩) 1 1 1 0 0 0 0 0 0 0 0 0 F fd num cl cr ⟨#[]⟩ thn els ab cap hab hr dn lcl lcr o53 (by decide)).mono ?_
    rintro e w3 ⟨C3, S3, V3, d3, rfl, oc, os, b3⟩
    rw [lv_code] at oc
    obtain ⟨cg, cc, rfl, hin⟩ := own_inss (f := exF) oc rfl (by decide) lv_wf
    obtain ⟨sg, sd, rfl, hsg, hrs⟩ := own_sel os
    have HIN := Hh hin
    have HRS := Hh hrs
    have B3 := Hh (Xq B2.out b3)
    clear oc os b3 hin hrs hr dn o53)
 | (go_at_call 14; refine (pText w3 cg sg cc sd 0 0 0 0 (.slice V3 0 d3) rfl HIN.out hsg HRS.out).mono ?_; rintro e w4 ⟨rfl, b4⟩
    have B4 := Hh (Xq B3.out b4)
    have HS := Hh lv_same
    rw [HS.out]
    clear b4))
 go_ret
 exact ⟨rfl, B4.out⟩
end Go.Proofs.YtjacgcjjdebbbaaGreat
