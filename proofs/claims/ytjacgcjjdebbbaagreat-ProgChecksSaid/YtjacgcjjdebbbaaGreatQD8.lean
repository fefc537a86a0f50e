/-
  Texts SynMath, SynRem, Cur, RunesRef, DigRef, TokRef, TokRef2, TokRef3, TokRScan, TokLaws, Cur2, Cur3, Cur4, CurRef, SynMem, CurRef2, CurNil, SynP, SynP2, SynP3, SynP4. No conditions but those that each theorem names.
-/
import Derived.Deep.QuietTactic
import Derived.BigQuiet
import Derived.Deep.DeepCutAuto
import Derived.Deep.RegionHeld3
import Derived.RegionTactic
import Derived.Deep.MidRow
import Derived.OwnWalk
import Derived.Maps.AppendAt
import Derived.Test.YtjacgcjjdebbbaaGreatQD7
namespace Go.Proofs.YtjacgcjjdebbbaaGreat
open Go
set_option linter.unusedSimpArgs false
set_option linter.unusedVariables false
structure Fl where
 kind : Int
 op : Int
 n : Int
 name : ByteArray
structure Se where
 kind : Int
 side : Int
 wh : Int
 lane : Int
 fs : List Fl
 pick : Int
def zSe : Se := ⟨0, 0, 0, 0, [], 0⟩
inductive Ex where
 | leaf (kind n : Int) (sel : Se) (side tk tl : Int)
 | bin (op : Int) (l r : Ex)
def zEx : Ex := .leaf 0 0 zSe 0 0 0
structure AH where
 kind : Int
 line : Int
 col : Int
 sel : Se
 num : Ex
 side : Int
 tk : Int
 tl : Int
 how : Int
 name : ByteArray
 cop : Int
 cl : Ex
 cr : Ex
def AH.zero (k l c : Int) : AH := ⟨k, l, c, zSe, zEx, 0, 0, 0, 0, ⟨#[]⟩, 0, zEx, zEx⟩
inductive Acs where
 | nil
 | cons (h : AH) (thn els rest : Acs)
def Acs.len : Acs → Nat
 | .nil => 0
 | .cons _ _ _ r => r.len + 1
def Acs.app : Acs → Acs → Acs
 | .nil, y => y
 | .cons h t e r, y => .cons h t e (r.app y)
structure Ru where
 when_ : Int
 stratum : Int
 line : Int
 col : Int
 acts : Acs
structure Ca where
 name : ByteArray
 cost : Int
 power : Int
 line : Int
 col : Int
 rules : List Ru
structure Pl where
 name : ByteArray
 line : Int
 col : Int
 rules : List Ru
structure Fi where
 cards : List Ca
 places : List Pl
theorem Acs.app_nil : ∀ x : Acs, x.app .nil = x
 | .nil => rfl
 | .cons h t e r => by rw [Acs.app, Acs.app_nil r]
theorem Acs.app_assoc (y z : Acs) : ∀ x : Acs, (x.app y).app z = x.app (y.app z)
 | .nil => rfl
 | .cons h t e r => by rw [Acs.app, Acs.app, Acs.app, Acs.app_assoc y z r]
theorem Acs.len_app (y : Acs) : ∀ x : Acs, (x.app y).len = x.len + y.len
 | .nil => by rw [Acs.app, Acs.len]; omega
 | .cons h t e r => by rw [Acs.app, Acs.len, Acs.len, Acs.len_app y r]; omega
def wSel : List ByteArray := [⟨#[109, 101]⟩, ⟨#[105, 116]⟩, ⟨#[40]⟩]
def Zw : List ByteArray := [⟨#[109, 105, 110, 101]⟩, ⟨#[116, 104, 101, 105, 114, 115]⟩, ⟨#[98, 111, 116, 104]⟩]
def wWhere : List ByteArray := [⟨#[104, 101, 114, 101]⟩, ⟨#[97, 119, 97, 121]⟩, ⟨#[108, 97, 110, 101]⟩, ⟨#[97, 110, 121, 119, 104, 101, 114, 101]⟩]
def Xf : List ByteArray := [⟨#[99, 111, 115, 116]⟩, ⟨#[112, 111, 119, 101, 114]⟩, ⟨#[110, 97, 109, 101, 100]⟩, ⟨#[110, 111, 116]⟩]
def wMeIt : List ByteArray := [⟨#[109, 101]⟩, ⟨#[105, 116]⟩]
def wPick : List ByteArray := [⟨#[97, 108, 108]⟩, ⟨#[102, 105, 114, 115, 116]⟩, ⟨#[108, 97, 115, 116]⟩, ⟨#[119, 101, 97, 107, 101, 115, 116]⟩, ⟨#[115, 116, 114, 111, 110, 103, 101, 115, 116]⟩]
def wTo : List ByteArray := [⟨#[104, 101, 114, 101]⟩, ⟨#[108, 101, 102, 116]⟩, ⟨#[114, 105, 103, 104, 116]⟩, ⟨#[108, 97, 110, 101]⟩]
def wHow : List ByteArray := [⟨#[102, 105, 114, 115, 116]⟩, ⟨#[108, 97, 115, 116]⟩, ⟨#[99, 104, 101, 97, 112, 101, 115, 116]⟩, ⟨#[99, 111, 115, 116, 108, 105, 101, 115, 116]⟩]
def wOp : List ByteArray := [⟨#[60]⟩, ⟨#[60, 61]⟩, ⟨#[61]⟩, ⟨#[33, 61]⟩, ⟨#[62, 61]⟩, ⟨#[62]⟩]
def wSum : List ByteArray := [⟨#[43]⟩, ⟨#[45]⟩]
def Vd : List ByteArray := [⟨#[99, 111, 117, 110, 116]⟩, ⟨#[115, 117, 109]⟩, ⟨#[114, 111, 117, 110, 100]⟩, ⟨#[104, 97, 110, 100]⟩, ⟨#[102, 114, 101, 101]⟩]
def Wc : List ByteArray := [⟨#[112, 111, 119, 101, 114]⟩, ⟨#[115, 101, 116]⟩, ⟨#[100, 101, 115, 116, 114, 111, 121]⟩, ⟨#[109, 111, 118, 101]⟩, ⟨#[114, 101, 116, 117, 114, 110]⟩, ⟨#[115, 112, 97, 119, 110]⟩, ⟨#[100, 114, 97, 119]⟩, ⟨#[100, 105, 115, 99, 97, 114, 100]⟩, ⟨#[101, 110, 101, 114, 103, 121]⟩, ⟨#[105, 102]⟩, ⟨#[101, 97, 99, 104]⟩, ⟨#[97, 117, 114, 97]⟩, ⟨#[100, 111, 117, 98, 108, 101]⟩, ⟨#[115, 104, 105, 101, 108, 100]⟩, ⟨#[98, 97, 114]⟩]
def Vl : ByteArray := ⟨#[42]⟩
def sOpen : ByteArray := ⟨#[40]⟩
def sClose : ByteArray := ⟨#[41]⟩
def sBrace : ByteArray := ⟨#[123]⟩
def sUnbrace : ByteArray := ⟨#[125]⟩
def sSemi : ByteArray := ⟨#[59]⟩
def sElse : ByteArray := ⟨#[101, 108, 115, 101]⟩
def sMe : ByteArray := ⟨#[109, 101]⟩
def sIt : ByteArray := ⟨#[105, 116]⟩
inductive St where
 | ok (a d : Nat)
 | bad (F : Int × Nat × Nat)
def St.good : St → Bool
 | .ok _ _ => true
 | .bad _ => false
def Va (F : Int × Nat × Nat) : St → St
 | .ok a d => if F.1 = 0 then .ok a d else .bad F
 | .bad G => .bad G
def idxW (v : TokV) : List ByteArray → Nat
 | [] => 0
 | t :: r => if isT v t = true then 1 else if idxW v r = 0 then 0 else idxW v r + 1
section
variable (L : List TokV)
def St.tok : St → TokV
 | .ok a _ => Yd L a
 | .bad _ => zTok
def wrongS : St → St
 | .ok a d => .bad (wrF (Yd L a))
 | .bad F => .bad F
def isS (t : ByteArray) : St → Bool
 | .ok a _ => isT (Yd L a) t
 | .bad _ => false
def Xi (t : ByteArray) : St → St
 | .ok a d => .ok (wantA L a t) d
 | .bad F => .bad F
def Vr (t : ByteArray) (st : St) : St := if isS L t st = true then Xi L t st else wrongS L st
def intN : St → Int
 | .ok a _ => intV L a
 | .bad _ => 0
def intS : St → St
 | .ok a d => Va (kindF L a 2) (.ok (kindA L a 2) d)
 | .bad F => .bad F
def nameN : St → ByteArray
 | .ok a _ => nameV L a
 | .bad _ => ⟨#[]⟩
def Vv : St → St
 | .ok a d => Va (kindF L a 3) (.ok (kindA L a 3) d)
 | .bad F => .bad F
def signN : St → Int
 | .ok a _ => signV L a
 | .bad _ => 0
def signS : St → St
 | .ok a d => Va (signF L a) (.ok (signA L a) d)
 | .bad F => .bad F
def Zn (ws : List ByteArray) : St → Nat
 | .ok a _ => idxW (Yd L a) ws
 | .bad _ => 0
def Ym (ws : List ByteArray) : St → St
 | .ok a d => if idxW (Yd L a) ws = 0 then .ok a d else .ok (onA L a) d
 | .bad F => .bad F
def Ye (ws : List ByteArray) (st : St) : St := if Zn L ws st = 0 then wrongS L st else Ym L ws st
def deepS (t : ByteArray) : St → St
 | .ok a d => if isT (Yd L a) t = true then Va (downF L a d) (.ok a (downD d)) else .ok a d
 | .bad F => .bad F
def upS : St → St
 | .ok a d => .ok a (d - 1)
 | .bad F => .bad F
def Vp (t : ByteArray) (st : St) : St := Vr L t (deepS L t st)
def riseS (t : ByteArray) (st : St) : St := upS (Vr L t st)
def overS : St → St
 | .ok a d => if (Yd L a).k = 0 then .ok a d else .bad (wrF (Yd L a))
 | .bad F => .bad F
def Zv : St → Nat
 | .ok a _ => L.length - a
 | .bad _ => 0
end
section
variable (nk : Int) (L : List TokV)
def Wj (k : Nat) (s : St) : Fl × St :=
 if k = 1 ∨ k = 2 then (⟨k, Zn L wOp s, signN L (Ye L wOp s), ⟨#[]⟩⟩, signS L (Ye L wOp s))
 else if k = 3 then (⟨3, 0, 0, nameN L s⟩, Vv L s)
 else (⟨if Zn L wMeIt s = 0 then nk else 3 + (Zn L wMeIt s : Int), 0, 0, ⟨#[]⟩⟩, Ye L wMeIt s)
def Yy : Nat → St → List Fl × St
 | 0, st => ([], st)
 | n + 1, st =>
   if Zn L Xf st = 0 then ([], st)
   else
     ((Wj nk L (Zn L Xf st) (Ym L Xf st)).1 :: (Yy n (Wj nk L (Zn L Xf st) (Ym L Xf st)).2).1,
       (Yy n (Wj nk L (Zn L Xf st) (Ym L Xf st)).2).2)
def whereN (st : St) : Int × Int × Int := (Zn L Zw st, Zn L wWhere (Ye L Zw st), if Zn L wWhere (Ye L Zw st) = 3 then intN L (Ye L wWhere (Ye L Zw st)) else 0)
def whereS (st : St) : St := if Zn L wWhere (Ye L Zw st) = 3 then intS L (Ye L wWhere (Ye L Zw st)) else Ye L wWhere (Ye L Zw st)
def Yt (n : Nat) (st : St) : Se × St :=
 if Zn L wSel st = 3 then
   (⟨3, (whereN L (Ye L wSel st)).1, (whereN L (Ye L wSel st)).2.1, (whereN L (Ye L wSel st)).2.2, (Yy nk L n (whereS L (Ye L wSel st))).1,
       Zn L wPick (Yy nk L n (whereS L (Ye L wSel st))).2⟩,
     Vr L sClose (Ye L wPick (Yy nk L n (whereS L (Ye L wSel st))).2))
 else (⟨Zn L wSel st, 0, 0, 0, [], 0⟩, Ye L wSel st)
def toK (st : St) : Int := Zn L wTo st
def toL (st : St) : Int := if Zn L wTo st = 4 then intN L (Ye L wTo st) else 0
def toS (st : St) : St := if Zn L wTo st = 4 then intS L (Ye L wTo st) else Ye L wTo st
mutual
def Ya : Nat → St → Ex × St
 | 0, st => (zEx, st)
 | n + 1, st => exprL n (Vo n st)
def exprL : Nat → Ex × St → Ex × St
 | 0, x => x
 | n + 1, x =>
   if Zn L wSum x.2 = 0 then x
   else exprL n (.bin (Zn L wSum x.2) x.1 (Vo n (Ym L wSum x.2)).1, (Vo n (Ym L wSum x.2)).2)
def Vo : Nat → St → Ex × St
 | 0, st => (zEx, st)
 | n + 1, st => prodL n (Vi n st)
def prodL : Nat → Ex × St → Ex × St
 | 0, x => x
 | n + 1, x =>
   if isS L Vl x.2 = true then prodL n (.bin 3 x.1 (Vi n (Xi L Vl x.2)).1, (Vi n (Xi L Vl x.2)).2)
   else x
def Vi : Nat → St → Ex × St
 | 0, st => (zEx, st)
 | n + 1, st =>
   if isS L sOpen st = true then ((Ya n (Vp L sOpen st)).1, riseS L sClose (Ya n (Vp L sOpen st)).2)
   else if Zn L Vd st = 0 then (.leaf 1 (signN L st) zSe 0 0 0, signS L st)
   else if Zn L Vd st = 1 ∨ Zn L Vd st = 2 then (.leaf (Zn L Vd st + 1) 0 (Yt nk L n (Ym L Vd st)).1 0 0 0, (Yt nk L n (Ym L Vd st)).2)
   else if Zn L Vd st = 3 then (.leaf 4 0 zSe 0 0 0, Ym L Vd st)
   else if Zn L Vd st = 4 then (.leaf 5 0 zSe (Zn L Zw (Ym L Vd st)) 0 0, Ye L Zw (Ym L Vd st))
   else (.leaf 6 0 zSe (Zn L Zw (Ym L Vd st)) (toK L (Ye L Zw (Ym L Vd st))) (toL L (Ye L Zw (Ym L Vd st))), toS L (Ye L Zw (Ym L Vd st)))
end
def Yb (n : Nat) (h : AH) (k : Nat) (st : St) : AH × St :=
 if k = 1 ∨ k = 2 ∨ k = 12 then ({ h with sel := (Yt nk L n st).1, num := (Ya nk L n (Yt nk L n st).2).1 }, (Ya nk L n (Yt nk L n st).2).2)
 else if k = 3 ∨ k = 5 ∨ k = 14 then ({ h with sel := (Yt nk L n st).1 }, (Yt nk L n st).2)
 else if k = 4 then ({ h with sel := (Yt nk L n st).1, tk := toK L (Yt nk L n st).2, tl := toL L (Yt nk L n st).2 }, toS L (Yt nk L n st).2)
 else if k = 6 then
   ({ h with name := nameN L st, side := Zn L Zw (Vv L st), tk := toK L (Ye L Zw (Vv L st)), tl := toL L (Ye L Zw (Vv L st)), num := (Ya nk L n (toS L (Ye L Zw (Vv L st)))).1 },
     (Ya nk L n (toS L (Ye L Zw (Vv L st)))).2)
 else if k = 7 ∨ k = 9 then ({ h with side := Zn L Zw st, num := (Ya nk L n (Ye L Zw st)).1 }, (Ya nk L n (Ye L Zw st)).2)
 else if k = 8 then ({ h with side := Zn L Zw st, how := Zn L wHow (Ye L Zw st) }, Ye L wHow (Ye L Zw st))
 else if k = 13 ∨ k = 15 then ({ h with side := Zn L Zw st, tk := toK L (Ye L Zw st), tl := toL L (Ye L Zw st) }, toS L (Ye L Zw st))
 else (h, st)
def Xp (n : Nat) (h : AH) (st : St) : AH × St :=
 ({ h with cl := (Ya nk L n st).1, cop := Zn L wOp (Ya nk L n st).2, cr := (Ya nk L n (Ye L wOp (Ya nk L n st).2)).1 }, (Ya nk L n (Ye L wOp (Ya nk L n st).2)).2)
structure AO where
 h : AH
 thn : Acs
 els : Acs
 st : St
mutual
def We : Nat → St → Acs × St
 | 0, st => (.nil, st)
 | n + 1, st =>
   if Zn L Wc st = 0 then (.nil, st)
   else
     (.cons (Wn n (AH.zero (Zn L Wc st) (st.tok L).line (st.tok L).col) (Zn L Wc st) (Ym L Wc st)).h
         (Wn n (AH.zero (Zn L Wc st) (st.tok L).line (st.tok L).col) (Zn L Wc st) (Ym L Wc st)).thn
         (Wn n (AH.zero (Zn L Wc st) (st.tok L).line (st.tok L).col) (Zn L Wc st) (Ym L Wc st)).els
         (We n (Wn n (AH.zero (Zn L Wc st) (st.tok L).line (st.tok L).col) (Zn L Wc st) (Ym L Wc st)).st).1,
       (We n (Wn n (AH.zero (Zn L Wc st) (st.tok L).line (st.tok L).col) (Zn L Wc st) (Ym L Wc st)).st).2)
def Wn : Nat → AH → Nat → St → AO
 | 0, h, _, st => ⟨h, .nil, .nil, st⟩
 | n + 1, h, k, st =>
   if k = 10 then
     if isS L sElse (Yl n (Xp nk L n h st).2).2 = true then
       ⟨(Xp nk L n h st).1, (Yl n (Xp nk L n h st).2).1, (Yl n (Xi L sElse (Yl n (Xp nk L n h st).2).2)).1, (Yl n (Xi L sElse (Yl n (Xp nk L n h st).2).2)).2⟩
     else ⟨(Xp nk L n h st).1, (Yl n (Xp nk L n h st).2).1, .nil, (Yl n (Xp nk L n h st).2).2⟩
   else if k = 11 then ⟨{ h with sel := (Yt nk L n st).1 }, (Yl n (Yt nk L n st).2).1, .nil, (Yl n (Yt nk L n st).2).2⟩
   else ⟨(Yb nk L n h k st).1, .nil, .nil, Vr L sSemi (Yb nk L n h k st).2⟩
def Yl : Nat → St → Acs × St
 | 0, st => (.nil, st)
 | n + 1, st => ((We n (Vp L sBrace st)).1, riseS L sUnbrace (We n (Vp L sBrace st)).2)
end
end
theorem isT_k {v : TokV} {t : ByteArray} (h : isT v t = true) : v.k ≠ 0 := by
 unfold isT at h
 intro c
 rw [c] at h
 simp at h
theorem idxW_k {v : TokV} : ∀ {ws : List ByteArray}, idxW v ws ≠ 0 → v.k ≠ 0
 | [], h => absurd rfl h
 | t :: r, h => by
   unfold idxW at h
   by_cases ht : isT v t = true
   · exact isT_k ht
   · rw [if_neg ht] at h
     by_cases hr : idxW v r = 0
     · rw [if_pos hr] at h; exact absurd rfl h
     · exact idxW_k hr
theorem idxW_le (v : TokV) : ∀ ws : List ByteArray, idxW v ws ≤ ws.length
 | [] => Nat.le_refl _
 | t :: r => by
   have := idxW_le v r
   unfold idxW
   rw [List.length_cons]
   split
   · omega
   · split <;> omega
theorem curT_lt {L : List TokV} {a : Nat} (h : (Yd L a).k ≠ 0) : a < L.length := by
 apply Nat.lt_of_not_le
 intro c
 unfold Yd at h
 rw [List.getElem?_eq_none c] at h
 exact h rfl
theorem onA_le (L : List TokV) (a : Nat) : L.length - onA L a ≤ L.length - a := by unfold onA; split <;> omega
theorem onA_lt {L : List TokV} {a : Nat} (h : (Yd L a).k ≠ 0) : L.length - onA L a + 1 ≤ L.length - a := by
 have := curT_lt h
 unfold onA
 rw [if_neg h]
 omega
section
variable (L : List TokV)
theorem rem_note (F : Int × Nat × Nat) (st : St) : Zv L (Va F st) ≤ Zv L st := by
 cases st with
 | ok a d =>
   by_cases h : F.1 = 0
   · rw [show Va F (.ok a d) = .ok a d from if_pos h]; exact Nat.le_refl _
   · rw [show Va F (.ok a d) = .bad F from if_neg h]; exact Nat.zero_le _
 | bad G => exact Nat.le_refl _
theorem rem_wrong (st : St) : Zv L (wrongS L st) ≤ Zv L st := by cases st <;> exact Nat.zero_le _
theorem wantA_le (a : Nat) (t : ByteArray) : L.length - wantA L a t ≤ L.length - a := by
 unfold wantA
 split
 · exact onA_le L a
 · exact Nat.le_refl _
theorem kindA_le (a : Nat) (k : Int) : L.length - kindA L a k ≤ L.length - a := by
 unfold kindA
 split
 · exact onA_le L a
 · exact Nat.le_refl _
theorem signA_le (a : Nat) : L.length - signA L a ≤ L.length - a := by
 unfold signA
 split
 · split
   · exact Nat.le_trans (onA_le L _) (onA_le L a)
   · exact Nat.le_refl _
 · exact kindA_le L a 2
theorem rem_take (t : ByteArray) (st : St) : Zv L (Xi L t st) ≤ Zv L st := by
 cases st with
 | ok a d => exact wantA_le L a t
 | bad F => exact Nat.le_refl _
theorem rem_took {t : ByteArray} {st : St} (h : isS L t st = true) : Zv L (Xi L t st) + 1 ≤ Zv L st := by
 cases st with
 | ok a d =>
   have h' : isT (Yd L a) t = true := h
   show L.length - wantA L a t + 1 ≤ L.length - a
   unfold wantA
   rw [if_pos h']
   exact onA_lt (isT_k h')
 | bad F => cases h
theorem rem_want (t : ByteArray) (st : St) : Zv L (Vr L t st) ≤ Zv L st := by
 unfold Vr
 split
 · exact rem_take L t st
 · exact rem_wrong L st
theorem rem_wanted {t : ByteArray} {st : St} (h : isS L t st = true) : Zv L (Vr L t st) + 1 ≤ Zv L st := by
 unfold Vr
 rw [if_pos h]
 exact rem_took L h
theorem rem_int (st : St) : Zv L (intS L st) ≤ Zv L st := by
 cases st with
 | ok a d => have h := rem_note L (kindF L a 2) (.ok (kindA L a 2) d); exact Nat.le_trans h (kindA_le L a 2)
 | bad F => exact Nat.le_refl _
theorem rem_name (st : St) : Zv L (Vv L st) ≤ Zv L st := by
 cases st with
 | ok a d => have h := rem_note L (kindF L a 3) (.ok (kindA L a 3) d); exact Nat.le_trans h (kindA_le L a 3)
 | bad F => exact Nat.le_refl _
theorem rem_sign (st : St) : Zv L (signS L st) ≤ Zv L st := by
 cases st with
 | ok a d => have h := rem_note L (signF L a) (.ok (signA L a) d); exact Nat.le_trans h (signA_le L a)
 | bad F => exact Nat.le_refl _
theorem rem_find (ws : List ByteArray) (st : St) : Zv L (Ym L ws st) ≤ Zv L st := by
 cases st with
 | ok a d =>
   by_cases h : idxW (Yd L a) ws = 0
   · rw [show Ym L ws (.ok a d) = .ok a d from if_pos h]; exact Nat.le_refl _
   · rw [show Ym L ws (.ok a d) = .ok (onA L a) d from if_neg h]; exact onA_le L a
 | bad F => exact Nat.le_refl _
theorem rem_found {ws : List ByteArray} {st : St} (h : ¬ Zn L ws st = 0) : Zv L (Ym L ws st) + 1 ≤ Zv L st := by
 cases st with
 | ok a d =>
   have h' : ¬ idxW (Yd L a) ws = 0 := h
   rw [show Ym L ws (.ok a d) = .ok (onA L a) d from if_neg h']
   exact onA_lt (idxW_k h')
 | bad F => exact absurd rfl h
theorem find_none {ws : List ByteArray} {st : St} (h : Zn L ws st = 0) : Ym L ws st = st := by
 cases st with
 | ok a d =>
   have h' : idxW (Yd L a) ws = 0 := h
   exact if_pos h'
 | bad F => rfl
theorem Yr (ws : List ByteArray) (st : St) : Zv L (Ye L ws st) ≤ Zv L st := by
 unfold Ye
 split
 · exact rem_wrong L st
 · exact rem_find L ws st
theorem rem_deep (t : ByteArray) (st : St) : Zv L (deepS L t st) ≤ Zv L st := by
 cases st with
 | ok a d =>
   by_cases h : isT (Yd L a) t = true
   · rw [show deepS L t (.ok a d) = Va (downF L a d) (.ok a (downD d)) from if_pos h]; exact rem_note L (downF L a d) (.ok a (downD d))
   · rw [show deepS L t (.ok a d) = .ok a d from if_neg h]; exact Nat.le_refl _
 | bad F => exact Nat.le_refl _
theorem rem_up (st : St) : Zv L (upS st) = Zv L st := by cases st <;> rfl
theorem rem_down (t : ByteArray) (st : St) : Zv L (Vp L t st) ≤ Zv L st := Nat.le_trans (rem_want L t _) (rem_deep L t st)
theorem rem_rise (t : ByteArray) (st : St) : Zv L (riseS L t st) ≤ Zv L st := by unfold riseS; rw [rem_up]; exact rem_want L t st
theorem is_deep {t : ByteArray} {st : St} (h : isS L t st = true) : (deepS L t st).good = true → isS L t (deepS L t st) = true := by
 cases st with
 | ok a d =>
   have h' : isT (Yd L a) t = true := h
   rw [show deepS L t (.ok a d) = Va (downF L a d) (.ok a (downD d)) from if_pos h']
   by_cases hf : (downF L a d).1 = 0
   · rw [show Va (downF L a d) (.ok a (downD d)) = .ok a (downD d) from if_pos hf]; intro _; exact h'
   · rw [show Va (downF L a d) (.ok a (downD d)) = .bad (downF L a d) from if_neg hf]; intro c; cases c
 | bad F => cases h
theorem rem_downed {t : ByteArray} {st : St} (h : isS L t st = true) : Zv L (Vp L t st) + 1 ≤ Zv L st := by
 have h1 := is_deep L h
 have h2 := rem_deep L t st
 unfold Vp
 cases hd : deepS L t st with
 | ok a d =>
   rw [hd] at h1 h2
   have := rem_wanted L (h1 rfl)
   omega
 | bad F =>
   have h3 : 1 ≤ Zv L st := by have := rem_took L h; omega
   have : Zv L (Vr L t (.bad F)) ≤ 0 := rem_want L t (.bad F)
   omega
variable (nk : Int)
theorem rem_filter (k : Nat) (s : St) : Zv L (Wj nk L k s).2 ≤ Zv L s := by
 unfold Wj
 split
 · exact Nat.le_trans (rem_sign L _) (Yr L _ _)
 · split
   · exact rem_name L s
   · exact Yr L _ _
theorem rem_filters : ∀ (n : Nat) (st : St), Zv L (Yy nk L n st).2 ≤ Zv L st
 | 0, st => Nat.le_refl _
 | n + 1, st => by
   unfold Yy
   split
   · exact Nat.le_refl _
   · exact Nat.le_trans (rem_filters n _) (Nat.le_trans (rem_filter L nk _ _) (rem_find L _ _))
theorem rem_where (st : St) : Zv L (whereS L st) ≤ Zv L st := by
 unfold whereS
 split
 · exact Nat.le_trans (rem_int L _) (Nat.le_trans (Yr L _ _) (Yr L _ _))
 · exact Nat.le_trans (Yr L _ _) (Yr L _ _)
theorem Wx (n : Nat) (st : St) : Zv L (Yt nk L n st).2 ≤ Zv L st := by
 unfold Yt
 split
 · exact Nat.le_trans (rem_want L _ _) (Nat.le_trans (Yr L _ _) (Nat.le_trans (rem_filters L nk n _) (Nat.le_trans (rem_where L _) (Yr L _ _))))
 · exact Yr L _ _
theorem rem_to (st : St) : Zv L (toS L st) ≤ Zv L st := by
 unfold toS
 split
 · exact Nat.le_trans (rem_int L _) (Yr L _ _)
 · exact Yr L _ _
theorem rem_exprs : ∀ n : Nat, (∀ st, Zv L (Ya nk L n st).2 ≤ Zv L st) ∧ (∀ x, Zv L (exprL nk L n x).2 ≤ Zv L x.2) ∧ (∀ st, Zv L (Vo nk L n st).2 ≤ Zv L st) ∧
   (∀ x, Zv L (prodL nk L n x).2 ≤ Zv L x.2) ∧ (∀ st, Zv L (Vi nk L n st).2 ≤ Zv L st) := by
 intro n
 induction n with
 | zero => exact ⟨fun _ => by simp [Ya], fun _ => by simp [exprL], fun _ => by simp [Vo], fun _ => by simp [prodL], fun _ => by simp [Vi]⟩
 | succ n ih =>
   obtain ⟨h1, h2, h3, h4, h5⟩ := ih
   refine ⟨fun st => ?_, fun x => ?_, fun st => ?_, fun x => ?_, fun st => ?_⟩
   · unfold Ya; exact Nat.le_trans (h2 _) (h3 _)
   · unfold exprL
     split
     · exact Nat.le_refl _
     · exact Nat.le_trans (h2 _) (Nat.le_trans (h3 _) (rem_find L _ _))
   · unfold Vo; exact Nat.le_trans (h4 _) (h5 _)
   · unfold prodL
     split
     · exact Nat.le_trans (h4 _) (Nat.le_trans (h5 _) (rem_take L _ _))
     · exact Nat.le_refl _
   · unfold Vi
     split
     · exact Nat.le_trans (rem_rise L _ _) (Nat.le_trans (h1 _) (rem_down L _ _))
     · split
       · exact rem_sign L _
       · split
         · exact Nat.le_trans (Wx L nk n _) (rem_find L _ _)
         · split
           · exact rem_find L _ _
           · split
             · exact Nat.le_trans (Yr L _ _) (rem_find L _ _)
             · exact Nat.le_trans (rem_to L _) (Nat.le_trans (Yr L _ _) (rem_find L _ _))
theorem rem_expr (n : Nat) (st : St) : Zv L (Ya nk L n st).2 ≤ Zv L st := (rem_exprs L nk n).1 st
theorem rem_prod (n : Nat) (st : St) : Zv L (Vo nk L n st).2 ≤ Zv L st := (rem_exprs L nk n).2.2.1 st
theorem rem_fact (n : Nat) (st : St) : Zv L (Vi nk L n st).2 ≤ Zv L st := (rem_exprs L nk n).2.2.2.2 st
theorem rem_plain (n : Nat) (h : AH) (k : Nat) (st : St) : Zv L (Yb nk L n h k st).2 ≤ Zv L st := by
 unfold Yb
 split
 · exact Nat.le_trans (rem_expr L nk n _) (Wx L nk n _)
 · split
   · exact Wx L nk n _
   · split
     · exact Nat.le_trans (rem_to L _) (Wx L nk n _)
     · split
       · exact Nat.le_trans (rem_expr L nk n _) (Nat.le_trans (rem_to L _) (Nat.le_trans (Yr L _ _) (rem_name L _)))
       · split
         · exact Nat.le_trans (rem_expr L nk n _) (Yr L _ _)
         · split
           · exact Nat.le_trans (Yr L _ _) (Yr L _ _)
           · split
             · exact Nat.le_trans (rem_to L _) (Yr L _ _)
             · exact Nat.le_refl _
theorem rem_cond (n : Nat) (h : AH) (st : St) : Zv L (Xp nk L n h st).2 ≤ Zv L st :=
 Nat.le_trans (rem_expr L nk n _) (Nat.le_trans (Yr L _ _) (rem_expr L nk n _))
theorem rem_actss : ∀ n : Nat, (∀ st, Zv L (We nk L n st).2 ≤ Zv L st) ∧ (∀ h k st, Zv L (Wn nk L n h k st).st ≤ Zv L st) ∧ (∀ st, Zv L (Yl nk L n st).2 ≤ Zv L st) := by
 intro n
 induction n with
 | zero => exact ⟨fun _ => by simp [We], fun _ _ _ => by simp [Wn], fun _ => by simp [Yl]⟩
 | succ n ih =>
   obtain ⟨h1, h2, h3⟩ := ih
   refine ⟨fun st => ?_, fun h k st => ?_, fun st => ?_⟩
   · unfold We
     split
     · exact Nat.le_refl _
     · exact Nat.le_trans (h1 _) (Nat.le_trans (h2 _ _ _) (rem_find L _ _))
   · unfold Wn
     split
     · split
       · exact Nat.le_trans (h3 _) (Nat.le_trans (rem_take L _ _) (Nat.le_trans (h3 _) (rem_cond L nk n h st)))
       · exact Nat.le_trans (h3 _) (rem_cond L nk n h st)
     · split
       · exact Nat.le_trans (h3 _) (Wx L nk n _)
       · exact Nat.le_trans (rem_want L _ _) (rem_plain L nk n h k st)
   · unfold Yl
     exact Nat.le_trans (rem_rise L _ _) (Nat.le_trans (h1 _) (rem_down L _ _))
theorem rem_act (n : Nat) (h : AH) (k : Nat) (st : St) : Zv L (Wn nk L n h k st).st ≤ Zv L st := (rem_actss L nk n).2.1 h k st
theorem rem_block (n : Nat) (st : St) : Zv L (Yl nk L n st).2 ≤ Zv L st := (rem_actss L nk n).2.2 st
end
end Go.Proofs.YtjacgcjjdebbbaaGreat
namespace Go.Proofs.YtjacgcjjdebbbaaGreat
open Go.ChangeShapes Go.WideShapes Go.ChangeAt Go.RowKit
set_option linter.unusedVariables false
set_option linter.unusedSimpArgs false
def Wf (v : TokV) : Value := .agg #[.int .i64 v.k, .string v.t, .int .i64 v.n, .int .i64 (v.line : Int), .int .i64 (v.col : Int)]
theorem tok_field (a n l c : Int) (b : ByteArray) (w : World) : (Instr.field 103 (.agg #[.int .i64 a, .string b, .int .i64 n, .int .i64 l, .int .i64 c]) 0).run Tryz.prog w = .ok (.int .i64 a) w := by kernel_rfl
structure At (w : World) (p : Nat) (v : TokV) (d : Int) (r o n c : Nat) : Prop where
 c0 : w.cell? ⟨p, 0, none⟩ = some (.slice (some ⟨r, o, none⟩) n c)
 c1 : w.cell? ⟨p, 1, none⟩ = some (.int .i64 d)
 t0 : w.cell? ⟨r, o, none⟩ = some (.int .i64 v.k)
 t1 : w.cell? ⟨r, o + 1, none⟩ = some (.string v.t)
 t2 : w.cell? ⟨r, o + 2, none⟩ = some (.int .i64 v.n)
 t3 : w.cell? ⟨r, o + 3, none⟩ = some (.int .i64 (v.line : Int))
 t4 : w.cell? ⟨r, o + 4, none⟩ = some (.int .i64 (v.col : Int))
 pin : p < w.heap.size
 rin : r < w.heap.size
 n0 : 0 < n
 n1 : (n : Int) ≤ 9223372036854775807
theorem At.below {w w' : World} {p : Nat} {v : TokV} {d : Int} {r o n c : Nat} (h : At w p v d r o n c) (hb : Below w.heap.size w w') : At w' p v d r o n c := by
 have hp := h.pin
 have hr := h.rin
 have key : ∀ b j, b < w.heap.size → w'.cell? ⟨b, j, none⟩ = w.cell? ⟨b, j, none⟩ := fun b j hj => hb.cell (p := ⟨b, j, none⟩) hj
 exact ⟨(key _ _ hp).trans h.c0, (key _ _ hp).trans h.c1, (key _ _ hr).trans h.t0, (key _ _ hr).trans h.t1, (key _ _ hr).trans h.t2, (key _ _ hr).trans h.t3, (key _ _ hr).trans h.t4, Nat.lt_of_lt_of_le hp hb.size, Nat.lt_of_lt_of_le hr hb.size, h.n0, h.n1⟩
theorem cStands (w : World) (p : Nat) (v : TokV) (d : Int) (r o n c : Nat) (h : At w p v d r o n c) :
   Calls Tryz.prog 66 #[.pointer (some ⟨p, 0, none⟩)] w fun e w' => e = .returned (.bool true) ∧ w = w' := by
 obtain ⟨c0, c1, t0, t1, t2, t3, t4, pin, rin, n0, n1⟩ := h
 go_enter Tryz.func66, Tryz.ntmps66
 go_wp2
 go_ret
 exact ⟨rfl, rfl⟩
theorem cPeek (w : World) (p : Nat) (v : TokV) (d : Int) (r o n c : Nat) (h : At w p v d r o n c) :
   Calls Tryz.prog 41 #[.pointer (some ⟨p, 0, none⟩)] w fun e w' => e = .returned (Wf v) ∧ Below w.heap.size w w' := by
 have h1 := h.below ((Below.refl _ _).alloc (Nat.le_refl _) (.cells #[.int .i64 0, .string ⟨#[]⟩, .int .i64 0, .int .i64 0, .int .i64 0] 103))
 have H1 := Hh h1
 obtain ⟨c0, c1, t0, t1, t2, t3, t4, pin, rin, n0, n1⟩ := h1
 have rin' := h.rin
 have pin' := h.pin
 clear h
 unfold Wf
 go_enter Tryz.func41, Tryz.ntmps41
 go_wp2_with (go_at_call 66; refine (cStands _ _ v d r o n c H1.out).mono ?_; rintro e w1 ⟨rfl, rfl⟩)
 refine bodyPost_ret (v := .agg #[.int .i64 v.k, .string v.t, .int .i64 v.n, .int .i64 (v.line : Int), .int .i64 (v.col : Int)]) (by simp [results, Tryz.results41, go_sem]) rfl ⟨rfl, ?_⟩
 exact (Below.refl _ _).alloc (Nat.le_refl _) _
theorem Zb.set3 {w : World} {g : Nat} {t : TypeId} {a b c : Value} (h : Zb w g t #[a, b, c]) (x0 x1 x2 : Value) :
   Zb (((w.setCell ⟨g, 0, none⟩ x0).setCell ⟨g, 1, none⟩ x1).setCell ⟨g, 2, none⟩ x2) g t #[x0, x1, x2] := ((h.write 0 x0).write 1 x1).write 2 x2
theorem Below.set3 {B g : Nat} {w0 w : World} (h : Below B w0 w) (hg : B ≤ g) (x0 x1 x2 : Value) :
   Below B w0 (((w.setCell ⟨g, 0, none⟩ x0).setCell ⟨g, 1, none⟩ x1).setCell ⟨g, 2, none⟩ x2) := ((h.setCell hg x0).setCell hg x1).setCell hg x2
theorem cHere (w : World) (p : Nat) (v : TokV) (d : Int) (r o n c : Nat) (E : Int) (h : At w p v d r o n c) :
   Calls Tryz.prog 67 #[.pointer (some ⟨p, 0, none⟩), .int .i64 E] w fun e w' => e = .returned (Zi (E, v.line, v.col)) ∧ Below w.heap.size w w' := by
 have h1 := h.below ((Below.refl _ _).alloc (Nat.le_refl _) (.cells #[.int .i64 0, .int .i64 0, .int .i64 0] 41))
 have H1 := Hh h1
 have F0 := Zb.made w 41 #[.int .i64 0, .int .i64 0, .int .i64 0]
 clear h h1
 unfold Zi
 go_enter Tryz.func67, Tryz.ntmps67
 go_wp2_with (first
 | (go_at_call 66; refine (cStands _ _ v d r o n c H1.out).mono ?_; rintro e w1 ⟨rfl, rfl⟩)
 | (go_at_call 41; refine (cPeek _ _ v d r o n c H1.out).mono ?_; rintro e w2 ⟨rfl, b2⟩; have W2 := Hh (F0.below b2 (by simp)); obtain ⟨k0, k1, k2, f0, f1, f2⟩ := Zq W2.out; have hz := W2.out.inside; have B2 := Hh b2; clear b2; simp only [Wf]))
 have hF := Zq ((Zb.set3 W2.out (.int .i64 E) (.int .i64 (v.line : Int)) (.int .i64 (v.col : Int))).alloc (.cells #[.int .i64 v.k, .string v.t, .int .i64 v.n, .int .i64 (v.line : Int), .int .i64 (v.col : Int)] 103))
 refine bodyPost_ret (v := .agg #[.int .i64 E, .int .i64 (v.line : Int), .int .i64 (v.col : Int)]) (by simp [results, Tryz.results67, go_sem, hF]) rfl ⟨rfl, ?_⟩
 exact (Below.set3 (((Below.refl _ _).alloc (Nat.le_refl _) _).trans (B2.out.mono (by simp))) (Nat.le_refl _) _ _ _).alloc (by simp; omega) _
theorem cIs (w : World) (p : Nat) (v : TokV) (d : Int) (r o n c : Nat) (t : ByteArray) (h : At w p v d r o n c) :
   Calls Tryz.prog 68 #[.pointer (some ⟨p, 0, none⟩), .string t] w fun e w' => e = .returned (.bool (isT v t)) ∧ Below w.heap.size w w' := by
 have H1 := Hh h
 have HT : Hid (isT v t = ((v.k == 1 || v.k == 4) && (v.t.toList == t.toList))) := Hh rfl
 clear h
 cases h1 : (v.k == 1) <;> cases h4 : (v.k == 4) <;> cases ht : (v.t.toList == t.toList)
 all_goals
   have HH := Hh (And.intro h1 (And.intro h4 ht))
   go_enter Tryz.func68, Tryz.ntmps68
   go_wp2_with (go_at_call 41; refine (cPeek _ _ v d r o n c H1.out).mono ?_; rintro e w2 ⟨rfl, b2⟩; have B2 := Hh b2; clear b2; simp only [Wf])
   go_ret
   exact ⟨by rw [HT.out, HH.out.1, HH.out.2.1, HH.out.2.2]; rfl, B2.out.alloc B2.out.size _⟩
theorem cWrong (w : World) (p : Nat) (v : TokV) (d : Int) (r o n c : Nat) (h : At w p v d r o n c) :
   Calls Tryz.prog 43 #[.pointer (some ⟨p, 0, none⟩)] w fun e w' => e = .returned (Zi (wrF v)) ∧ Below w.heap.size w w' := by
 have h1 := h.below ((Below.refl _ _).alloc (Nat.le_refl _) (.cells #[.int .i64 0, .int .i64 0, .int .i64 0] 41))
 have H1 := Hh h1
 have F0 := Zb.made w 41 #[.int .i64 0, .int .i64 0, .int .i64 0]
 have hfd := fun w => tok_field v.k v.n (v.line : Int) (v.col : Int) v.t w
 clear h h1
 unfold Zi wrF
 by_cases hk : v.k = 0
 · have q0 : (v.k == 0) = true := by rw [hk]; rfl
   rw [if_pos hk]
   clear hk
   go_enter Tryz.func43, Tryz.ntmps43
   go_wp2_with (first
 | (go_at_call 41; refine (cPeek _ _ v d r o n c H1.out).mono ?_; rintro e w2 ⟨rfl, b2⟩; have H2 := Hh (H1.out.below b2); have W2 := Hh (F0.below b2 (by simp)); have B2 := Hh b2; clear b2; simp only [Wf])
 | (go_at_call 67; refine (cHere _ _ v d r o n c _ H2.out).mono ?_; rintro e w3 ⟨rfl, b3⟩; have W3 := Hh (W2.out.below b3 W2.out.inside); obtain ⟨k0, k1, k2, f0, f1, f2⟩ := Zq W3.out; have hz := W3.out.inside; have B3 := Hh (Xq B2.out b3); clear b3; simp only [Zi]))
   have hF := Zq (Zb.set3 W3.out (.int .i64 2) (.int .i64 (v.line : Int)) (.int .i64 (v.col : Int)))
   refine bodyPost_ret (v := .agg #[.int .i64 2, .int .i64 (v.line : Int), .int .i64 (v.col : Int)]) (by simp [results, Tryz.results43, go_sem, hF]) rfl ⟨rfl, ?_⟩
   exact Below.set3 (((Below.refl _ _).alloc (Nat.le_refl _) _).trans (B3.out.mono (by simp))) (Nat.le_refl _) _ _ _
 · have q0 : (v.k == 0) = false := by rw [beq_eq_false_iff_ne]; exact hk
   rw [if_neg hk]
   clear hk
   go_enter Tryz.func43, Tryz.ntmps43
   go_wp2_with (first
 | (go_at_call 41; refine (cPeek _ _ v d r o n c H1.out).mono ?_; rintro e w2 ⟨rfl, b2⟩; have H2 := Hh (H1.out.below b2); have W2 := Hh (F0.below b2 (by simp)); have B2 := Hh b2; clear b2; simp only [Wf])
 | (go_at_call 67; refine (cHere _ _ v d r o n c _ H2.out).mono ?_; rintro e w3 ⟨rfl, b3⟩; have W3 := Hh (W2.out.below b3 W2.out.inside); obtain ⟨k0, k1, k2, f0, f1, f2⟩ := Zq W3.out; have hz := W3.out.inside; have B3 := Hh (Xq B2.out b3); clear b3; simp only [Zi]))
   have hF := Zq (Zb.set3 W3.out (.int .i64 7) (.int .i64 (v.line : Int)) (.int .i64 (v.col : Int)))
   refine bodyPost_ret (v := .agg #[.int .i64 7, .int .i64 (v.line : Int), .int .i64 (v.col : Int)]) (by simp [results, Tryz.results43, go_sem, hF]) rfl ⟨rfl, ?_⟩
   exact Below.set3 (((Below.refl _ _).alloc (Nat.le_refl _) _).trans (B3.out.mono (by simp))) (Nat.le_refl _) _ _ _
structure RcW (w : World) (acc : List TokV) (v : Value) (wr : World) : Prop where
 fl : Zb wr w.heap.size 41 #[.int .i64 0, .int .i64 0, .int .i64 0]
 row : wr.ownsRow (w.heap.size + 1) 103 5 v acc.length (Wq acc)
 below : Below w.heap.size w wr
theorem RcW.lo {w wr : World} {acc : List TokV} {v : Value} (h : RcW w acc v wr) : w.heap.size < wr.heap.size := h.fl.inside
theorem RcW.next {w wr w' : World} {acc : List TokV} {v : Value} (h : RcW w acc v wr) (hb : Below wr.heap.size wr w') : RcW w acc v w' :=
 ⟨h.fl.below hb h.fl.inside, Xr h.row hb, Xq h.below hb⟩
theorem RcW.push {w wr W w' : World} {acc : List TokV} {v v' : Value} (h : RcW w acc v wr) (hb : Below wr.heap.size wr W) (t : TokV)
   (ho : w'.ownsRow (w.heap.size + 1) 103 5 v' (acc.length + 1) (Wq acc ++ t.cells)) (hg : W.grownBy w' v.ownBlock) : RcW w (acc ++ [t]) v' w' := by
 have hW := h.next hb
 refine ⟨grown_whole hg hW.fl ?_, ?_, ?_⟩
 · intro c
   have := (hW.row.lt _ c).1
   omega
 · rw [tokCs_snoc, List.length_append]
   exact ho
 · exact below_push hW.below hW.row hg (by omega) (Nat.le_of_lt hW.lo)
theorem add_add' (x : Addr) (n m : Nat) : (x.add n).add m = x.add (n + m) := by
 unfold Addr.add
 by_cases h : n = 0
 · subst h; simp
 · by_cases h2 : m = 0
   · subst h2; simp
   · simp [h, h2, Nat.add_assoc]
theorem tokCs_at (L : List TokV) : ∀ (i j : Nat) (h : i < L.length), j < 5 → (Wq L)[i * 5 + j]? = (L[i]'h).cells[j]? := by
 induction L with
 | nil => intro i j h; simp at h
 | cons v L ih =>
   intro i j h hj
   have e : Wq (v :: L) = v.cells ++ Wq L := rfl
   have hl : v.cells.length = 5 := rfl
   rw [e]
   cases i with
   | zero => rw [Nat.zero_mul, Nat.zero_add, List.getElem?_append_left (by omega)]; rfl
   | succ i =>
     rw [List.getElem?_append_right (by omega), hl, show (i + 1) * 5 + j - 5 = i * 5 + j from by omega]
     exact ih i j (by simpa using h) hj
theorem Reads.tok {w : World} {A : Option Addr} {L : List TokV} (h : Reads w A (Wq L)) {i : Nat} (hi : i < L.length) :
   ∃ x, A = some x ∧ x.block < w.heap.size ∧ w.cell? (x.add (i * 5)) = some (.int .i64 (L[i]'hi).k) ∧ w.cell? ⟨(x.add (i * 5)).block, (x.add (i * 5)).off + 1, none⟩ = some (.string (L[i]'hi).t) ∧
     w.cell? ⟨(x.add (i * 5)).block, (x.add (i * 5)).off + 2, none⟩ = some (.int .i64 (L[i]'hi).n) ∧ w.cell? ⟨(x.add (i * 5)).block, (x.add (i * 5)).off + 3, none⟩ = some (.int .i64 ((L[i]'hi).line : Int)) ∧
     w.cell? ⟨(x.add (i * 5)).block, (x.add (i * 5)).off + 4, none⟩ = some (.int .i64 ((L[i]'hi).col : Int)) := by
 have hl := tokCs_len L
 obtain ⟨x, hA, hx, hc⟩ := h.at_ (by omega)
 have key : ∀ j, j < 5 → w.cell? ((x.add (i * 5)).add j) = (L[i]'hi).cells[j]? := fun j hj => by
   rw [add_add', hc _ (by omega), tokCs_at L i j hi hj]
 exact ⟨x, hA, hx, key 0 (by omega), key 1 (by omega), key 2 (by omega), key 3 (by omega), key 4 (by omega)⟩
theorem own5_reads {w : World} {base : Nat} {e : TypeId} {v : Value} {xs : List Value} {n : Nat} (h : w.ownsRow base e 5 v n xs) : ∃ A c, v = .slice A n c ∧ n ≤ 9223372036854775807 ∧ Reads w A xs := by
 obtain ⟨A, c, hv, hn, hm, hc⟩ := Xn h
 exact ⟨A, c, hv, by unfold maxLen at hm; omega, hc.reads⟩
theorem own5_at {w : World} {base : Nat} {e : TypeId} {v : Value} {xs : List Value} {n : Nat} (h : w.ownsRow base e 5 v n xs) (hn : 0 < n) : ∃ g c, v = .slice (some ⟨g, 0, none⟩) n c ∧ g < w.heap.size ∧ ∀ j, j < xs.length → w.cell? ⟨g, j, none⟩ = xs[j]? := by
 obtain ⟨hl, h0 | ⟨g, cap, cur, rfl, hb, hg, h1, h2, h3, h4⟩⟩ := h
 · omega
 · have hw : Zb w g e cur := hg
   refine ⟨g, cap, rfl, hw.inside, fun j hj => ?_⟩
   rw [hw.read j, ← h4, List.getElem?_take_of_lt (by omega), Array.getElem?_toList]
structure Xj (w : World) (p r K : Nat) (L : List TokV) (a d : Nat) : Prop where
 whole : Zb w p 139 #[.slice (some ⟨r, a * 5, none⟩) (L.length - a) (K - a), .int .i64 (d : Int)]
 row : ∀ j, j < (Wq L).length → w.cell? ⟨r, j, none⟩ = (Wq L)[j]?
 rin : r < w.heap.size
 ne : r ≠ p
 ends : Ends L
 inn : a < L.length
 capL : L.length ≤ K
 capM : K ≤ 9223372036854775807
 deep : d ≤ 8
theorem Xj.look {w : World} {p r K : Nat} {L : List TokV} {a d : Nat} (h : Xj w p r K L a d) : At w p (Yd L a) d r (a * 5) (L.length - a) (K - a) := by
 have hi := h.inn
 have hl := tokCs_len L
 have key : ∀ j, j < 5 → w.cell? ⟨r, a * 5 + j, none⟩ = (Yd L a).cells[j]? := fun j hj => by
   rw [h.row _ (by omega), tokCs_at L a j hi hj, curT_get L a hi]
 exact ⟨h.whole.read 0, h.whole.read 1, key 0 (by omega), key 1 (by omega), key 2 (by omega), key 3 (by omega), key 4 (by omega), h.whole.inside, h.rin, by omega, by have := h.capM; have := h.capL; omega⟩
theorem Xj.keeps {w w' : World} {p r K : Nat} {L : List TokV} {a d : Nat} (h : Xj w p r K L a d) {S : Nat → Prop} (hk : Zg S w w') (hp : ¬ S p) (hr : ¬ S r) : Xj w' p r K L a d :=
 ⟨hk.whole h.whole hp, fun j hj => (World.cell?_of_block (a := ⟨r, j, none⟩) (hk.block r h.rin hr)).trans (h.row j hj), Nat.lt_of_lt_of_le h.rin hk.size, h.ne, h.ends, h.inn, h.capL, h.capM, h.deep⟩
theorem Xj.below {w w' : World} {p r K : Nat} {L : List TokV} {a d : Nat} (h : Xj w p r K L a d) (hb : Below w.heap.size w w') : Xj w' p r K L a d :=
 h.keeps (S := fun _ => False) (Zg.of_below hb) id id
structure Wa (w w' : World) (p r K : Nat) (L : List TokV) (a d : Nat) : Prop where
 at_ : Xj w' p r K L a d
 keeps : Zg (fun k => k = p) w w'
theorem Xj.moved {w : World} {p r K : Nat} {L : List TokV} {a d : Nat} (h : Xj w p r K L a d) (b : Nat) (hb : b < L.length) (u : Value) (hu : u = .slice (some ⟨r, b * 5, none⟩) (L.length - b) (K - b)) : Xj (w.setCell ⟨p, 0, none⟩ u) p r K L b d := by
 subst hu
 refine ⟨h.whole.write 0 _, fun j hj => ?_, by simp [World.setCell]; exact h.rin, h.ne, h.ends, hb, h.capL, h.capM, h.deep⟩
 rw [World.cell?_of_block (a := ⟨r, j, none⟩) (w := w) (Below.heap_setCell _ _ _ _ h.ne)]
 exact h.row j hj
theorem Xj.deeper {w : World} {p r K : Nat} {L : List TokV} {a d : Nat} (h : Xj w p r K L a d) (e : Nat) (he : e ≤ 8) (u : Value) (hu : u = .int .i64 (e : Int)) : Xj (w.setCell ⟨p, 1, none⟩ u) p r K L a e := by
 subst hu
 refine ⟨h.whole.write 1 _, fun j hj => ?_, by simp [World.setCell]; exact h.rin, h.ne, h.ends, h.inn, h.capL, h.capM, he⟩
 rw [World.cell?_of_block (a := ⟨r, j, none⟩) (w := w) (Below.heap_setCell _ _ _ _ h.ne)]
 exact h.row j hj
def CPost (w : World) (p r K : Nat) (L : List TokV) (a d : Nat) (val : Value) (e : Ending) (w' : World) : Prop := e = .returned val ∧ Wa w w' p r K L a d
theorem Zg.inner {S T : Nat → Prop} {a b : World} (h : Zg S a b) (hs : ∀ k, k < a.heap.size → S k → T k) : Zg T a b := ⟨h.os, h.tape, h.output, h.size, fun k hk hn => h.block k hk fun c => hn (hs k hk c)⟩
theorem Wa.on {w x y : World} {p r K : Nat} {L : List TokV} {a d : Nat} (m : Wa w x p r K L a d) {G : Nat} (hk : Zg (fun k => k = G) x y) (hG : w.heap.size ≤ G) (hp : p < w.heap.size) (hr : r < w.heap.size) : Wa w y p r K L a d := by
 refine ⟨m.at_.keeps hk (by omega) (by omega), ?_⟩
 have h1 : Zg (fun k => k = p ∨ k = G) w x := m.keeps.mono fun k h => .inl h
 have h2 : Zg (fun k => k = p ∨ k = G) x y := hk.mono fun k h => .inr h
 exact (h1.trans h2).inner fun k hk h => by omega
theorem Wa.next {w x y : World} {p r K : Nat} {L : List TokV} {a d : Nat} (m : Wa w x p r K L a d) (hb : Below x.heap.size x y) : Wa w y p r K L a d :=
 ⟨m.at_.below hb, m.keeps.trans (Zg.of_below hb)⟩
theorem Wa.then {w x y : World} {p r K : Nat} {L : List TokV} {a d b e : Nat} (m : Wa w x p r K L a d) (h : Wa x y p r K L b e) : Wa w y p r K L b e := ⟨h.at_, m.keeps.trans h.keeps⟩
theorem Wa.start {w : World} {p r K : Nat} {L : List TokV} {a d : Nat} (h : Xj w p r K L a d) : Wa w w p r K L a d := ⟨h, Zg.refl _ _⟩
theorem keeps5 (x : World) (g : Nat) (a b c d e : Value) : Zg (fun k => k = g) x (((((x.setCell ⟨g, 0, none⟩ a).setCell ⟨g, 1, none⟩ b).setCell ⟨g, 2, none⟩ c).setCell ⟨g, 3, none⟩ d).setCell ⟨g, 4, none⟩ e) :=
 ((((Zg.setCell (S := fun k => k = g) (Zg.refl _ x) rfl a).setCell rfl b).setCell rfl c).setCell rfl d).setCell rfl e
theorem keeps3 (x : World) (g : Nat) (a b c : Value) : Zg (fun k => k = g) x (((x.setCell ⟨g, 0, none⟩ a).setCell ⟨g, 1, none⟩ b).setCell ⟨g, 2, none⟩ c) :=
 ((Zg.setCell (S := fun k => k = g) (Zg.refl _ x) rfl a).setCell rfl b).setCell rfl c
theorem Zd (w : World) (o : Obj) : Below w.heap.size w (w.alloc o) := (Below.refl _ _).alloc (Nat.le_refl _) o
theorem cNext (w : World) (p r K : Nat) (L : List TokV) (a d : Nat) (h : Xj w p r K L a d) :
   Calls Tryz.prog 69 #[.pointer (some ⟨p, 0, none⟩)] w (CPost w p r K L (onA L a) d (Wf (Yd L a))) := by
 have h1 := h.below ((Below.refl _ _).alloc (Nat.le_refl _) (.cells #[.int .i64 0, .string ⟨#[]⟩, .int .i64 0, .int .i64 0, .int .i64 0] 103))
 have F0 := Zb.made w 103 #[.int .i64 0, .string ⟨#[]⟩, .int .i64 0, .int .i64 0, .int .i64 0]
 have H1 := Hh h1
 have HL := Hh h1.look
 have hcM := h.capM
 have hcL := h.capL
 have hin := h.inn
 have hon := h.ends.on h.inn
 have hlast := h.ends.last a h.inn
 have pin := h.whole.inside
 have rin := h.rin
 have HC := Hh h
 unfold onA at hon ⊢
 clear h h1
 unfold Wf
 generalize hv : Yd L a = v at *
 by_cases hk : v.k = 0
 · have q0 : (v.k != 0) = false := by rw [hk]; rfl
   rw [if_pos hk] at hon ⊢
   have HH := Hh (And.intro hv (And.intro hk (And.intro hlast hon)))
   clear hv hk hlast hon
   go_enter Tryz.func69, Tryz.ntmps69
   go_wp2_with (go_at_call 41; refine (cPeek _ _ _ _ _ _ _ _ HL.out).mono ?_; rintro e w2 ⟨rfl, b2⟩; have C2 := Hh (H1.out.below b2); have W2 := Hh (F0.below b2 (by simp)); have hz := W2.out.inside; obtain ⟨k0, k1, k2, k3, k4, f0, f1, f2, f3, f4⟩ := Wo W2.out; have B2 := Hh b2; clear b2; simp only [Wf])
   have hF := Vj ((Zb.set5 W2.out (.int .i64 v.k) (.string v.t) (.int .i64 v.n) (.int .i64 (v.line : Int)) (.int .i64 (v.col : Int))).alloc (.cells #[.int .i64 v.k, .string v.t, .int .i64 v.n, .int .i64 (v.line : Int), .int .i64 (v.col : Int)] 103))
   refine bodyPost_ret (v := .agg #[.int .i64 v.k, .string v.t, .int .i64 v.n, .int .i64 (v.line : Int), .int .i64 (v.col : Int)]) (by simp [results, Tryz.results69, go_sem, hF]) rfl ⟨rfl, ?_⟩
   exact (((Wa.start HC.out).next (Zd _ _)).next B2.out).on ((keeps5 _ _ _ _ _ _ _).alloc _) (Nat.le_refl _) pin rin
 · have q0 : (v.k != 0) = true := by rw [bne_iff_ne]; exact hk
   rw [if_neg hk] at hon ⊢
   have HH := Hh (And.intro hv (And.intro hk (And.intro hlast hon)))
   clear hv hk hlast 
   have l1 : 1 ≤ ((L.length - a : Nat) : Int) := by omega
   have l2 : ((L.length - a : Nat) : Int) ≤ ((K - a : Nat) : Int) := by omega
   have l3 : ((K - a : Nat) : Int) ≤ 9223372036854775807 := by omega
   have l4 : K - a ≠ 1 := by omega
   generalize hN : L.length - a = n at *
   generalize hC : K - a = c at *
   generalize hO : a * 5 = o at *
   have HN := Hh (And.intro hN (And.intro hC hO))
   clear hN hC hO hcM hcL hin hon
   go_enter Tryz.func69, Tryz.ntmps69
   go_wp2_with (go_at_call 41; refine (cPeek _ _ _ _ _ _ _ _ HL.out).mono ?_; rintro e w2 ⟨rfl, b2⟩; have C2 := Hh (H1.out.below b2); have W2 := Hh (F0.below b2 (by simp)); have hz := W2.out.inside; obtain ⟨k0, k1, k2, k3, k4, f0, f1, f2, f3, f4⟩ := Wo W2.out; have hp2 := C2.out.whole.inside; have c0 := (HL.out.below b2).c0; have z0 := C2.out.whole.thawed 0; have B2 := Hh b2; clear b2; simp only [Wf])
   have hne : w.heap.size ≠ p := by omega
   have hF := Vj ((Zb.set5 (W2.out.aside (p := ⟨p, 0, none⟩) hne (.slice (some ⟨r, o + 5, none⟩) (n - 1) (c - 1))) (.int .i64 v.k) (.string v.t) (.int .i64 v.n) (.int .i64 (v.line : Int)) (.int .i64 (v.col : Int))).alloc (.cells #[.int .i64 v.k, .string v.t, .int .i64 v.n, .int .i64 (v.line : Int), .int .i64 (v.col : Int)] 103))
   refine bodyPost_ret (v := .agg #[.int .i64 v.k, .string v.t, .int .i64 v.n, .int .i64 (v.line : Int), .int .i64 (v.col : Int)]) (by simp [results, Tryz.results69, go_sem, hF]) rfl ⟨rfl, ?_⟩
   have m2 := ((Wa.start HC.out).next (Zd _ _)).next B2.out
   have m3 : Wa w (w2.setCell ⟨p, 0, none⟩ (.slice (some ⟨r, o + 5, none⟩) (n - 1) (c - 1))) p r K L (a + 1) d := by
     refine ⟨m2.at_.moved (a + 1) HH.out.2.2.2 _ ?_, m2.keeps.setCell rfl _⟩
     obtain ⟨e1, e2, e3⟩ := HN.out
     rw [← e1, ← e2, ← e3, show (a + 1) * 5 = a * 5 + 5 from by omega, Nat.sub_sub, Nat.sub_sub]
   exact m3.on ((keeps5 _ _ _ _ _ _ _).alloc _) (Nat.le_refl _) pin rin
theorem cTake (w : World) (p r K : Nat) (L : List TokV) (a d : Nat) (t : ByteArray) (h : Xj w p r K L a d) :
   Calls Tryz.prog 44 #[.pointer (some ⟨p, 0, none⟩), .string t] w (CPost w p r K L (wantA L a t) d (.bool (isT (Yd L a) t))) := by
 have hi := cIs w p _ _ _ _ _ _ t h.look
 have HC := Hh h
 clear h
 unfold wantA
 cases hb : isT (Yd L a) t
 · rw [hb] at hi
   rw [if_neg (by decide)]
   clear hb
   go_enter Tryz.func44, Tryz.ntmps44
   go_wp2_with (go_at_call 68; refine hi.mono ?_; rintro e w2 ⟨rfl, b2⟩; have B2 := Hh b2; clear b2)
   go_ret
   exact ⟨rfl, (Wa.start HC.out).next B2.out⟩
 · rw [hb] at hi
   rw [if_pos rfl]
   clear hb
   go_enter Tryz.func44, Tryz.ntmps44
   go_wp2_with (first
 | (go_at_call 68; refine hi.mono ?_; rintro e w2 ⟨rfl, b2⟩; have B2 := Hh b2; have C2 := Hh (HC.out.below b2); clear b2)
 | (go_at_call 69; refine (cNext _ _ _ _ _ _ _ C2.out).mono ?_; rintro e w3 ⟨rfl, m3⟩; have M3 := Hh m3; clear m3))
   go_ret
   exact ⟨rfl, ((Wa.start HC.out).next B2.out).then M3.out⟩
theorem cWant (w : World) (p r K : Nat) (L : List TokV) (a d : Nat) (t : ByteArray) (h : Xj w p r K L a d) :
   Calls Tryz.prog 105 #[.pointer (some ⟨p, 0, none⟩), .string t] w (CPost w p r K L (wantA L a t) d (Zi (wantF L a t))) := by
 have h1 := h.below (Zd w (.cells #[.int .i64 0, .int .i64 0, .int .i64 0] 41))
 have F0 := Hh (Zb.made w 41 #[.int .i64 0, .int .i64 0, .int .i64 0])
 have hi := cTake _ p r K L a d t h1
 have HC := Hh h
 have pin := h.whole.inside
 have rin := h.rin
 have hpw : ¬ (w.heap.size = p) := by omega
 clear h h1
 unfold wantA at hi
 unfold wantA wantF
 cases hb : isT (Yd L a) t
 · rw [hb] at hi
   rw [if_neg (by decide)] at hi ⊢
   rw [if_neg (by decide)]
   clear hb
   go_enter Tryz.func105, Tryz.ntmps105
   go_wp2_with (first
 | (go_at_call 44; refine hi.mono ?_; rintro e w2 ⟨rfl, m2⟩; have M2 := Hh m2; clear m2)
 | (go_at_call 43; refine (cWrong _ _ _ _ _ _ _ _ M2.out.at_.look).mono ?_; rintro e w3 ⟨rfl, b3⟩; have W3 := Hh ((M2.out.keeps.whole F0.out hpw).below b3 (M2.out.keeps.whole F0.out hpw).inside); obtain ⟨k0, k1, k2, f0, f1, f2⟩ := Zq W3.out; have hz := W3.out.inside; have B3 := Hh b3; clear b3; simp only [Zi]))
   have hF := Zq (Zb.set3 W3.out (.int .i64 (wrF (Yd L a)).1) (.int .i64 ((wrF (Yd L a)).2.1 : Int)) (.int .i64 ((wrF (Yd L a)).2.2 : Int)))
   refine bodyPost_ret (v := Zi (wrF (Yd L a))) (by simp [results, Tryz.results105, go_sem, hF, Zi]) rfl ⟨rfl, ?_⟩
   exact (((Wa.start HC.out).next (Zd _ _)).then (M2.out.next B3.out)).on (keeps3 _ _ _ _ _) (Nat.le_refl _) pin rin
 · rw [hb] at hi
   rw [if_pos rfl] at hi ⊢
   rw [if_pos rfl]
   clear hb
   go_enter Tryz.func105, Tryz.ntmps105
   go_wp2_with (go_at_call 44; refine hi.mono ?_; rintro e w2 ⟨rfl, m2⟩; have M2 := Hh m2; have W3 := Hh (M2.out.keeps.whole F0.out hpw); obtain ⟨k0, k1, k2, f0, f1, f2⟩ := Zq W3.out; have hz := W3.out.inside; clear m2)
   have hF := Zq (Zb.set3 W3.out (.int .i64 0) (.int .i64 0) (.int .i64 0))
   refine bodyPost_ret (v := Zi okF) (by simp [results, Tryz.results105, go_sem, hF, Zi, okF]) rfl ⟨rfl, ?_⟩
   exact (((Wa.start HC.out).next (Zd _ _)).then M2.out).on (keeps3 _ _ _ _ _) (Nat.le_refl _) pin rin
theorem two_set {y : World} {g : Nat} {t u : TypeId} {a b c d e f h i : Value} (w0 : Zb y g t #[a, b, c, d, e]) (w1 : Zb y (g + 1) u #[f, h, i]) (x0 x1 x2 x3 x4 y0 y1 y2 : Value) :
   Zb ((((((((y.setCell ⟨g, 0, none⟩ x0).setCell ⟨g, 1, none⟩ x1).setCell ⟨g, 2, none⟩ x2).setCell ⟨g, 3, none⟩ x3).setCell ⟨g, 4, none⟩ x4).setCell ⟨g + 1, 0, none⟩ y0).setCell ⟨g + 1, 1, none⟩ y1).setCell ⟨g + 1, 2, none⟩ y2) g t #[x0, x1, x2, x3, x4] ∧
   Zb ((((((((y.setCell ⟨g, 0, none⟩ x0).setCell ⟨g, 1, none⟩ x1).setCell ⟨g, 2, none⟩ x2).setCell ⟨g, 3, none⟩ x3).setCell ⟨g, 4, none⟩ x4).setCell ⟨g + 1, 0, none⟩ y0).setCell ⟨g + 1, 1, none⟩ y1).setCell ⟨g + 1, 2, none⟩ y2) (g + 1) u #[y0, y1, y2] := by
 have n1 : g ≠ g + 1 := by omega
 have n2 : g + 1 ≠ g := by omega
 exact ⟨(((w0.set5 x0 x1 x2 x3 x4).aside n1 y0).aside n1 y1).aside n1 y2, Zb.set3 (((((w1.aside n2 x0).aside n2 x1).aside n2 x2).aside n2 x3).aside n2 x4) y0 y1 y2⟩
def kindT (L : List TokV) (a : Nat) (k : Int) : TokV := if (Yd L a).k = k then Yd L a else zTok
theorem cKind (w : World) (p r K : Nat) (L : List TokV) (a d : Nat) (k : Int) (h : Xj w p r K L a d) :
   Calls Tryz.prog 104 #[.pointer (some ⟨p, 0, none⟩), .int .i64 k] w (CPost w p r K L (kindA L a k) d (.tuple #[Wf (kindT L a k), Zi (kindF L a k)])) := by
 have nb1 := Zd w (.cells #[.int .i64 0, .string ⟨#[]⟩, .int .i64 0, .int .i64 0, .int .i64 0] 103)
 have nb2 := Zd (w.alloc (.cells #[.int .i64 0, .string ⟨#[]⟩, .int .i64 0, .int .i64 0, .int .i64 0] 103)) (.cells #[.int .i64 0, .int .i64 0, .int .i64 0] 41)
 have T0 := Two.start w 103 #[.int .i64 0, .string ⟨#[]⟩, .int .i64 0, .int .i64 0, .int .i64 0] 41 #[.int .i64 0, .int .i64 0, .int .i64 0]
 have H2 := Hh ((h.below nb1).below nb2)
 have HM := Hh (((Wa.start h).next nb1).next nb2)
 have T := Hh T0
 have hfd := fun w => tok_field (Yd L a).k (Yd L a).n ((Yd L a).line : Int) ((Yd L a).col : Int) (Yd L a).t w
 have pin := h.whole.inside
 have rin := h.rin
 have hpw : ¬ (w.heap.size = p) := by omega
 have hpv : ¬ (w.heap.size + 1 = p) := by omega
 clear h nb1 nb2 T0
 unfold kindA kindF kindT
 by_cases hk : (Yd L a).k = k
 · have q0 : ((Yd L a).k != k) = false := by rw [bne_eq_false_iff_eq]; exact hk
   rw [if_pos hk, if_pos hk, if_pos hk]
   clear hk
   go_enter Tryz.func104, Tryz.ntmps104
   go_wp2_with (first
 | (go_at_call 41; refine (cPeek _ _ _ _ _ _ _ _ H2.out.look).mono ?_; rintro e w3 ⟨rfl, b3⟩; have T3 := Hh (T.out.next b3); have M3 := Hh (HM.out.next b3); clear b3; simp only [Wf])
 | (go_at_call 69; refine (cNext _ _ _ _ _ _ _ M3.out.at_).mono ?_; rintro e w4 ⟨rfl, m4⟩; have W0 := Hh (m4.keeps.whole T3.out.k0 hpw); have W1 := Hh (m4.keeps.whole T3.out.k1 hpv); obtain ⟨k0, k1, k2, k3, k4, f0, f1, f2, f3, f4⟩ := Wo W0.out; obtain ⟨g0, g1, g2, z0, z1, z2⟩ := Zq W1.out; have hz := W1.out.inside; have M4 := Hh (M3.out.then m4); clear m4; simp only [Wf]))
   have hFG := two_set W0.out W1.out (.int .i64 (Yd L a).k) (.string (Yd L a).t) (.int .i64 (Yd L a).n) (.int .i64 ((Yd L a).line : Int)) (.int .i64 ((Yd L a).col : Int)) (.int .i64 0) (.int .i64 0) (.int .i64 0)
   have hF := Vj hFG.1
   have hG := Zq hFG.2
   refine bodyPost_ret (v := .tuple #[Wf (Yd L a), Zi okF]) (by simp [results, Tryz.results104, go_sem, hF, hG, Zi, okF, Wf]) rfl ⟨rfl, ?_⟩
   exact (M4.out.on (keeps5 _ _ _ _ _ _ _) (Nat.le_refl _) pin rin).on (keeps3 _ _ _ _ _) (by omega) pin rin
 · have q0 : ((Yd L a).k != k) = true := by rw [bne_iff_ne]; exact hk
   rw [if_neg hk, if_neg hk, if_neg hk]
   clear hk
   go_enter Tryz.func104, Tryz.ntmps104
   go_wp2_with (first
 | (go_at_call 41; refine (cPeek _ _ _ _ _ _ _ _ H2.out.look).mono ?_; rintro e w3 ⟨rfl, b3⟩; have T3 := Hh (T.out.next b3); have M3 := Hh (HM.out.next b3); clear b3; simp only [Wf])
 | (go_at_call 43; refine (cWrong _ _ _ _ _ _ _ _ M3.out.at_.look).mono ?_; rintro e w4 ⟨rfl, b4⟩; have W0 := Hh (T3.out.next b4).k0; have W1 := Hh (T3.out.next b4).k1; obtain ⟨k0, k1, k2, k3, k4, f0, f1, f2, f3, f4⟩ := Wo W0.out; obtain ⟨g0, g1, g2, z0, z1, z2⟩ := Zq W1.out; have hz := W1.out.inside; have M4 := Hh (M3.out.next b4); clear b4; simp only [Zi]))
   have hFG := two_set W0.out W1.out (.int .i64 0) (.string ⟨#[]⟩) (.int .i64 0) (.int .i64 0) (.int .i64 0) (.int .i64 (wrF (Yd L a)).1) (.int .i64 ((wrF (Yd L a)).2.1 : Int)) (.int .i64 ((wrF (Yd L a)).2.2 : Int))
   have hF := Vj hFG.1
   have hG := Zq hFG.2
   refine bodyPost_ret (v := .tuple #[Wf zTok, Zi (wrF (Yd L a))]) (by simp [results, Tryz.results104, go_sem, hF, hG, Zi, zTok, Wf]) rfl ⟨rfl, ?_⟩
   exact (M4.out.on (keeps5 _ _ _ _ _ _ _) (Nat.le_refl _) pin rin).on (keeps3 _ _ _ _ _) (by omega) pin rin
theorem kindT_n (L : List TokV) (a : Nat) : (kindT L a 2).n = intV L a := by unfold kindT intV; split <;> rfl
theorem kindT_t (L : List TokV) (a : Nat) : (kindT L a 3).t = nameV L a := by unfold kindT nameV; split <;> rfl
theorem cInt (w : World) (p r K : Nat) (L : List TokV) (a d : Nat) (h : Xj w p r K L a d) :
   Calls Tryz.prog 74 #[.pointer (some ⟨p, 0, none⟩)] w (CPost w p r K L (kindA L a 2) d (.tuple #[.int .i64 (intV L a), Zi (kindF L a 2)])) := by
 have nb1 := Zd w (.cells #[.int .i64 0, .int .i64 0, .int .i64 0] 41)
 have H1 := Hh (h.below nb1)
 have F0 := Hh (Zb.made w 41 #[.int .i64 0, .int .i64 0, .int .i64 0])
 have HM := Hh ((Wa.start h).next nb1)
 have pin := h.whole.inside
 have rin := h.rin
 have hpw : ¬ (w.heap.size = p) := by omega
 clear h nb1
 rw [← kindT_n]
 generalize hv : kindT L a 2 = v at *
 generalize hf : kindF L a 2 = f at *
 have HV := Hh (And.intro hv hf)
 have hi : Calls Tryz.prog 104 #[.pointer (some ⟨p, 0, none⟩), .int .i64 2] (w.alloc (.cells #[.int .i64 0, .int .i64 0, .int .i64 0] 41)) (CPost (w.alloc (.cells #[.int .i64 0, .int .i64 0, .int .i64 0] 41)) p r K L (kindA L a 2) d (.tuple #[Wf v, Zi f])) := by
   have := cKind _ p r K L a d 2 H1.out
   rw [hv, hf] at this
   exact this
 clear hv hf
 obtain ⟨f1, f2, f3⟩ := f
 go_enter Tryz.func74, Tryz.ntmps74
 go_wp2_with (go_at_call 104; refine hi.mono ?_; rintro e w3 ⟨rfl, m3⟩; have W0 := Hh (m3.keeps.whole F0.out hpw); obtain ⟨g0, g1, g2, z0, z1, z2⟩ := Zq W0.out; have hz := W0.out.inside; have M3 := Hh (HM.out.then m3); clear m3; simp only [Wf, Zi])
 go_region
 all_goals
   go_wp2
   have hF := Zq ((((Zb.set3 W0.out (.int .i64 f1) (.int .i64 (f2 : Int)) (.int .i64 (f3 : Int))).alloc (.cells #[.int .i64 v.k, .string v.t, .int .i64 v.n, .int .i64 (v.line : Int), .int .i64 (v.col : Int)] 103)).alloc (.cells #[.int .i64 f1, .int .i64 (f2 : Int), .int .i64 (f3 : Int)] 41)).drew)
   refine bodyPost_ret (v := .tuple #[.int .i64 v.n, Zi (f1, f2, f3)]) (by simp [results, Tryz.results74, go_sem, hF, Zi]) rfl ⟨rfl, ?_⟩
   exact M3.out.on ((((keeps3 _ _ _ _ _).alloc _).alloc _).drew) (Nat.le_refl _) pin rin
theorem cName (w : World) (p r K : Nat) (L : List TokV) (a d : Nat) (h : Xj w p r K L a d) :
   Calls Tryz.prog 71 #[.pointer (some ⟨p, 0, none⟩)] w (CPost w p r K L (kindA L a 3) d (.tuple #[.string (nameV L a), Zi (kindF L a 3)])) := by
 have nb1 := Zd w (.cells #[.int .i64 0, .int .i64 0, .int .i64 0] 41)
 have H1 := Hh (h.below nb1)
 have F0 := Hh (Zb.made w 41 #[.int .i64 0, .int .i64 0, .int .i64 0])
 have HM := Hh ((Wa.start h).next nb1)
 have pin := h.whole.inside
 have rin := h.rin
 have hpw : ¬ (w.heap.size = p) := by omega
 clear h nb1
 rw [← kindT_t]
 generalize hv : kindT L a 3 = v at *
 generalize hf : kindF L a 3 = f at *
 have HV := Hh (And.intro hv hf)
 have hi : Calls Tryz.prog 104 #[.pointer (some ⟨p, 0, none⟩), .int .i64 3] (w.alloc (.cells #[.int .i64 0, .int .i64 0, .int .i64 0] 41)) (CPost (w.alloc (.cells #[.int .i64 0, .int .i64 0, .int .i64 0] 41)) p r K L (kindA L a 3) d (.tuple #[Wf v, Zi f])) := by
   have := cKind _ p r K L a d 3 H1.out
   rw [hv, hf] at this
   exact this
 clear hv hf
 obtain ⟨f1, f2, f3⟩ := f
 go_enter Tryz.func71, Tryz.ntmps71
 go_wp2_with (go_at_call 104; refine hi.mono ?_; rintro e w3 ⟨rfl, m3⟩; have W0 := Hh (m3.keeps.whole F0.out hpw); obtain ⟨g0, g1, g2, z0, z1, z2⟩ := Zq W0.out; have hz := W0.out.inside; have M3 := Hh (HM.out.then m3); clear m3; simp only [Wf, Zi])
 go_region
 all_goals
   go_wp2
   have hF := Zq ((((Zb.set3 W0.out (.int .i64 f1) (.int .i64 (f2 : Int)) (.int .i64 (f3 : Int))).alloc (.cells #[.int .i64 v.k, .string v.t, .int .i64 v.n, .int .i64 (v.line : Int), .int .i64 (v.col : Int)] 103)).alloc (.cells #[.int .i64 f1, .int .i64 (f2 : Int), .int .i64 (f3 : Int)] 41)).drew)
   refine bodyPost_ret (v := .tuple #[.string v.t, Zi (f1, f2, f3)]) (by simp [results, Tryz.results71, go_sem, hF, Zi]) rfl ⟨rfl, ?_⟩
   exact M3.out.on ((((keeps3 _ _ _ _ _).alloc _).alloc _).drew) (Nat.le_refl _) pin rin
theorem cUp (w : World) (p r K : Nat) (L : List TokV) (a d : Nat) (h : Xj w p r K L a d) :
   Calls Tryz.prog 143 #[.pointer (some ⟨p, 0, none⟩)] w (CPost w p r K L a (d - 1) (.tuple #[])) := by
 have HC := Hh h
 have c1 := h.look.c1
 have z1 := h.whole.thawed 1
 have hd := h.deep
 clear h
 by_cases h0 : 0 < d
 · have l0 : (0 : Int) < (d : Int) := by omega
   have l1 : (d : Int) ≤ 8 := by omega
   have H0 := Hh h0
   have HD := Hh hd
   clear hd
   go_enter Tryz.func143, Tryz.ntmps143
   go_wp2
   go_end0
   exact ⟨rfl, HC.out.deeper (d - 1) (by have := HD.out; omega) _ (by have := H0.out; rw [show ((d - 1 : Nat) : Int) = (d : Int) - 1 from by omega]), Zg.setCell (S := fun k => k = p) (Zg.refl _ _) rfl _⟩
 · obtain rfl : d = 0 := by omega
   go_enter Tryz.func143, Tryz.ntmps143
   go_wp2
   go_end0
   exact ⟨rfl, Wa.start HC.out⟩
theorem cDown (w : World) (p r K : Nat) (L : List TokV) (a d : Nat) (h : Xj w p r K L a d) :
   Calls Tryz.prog 142 #[.pointer (some ⟨p, 0, none⟩)] w (CPost w p r K L a (downD d) (Zi (downF L a d))) := by
 have nb1 := Zd w (.cells #[.int .i64 0, .int .i64 0, .int .i64 0] 41)
 have h1 := h.below nb1
 have F0 := Zb.made w 41 #[.int .i64 0, .int .i64 0, .int .i64 0]
 have HM := Hh ((Wa.start h).next nb1)
 have pin := h.whole.inside
 have rin := h.rin
 have hpw : ¬ (w.heap.size = p) := by omega
 have c1 := h1.look.c1
 have z1 := h1.whole.thawed 1
 have H1 := Hh h1
 have hd := h.deep
 have HC := Hh h
 clear h nb1 h1
 unfold downD downF
 by_cases h0 : d = 8
 · subst h0
   rw [if_pos rfl, if_pos rfl]
   have F0 := Hh F0
   clear hd
   go_enter Tryz.func142, Tryz.ntmps142
   go_wp2_with (first
 | (go_at_call 66; refine (cStands _ _ _ _ _ _ _ _ H1.out.look).mono ?_; rintro e w1 ⟨rfl, rfl⟩)
 | (go_at_call 67; refine (cHere _ _ _ _ _ _ _ _ _ H1.out.look).mono ?_; rintro e w3 ⟨rfl, b3⟩; have W3 := Hh (F0.out.below b3 (by simp)); obtain ⟨k0, k1, k2, f0, f1, f2⟩ := Zq W3.out; have hz := W3.out.inside; have B3 := Hh b3; clear b3; simp only [Zi]))
   have hF := Zq (Zb.set3 W3.out (.int .i64 8) (.int .i64 ((Yd L a).line : Int)) (.int .i64 ((Yd L a).col : Int)))
   refine bodyPost_ret (v := Zi (8, (Yd L a).line, (Yd L a).col)) (by simp [results, Tryz.results142, go_sem, hF, Zi]) rfl ⟨rfl, ?_⟩
   exact (HM.out.next B3.out).on (keeps3 _ _ _ _ _) (Nat.le_refl _) pin rin
 · rw [if_neg h0, if_neg h0]
   have q0 : ((d : Int) == 8) = false := by rw [beq_eq_false_iff_ne]; omega
   have l1 : (d : Int) ≤ 7 := by omega
   have H0 := Hh (And.intro h0 hd)
   clear h0 hd
   go_enter Tryz.func142, Tryz.ntmps142
   go_wp2_with (go_at_call 66; refine (cStands _ _ _ _ _ _ _ _ H1.out.look).mono ?_; rintro e w1 ⟨rfl, rfl⟩)
   refine bodyPost_ret (v := Zi okF) (by simp [results, Tryz.results142, go_sem, Zi, okF]) rfl ⟨rfl, ?_⟩
   have m1 : Wa w (w.setCell ⟨p, 1, none⟩ (.int .i64 ((d : Int) + 1))) p r K L a (d + 1) :=
     ⟨HC.out.deeper (d + 1) (by have := H0.out; omega) _ (by simp), Zg.setCell (S := fun k => k = p) (Zg.refl _ _) rfl _⟩
   exact m1.next (Zd _ _)
theorem Xj.copy {w : World} {p r K : Nat} {L : List TokV} {a d : Nat} (h : Xj w p r K L a d) (o n c : Nat) (ho : o = a * 5) (hn : n = L.length - a) (hc : c = K - a) :
   Xj (w.alloc (.cells #[.slice (some ⟨r, o, none⟩) n c, .int .i64 (d : Int)] 139)) w.heap.size r K L a d := by
 subst ho hn hc
 have h1 := h.below (Zd w (.cells #[.slice (some ⟨r, a * 5, none⟩) (L.length - a) (K - a), .int .i64 (d : Int)] 139))
 exact ⟨Zb.made _ _ _, h1.row, h1.rin, by have := h.rin; omega, h.ends, h.inn, h.capL, h.capM, h.deep⟩
theorem look2 {w : World} {p r K : Nat} {L : List TokV} {a d : Nat} (h : Xj w p r K L a d) {o n c : Nat} (ho : o = a * 5) (hn : n = L.length - a) (hc : c = K - a) :
   w.cell? ⟨p, 0, none⟩ = some (.slice (some ⟨r, o, none⟩) n c) ∧ w.cell? ⟨p, 1, none⟩ = some (.int .i64 (d : Int)) := by
 subst ho hn hc
 exact ⟨h.look.c0, h.look.c1⟩
theorem cSigned (w : World) (p r K : Nat) (L : List TokV) (a d : Nat) (h : Xj w p r K L a d) :
   Calls Tryz.prog 75 #[.pointer (some ⟨p, 0, none⟩)] w (CPost w p r K L (signA L a) d (.tuple #[.int .i64 (signV L a), Zi (signF L a)])) := by
 have nb1 := Zd w (.cells #[.int .i64 0, .int .i64 0, .int .i64 0] 41)
 have h1 := h.below nb1
 have F0 := Hh (Zb.made w 41 #[.int .i64 0, .int .i64 0, .int .i64 0])
 have HM := Hh ((Wa.start h).next nb1)
 have pin := h.whole.inside
 have rin := h.rin
 have hpw : ¬ (w.heap.size = p) := by omega
 have hi := cIs _ p _ _ _ _ _ _ minus h1.look
 have H1 := Hh h1
 clear h nb1 h1
 unfold signA signV signF
 unfold minus at hi ⊢
 cases hb : isT (Yd L a) ⟨#[45]⟩
 · rw [hb] at hi
   rw [if_neg (by decide), if_neg (by decide), if_neg (by decide)]
   clear hb
   generalize hf : kindF L a 2 = f at *
   have hj := cInt _ p r K L a d H1.out
   have HF := Hh hf
   clear hf
   have hj : ∀ w, Xj w p r K L a d → Calls Tryz.prog 74 #[.pointer (some ⟨p, 0, none⟩)] w (CPost w p r K L (kindA L a 2) d (.tuple #[.int .i64 (intV L a), Zi f])) := fun w h => by rw [← HF.out]; exact cInt w p r K L a d h
   obtain ⟨f1, f2, f3⟩ := f
   go_enter Tryz.func75, Tryz.ntmps75
   go_wp2_with (first
 | (go_at_call 68; refine hi.mono ?_; rintro e w2 ⟨rfl, b2⟩; have M2 := Hh (HM.out.next b2); have F2 := Hh (F0.out.below b2 F0.out.inside); clear b2)
 | (go_at_call 74; refine (hj _ M2.out.at_).mono ?_; rintro e w3 ⟨rfl, m3⟩; have W0 := Hh (m3.keeps.whole F2.out hpw); obtain ⟨g0, g1, g2, z0, z1, z2⟩ := Zq W0.out; have hz := W0.out.inside; have M3 := Hh (M2.out.then m3); clear m3; simp only [Zi]))
   have hF := Zq (Zb.set3 W0.out (.int .i64 f1) (.int .i64 (f2 : Int)) (.int .i64 (f3 : Int)))
   refine bodyPost_ret (v := .tuple #[.int .i64 (intV L a), Zi (f1, f2, f3)]) (by simp [results, Tryz.results75, go_sem, hF, Zi]) rfl ⟨rfl, ?_⟩
   exact M3.out.on (keeps3 _ _ _ _ _) (Nat.le_refl _) pin rin
 · rw [hb] at hi
   rw [if_pos rfl, if_pos rfl, if_pos rfl]
   clear hb
   obtain ⟨o, n, c, ho, hn, hc⟩ : ∃ o n c, o = a * 5 ∧ n = L.length - a ∧ c = K - a := ⟨_, _, _, rfl, rfl, rfl⟩
   have HO := Hh (And.intro ho (And.intro hn hc))
   generalize hbn : onA L a = b at *
   have HB := Hh hbn
   have hk : kindA L b 2 = if (Yd L b).k = 2 then onA L b else b := rfl
   have hv : intV L b = if (Yd L b).k = 2 then (Yd L b).n else 0 := rfl
   have hf : kindF L b 2 = if (Yd L b).k = 2 then okF else wrF (Yd L b) := rfl
   have hnx : ∀ w q, Xj w q r K L a d → Calls Tryz.prog 69 #[.pointer (some ⟨q, 0, none⟩)] w (CPost w q r K L b d (Wf (Yd L a))) := fun w q h => by rw [← HB.out]; exact cNext w q r K L a d h
   have hj := fun w q (h : Xj w q r K L b d) => cInt w q r K L b d h
   have HN := Hh hnx
   clear hnx ho hn hc hbn
   rw [hf]
   by_cases h2 : (Yd L b).k = 2
   · rw [if_pos h2] at hk hv hf ⊢
     rw [if_pos h2, if_pos h2]
     have hnum := H1.out.ends.num b
     rw [hk, hv, hf] at hj
     have HJ := Hh hj
     clear hj hk hv hf h2
     generalize hm : (Yd L b).n = m at *
     have HE := Hh hm
     obtain ⟨m0, m9⟩ := hnum
     clear hm
     generalize hbn : onA L b = b2 at *
     obtain ⟨o2, n2, c2, ho, hn, hc⟩ : ∃ o n c, o = b2 * 5 ∧ n = L.length - b2 ∧ c = K - b2 := ⟨_, _, _, rfl, rfl, rfl⟩
     have HB2 := Hh (And.intro ho (And.intro hn hc))
     clear ho hn hc hbn
     go_enter Tryz.func75, Tryz.ntmps75
     go_wp2_with (first
 | (go_at_call 68; refine hi.mono ?_; rintro e w2 ⟨rfl, b2⟩; have M2 := Hh (HM.out.next b2); have F2 := Hh (F0.out.below b2 F0.out.inside); obtain ⟨c0, c1⟩ := look2 M2.out.at_ HO.out.1 HO.out.2.1 HO.out.2.2; have hp2 := M2.out.at_.whole.inside; clear b2)
 | (go_at_call 69; refine (HN.out _ _ (M2.out.at_.copy o n c HO.out.1 HO.out.2.1 HO.out.2.2)).mono ?_; rintro e w3 ⟨rfl, m3⟩; have N3 := Hh m3; clear m3; simp only [Wf])
 | (go_at_call 74; refine (HJ.out _ _ N3.out.at_).mono ?_; rintro e w4 ⟨rfl, m4⟩; have N4 := Hh (N3.out.then m4); have hG := F2.out.inside; have M4 := Hh ((M2.out.next (Zd _ _)).on N4.out.keeps (Nat.le_of_lt hG) pin rin); have F4 := Hh (N4.out.keeps.whole (F2.out.alloc _) (Nat.ne_of_lt hG)); obtain ⟨d0, d1⟩ := look2 N4.out.at_ HB2.out.1 HB2.out.2.1 HB2.out.2.2; obtain ⟨p0, p1⟩ := look2 M4.out.at_ HO.out.1 HO.out.2.1 HO.out.2.2; have t0 := M4.out.at_.whole.thawed 0; have t1 := M4.out.at_.whole.thawed 1; have hp4 := M4.out.at_.whole.inside; obtain ⟨g0, g1, g2, z0, z1, z2⟩ := Zq F4.out; have hz := F4.out.inside; have hq4 := N4.out.at_.whole.inside; have hN := Hh hG; clear m4 hG; simp only [Zi, okF]))
     have hne : w.heap.size ≠ p := hpw
     have hF := Zq ((Zb.set3 ((F4.out.aside (p := ⟨p, 0, none⟩) hne (.slice (some ⟨r, o2, none⟩) n2 c2)).aside (p := ⟨p, 1, none⟩) hne (.int .i64 (d : Int))) (.int .i64 0) (.int .i64 0) (.int .i64 0)).alloc (.cells #[.int .i64 0, .int .i64 0, .int .i64 0] 41))
     refine bodyPost_ret (v := .tuple #[.int .i64 (-m), Zi okF]) (by simp [results, Tryz.results75, go_sem, hF, Zi, okF]) rfl ⟨rfl, ?_⟩
     obtain ⟨e1, e2, e3⟩ := HB2.out
     have m5 : Wa w ((w4.setCell ⟨p, 0, none⟩ (.slice (some ⟨r, o2, none⟩) n2 c2)).setCell ⟨p, 1, none⟩ (.int .i64 (d : Int))) p r K L b2 d :=
       ⟨(M4.out.at_.moved b2 N4.out.at_.inn _ (by rw [e1, e2, e3])).deeper d M4.out.at_.deep _ rfl, (M4.out.keeps.setCell rfl _).setCell rfl _⟩
     exact m5.on ((keeps3 _ _ _ _ _).alloc _) (Nat.le_refl _) pin rin
   · rw [if_neg h2] at hk hv hf ⊢
     rw [if_neg h2, if_neg h2]
     rw [hk, hv, hf] at hj
     have HJ := Hh hj
     have hne := wrF_ne (Yd L b)
     clear hj hk hv hf h2
     generalize hm : wrF (Yd L b) = f at *
     obtain ⟨f1, f2, f3⟩ := f
     have HE := Hh hm
     have q0 : (f1 != 0) = true := by rw [bne_iff_ne]; exact hne
     clear hm hne
     go_enter Tryz.func75, Tryz.ntmps75
     go_wp2_with (first
 | (go_at_call 68; refine hi.mono ?_; rintro e w2 ⟨rfl, b2⟩; have M2 := Hh (HM.out.next b2); have F2 := Hh (F0.out.below b2 F0.out.inside); obtain ⟨c0, c1⟩ := look2 M2.out.at_ HO.out.1 HO.out.2.1 HO.out.2.2; have hp2 := M2.out.at_.whole.inside; clear b2)
 | (go_at_call 69; refine (HN.out _ _ (M2.out.at_.copy o n c HO.out.1 HO.out.2.1 HO.out.2.2)).mono ?_; rintro e w3 ⟨rfl, m3⟩; have N3 := Hh m3; clear m3; simp only [Wf])
 | (go_at_call 74; refine (HJ.out _ _ N3.out.at_).mono ?_; rintro e w4 ⟨rfl, m4⟩; have N4 := Hh (N3.out.then m4); have hG := F2.out.inside; have M4 := Hh ((M2.out.next (Zd _ _)).on N4.out.keeps (Nat.le_of_lt hG) pin rin); have F4 := Hh (N4.out.keeps.whole (F2.out.alloc _) (Nat.ne_of_lt hG)); obtain ⟨g0, g1, g2, z0, z1, z2⟩ := Zq F4.out; have hz := F4.out.inside; clear m4 hG; simp only [Zi]))
     go_region
     all_goals
       go_wp2
       have hF := Zq (((Zb.set3 F4.out (.int .i64 f1) (.int .i64 (f2 : Int)) (.int .i64 (f3 : Int))).alloc (.cells #[.int .i64 f1, .int .i64 (f2 : Int), .int .i64 (f3 : Int)] 41)).drew)
       refine bodyPost_ret (v := .tuple #[.int .i64 0, Zi (f1, f2, f3)]) (by simp [results, Tryz.results75, go_sem, hF, Zi]) rfl ⟨rfl, ?_⟩
       exact M4.out.on (((keeps3 _ _ _ _ _).alloc _).drew) (Nat.le_refl _) pin rin
theorem own5_all {w : World} {base : Nat} {e : TypeId} {v : Value} {xs : List Value} {n : Nat} (h : w.ownsRow base e 5 v n xs) (hn : 0 < n) :
   ∃ g c, v = .slice (some ⟨g, 0, none⟩) n c ∧ base ≤ g ∧ g < w.heap.size ∧ n ≤ c ∧ c ≤ 9223372036854775807 ∧ ∀ j, j < xs.length → w.cell? ⟨g, j, none⟩ = xs[j]? := by
 obtain ⟨g, c, rfl, hg, hc⟩ := own5_at h hn
 obtain ⟨A, c', hv, h1, h2, _⟩ := Xn h
 injection hv with _ _ e3
 subst e3
 unfold maxLen at h2
 exact ⟨g, c, rfl, (h.lt g rfl).1, hg, h1, by omega, hc⟩
theorem Xj.made {w1 y : World} {g K G : Nat} {L : List TokV} (hrow : ∀ j, j < (Wq L).length → w1.cell? ⟨g, j, none⟩ = (Wq L)[j]?) (hg : g < w1.heap.size) (hk : Zg (fun k => k = G) w1 y) (hG : g ≠ G) (hL : Ends L) (h1 : L.length ≤ K) (h2 : K ≤ 9223372036854775807) :
   Xj (y.alloc (.cells #[.slice (some ⟨g, 0, none⟩) L.length K, .int .i64 0] 139)) y.heap.size g K L 0 0 := by
 have hs := hk.size
 refine ⟨by simpa using Zb.made y 139 #[.slice (some ⟨g, 0, none⟩) L.length K, .int .i64 0], fun j hj => ?_, by simp; omega, by omega, hL, hL.pos, h1, h2, by omega⟩
 have k2 := hk.alloc (.cells #[.slice (some ⟨g, 0, none⟩) L.length K, .int .i64 0] 139)
 exact (World.cell?_of_block (a := ⟨g, j, none⟩) (k2.block g hg hG)).trans (hrow j hj)
def NewPost (L : List TokV) (w : World) (e : Ending) (w' : World) : Prop :=
 ∃ p r K, e = .returned (.tuple #[.pointer (some ⟨p, 0, none⟩), Zi okF]) ∧ Xj w' p r K L 0 0 ∧ w.heap.size ≤ p ∧ w.heap.size ≤ r ∧ Below w.heap.size w w'
theorem cNew_err (s : ByteArray) (w : World) (hs : s.size ≤ 140737488355328) (E : Int) (l c : Nat) (hv : scanV s = ([], E, l, c)) (hE : E ≠ 0) :
   Calls Tryz.prog 40 #[.string s] w fun e w' => e = .returned (.tuple #[.pointer none, Zi (E, l, c)]) ∧ Below w.heap.size w w' := by
 have HV := Hh hv
 have q0 : (E != 0) = true := by rw [bne_iff_ne]; exact hE
 have F0 := Hh (Zb.made w 41 #[.int .i64 0, .int .i64 0, .int .i64 0])
 clear hv hE
 go_enter Tryz.func40, Tryz.ntmps40
 go_wp2_with (go_at_call 65; refine (tkScan s _ (by omega)).mono ?_; rintro e w1 ⟨v, rfl, o1, b1⟩; rw [HV.out] at o1 ⊢; obtain ⟨A1, c1, rfl, hl1, _⟩ := own5_reads o1; have F1 := Hh (F0.out.below b1 (by simp)); obtain ⟨g0, g1, g2, z0, z1, z2⟩ := Zq F1.out; have hz := F1.out.inside; have B1 := Hh b1; clear o1 b1; simp only [Zi])
 go_region
 all_goals
   go_wp2
   have hF := Zq (((Zb.set3 F1.out (.int .i64 E) (.int .i64 (l : Int)) (.int .i64 (c : Int))).alloc (.cells #[.int .i64 E, .int .i64 (l : Int), .int .i64 (c : Int)] 41)).drew)
   refine bodyPost_ret (v := .tuple #[.pointer none, Zi (E, l, c)]) (by simp [results, Tryz.results40, go_sem, hF, Zi]) rfl ⟨rfl, ?_⟩
   exact below_drew1 ((Below.set3 (Xq (Zd _ _) B1.out) (Nat.le_refl _) _ _ _).alloc (by simp; omega) _)
theorem cNew_ok (s : ByteArray) (w : World) (hs : s.size ≤ 140737488355328) (L : List TokV) (hv : scanV s = (L, 0, 0, 0)) (hL : Ends L) :
   Calls Tryz.prog 40 #[.string s] w (NewPost L w) := by
 have HV := Hh hv
 have F0 := Hh (Zb.made w 41 #[.int .i64 0, .int .i64 0, .int .i64 0])
 have hpos := hL.pos
 have HL := Hh hL
 clear hv hL
 go_enter Tryz.func40, Tryz.ntmps40
 go_wp2_with (go_at_call 65; refine (tkScan s _ (by omega)).mono ?_; rintro e w1 ⟨v, rfl, o1, b1⟩; rw [HV.out] at o1 ⊢; obtain ⟨g, K, rfl, r1, r2, r3, r4, r5⟩ := own5_all o1 hpos; have F1 := Hh (F0.out.below b1 (by simp)); obtain ⟨g0, g1, g2, z0, z1, z2⟩ := Zq F1.out; have hz := F1.out.inside; have B1 := Hh b1; have R5 := Hh r5; clear o1 b1 r5; simp only [Zi])
 have hk : Zg (fun k => k = w.heap.size) w1 ((((w1.setCell ⟨w.heap.size, 0, none⟩ (.int .i64 0)).setCell ⟨w.heap.size, 1, none⟩ (.int .i64 0)).setCell ⟨w.heap.size, 2, none⟩ (.int .i64 0)).alloc (.cells #[.int .i64 0, .int .i64 0, .int .i64 0] 41)) := (keeps3 _ _ _ _ _).alloc _
 have hF := Zq (((Zb.set3 F1.out (.int .i64 0) (.int .i64 0) (.int .i64 0)).alloc (.cells #[.int .i64 0, .int .i64 0, .int .i64 0] 41)).alloc (.cells #[.slice (some ⟨g, 0, none⟩) L.length K, .int .i64 0] 139))
 have hgs : w.heap.size + 1 ≤ g := by simpa using r1
 have hc := Xj.made R5.out r2 hk (by omega) HL.out r3 r4
 have hb : Below w.heap.size w ((((w1.setCell ⟨w.heap.size, 0, none⟩ (.int .i64 0)).setCell ⟨w.heap.size, 1, none⟩ (.int .i64 0)).setCell ⟨w.heap.size, 2, none⟩ (.int .i64 0)).alloc (.cells #[.int .i64 0, .int .i64 0, .int .i64 0] 41)) :=
   (Below.set3 (Xq (Zd _ _) B1.out) (Nat.le_refl _) _ _ _).alloc (by simp; omega) _
 refine bodyPost_ret (v := .tuple #[.pointer (some ⟨w1.heap.size + 1, 0, none⟩), Zi okF]) (by simp [results, Tryz.results40, go_sem, hF, Zi, okF]) rfl ⟨w1.heap.size + 1, g, K, rfl, ?_, by omega, by omega, hb.alloc hb.size _⟩
 simpa using hc
structure RowAt (w : World) (r K : Nat) (L : List TokV) : Prop where
 row : ∀ j, j < (Wq L).length → w.cell? ⟨r, j, none⟩ = (Wq L)[j]?
 rin : r < w.heap.size
 ends : Ends L
 capL : L.length ≤ K
 capM : K ≤ 9223372036854775807
theorem RowAt.keeps {w w' : World} {r K : Nat} {L : List TokV} (h : RowAt w r K L) {S : Nat → Prop} (hk : Zg S w w') (hr : ¬ S r) : RowAt w' r K L :=
 ⟨fun j hj => (World.cell?_of_block (a := ⟨r, j, none⟩) (hk.block r h.rin hr)).trans (h.row j hj), Nat.lt_of_lt_of_le h.rin hk.size, h.ends, h.capL, h.capM⟩
theorem RowAt.below {w w' : World} {r K : Nat} {L : List TokV} (h : RowAt w r K L) (hb : Below w.heap.size w w') : RowAt w' r K L :=
 h.keeps (S := fun _ => False) (Zg.of_below hb) id
theorem RowAt.at_ {w : World} {r K : Nat} {L : List TokV} (h : RowAt w r K L) {a : Nat} (ha : a < L.length) :
   w.cell? ⟨r, a * 5, none⟩ = some (.int .i64 (Yd L a).k) ∧ w.cell? ⟨r, a * 5 + 1, none⟩ = some (.string (Yd L a).t) ∧ w.cell? ⟨r, a * 5 + 2, none⟩ = some (.int .i64 (Yd L a).n) ∧
   w.cell? ⟨r, a * 5 + 3, none⟩ = some (.int .i64 ((Yd L a).line : Int)) ∧ w.cell? ⟨r, a * 5 + 4, none⟩ = some (.int .i64 ((Yd L a).col : Int)) := by
 have hl := tokCs_len L
 have key : ∀ j, j < 5 → w.cell? ⟨r, a * 5 + j, none⟩ = (Yd L a).cells[j]? := fun j hj => by
   rw [h.row _ (by omega), tokCs_at L a j ha hj, curT_get L a ha]
 exact ⟨key 0 (by omega), key 1 (by omega), key 2 (by omega), key 3 (by omega), key 4 (by omega)⟩
end Go.Proofs.YtjacgcjjdebbbaaGreat
namespace Go.Proofs.YtjacgcjjdebbbaaGreat
open Go Go.RowKit
set_option linter.unusedSimpArgs false
set_option linter.unusedVariables false
inductive Ds where
 | nil
 | int (n : Int) (r : Ds)
 | str (s : ByteArray) (r : Ds)
 | row (n : Nat) (cs r : Ds)
def Ds.app : Ds → Ds → Ds
 | .nil, y => y
 | .int n r, y => .int n (r.app y)
 | .str s r, y => .str s (r.app y)
 | .row n cs r, y => .row n cs (r.app y)
def Ds.len : Ds → Nat
 | .nil => 0
 | .int _ r => r.len + 1
 | .str _ r => r.len + 1
 | .row _ _ r => r.len + 1
theorem Ds.app_nil : ∀ x : Ds, x.app .nil = x
 | .nil => rfl
 | .int n r => by rw [Ds.app, Ds.app_nil r]
 | .str s r => by rw [Ds.app, Ds.app_nil r]
 | .row n cs r => by rw [Ds.app, Ds.app_nil r]
theorem Ds.app_assoc (y z : Ds) : ∀ x : Ds, (x.app y).app z = x.app (y.app z)
 | .nil => rfl
 | .int n r => by rw [Ds.app, Ds.app, Ds.app, Ds.app_assoc y z r]
 | .str s r => by rw [Ds.app, Ds.app, Ds.app, Ds.app_assoc y z r]
 | .row n cs r => by rw [Ds.app, Ds.app, Ds.app, Ds.app_assoc y z r]
theorem Ds.len_app (y : Ds) : ∀ x : Ds, (x.app y).len = x.len + y.len
 | .nil => by rw [Ds.app, Ds.len]; omega
 | .int n r => by rw [Ds.app, Ds.len, Ds.len, Ds.len_app y r]; omega
 | .str s r => by rw [Ds.app, Ds.len, Ds.len, Ds.len_app y r]; omega
 | .row n cs r => by rw [Ds.app, Ds.len, Ds.len, Ds.len_app y r]; omega
def Within (N : Nat → Prop) (w : World) (A : Option Addr) (xs : List Value) : Prop :=
 xs = [] ∨ ∃ g, A = some ⟨g, 0, none⟩ ∧ N g ∧ g < w.heap.size ∧ ∀ j, j < xs.length → w.cell? ⟨g, j, none⟩ = xs[j]?
def Deep (N : Nat → Prop) (w : World) : Ds → List Value → Prop
 | .nil, vs => vs = []
 | .int n r, vs => ∃ t, vs = .int .i64 n :: t ∧ Deep N w r t
 | .str s r, vs => ∃ t, vs = .string s :: t ∧ Deep N w r t
 | .row n cs r, vs => ∃ A c xs t, vs = .slice A n c :: t ∧ n ≤ 9223372036854775807 ∧ Within N w A xs ∧ Deep N w cs xs ∧ Deep N w r t
theorem Within.keeps {N M S : Nat → Prop} {w w' : World} {A : Option Addr} {xs : List Value} (h : Within N w A xs) (hk : Zg S w w') (hs : ∀ k, k < w.heap.size → N k → ¬ S k ∧ M k) : Within M w' A xs := by
 rcases h with h | ⟨g, e, h1, h2, h3⟩
 · exact .inl h
 · exact .inr ⟨g, e, (hs g h2 h1).2, Nat.lt_of_lt_of_le h2 hk.size, fun j hj => (World.cell?_of_block (a := ⟨g, j, none⟩) (hk.block g h2 (hs g h2 h1).1)).trans (h3 j hj)⟩
theorem Deep.keeps {N M S : Nat → Prop} {w w' : World} (hk : Zg S w w') (hs : ∀ k, k < w.heap.size → N k → ¬ S k ∧ M k) : ∀ {ds : Ds} {vs : List Value}, Deep N w ds vs → Deep M w' ds vs
 | .nil, vs, h => h
 | .int n r, vs, ⟨t, e, h⟩ => ⟨t, e, Deep.keeps hk hs h⟩
 | .str s r, vs, ⟨t, e, h⟩ => ⟨t, e, Deep.keeps hk hs h⟩
 | .row n cs r, vs, ⟨A, c, xs, t, e, hn, h1, h2, h3⟩ => ⟨A, c, xs, t, e, hn, h1.keeps hk hs, Deep.keeps hk hs h2, Deep.keeps hk hs h3⟩
theorem Deep.mono {N M : Nat → Prop} {w : World} {ds : Ds} {vs : List Value} (h : Deep N w ds vs) (hs : ∀ k, k < w.heap.size → N k → M k) : Deep M w ds vs :=
 h.keeps (S := fun _ => False) (Zg.refl _ w) fun k hk hn => ⟨id, hs k hk hn⟩
theorem Deep.below {N : Nat → Prop} {w w' : World} {ds : Ds} {vs : List Value} (h : Deep N w ds vs) (hb : Below w.heap.size w w') : Deep N w' ds vs :=
 h.keeps (S := fun _ => False) (Zg.of_below hb) fun k _ hn => ⟨id, hn⟩
theorem Deep.len {N : Nat → Prop} {w : World} : ∀ {ds : Ds} {vs : List Value}, Deep N w ds vs → vs.length = ds.len
 | .nil, vs, h => by cases h; rfl
 | .int n r, vs, ⟨t, e, h⟩ => by rw [e, List.length_cons, Deep.len h]; rfl
 | .str s r, vs, ⟨t, e, h⟩ => by rw [e, List.length_cons, Deep.len h]; rfl
 | .row n cs r, vs, ⟨A, c, xs, t, e, _, _, _, h⟩ => by rw [e, List.length_cons, Deep.len h]; rfl
theorem Deep.one {N : Nat → Prop} {w : World} : ∀ {ds : Ds} {vs : List Value}, Deep N w ds vs → ∀ v ∈ vs, v.oneCell' = true
 | .nil, vs, h => by cases h; intro v hv; cases hv
 | .int n r, vs, ⟨t, e, h⟩ => by rw [e]; intro v hv; rcases List.mem_cons.1 hv with rfl | hv; rfl; exact Deep.one h v hv
 | .str s r, vs, ⟨t, e, h⟩ => by rw [e]; intro v hv; rcases List.mem_cons.1 hv with rfl | hv; rfl; exact Deep.one h v hv
 | .row n cs r, vs, ⟨A, c, xs, t, e, _, _, _, h⟩ => by rw [e]; intro v hv; rcases List.mem_cons.1 hv with rfl | hv; rfl; exact Deep.one h v hv
theorem Deep.app {N : Nat → Prop} {w : World} {y : Ds} {us : List Value} (hy : Deep N w y us) : ∀ {x : Ds} {vs : List Value}, Deep N w x vs → Deep N w (x.app y) (vs ++ us)
 | .nil, vs, h => by cases h; exact hy
 | .int n r, vs, ⟨t, e, h⟩ => ⟨t ++ us, by rw [e]; rfl, Deep.app hy h⟩
 | .str s r, vs, ⟨t, e, h⟩ => ⟨t ++ us, by rw [e]; rfl, Deep.app hy h⟩
 | .row n cs r, vs, ⟨A, c, xs, t, e, hn, h1, h2, h⟩ => ⟨A, c, xs, t ++ us, by rw [e]; rfl, hn, h1, h2, Deep.app hy h⟩
theorem Deep.split {N : Nat → Prop} {w : World} {y : Ds} : ∀ {x : Ds} {vs : List Value}, Deep N w (x.app y) vs → ∃ a b, vs = a ++ b ∧ Deep N w x a ∧ Deep N w y b
 | .nil, vs, h => ⟨[], vs, rfl, rfl, h⟩
 | .int n r, vs, ⟨t, e, h⟩ => by obtain ⟨a, b, e2, h1, h2⟩ := Deep.split (x := r) h; exact ⟨.int .i64 n :: a, b, by rw [e, e2]; rfl, ⟨a, rfl, h1⟩, h2⟩
 | .str s r, vs, ⟨t, e, h⟩ => by obtain ⟨a, b, e2, h1, h2⟩ := Deep.split (x := r) h; exact ⟨.string s :: a, b, by rw [e, e2]; rfl, ⟨a, rfl, h1⟩, h2⟩
 | .row n cs r, vs, ⟨A, c, xs, t, e, hn, g1, g2, h⟩ => by obtain ⟨a, b, e2, h1, h2⟩ := Deep.split (x := r) h; exact ⟨.slice A n c :: a, b, by rw [e, e2]; rfl, ⟨A, c, xs, a, rfl, hn, g1, g2, h1⟩, h2⟩
theorem own_within {w : World} {base : Nat} {e : TypeId} {size : Nat} {v : Value} {n : Nat} {xs : List Value} (h : w.ownsRow base e size v n xs) :
   ∃ A c, v = .slice A n c ∧ n ≤ 9223372036854775807 ∧ Within (fun k => base ≤ k) w A xs := by
 obtain ⟨hl, h⟩ := id h
 rcases h with ⟨rfl, rfl⟩ | ⟨g, cap, cur, rfl, hb, hw, h1, h2, h3, h4⟩
 · refine ⟨none, 0, rfl, by omega, .inl ?_⟩
   rw [Nat.zero_mul] at hl
   exact List.length_eq_zero_iff.1 hl
 · unfold maxLen at h2
   refine ⟨some ⟨g, 0, none⟩, cap, rfl, by omega, .inr ⟨g, rfl, hb, Zb.inside (cs := cur) hw, fun j hj => ?_⟩⟩
   rw [Zb.read (cs := cur) hw j, ← h4, List.getElem?_take]
   have hj' : j < n * size := by rw [← hl]; exact hj
   rw [if_pos hj', Array.getElem?_toList]
theorem Deep.rowOf {N : Nat → Prop} {w : World} {base : Nat} {e : TypeId} {size : Nat} {v : Value} {n : Nat} {xs : List Value} {ds : Ds} (h : w.ownsRow base e size v n xs) (hb : ∀ k, base ≤ k → N k) (hd : Deep N w ds xs) :
   Deep N w (.row n ds .nil) [v] := by
 obtain ⟨A, c, rfl, hn, hw⟩ := own_within h
 exact ⟨A, c, xs, [], rfl, hn, hw.keeps (S := fun _ => False) (Zg.refl _ w) (fun k _ hk => ⟨id, hb k hk⟩), hd, rfl⟩
theorem Zb.range {w : World} {g : Nat} {t : TypeId} {a b c : List Value} (h : Zb w g t (a ++ b ++ c).toArray) : w.rangeAt g a.length b := fun j v hv => by
 have hj : j < b.length := (List.getElem?_eq_some_iff.1 hv).1
 rw [h.read, List.getElem?_toArray, List.getElem?_append_left (by rw [List.length_append]; omega), List.getElem?_append_right (by omega), show a.length + j - a.length = j from by omega, hv]
theorem Zb.there {w : World} {g : Nat} {t : TypeId} {a b c : List Value} (h : Zb w g t (a ++ b ++ c).toArray) : w.there g a.length b.length := fun j hj =>
 ⟨h.range.isSome j hj, h.thawed _⟩
theorem Zb.setCells {g : Nat} {t : TypeId} (c : List Value) : ∀ (y b a : List Value) (w : World), y.length = b.length → Zb w g t (a ++ b ++ c).toArray → Zb (w.setCells g a.length y) g t (a ++ y ++ c).toArray
 | [], b, a, w, hl, h => by
   have : b = [] := List.length_eq_zero_iff.1 (by rw [← hl]; rfl)
   rw [this] at h
   exact h
 | v :: y, [], a, w, hl, h => by cases hl
 | v :: y, u :: b, a, w, hl, h => by
   rw [World.setCells]
   have h1 := h.write a.length v
   have e : (a ++ u :: b ++ c).toArray.setIfInBounds a.length v = ((a ++ [v]) ++ b ++ c).toArray := by
     simp [List.setIfInBounds_toArray, List.set_append_right]
   rw [e] at h1
   have h2 := Zb.setCells c y b (a ++ [v]) _ (by rw [List.length_cons, List.length_cons] at hl; omega) h1
   rw [List.length_append] at h2
   have e2 : (a ++ [v] ++ y ++ c).toArray = (a ++ v :: y ++ c).toArray := by simp
   rw [e2] at h2
   exact h2
theorem Zg.setCells {S : Nat → Prop} {g : Nat} (hg : S g) : ∀ (y : List Value) (o : Nat) {a b : World}, Zg S a b → Zg S a (b.setCells g o y)
 | [], _, _, _, h => h
 | v :: y, o, a, b, h => Zg.setCells hg y (o + 1) (h.setCell (p := ⟨g, o, none⟩) hg v)
theorem Yf {P : Program} {ops : Array Oper} {rest : List Oper} {op : Op} {t : TypeId} {ps : String} {af : Array Edge} {gd : Option (Nat × Bool)} {a : Act} {w : World} {Q : Exit → Act → World → Prop} (d : Nat)
   (h : wpList P ops Q (⟨some d, op, t, ps, af, gd⟩ :: rest) a w) : wpList P ops Q (⟨some d, op, t, ps, af, gd⟩ :: rest) a w := h
theorem Zr {P : Program} {ops : Array Oper} {rest : List Oper} {T : TypeId} {t : TypeId} {ps : String} {af : Array Edge} {gd : Option (Nat × Bool)} {a : Act} {w : World} {Q : Exit → Act → World → Prop} (x y : Nat)
   (h : wpList P ops Q (⟨none, .store T (.tmp x) (.tmp y), t, ps, af, gd⟩ :: rest) a w) : wpList P ops Q (⟨none, .store T (.tmp x) (.tmp y), t, ps, af, gd⟩ :: rest) a w := h
structure Put (w w' : World) (g : Nat) (t : TypeId) (vs : List Value) : Prop where
 whole : Zb w' g t vs.toArray
 keeps : Zg (fun k => k = g) w w'
theorem Xd {P : Program} {ops : Array Oper} {rest : List Oper} {o : Oper} {a : Act} {w : World} {Q : Exit → Act → World → Prop} (T : TypeId) (x y : Operand) (t : TypeId) (g n : Nat) (pre old post ys : List Value) (hW : Zb w g t (pre ++ old ++ post).toArray) (hl : ys.length = old.length)
   (hpn : n = pre.length) (hi : (P.info? T).map (·.size) = some ys.length) (h1 : ∀ v ∈ ys, v.oneCell' = true)
   (hgd : o.guard = none) (ho : o.op = .store T x y) (hd : o.dst = none)
   (hx : a.eval x = .pointer (some ⟨g, n, none⟩)) (hy : a.eval y = .agg ys.toArray)
   (h : ∀ w', Put w w' g t (pre ++ ys ++ post) → wpList P ops Q rest a w') : wpList P ops Q (o :: rest) a w := by
 subst hpn
 have ht : w.there g pre.length ys.length := by rw [hl]; exact hW.there
 refine wpList_store_mid hgd T x y ho g pre.length ys.toArray hx hy (by simpa using ht) (by simpa using hi) (all_oneCell_toArray h1) ?_
 rw [hd]
 exact h _ ⟨Zb.setCells post ys old pre w hl hW, Zg.setCells (S := fun k => k = g) rfl _ _ (Zg.refl _ _)⟩
theorem Ze {P : Program} {ops : Array Oper} {rest : List Oper} {o : Oper} {a : Act} {w : World} {Q : Exit → Act → World → Prop} (T : TypeId) (x y : Operand) (t : TypeId) (g : Nat) (old ys : List Value) (hW : Zb w g t old.toArray) (hl : ys.length = old.length)
   (hi : (P.info? T).map (·.size) = some ys.length) (h1 : ∀ v ∈ ys, v.oneCell' = true)
   (hgd : o.guard = none) (ho : o.op = .store T x y) (hd : o.dst = none)
   (hx : a.eval x = .pointer (some ⟨g, 0, none⟩)) (hy : a.eval y = .agg ys.toArray)
   (h : ∀ w', Put w w' g t ys → wpList P ops Q rest a w') : wpList P ops Q (o :: rest) a w :=
 Xd T x y t g 0 [] old [] ys (by simpa using hW) hl rfl hi h1 hgd ho hd hx hy fun w' p => h w' ⟨by simpa using p.whole, p.keeps⟩
theorem Zo {P : Program} {ops : Array Oper} {rest : List Oper} {o : Oper} {a : Act} {w : World} {Q : Exit → Act → World → Prop} (T : TypeId) (x y : Operand) (t : TypeId) (g n : Nat) (pre : List Value) (old v : Value) (post : List Value) (hW : Zb w g t (pre ++ [old] ++ post).toArray)
   (hpn : n = pre.length) (hi : (P.info? T).map (·.size) = some 1) (h1 : v.oneCell' = true)
   (hgd : o.guard = none) (ho : o.op = .store T x y) (hd : o.dst = none)
   (hx : a.eval x = .pointer (some ⟨g, n, none⟩)) (hy : a.eval y = v)
   (h : ∀ w', Put w w' g t (pre ++ [v] ++ post) → wpList P ops Q rest a w') : wpList P ops Q (o :: rest) a w := by
 subst hpn
 refine wpList_plain hgd fun K hK => ?_
 have hc : v.cells = #[v] := by cases v <;> first | rfl | cases h1
 have hst : (storeVar T ⟨g, pre.length, none⟩ v).run P w = .ok () (w.setCells g pre.length [v]) := by
   have := run_storeCells_cells (P := P) g pre.length [v] 0 w (fun j hj => by simpa using (hW.there j hj).1) (fun j hj => by simpa using (hW.there j hj).2) (fun u hu => by simp at hu; rw [hu]; exact h1)
   cases hq : P.info? T with
   | none => simp [hq] at hi
   | some i =>
     have hs : i.size = 1 := by simpa [hq] using hi
     simp only [Nat.add_zero] at this
     simp [storeVar, sizeOf, typeInfo, hq, hc, hs, this]
 unfold Oper.wp execOp
 simp only [ho, hx, hy, Instr.storeAt, Instr.sureAddr, Sem.run_bind, Sem.run_pure, Result.andThen_ok, hst]
 have hh := hK _ _ (h _ ⟨Zb.setCells post [v] [old] pre w rfl hW, Zg.setCells (S := fun k => k = g) rfl _ _ (Zg.refl _ _)⟩)
 have e : a.put o.dst undef = a := by rw [hd]; rfl
 show K (a.put o.dst undef) _
 rw [e]
 exact hh
theorem wpList_loadP {P : Program} {ops : Array Oper} {rest : List Oper} {o : Oper} {a : Act} {w : World} {Q : Exit → Act → World → Prop} (T : TypeId) (x : Operand) (t : TypeId) (g n : Nat) (pre vs post : List Value) (hW : Zb w g t (pre ++ vs ++ post).toArray) (hpn : n = pre.length)
   (hu : (P.underlying T).map TypeDesc.isRow = some true) (hi : (P.info? T).map (·.size) = some vs.length)
   (hgd : o.guard = none) (ho : o.op = .load T x) (hx : a.eval x = .pointer (some ⟨g, n, none⟩))
   (h : wpList P ops Q rest (a.put o.dst (.agg vs.toArray)) w) : wpList P ops Q (o :: rest) a w := by
 subst hpn
 obtain ⟨d, hu, hr⟩ := Option.map_eq_some_iff.1 hu
 exact wpList_load_mid hgd T x ho g pre.length hx vs d hW.range hu hr hi h
theorem Zj {P : Program} {ops : Array Oper} {rest : List Oper} {o : Oper} {a : Act} {w : World} {Q : Exit → Act → World → Prop} (T : TypeId) (x : Operand) (t : TypeId) (g : Nat) (vs : List Value) (hW : Zb w g t vs.toArray)
   (hu : (P.underlying T).map TypeDesc.isRow = some true) (hi : (P.info? T).map (·.size) = some vs.length)
   (hgd : o.guard = none) (ho : o.op = .load T x) (hx : a.eval x = .pointer (some ⟨g, 0, none⟩))
   (h : wpList P ops Q rest (a.put o.dst (.agg vs.toArray)) w) : wpList P ops Q (o :: rest) a w :=
 wpList_loadP T x t g 0 [] vs [] (by simpa using hW) rfl hu hi hgd ho hx h
theorem Xu {P : Program} {w : World} {ops : Array Oper} {rest : List Oper} {o : Oper} {a : Act} {Q : Exit → Act → World → Prop} (s x : Operand) (t e : TypeId) (sz bytes : Nat) (z : Value)
   (ht : P.underlying t = some (.slice e)) (hinfo : (P.info? e).map (fun i => (i.zero, i.size, i.bytes)) = some (some z, sz, bytes)) (hzs : z.cells.size = sz) (hpos : 0 < sz) (hby : bytes ≤ 1024)
   (base : Nat) (v : Value) (n : Nat) (xs news : List Value) (hown : w.ownsRow base e sz v n xs) (g : Nat) (hW : Zb w g e news.toArray) (hnl : news.length = sz) (h1 : ∀ u ∈ news, u.oneCell' = true)
   (hn : n ≤ 68719476736) (hbase : base ≤ w.heap.size)
   (hgd : o.guard = none) (ho : o.op = .call { callee := .builtin .append, args := #[s, x], argTypes := #[t, t] }) (hs : a.eval s = v) (hx : a.eval x = .slice (some ⟨g, 0, none⟩) 1 1)
   (h : ∀ v' w', w'.ownsRow base e sz v' (n + 1) (xs ++ news) → w.grownBy w' v.ownBlock → (v'.ownBlock = v.ownBlock ∨ v'.ownBlock = some w.heap.size) → wpList P ops Q rest (a.put o.dst v') w') :
   wpList P ops Q (o :: rest) a w := by
 obtain ⟨i, hi, hz, hsize, hbytes⟩ := info_parts hinfo
 refine wpList_append_own_at w hgd s x t ho base e i z sz bytes ht hi hz hsize hbytes hzs hpos v n xs hs hown ⟨g, 0, none⟩ 1 1 news hx (by rw [hnl]; omega) ?_ h1 (by unfold maxLen; omega) ?_ hbase ?_
 · intro j u hj
   have hr := hW.read j
   have ha : (⟨g, 0, none⟩ : Addr).add j = ⟨g, j, none⟩ := by simp [Addr.add]; omega
   rw [ha, hr, ← hj]; simp
 · have : (n + 1) * bytes ≤ (n + 1) * 1024 := Nat.mul_le_mul_left _ hby
   omega
 · intro v' w' ho' hg _ hat
   exact h v' w' ho' hg hat
theorem Yc {P : Program} {fn : Func} {R : Ending → World → Prop} {a : Act} {w : World} (s T : Nat) (t : TypeId) (g : Nat) (vs : List Value) (hres : fn.results = #[.cell s T]) (hW : Zb w g t vs.toArray)
   (hu : (P.underlying T).map TypeDesc.isRow = some true) (hi : (P.info? T).map (·.size) = some vs.length)
   (hp : a.tmps.getD s undef = .pointer (some ⟨g, 0, none⟩)) (hd : a.defers = []) (hR : R (.returned (.agg vs.toArray)) w) : bodyPost P fn R .ret a w := by
 obtain ⟨d, hu, hr⟩ := Option.map_eq_some_iff.1 hu
 refine bodyPost_ret (v := .agg vs.toArray) ?_ hd hR
 have hl := run_loadVar_mid (P := P) w g 0 T vs d (by have := Zb.range (a := []) (b := vs) (c := []) (by simpa using hW); exact this) hu hr hi
 have hp' : a.tmps[s]?.getD undef = .pointer (some ⟨g, 0, none⟩) := by simpa using hp
 simp [results, hres, hp', hl, asAddr, Sem.run_bind, Sem.run_pure]
end Go.Proofs.YtjacgcjjdebbbaaGreat
namespace Go.Proofs.YtjacgcjjdebbbaaGreat
open Go.ChangeShapes Go.WideShapes Go.ChangeAt Go.RowKit
set_option linter.unusedVariables false
set_option linter.unusedSimpArgs false
structure Tri (w : World) (t : TypeId) (cs : Array Value) (u : TypeId) (ds : Array Value) (v : TypeId) (es : Array Value) (x : World) : Prop where
 k0 : Zb x w.heap.size t cs
 k1 : Zb x (w.heap.size + 1) u ds
 k2 : Zb x (w.heap.size + 2) v es
 below : Below w.heap.size w x
theorem Tri.start (w : World) (t : TypeId) (cs : Array Value) (u : TypeId) (ds : Array Value) (v : TypeId) (es : Array Value) : Tri w t cs u ds v es (((w.alloc (.cells cs t)).alloc (.cells ds u)).alloc (.cells es v)) := by
 have h := Two.start w t cs u ds
 refine ⟨h.k0.alloc _, h.k1.alloc _, ?_, h.below.alloc h.below.size _⟩
 have := Zb.made ((w.alloc (.cells cs t)).alloc (.cells ds u)) v es
 simpa using this
theorem Tri.next {w x y : World} {t u v : TypeId} {cs ds es : Array Value} (h : Tri w t cs u ds v es x) (hb : Below x.heap.size x y) : Tri w t cs u ds v es y :=
 ⟨h.k0.below hb h.k0.inside, h.k1.below hb h.k1.inside, h.k2.below hb h.k2.inside, h.below.trans (hb.mono h.below.size)⟩
theorem Tri.drew {w x : World} {t u v : TypeId} {cs ds es : Array Value} (h : Tri w t cs u ds v es x) : Tri w t cs u ds v es x.drew := ⟨h.k0, h.k1, h.k2, below_drew1 h.below⟩
def Wm : Int × Nat × Nat := (1, 0, 0)
theorem nStands (w : World) : Calls Tryz.prog 66 #[.pointer none] w fun e w' => e = .returned (.bool false) ∧ w = w' := by
 go_enter Tryz.func66, Tryz.ntmps66
 go_wp2
 go_ret
 exact ⟨rfl, rfl⟩
theorem nPeek (w : World) : Calls Tryz.prog 41 #[.pointer none] w fun e w' => e = .returned (Wf zTok) ∧ Below w.heap.size w w' := by
 go_enter Tryz.func41, Tryz.ntmps41
 go_wp2_with (go_at_call 66; refine (nStands _).mono ?_; rintro e w1 ⟨rfl, rfl⟩)
 refine bodyPost_ret (v := Wf zTok) (by simp [results, Tryz.results41, go_sem, Wf, zTok]) rfl ⟨rfl, ?_⟩
 exact Zd _ _
theorem nHere (w : World) (E : Int) : Calls Tryz.prog 67 #[.pointer none, .int .i64 E] w fun e w' => e = .returned (Zi Wm) ∧ Below w.heap.size w w' := by
 go_enter Tryz.func67, Tryz.ntmps67
 go_wp2
 refine bodyPost_ret (v := Zi Wm) (by simp [results, Tryz.results67, go_sem, Zi, Wm]) rfl ⟨rfl, ?_⟩
 exact Zd _ _
theorem nIs (w : World) (t : ByteArray) : Calls Tryz.prog 68 #[.pointer none, .string t] w fun e w' => e = .returned (.bool false) ∧ Below w.heap.size w w' := by
 go_enter Tryz.func68, Tryz.ntmps68
 go_wp2_with (go_at_call 41; refine (nPeek _).mono ?_; rintro e w2 ⟨rfl, b2⟩; have B2 := Hh b2; clear b2; simp only [Wf, zTok])
 go_ret
 exact ⟨rfl, B2.out.alloc B2.out.size _⟩
theorem nTake (w : World) (t : ByteArray) : Calls Tryz.prog 44 #[.pointer none, .string t] w fun e w' => e = .returned (.bool false) ∧ Below w.heap.size w w' := by
 go_enter Tryz.func44, Tryz.ntmps44
 go_wp2_with (go_at_call 68; refine (nIs _ _).mono ?_; rintro e w2 ⟨rfl, b2⟩; have B2 := Hh b2; clear b2)
 go_ret
 exact ⟨rfl, B2.out⟩
theorem nWrong (w : World) : Calls Tryz.prog 43 #[.pointer none] w fun e w' => e = .returned (Zi Wm) ∧ Below w.heap.size w w' := by
 have F := Hh (Zb.made w 41 #[.int .i64 0, .int .i64 0, .int .i64 0])
 have hfd := fun w => tok_field 0 0 0 0 ⟨#[]⟩ w
 go_enter Tryz.func43, Tryz.ntmps43
 go_wp2_with (first
 | (go_at_call 41; refine (nPeek _).mono ?_; rintro e w2 ⟨rfl, b2⟩; have W2 := Hh (F.out.below b2 (by simp)); have B2 := Hh (Xq (Zd _ _) b2); clear b2; simp only [Wf, zTok, Int.ofNat_zero, Int.natCast_zero])
 | (go_at_call 67; refine (nHere _ _).mono ?_; rintro e w3 ⟨rfl, b3⟩; have W3 := Hh (W2.out.below b3 W2.out.inside); obtain ⟨k0, k1, k2, f0, f1, f2⟩ := Zq W3.out; have hz := W3.out.inside; have B3 := Hh (Xq B2.out b3); clear b3; simp only [Zi, Wm]))
 have hF := Zq (Zb.set3 W3.out (.int .i64 1) (.int .i64 0) (.int .i64 0))
 refine bodyPost_ret (v := Zi Wm) (by simp [results, Tryz.results43, go_sem, hF, Zi, Wm]) rfl ⟨rfl, ?_⟩
 exact Below.set3 B3.out (Nat.le_refl _) _ _ _
theorem nWant (w : World) (t : ByteArray) : Calls Tryz.prog 105 #[.pointer none, .string t] w fun e w' => e = .returned (Zi Wm) ∧ Below w.heap.size w w' := by
 have F := Hh (Zb.made w 41 #[.int .i64 0, .int .i64 0, .int .i64 0])
 go_enter Tryz.func105, Tryz.ntmps105
 go_wp2_with (first
 | (go_at_call 44; refine (nTake _ _).mono ?_; rintro e w2 ⟨rfl, b2⟩; have W2 := Hh (F.out.below b2 (by simp)); have B2 := Hh (Xq (Zd _ _) b2); clear b2)
 | (go_at_call 43; refine (nWrong _).mono ?_; rintro e w3 ⟨rfl, b3⟩; have W3 := Hh (W2.out.below b3 W2.out.inside); obtain ⟨k0, k1, k2, f0, f1, f2⟩ := Zq W3.out; have hz := W3.out.inside; have B3 := Hh (Xq B2.out b3); clear b3; simp only [Zi, Wm]))
 have hF := Zq (Zb.set3 W3.out (.int .i64 1) (.int .i64 0) (.int .i64 0))
 refine bodyPost_ret (v := Zi Wm) (by simp [results, Tryz.results105, go_sem, hF, Zi, Wm]) rfl ⟨rfl, ?_⟩
 exact Below.set3 B3.out (Nat.le_refl _) _ _ _
theorem nKind (w : World) (k : Int) (hk : 0 < k) : Calls Tryz.prog 104 #[.pointer none, .int .i64 k] w fun e w' => e = .returned (.tuple #[Wf zTok, Zi Wm]) ∧ Below w.heap.size w w' := by
 have T0 := Hh (Two.start w 103 #[.int .i64 0, .string ⟨#[]⟩, .int .i64 0, .int .i64 0, .int .i64 0] 41 #[.int .i64 0, .int .i64 0, .int .i64 0])
 have hfd := fun w => tok_field 0 0 0 0 ⟨#[]⟩ w
 have q0 : ((0 : Int) != k) = true := by rw [bne_iff_ne]; omega
 go_enter Tryz.func104, Tryz.ntmps104
 go_wp2_with (first
 | (go_at_call 41; refine (nPeek _).mono ?_; rintro e w2 ⟨rfl, b2⟩; have T2 := Hh (T0.out.next b2); clear b2; simp only [Wf, zTok, Int.ofNat_zero, Int.natCast_zero])
 | (go_at_call 43; refine (nWrong _).mono ?_; rintro e w3 ⟨rfl, b3⟩; have T3 := Hh (T2.out.next b3); obtain ⟨k0, k1, k2, k3, k4, f0, f1, f2, f3, f4⟩ := Wo T3.out.k0; obtain ⟨g0, g1, g2, z0, z1, z2⟩ := Zq T3.out.k1; have hz := T3.out.k1.inside; clear b3; simp only [Zi, Wm]))
 have hFG := two_set T3.out.k0 T3.out.k1 (.int .i64 0) (.string ⟨#[]⟩) (.int .i64 0) (.int .i64 0) (.int .i64 0) (.int .i64 1) (.int .i64 0) (.int .i64 0)
 have hF := Vj hFG.1
 have hG := Zq hFG.2
 refine bodyPost_ret (v := .tuple #[Wf zTok, Zi Wm]) (by simp [results, Tryz.results104, go_sem, hF, hG, Zi, Wm, zTok, Wf]) rfl ⟨rfl, ?_⟩
 exact Below.set3 (Below.set5 T3.out.below (Nat.le_refl _) _ _ _ _ _) (Nat.le_succ _) _ _ _
theorem nInt (w : World) : Calls Tryz.prog 74 #[.pointer none] w fun e w' => e = .returned (.tuple #[.int .i64 0, Zi Wm]) ∧ Below w.heap.size w w' := by
 have F := Hh (Zb.made w 41 #[.int .i64 0, .int .i64 0, .int .i64 0])
 go_enter Tryz.func74, Tryz.ntmps74
 go_wp2_with (go_at_call 104; refine (nKind _ _ (by decide)).mono ?_; rintro e w3 ⟨rfl, b3⟩; have W0 := Hh (F.out.below b3 (by simp)); obtain ⟨g0, g1, g2, z0, z1, z2⟩ := Zq W0.out; have hz := W0.out.inside; have B3 := Hh (Xq (Zd _ _) b3); clear b3; simp only [Wf, zTok, Zi, Wm])
 go_region
 all_goals
   go_wp2
   have hF := Zq ((((Zb.set3 W0.out (.int .i64 1) (.int .i64 0) (.int .i64 0)).alloc (.cells #[.int .i64 0, .string ⟨#[]⟩, .int .i64 0, .int .i64 0, .int .i64 0] 103)).alloc (.cells #[.int .i64 1, .int .i64 0, .int .i64 0] 41)).drew)
   refine bodyPost_ret (v := .tuple #[.int .i64 0, Zi Wm]) (by simp [results, Tryz.results74, go_sem, hF, Zi, Wm]) rfl ⟨rfl, ?_⟩
   have hb := Below.set3 B3.out (Nat.le_refl _) (.int .i64 1) (.int .i64 0) (.int .i64 0)
   exact below_drew1 ((hb.alloc hb.size _).alloc (by have := hb.size; simp at this ⊢; omega) _)
theorem nName (w : World) : Calls Tryz.prog 71 #[.pointer none] w fun e w' => e = .returned (.tuple #[.string ⟨#[]⟩, Zi Wm]) ∧ Below w.heap.size w w' := by
 have F := Hh (Zb.made w 41 #[.int .i64 0, .int .i64 0, .int .i64 0])
 go_enter Tryz.func71, Tryz.ntmps71
 go_wp2_with (go_at_call 104; refine (nKind _ _ (by decide)).mono ?_; rintro e w3 ⟨rfl, b3⟩; have W0 := Hh (F.out.below b3 (by simp)); obtain ⟨g0, g1, g2, z0, z1, z2⟩ := Zq W0.out; have hz := W0.out.inside; have B3 := Hh (Xq (Zd _ _) b3); clear b3; simp only [Wf, zTok, Zi, Wm])
 go_region
 all_goals
   go_wp2
   have hF := Zq ((((Zb.set3 W0.out (.int .i64 1) (.int .i64 0) (.int .i64 0)).alloc (.cells #[.int .i64 0, .string ⟨#[]⟩, .int .i64 0, .int .i64 0, .int .i64 0] 103)).alloc (.cells #[.int .i64 1, .int .i64 0, .int .i64 0] 41)).drew)
   refine bodyPost_ret (v := .tuple #[.string ⟨#[]⟩, Zi Wm]) (by simp [results, Tryz.results71, go_sem, hF, Zi, Wm]) rfl ⟨rfl, ?_⟩
   have hb := Below.set3 B3.out (Nat.le_refl _) (.int .i64 1) (.int .i64 0) (.int .i64 0)
   exact below_drew1 ((hb.alloc hb.size _).alloc (by have := hb.size; simp at this ⊢; omega) _)
theorem nSigned (w : World) : Calls Tryz.prog 75 #[.pointer none] w fun e w' => e = .returned (.tuple #[.int .i64 0, Zi Wm]) ∧ Below w.heap.size w w' := by
 have F := Hh (Zb.made w 41 #[.int .i64 0, .int .i64 0, .int .i64 0])
 go_enter Tryz.func75, Tryz.ntmps75
 go_wp2_with (first
 | (go_at_call 68; refine (nIs _ _).mono ?_; rintro e w2 ⟨rfl, b2⟩; have W2 := Hh (F.out.below b2 (by simp)); have B2 := Hh (Xq (Zd _ _) b2); clear b2)
 | (go_at_call 74; refine (nInt _).mono ?_; rintro e w3 ⟨rfl, b3⟩; have W0 := Hh (W2.out.below b3 W2.out.inside); obtain ⟨g0, g1, g2, z0, z1, z2⟩ := Zq W0.out; have hz := W0.out.inside; have B3 := Hh (Xq B2.out b3); clear b3; simp only [Zi, Wm]))
 have hF := Zq (Zb.set3 W0.out (.int .i64 1) (.int .i64 0) (.int .i64 0))
 refine bodyPost_ret (v := .tuple #[.int .i64 0, Zi Wm]) (by simp [results, Tryz.results75, go_sem, hF, Zi, Wm]) rfl ⟨rfl, ?_⟩
 exact Below.set3 B3.out (Nat.le_refl _) _ _ _
theorem nDown (w : World) : Calls Tryz.prog 142 #[.pointer none] w fun e w' => e = .returned (Zi Wm) ∧ Below w.heap.size w w' := by
 have F := Hh (Zb.made w 41 #[.int .i64 0, .int .i64 0, .int .i64 0])
 go_enter Tryz.func142, Tryz.ntmps142
 go_wp2_with (first
 | (go_at_call 66; refine (nStands _).mono ?_; rintro e w1 ⟨rfl, rfl⟩)
 | (go_at_call 67; refine (nHere _ _).mono ?_; rintro e w3 ⟨rfl, b3⟩; have W3 := Hh (F.out.below b3 (by simp)); obtain ⟨k0, k1, k2, f0, f1, f2⟩ := Zq W3.out; have hz := W3.out.inside; have B3 := Hh (Xq (Zd _ _) b3); clear b3; simp only [Zi, Wm]))
 have hF := Zq (Zb.set3 W3.out (.int .i64 1) (.int .i64 0) (.int .i64 0))
 refine bodyPost_ret (v := Zi Wm) (by simp [results, Tryz.results142, go_sem, hF, Zi, Wm]) rfl ⟨rfl, ?_⟩
 exact Below.set3 B3.out (Nat.le_refl _) _ _ _
theorem nUp (w : World) : Calls Tryz.prog 143 #[.pointer none] w fun e w' => e = .returned (.tuple #[]) ∧ w = w' := by
 go_enter Tryz.func143, Tryz.ntmps143
 go_wp2
 go_end0
 exact ⟨rfl, rfl⟩
def Xl (c : Nat) : St → Value
 | .ok _ _ => .pointer (some ⟨c, 0, none⟩)
 | .bad _ => .pointer none
def fltS : St → Int × Nat × Nat
 | .ok _ _ => okF
 | .bad F => F
structure PAt (w : World) (q c r K : Nat) (L : List TokV) (st : St) : Prop where
 whole : Zb w q 101 #[Xl c st, .int .i64 (fltS st).1, .int .i64 ((fltS st).2.1 : Int), .int .i64 ((fltS st).2.2 : Int)]
 cur : ∀ a d, st = .ok a d → q ≠ c ∧ q ≠ r ∧ Xj w c r K L a d
 flt : ∀ F, st = .bad F → F.1 ≠ 0
 cin : c < w.heap.size
 rin : r < w.heap.size
theorem PAt.keeps {w w' : World} {q c r K : Nat} {L : List TokV} {st : St} (h : PAt w q c r K L st) {S : Nat → Prop} (hk : Zg S w w') (hq : ¬ S q) (hc : ¬ S c) (hr : ¬ S r) : PAt w' q c r K L st :=
 ⟨hk.whole h.whole hq, fun a d e => ⟨(h.cur a d e).1, (h.cur a d e).2.1, (h.cur a d e).2.2.keeps hk hc hr⟩, h.flt, Nat.lt_of_lt_of_le h.cin hk.size, Nat.lt_of_lt_of_le h.rin hk.size⟩
theorem PAt.below {w w' : World} {q c r K : Nat} {L : List TokV} {st : St} (h : PAt w q c r K L st) (hb : Below w.heap.size w w') : PAt w' q c r K L st :=
 h.keeps (S := fun _ => False) (Zg.of_below hb) id id id
structure Zy (w w' : World) (q c r K : Nat) (L : List TokV) (st : St) : Prop where
 at_ : PAt w' q c r K L st
 keeps : Zg (fun k => k = q ∨ k = c) w w'
def Zz (w : World) (q c r K : Nat) (L : List TokV) (st : St) (val : Value) (e : Ending) (w' : World) : Prop := e = .returned val ∧ Zy w w' q c r K L st
theorem Zy.start {w : World} {q c r K : Nat} {L : List TokV} {st : St} (h : PAt w q c r K L st) : Zy w w q c r K L st := ⟨h, Zg.refl _ _⟩
theorem Zy.next {w x y : World} {q c r K : Nat} {L : List TokV} {st : St} (m : Zy w x q c r K L st) (hb : Below x.heap.size x y) : Zy w y q c r K L st :=
 ⟨m.at_.below hb, m.keeps.trans (Zg.of_below hb)⟩
theorem Zy.then {w x y : World} {q c r K : Nat} {L : List TokV} {st st' : St} (m : Zy w x q c r K L st) (h : Zy x y q c r K L st') : Zy w y q c r K L st' :=
 ⟨h.at_, m.keeps.trans h.keeps⟩
theorem Zy.on {w x y : World} {q c r K : Nat} {L : List TokV} {st : St} (m : Zy w x q c r K L st) {G : Nat} (hk : Zg (fun k => k = G) x y) (hG : w.heap.size ≤ G) (hq : q < w.heap.size) (hc : c < w.heap.size) (hr : r < w.heap.size) : Zy w y q c r K L st := by
 refine ⟨m.at_.keeps hk (by omega) (by omega) (by omega), ?_⟩
 have h1 : Zg (fun k => (k = q ∨ k = c) ∨ k = G) w x := m.keeps.mono fun k h => .inl h
 have h2 : Zg (fun k => (k = q ∨ k = c) ∨ k = G) x y := hk.mono fun k h => .inr h
 exact (h1.trans h2).inner fun k hk h => by omega
def wrongV (L : List TokV) : St → Int × Nat × Nat
 | .ok a _ => wrF (Yd L a)
 | .bad _ => Wm
def wantV (L : List TokV) (t : ByteArray) : St → Int × Nat × Nat
 | .ok a _ => wantF L a t
 | .bad _ => Wm
def downV (L : List TokV) : St → Int × Nat × Nat
 | .ok a d => downF L a d
 | .bad _ => Wm
def deeperS : St → St
 | .ok a d => .ok a (downD d)
 | .bad F => .bad F
theorem PAt.step {w x : World} {q c r K : Nat} {L : List TokV} {a d b e : Nat} (h : PAt w q c r K L (.ok a d)) (m : Wa w x c r K L b e) : Zy w x q c r K L (.ok b e) := by
 obtain ⟨h1, h2, h3⟩ := h.cur a d rfl
 refine ⟨⟨m.keeps.whole h.whole h1, fun a' d' e' => ?_, fun F e' => (by cases e'), Nat.lt_of_lt_of_le h.cin m.keeps.size, Nat.lt_of_lt_of_le h.rin m.keeps.size⟩, m.keeps.mono fun k hk => .inr hk⟩
 cases e'
 exact ⟨h1, h2, m.at_⟩
theorem xPeek (w : World) (q c r K : Nat) (L : List TokV) (st : St) (h : PAt w q c r K L st) :
   Calls Tryz.prog 41 #[Xl c st] w fun e w' => e = .returned (Wf (st.tok L)) ∧ Below w.heap.size w w' := by
 cases st with
 | ok a d => exact cPeek w c _ _ _ _ _ _ (h.cur a d rfl).2.2.look
 | bad F => exact nPeek w
theorem xIs (w : World) (q c r K : Nat) (L : List TokV) (st : St) (t : ByteArray) (h : PAt w q c r K L st) :
   Calls Tryz.prog 68 #[Xl c st, .string t] w fun e w' => e = .returned (.bool (isS L t st)) ∧ Below w.heap.size w w' := by
 cases st with
 | ok a d => exact cIs w c _ _ _ _ _ _ t (h.cur a d rfl).2.2.look
 | bad F => exact nIs w t
theorem xWrong (w : World) (q c r K : Nat) (L : List TokV) (st : St) (h : PAt w q c r K L st) :
   Calls Tryz.prog 43 #[Xl c st] w fun e w' => e = .returned (Zi (wrongV L st)) ∧ Below w.heap.size w w' := by
 cases st with
 | ok a d => exact cWrong w c _ _ _ _ _ _ (h.cur a d rfl).2.2.look
 | bad F => exact nWrong w
theorem Wb (w : World) (q c r K : Nat) (L : List TokV) (st : St) (t : ByteArray) (h : PAt w q c r K L st) :
   Calls Tryz.prog 44 #[Xl c st, .string t] w (Zz w q c r K L (Xi L t st) (.bool (isS L t st))) := by
 cases st with
 | ok a d => exact (cTake w c r K L a d t (h.cur a d rfl).2.2).mono fun e w' p => ⟨p.1, h.step p.2⟩
 | bad F => exact (nTake w t).mono fun e w' p => ⟨p.1, (Zy.start h).next p.2⟩
theorem xWant (w : World) (q c r K : Nat) (L : List TokV) (st : St) (t : ByteArray) (h : PAt w q c r K L st) :
   Calls Tryz.prog 105 #[Xl c st, .string t] w (Zz w q c r K L (Xi L t st) (Zi (wantV L t st))) := by
 cases st with
 | ok a d => exact (cWant w c r K L a d t (h.cur a d rfl).2.2).mono fun e w' p => ⟨p.1, h.step p.2⟩
 | bad F => exact (nWant w t).mono fun e w' p => ⟨p.1, (Zy.start h).next p.2⟩
theorem xDown (w : World) (q c r K : Nat) (L : List TokV) (st : St) (h : PAt w q c r K L st) :
   Calls Tryz.prog 142 #[Xl c st] w (Zz w q c r K L (deeperS st) (Zi (downV L st))) := by
 cases st with
 | ok a d => exact (cDown w c r K L a d (h.cur a d rfl).2.2).mono fun e w' p => ⟨p.1, h.step p.2⟩
 | bad F => exact (nDown w).mono fun e w' p => ⟨p.1, (Zy.start h).next p.2⟩
theorem xUp (w : World) (q c r K : Nat) (L : List TokV) (st : St) (h : PAt w q c r K L st) :
   Calls Tryz.prog 143 #[Xl c st] w (Zz w q c r K L (upS st) (.tuple #[])) := by
 cases st with
 | ok a d => exact (cUp w c r K L a d (h.cur a d rfl).2.2).mono fun e w' p => ⟨p.1, h.step p.2⟩
 | bad F => exact (nUp w).mono fun e w' p => ⟨p.1, by obtain ⟨_, rfl⟩ := p; exact Zy.start h⟩
theorem PAt.cell {w : World} {q c r K : Nat} {L : List TokV} {st : St} (h : PAt w q c r K L st) : w.cell? ⟨q, 0, none⟩ = some (Xl c st) := h.whole.read 0
theorem xNote (w : World) (q c r K : Nat) (L : List TokV) (st : St) (F : Int × Nat × Nat) (h : PAt w q c r K L st) :
   Calls Tryz.prog 42 #[.pointer (some ⟨q, 0, none⟩), Zi F] w (Zz w q c r K L (Va F st) (.tuple #[])) := by
 obtain ⟨f0, f1, f2⟩ := F
 have nb := Zd w (.cells #[.int .i64 f0, .int .i64 (f1 : Int), .int .i64 (f2 : Int)] 41)
 have h1 := h.below nb
 have hc := h1.cell
 have HM := Hh ((Zy.start h).next nb)
 have H := Hh h
 have H1 := Hh h1
 clear h h1 nb
 unfold Zi
 cases st with
 | bad G =>
   have hc' : (w.alloc (.cells #[.int .i64 f0, .int .i64 (f1 : Int), .int .i64 (f2 : Int)] 41)).cell? ⟨q, 0, none⟩ = some (.pointer none) := hc
   clear hc
   go_enter Tryz.func42, Tryz.ntmps42
   go_wp2
   go_end0
   exact ⟨rfl, HM.out⟩
 | ok a d =>
   have hc' : (w.alloc (.cells #[.int .i64 f0, .int .i64 (f1 : Int), .int .i64 (f2 : Int)] 41)).cell? ⟨q, 0, none⟩ = some (.pointer (some ⟨c, 0, none⟩)) := hc
   clear hc
   by_cases hz : f0 = 0
   · subst hz
     have hn : Va (0, f1, f2) (.ok a d) = .ok a d := by simp [Va]
     rw [hn]
     clear hn
     go_enter Tryz.func42, Tryz.ntmps42
     go_wp2
     go_end0
     exact ⟨rfl, HM.out⟩
   · have hn : Va (f0, f1, f2) (.ok a d) = .bad (f0, f1, f2) := if_neg hz
     rw [hn]
     have q1 : (f0 != 0) = true := by rw [bne_iff_ne]; exact hz
     have z0 := H1.out.whole.thawed 0
     have z1 := H1.out.whole.thawed 1
     have z2 := H1.out.whole.thawed 2
     have z3 := H1.out.whole.thawed 3
     have y1 := H1.out.whole.read 1
     have y2 := H1.out.whole.read 2
     have y3 := H1.out.whole.read 3
     have HZ := Hh hz
     clear hn hz
     go_enter Tryz.func42, Tryz.ntmps42
     go_wp2
     go_end0
     refine ⟨rfl, ⟨⟨?_, fun _ _ e => (by cases e), fun F e => (by cases e; exact HZ.out), ?_, ?_⟩, ?_⟩⟩
     · exact (((H1.out.whole.write 1 (.int .i64 f0)).write 2 (.int .i64 (f1 : Int))).write 3 (.int .i64 (f2 : Int))).write 0 (.pointer none)
     · have := H1.out.cin; simpa [World.setCell] using this
     · have := H1.out.rin; simpa [World.setCell] using this
     · exact (((HM.out.keeps.setCell (p := ⟨q, 1, none⟩) (.inl rfl) _).setCell (p := ⟨q, 2, none⟩) (.inl rfl) _).setCell (p := ⟨q, 3, none⟩) (.inl rfl) _).setCell (p := ⟨q, 0, none⟩) (.inl rfl) _
theorem want_note (L : List TokV) (t : ByteArray) (st : St) : Va (wantV L t st) (Xi L t st) = Vr L t st := by
 cases st with
 | ok a d =>
   unfold Vr
   show Va (wantF L a t) (.ok (wantA L a t) d) = if isT (Yd L a) t = true then .ok (wantA L a t) d else .bad (wrF (Yd L a))
   unfold wantF wantA
   by_cases h : isT (Yd L a) t = true
   · rw [if_pos h, if_pos h, if_pos h]; rfl
   · rw [if_neg h, if_neg h, if_neg h]; exact if_neg (wrF_ne _)
 | bad F => rfl
theorem wrong_note (L : List TokV) (st : St) : Va (wrongV L st) st = wrongS L st := by
 cases st with
 | ok a d => exact if_neg (wrF_ne _)
 | bad F => rfl
theorem xwant (w : World) (q c r K : Nat) (L : List TokV) (st : St) (t : ByteArray) (h : PAt w q c r K L st) :
   Calls Tryz.prog 72 #[.pointer (some ⟨q, 0, none⟩), .string t] w (Zz w q c r K L (Vr L t st) (.tuple #[])) := by
 have hc := h.cell
 have H := Hh h
 rw [← want_note]
 generalize hv : wantV L t st = v
 have hw : ∀ w, PAt w q c r K L st → Calls Tryz.prog 105 #[Xl c st, .string t] w (Zz w q c r K L (Xi L t st) (Zi v)) := fun w h => by rw [← hv]; exact xWant w q c r K L st t h
 clear h hv
 go_enter Tryz.func72, Tryz.ntmps72
 go_wp2_with (first
 | (go_at_call 105; refine (hw _ H.out).mono ?_; rintro e w1 ⟨rfl, m1⟩; have M1 := Hh m1; clear m1)
 | (go_at_call 42; refine (xNote _ q c r K L _ v M1.out.at_).mono ?_; rintro e w2 ⟨rfl, m2⟩; have M2 := Hh (M1.out.then m2); clear m2))
 go_end0
 exact ⟨rfl, M2.out⟩
theorem idx_hit (v : TokV) : ∀ (ws : List ByteArray) (k : Nat) (hk : k < ws.length), (∀ j, j < k → isT v (ws.getD j ⟨#[]⟩) = false) → isT v (ws.getD k ⟨#[]⟩) = true → idxW v ws = k + 1
 | [], k, hk, _, _ => by cases hk
 | t :: r, 0, hk, _, h => if_pos h
 | t :: r, k + 1, hk, hj, h => by
   have h0 : isT v t = false := hj 0 (by omega)
   have ih := idx_hit v r k (by rw [List.length_cons] at hk; omega) (fun j hjk => hj (j + 1) (by omega)) h
   unfold idxW
   rw [if_neg (by rw [h0]; decide), if_neg (by rw [ih]; omega), ih]
theorem idx_miss (v : TokV) : ∀ (ws : List ByteArray), (∀ j, j < ws.length → isT v (ws.getD j ⟨#[]⟩) = false) → idxW v ws = 0
 | [], _ => rfl
 | t :: r, hj => by
   have h0 : isT v t = false := hj 0 (by rw [List.length_cons]; omega)
   have ih := idx_miss v r (fun j hjk => hj (j + 1) (by rw [List.length_cons]; omega))
   unfold idxW
   rw [if_neg (by rw [h0]; decide), if_pos ih]
theorem find_hit (L : List TokV) (ws : List ByteArray) (st : St) (k : Nat) (hk : k < ws.length) (hj : ∀ j, j < k → isS L (ws.getD j ⟨#[]⟩) st = false) (h : isS L (ws.getD k ⟨#[]⟩) st = true) :
   Zn L ws st = k + 1 ∧ Ym L ws st = Xi L (ws.getD k ⟨#[]⟩) st := by
 cases st with
 | ok a d =>
   have hi := idx_hit (Yd L a) ws k hk hj h
   refine ⟨hi, ?_⟩
   rw [show Ym L ws (.ok a d) = .ok (onA L a) d from if_neg (by rw [hi]; omega)]
   show St.ok (onA L a) d = .ok (wantA L a (ws.getD k ⟨#[]⟩)) d
   unfold wantA
   rw [if_pos (show isT (Yd L a) (ws.getD k ⟨#[]⟩) = true from h)]
 | bad F => cases h
theorem find_miss (L : List TokV) (ws : List ByteArray) (st : St) (hj : ∀ j, j < ws.length → isS L (ws.getD j ⟨#[]⟩) st = false) : Zn L ws st = 0 := by
 cases st with
 | ok a d => exact idx_miss (Yd L a) ws hj
 | bad F => rfl
theorem Xg {L : List TokV} {t : ByteArray} {st : St} (h : isS L t st = false) : Xi L t st = st := by
 cases st with
 | ok a d =>
   show St.ok (wantA L a t) d = .ok a d
   unfold wantA
   rw [if_neg (by rw [show isT (Yd L a) t = false from h]; decide)]
 | bad F => rfl
def Words (w : World) (g : Nat) (ws : List ByteArray) : Prop := Zb w g 9 (ws.map Value.string).toArray
theorem Words.at_ {w : World} {g : Nat} {ws : List ByteArray} (h : Words w g ws) {k : Nat} (hk : k < ws.length) : w.cell? ⟨g, k, none⟩ = some (.string (ws.getD k ⟨#[]⟩)) := by
 rw [Zb.read h k]
 simp [List.getD, hk]
theorem xfind (w : World) (q c r K : Nat) (L : List TokV) (st : St) (ws : List ByteArray) (g n m : Nat) (h : PAt w q c r K L st) (hw : Words w g ws) (hq : g ≠ q) (hc : g ≠ c) (hn : n = ws.length) (hl : n ≤ 64) :
   Calls Tryz.prog 56 #[.pointer (some ⟨q, 0, none⟩), .slice (some ⟨g, 0, none⟩) n m] w (Zz w q c r K L (Ym L ws st) (.int .i64 (Zn L ws st))) := by
 have H := Hh (And.intro hw (And.intro hq (And.intro hc hn)))
 have hP := Hh (Zy.start h)
 clear h hw hq hc hn
 have l64 : (n : Int) ≤ 64 := by omega
 go_enter Tryz.func56, Tryz.ntmps56
 go_wp2
 go_loopw [9] (fun i wr => ∃ k : Nat, i = .int .i64 k ∧ k ≤ n ∧ Zy w wr q c r K L st ∧ ∀ j, j < k → isS L (ws.getD j ⟨#[]⟩) st = false) (fun i _ => n - (intOf i).toNat)
 case atStart => exact ⟨0, by go_num, Nat.zero_le _, hP.out, fun j hj => by omega⟩
 case round =>
   obtain ⟨k, rfl, hk, hm, hj⟩ := hrel
   obtain ⟨H1, H2, H3, H4⟩ := H.out
   have HJ := Hh hj
   have HM := Hh hm
   have hcell := hm.at_.cell
   have HW : Words wr g ws := hm.keeps.whole H1 (by omega)
   have HN := Hh H4
   have hnw : k < n → k < ws.length := fun h => by omega
   have hwn : ¬ k < n → ∀ j, j < ws.length → j < k := fun h j hj => by omega
   clear H4
   by_cases hlt : k < n
   · have hx := HW.at_ (k := k) (hnw hlt)
     have hi := HW.inside
     generalize hv : isS L (ws.getD k ⟨#[]⟩) st = b
     have ht : ∀ w, PAt w q c r K L st → Calls Tryz.prog 44 #[Xl c st, .string (ws.getD k ⟨#[]⟩)] w (Zz w q c r K L (Xi L (ws.getD k ⟨#[]⟩) st) (.bool b)) := fun w h => by rw [← hv]; exact Wb w q c r K L st _ h
     generalize hX : ws.getD k ⟨#[]⟩ = x at *
     have HV := Hh hv
     have HX := Hh hX
     clear hX
     have hlt' : (k : Int) < (n : Int) := by omega
     have HK := Hh (hnw hlt)
     clear hm hj H1 H2 H3 HW hv hk hnw hwn
     cases b
     · go_wp2_with (go_at_call 44; refine (ht _ HM.out.at_).mono ?_; rintro e w1 ⟨rfl, m1⟩; have M1 := Hh (HM.out.then m1); clear m1)
       go_roundw
       case rel =>
         have m := M1.out
         rw [Xg HV.out] at m
         refine ⟨k + 1, by go_num, by omega, m, fun j hj => ?_⟩
         by_cases e : j = k
         · subst e; rw [HX.out]; exact HV.out
         · exact HJ.out j (by omega)
       case measure => simp [intOf]; omega
     · go_wp2_with (go_at_call 44; refine (ht _ HM.out.at_).mono ?_; rintro e w1 ⟨rfl, m1⟩; have M1 := Hh (HM.out.then m1); clear m1)
       go_ret
       obtain ⟨e1, e2⟩ := find_hit L ws st k HK.out HJ.out (by rw [HX.out]; exact HV.out)
       rw [e1, e2, HX.out]
       exact ⟨rI (by omega), M1.out⟩
   · have e := find_miss L ws st (fun j hj => HJ.out j (hwn hlt j hj))
     have HE := Hh e
     have hge : (n : Int) ≤ (k : Int) := by omega
     clear hm hj H1 H2 H3 HW e hnw hwn
     go_wp2
     go_ret
     rw [HE.out, find_none L HE.out]
     exact ⟨rfl, HM.out⟩
theorem xone (w : World) (q c r K : Nat) (L : List TokV) (st : St) (ws : List ByteArray) (g n m : Nat) (h : PAt w q c r K L st) (hw : Words w g ws) (hq : g ≠ q) (hc : g ≠ c) (hn : n = ws.length) (hl : n ≤ 64) :
   Calls Tryz.prog 117 #[.pointer (some ⟨q, 0, none⟩), .slice (some ⟨g, 0, none⟩) n m] w (Zz w q c r K L (Ye L ws st) (.int .i64 (Zn L ws st))) := by
 have hf := xfind w q c r K L st ws g n m h hw hq hc hn hl
 have hb := idxW_le
 have hF : Zn L ws st = 0 → Ym L ws st = st := find_none L
 unfold Ye
 generalize hk : Zn L ws st = k at *
 have HF := Hh hF
 have HK := Hh hk
 clear h hw hq hc hn hl hb hF hk
 by_cases h0 : k = 0
 · subst h0
   rw [if_pos rfl]
   rw [HF.out rfl] at hf
   rw [← wrong_note]
   generalize hv : wrongV L st = v
   have hw : ∀ w, PAt w q c r K L st → Calls Tryz.prog 43 #[Xl c st] w fun e w' => e = .returned (Zi v) ∧ Below w.heap.size w w' := fun w h => by rw [← hv]; exact xWrong w q c r K L st h
   clear hv
   go_enter Tryz.func117, Tryz.ntmps117
   go_wp2_with (first
 | (go_at_call 56; refine hf.mono ?_; rintro e w1 ⟨rfl, m1⟩; have hcell := m1.at_.cell; have M1 := Hh m1; clear m1)
 | (go_at_call 43; refine (hw _ M1.out.at_).mono ?_; rintro e w2 ⟨rfl, b2⟩; have M2 := Hh (M1.out.next b2); clear b2)
 | (go_at_call 42; refine (xNote _ q c r K L _ v M2.out.at_).mono ?_; rintro e w3 ⟨rfl, m3⟩; have M3 := Hh (M2.out.then m3); clear m3))
   go_ret
   exact ⟨rfl, M3.out⟩
 · rw [if_neg h0]
   have q0 : ((k : Int) == 0) = false := by rw [beq_eq_false_iff_ne]; omega
   clear h0
   go_enter Tryz.func117, Tryz.ntmps117
   go_wp2_with (go_at_call 56; refine hf.mono ?_; rintro e w1 ⟨rfl, m1⟩; have M1 := Hh m1; clear m1)
   go_ret
   exact ⟨rfl, M1.out⟩
theorem xoneB (W : World) (q c r K G : Nat) (L : List TokV) (st : St) (ws : List ByteArray) (n m : Nat) (cs : Array Value) (hcs : cs = (ws.map Value.string).toArray) (hG : G = W.heap.size) (h : PAt W q c r K L st) (hn : n = ws.length) (hl : n ≤ 64) :
   Calls Tryz.prog 117 #[.pointer (some ⟨q, 0, none⟩), .slice (some ⟨G, 0, none⟩) n m] (W.alloc (.cells cs 9)) fun e w' => e = .returned (.int .i64 (Zn L ws st)) ∧ Zy W w' q c r K L (Ye L ws st) := by
 subst hcs hG
 have M1 := (Zy.start h).next (Zd W (.cells (ws.map Value.string).toArray 9))
 have hq := h.whole.inside
 refine (xone _ q c r K L st ws W.heap.size n m M1.at_ (Zb.made _ _ _) (by omega) (by have := h.cin; omega) hn hl).mono ?_
 rintro e w' ⟨h1, h2⟩
 exact ⟨h1, M1.then h2⟩
theorem xfindB (W : World) (q c r K G : Nat) (L : List TokV) (st : St) (ws : List ByteArray) (n m : Nat) (cs : Array Value) (hcs : cs = (ws.map Value.string).toArray) (hG : G = W.heap.size) (h : PAt W q c r K L st) (hn : n = ws.length) (hl : n ≤ 64) :
   Calls Tryz.prog 56 #[.pointer (some ⟨q, 0, none⟩), .slice (some ⟨G, 0, none⟩) n m] (W.alloc (.cells cs 9)) fun e w' => e = .returned (.int .i64 (Zn L ws st)) ∧ Zy W w' q c r K L (Ym L ws st) := by
 subst hcs hG
 have M1 := (Zy.start h).next (Zd W (.cells (ws.map Value.string).toArray 9))
 have hq := h.whole.inside
 refine (xfind _ q c r K L st ws W.heap.size n m M1.at_ (Zb.made _ _ _) (by omega) (by have := h.cin; omega) hn hl).mono ?_
 rintro e w' ⟨h1, h2⟩
 exact ⟨h1, M1.then h2⟩
def intF (L : List TokV) : St → Int × Nat × Nat
 | .ok a _ => kindF L a 2
 | .bad _ => Wm
def intM (L : List TokV) : St → St
 | .ok a d => .ok (kindA L a 2) d
 | .bad F => .bad F
def nameF (L : List TokV) : St → Int × Nat × Nat
 | .ok a _ => kindF L a 3
 | .bad _ => Wm
def nameM (L : List TokV) : St → St
 | .ok a d => .ok (kindA L a 3) d
 | .bad F => .bad F
def sigF (L : List TokV) : St → Int × Nat × Nat
 | .ok a _ => signF L a
 | .bad _ => Wm
def sigM (L : List TokV) : St → St
 | .ok a d => .ok (signA L a) d
 | .bad F => .bad F
theorem int_note (L : List TokV) (st : St) : Va (intF L st) (intM L st) = intS L st := by cases st <;> rfl
theorem name_note (L : List TokV) (st : St) : Va (nameF L st) (nameM L st) = Vv L st := by cases st <;> rfl
theorem sig_note (L : List TokV) (st : St) : Va (sigF L st) (sigM L st) = signS L st := by cases st <;> rfl
theorem xInt (w : World) (q c r K : Nat) (L : List TokV) (st : St) (h : PAt w q c r K L st) :
   Calls Tryz.prog 74 #[Xl c st] w (Zz w q c r K L (intM L st) (.tuple #[.int .i64 (intN L st), Zi (intF L st)])) := by
 cases st with
 | ok a d => exact (cInt w c r K L a d (h.cur a d rfl).2.2).mono fun e w' p => ⟨p.1, h.step p.2⟩
 | bad F => exact (nInt w).mono fun e w' p => ⟨p.1, (Zy.start h).next p.2⟩
theorem xName (w : World) (q c r K : Nat) (L : List TokV) (st : St) (h : PAt w q c r K L st) :
   Calls Tryz.prog 71 #[Xl c st] w (Zz w q c r K L (nameM L st) (.tuple #[.string (nameN L st), Zi (nameF L st)])) := by
 cases st with
 | ok a d => exact (cName w c r K L a d (h.cur a d rfl).2.2).mono fun e w' p => ⟨p.1, h.step p.2⟩
 | bad F => exact (nName w).mono fun e w' p => ⟨p.1, (Zy.start h).next p.2⟩
theorem xSigned (w : World) (q c r K : Nat) (L : List TokV) (st : St) (h : PAt w q c r K L st) :
   Calls Tryz.prog 75 #[Xl c st] w (Zz w q c r K L (sigM L st) (.tuple #[.int .i64 (signN L st), Zi (sigF L st)])) := by
 cases st with
 | ok a d => exact (cSigned w c r K L a d (h.cur a d rfl).2.2).mono fun e w' p => ⟨p.1, h.step p.2⟩
 | bad F => exact (nSigned w).mono fun e w' p => ⟨p.1, (Zy.start h).next p.2⟩
theorem xreadInt (w : World) (q c r K : Nat) (L : List TokV) (st : St) (h : PAt w q c r K L st) :
   Calls Tryz.prog 73 #[.pointer (some ⟨q, 0, none⟩), .func (.func 74) #[Xl c st] #[]] w (Zz w q c r K L (intS L st) (.int .i64 (intN L st))) := by
 have H := Hh h
 rw [← int_note]
 have hi := xInt w q c r K L st h
 generalize intF L st = F at *
 obtain ⟨f0, f1, f2⟩ := F
 have qin := h.whole.inside
 have cin := h.cin
 have rin := h.rin
 clear h
 unfold Zi at hi
 go_enter Tryz.func73, Tryz.ntmps73
 go_wp2_with (first
 | (go_at_call 74; refine hi.mono ?_; rintro e w1 ⟨rfl, m1⟩; have M1 := Hh (m1.next (Zd w1 (.cells #[.int .i64 f0, .int .i64 (f1 : Int), .int .i64 (f2 : Int)] 41))); clear m1)
 | (go_at_call 42; refine (xNote _ q c r K L _ (f0, f1, f2) M1.out.at_).mono ?_; rintro e w2 ⟨rfl, m2⟩; have M2 := Hh (M1.out.then m2); clear m2))
 go_ret
 exact ⟨rfl, M2.out⟩
theorem xreadName (w : World) (q c r K : Nat) (L : List TokV) (st : St) (h : PAt w q c r K L st) :
   Calls Tryz.prog 70 #[.pointer (some ⟨q, 0, none⟩), .func (.func 71) #[Xl c st] #[]] w (Zz w q c r K L (Vv L st) (.string (nameN L st))) := by
 have H := Hh h
 rw [← name_note]
 have hi := xName w q c r K L st h
 generalize nameF L st = F at *
 obtain ⟨f0, f1, f2⟩ := F
 have qin := h.whole.inside
 have cin := h.cin
 have rin := h.rin
 clear h
 unfold Zi at hi
 go_enter Tryz.func70, Tryz.ntmps70
 go_wp2_with (first
 | (go_at_call 71; refine hi.mono ?_; rintro e w1 ⟨rfl, m1⟩; have M1 := Hh (m1.next (Zd w1 (.cells #[.int .i64 f0, .int .i64 (f1 : Int), .int .i64 (f2 : Int)] 41))); clear m1)
 | (go_at_call 42; refine (xNote _ q c r K L _ (f0, f1, f2) M1.out.at_).mono ?_; rintro e w2 ⟨rfl, m2⟩; have M2 := Hh (M1.out.then m2); clear m2))
 go_ret
 exact ⟨rfl, M2.out⟩
theorem xreadSigned (w : World) (q c r K : Nat) (L : List TokV) (st : St) (h : PAt w q c r K L st) :
   Calls Tryz.prog 73 #[.pointer (some ⟨q, 0, none⟩), .func (.func 75) #[Xl c st] #[]] w (Zz w q c r K L (signS L st) (.int .i64 (signN L st))) := by
 have H := Hh h
 rw [← sig_note]
 have hi := xSigned w q c r K L st h
 generalize sigF L st = F at *
 obtain ⟨f0, f1, f2⟩ := F
 have qin := h.whole.inside
 have cin := h.cin
 have rin := h.rin
 clear h
 unfold Zi at hi
 go_enter Tryz.func73, Tryz.ntmps73
 go_wp2_with (first
 | (go_at_call 75; refine hi.mono ?_; rintro e w1 ⟨rfl, m1⟩; have M1 := Hh (m1.next (Zd w1 (.cells #[.int .i64 f0, .int .i64 (f1 : Int), .int .i64 (f2 : Int)] 41))); clear m1)
 | (go_at_call 42; refine (xNote _ q c r K L _ (f0, f1, f2) M1.out.at_).mono ?_; rintro e w2 ⟨rfl, m2⟩; have M2 := Hh (M1.out.then m2); clear m2))
 go_ret
 exact ⟨rfl, M2.out⟩
theorem deep_note (L : List TokV) (t : ByteArray) (st : St) (h : isS L t st = true) : Va (downV L st) (deeperS st) = deepS L t st := by
 cases st with
 | ok a d => exact (if_pos h).symm
 | bad F => cases h
theorem deep_not (L : List TokV) (t : ByteArray) (st : St) (h : isS L t st = false) : deepS L t st = st := by
 cases st with
 | ok a d => exact if_neg (by rw [show isT (Yd L a) t = false from h]; decide)
 | bad F => rfl
theorem xdescend (w : World) (q c r K : Nat) (L : List TokV) (st : St) (t : ByteArray) (h : PAt w q c r K L st) :
   Calls Tryz.prog 115 #[.pointer (some ⟨q, 0, none⟩), .string t] w (Zz w q c r K L (Vp L t st) (.tuple #[])) := by
 have hc := h.cell
 have H := Hh h
 have hi := xIs w q c r K L st t h
 unfold Vp
 cases hb : isS L t st
 · rw [deep_not L t st hb]
   rw [hb] at hi
   clear hb h
   go_enter Tryz.func115, Tryz.ntmps115
   go_wp2_with (first
 | (go_at_call 68; refine hi.mono ?_; rintro e w1 ⟨rfl, b1⟩; have M1 := Hh ((Zy.start H.out).next b1); clear b1)
 | (go_at_call 72; refine (xwant _ q c r K L _ t M1.out.at_).mono ?_; rintro e w2 ⟨rfl, m2⟩; have M2 := Hh (M1.out.then m2); clear m2))
   go_end0
   exact ⟨rfl, M2.out⟩
 · rw [hb] at hi
   rw [← deep_note L t st hb]
   generalize hv : downV L st = v
   have hd : ∀ w, PAt w q c r K L st → Calls Tryz.prog 142 #[Xl c st] w (Zz w q c r K L (deeperS st) (Zi v)) := fun w h => by rw [← hv]; exact xDown w q c r K L st h
   clear hb h hv
   go_enter Tryz.func115, Tryz.ntmps115
   go_wp2_with (first
 | (go_at_call 68; refine hi.mono ?_; rintro e w1 ⟨rfl, b1⟩; have hc1 := (H.out.below b1).cell; have M1 := Hh ((Zy.start H.out).next b1); clear b1)
 | (go_at_call 142; refine (hd _ M1.out.at_).mono ?_; rintro e w2 ⟨rfl, m2⟩; have M2 := Hh (M1.out.then m2); clear m2)
 | (go_at_call 42; refine (xNote _ q c r K L _ v M2.out.at_).mono ?_; rintro e w3 ⟨rfl, m3⟩; have M3 := Hh (M2.out.then m3); clear m3)
 | (go_at_call 72; refine (xwant _ q c r K L _ t M3.out.at_).mono ?_; rintro e w4 ⟨rfl, m4⟩; have M4 := Hh (M3.out.then m4); clear m4))
   go_end0
   exact ⟨rfl, M4.out⟩
theorem xascend (w : World) (q c r K : Nat) (L : List TokV) (st : St) (t : ByteArray) (h : PAt w q c r K L st) :
   Calls Tryz.prog 116 #[.pointer (some ⟨q, 0, none⟩), .string t] w (Zz w q c r K L (riseS L t st) (.tuple #[])) := by
 have H := Hh h
 have hw := xwant w q c r K L st t h
 unfold riseS
 generalize Vr L t st = s at *
 clear h
 go_enter Tryz.func116, Tryz.ntmps116
 go_wp2_with (first
 | (go_at_call 72; refine hw.mono ?_; rintro e w1 ⟨rfl, m1⟩; have hcell := m1.at_.cell; have M1 := Hh m1; clear m1)
 | (go_at_call 143; refine (xUp _ q c r K L _ M1.out.at_).mono ?_; rintro e w2 ⟨rfl, m2⟩; have M2 := Hh (M1.out.then m2); clear m2))
 go_end0
 exact ⟨rfl, M2.out⟩
theorem xside (w : World) (q c r K : Nat) (L : List TokV) (st : St) (h : PAt w q c r K L st) :
   Calls Tryz.prog 118 #[.pointer (some ⟨q, 0, none⟩)] w (Zz w q c r K L (Ye L Zw st) (.int .i64 (Zn L Zw st))) := by
 have qin := h.whole.inside
 have hf := xoneB w q c r K _ L st Zw 3 3 _ rfl rfl h rfl (by decide)
 clear h
 go_enter Tryz.func118, Tryz.ntmps118
 go_wp2_with (go_at_call 117; refine hf.mono ?_; rintro e w1 ⟨rfl, m1⟩; have M1 := Hh m1; clear m1)
 go_ret
 exact ⟨rfl, M1.out⟩
theorem xop (w : World) (q c r K : Nat) (L : List TokV) (st : St) (h : PAt w q c r K L st) :
   Calls Tryz.prog 114 #[.pointer (some ⟨q, 0, none⟩)] w (Zz w q c r K L (Ye L wOp st) (.int .i64 (Zn L wOp st))) := by
 have qin := h.whole.inside
 have hf := xoneB w q c r K _ L st wOp 6 6 _ rfl rfl h rfl (by decide)
 clear h
 go_enter Tryz.func114, Tryz.ntmps114
 go_wp2_with (go_at_call 117; refine hf.mono ?_; rintro e w1 ⟨rfl, m1⟩; have M1 := Hh m1; clear m1)
 go_ret
 exact ⟨rfl, M1.out⟩
theorem row_to : (Tryz.prog.underlying 120).map TypeDesc.isRow = some true := by kernel_rfl
theorem Vt : (Tryz.prog.info? 120).map (·.size) = some 2 := by kernel_rfl
theorem Yi : (Tryz.prog.info? 3).map (·.size) = some 1 := by kernel_rfl
theorem Zy.put {w x y : World} {q c r K : Nat} {L : List TokV} {st : St} (m : Zy w x q c r K L st) {G : Nat} {t : TypeId} {vs : List Value} (p : Put x y G t vs) (hG : w.heap.size ≤ G) (hq : q < w.heap.size) (hc : c < w.heap.size) (hr : r < w.heap.size) : Zy w y q c r K L st := m.on p.keeps hG hq hc hr
set_option maxRecDepth 20000 in
theorem xto (w : World) (q c r K : Nat) (L : List TokV) (st : St) (h : PAt w q c r K L st) :
   Calls Tryz.prog 120 #[.pointer (some ⟨q, 0, none⟩)] w (Zz w q c r K L (toS L st) (.agg #[.int .i64 (toK L st), .int .i64 (toL L st)])) := by
 have qin := h.whole.inside
 have cin := h.cin
 have rin := h.rin
 have nb := Zd w (.cells #[.int .i64 0, .int .i64 0] 120)
 have M0 := Hh ((Zy.start h).next nb)
 have R0 := Hh (Zb.made w 120 #[.int .i64 0, .int .i64 0])
 have hf := xoneB _ q c r K (w.heap.size + 1) L st wTo 4 4 _ rfl (by simp) M0.out.at_ rfl (by decide)
 clear h
 unfold toS toK toL
 generalize hk : Zn L wTo st = k at *
 generalize Ye L wTo st = s1 at *
 clear hk
 by_cases h4 : k = 4
 · subst h4
   rw [if_pos rfl, if_pos rfl]
   rw [show ((4 : Nat) : Int) = 4 from rfl] at hf ⊢
   go_enter Tryz.func120, Tryz.ntmps120
   go_wp2_with (first
 | (go_at_call 117; refine hf.mono ?_; rintro e w1 ⟨rfl, m1⟩
    have nb := Zd w1 (.cells #[.int .i64 4, .int .i64 0] 120)
    have hcell := (m1.at_.below nb).cell
    have hz1 : w.heap.size + 1 ≤ w1.heap.size := by have := m1.keeps.size; simp at this; omega
    have T1 := Hh (Zb.made w1 120 #[.int .i64 4, .int .i64 0])
    have R1 := Hh ((m1.keeps.whole R0.out (by omega)).below nb (by omega))
    have M1 := Hh ((M0.out.then m1).next nb); clear m1 nb)
 | (go_at_call 73; refine (xreadInt _ q c r K L _ M1.out.at_).mono ?_; rintro e w2 ⟨rfl, m2⟩
    have hz2 : w1.heap.size + 1 ≤ w2.heap.size := by have := m2.keeps.size; simp at this; omega
    have T2 := Hh (m2.keeps.whole T1.out (by omega))
    have R2 := Hh (m2.keeps.whole R1.out (by omega))
    have M2 := Hh (M1.out.then m2); clear m2)
 | ((with_reducible refine Zr 18 17 ?_); refine Zo 3 _ _ 120 w1.heap.size 1 [.int .i64 4] (.int .i64 0) (.int .i64 (intN L s1)) [] T2.out rfl Yi rfl rfl rfl rfl rfl rfl ?_
    intro w3 p3
    have T3 := Hh (show Zb w3 w1.heap.size 120 [.int .i64 4, .int .i64 (intN L s1)].toArray from p3.whole)
    have R3 := Hh (p3.keeps.whole R2.out (by omega))
    have M3 := Hh (M2.out.put p3 (by omega) qin cin rin)
    clear p3)
 | ((with_reducible refine Yf 19 ?_); refine Zj 120 _ 120 w1.heap.size _ T3.out row_to Vt rfl rfl rfl ?_)
 | ((with_reducible refine Zr 2 19 ?_); refine Ze 120 _ _ 120 w.heap.size _ [.int .i64 4, .int .i64 (intN L s1)] R3.out rfl Vt (by simp [Value.oneCell']) rfl rfl rfl rfl rfl ?_
    intro w4 p4
    have R4 := Hh p4.whole
    have M4 := Hh (M3.out.put p4 (Nat.le_refl _) qin cin rin)
    clear p4))
   exact Yc 2 120 120 w.heap.size _ rfl R4.out row_to Vt rfl rfl ⟨rfl, M4.out⟩
 · rw [if_neg h4, if_neg h4]
   have q4 : ((k : Int) == 4) = false := by rw [beq_eq_false_iff_ne]; omega
   clear h4
   go_enter Tryz.func120, Tryz.ntmps120
   go_wp2_with (first
 | (go_at_call 117; refine hf.mono ?_; rintro e w1 ⟨rfl, m1⟩
    have nb := Zd w1 (.cells #[.int .i64 (k : Int), .int .i64 0] 120)
    have hz1 : w.heap.size + 1 ≤ w1.heap.size := by have := m1.keeps.size; simp at this; omega
    have T1 := Hh (Zb.made w1 120 #[.int .i64 (k : Int), .int .i64 0])
    have R1 := Hh ((m1.keeps.whole R0.out (by omega)).below nb (by omega))
    have M1 := Hh ((M0.out.then m1).next nb); clear m1 nb)
 | ((with_reducible refine Yf 19 ?_); refine Zj 120 _ 120 w1.heap.size _ T1.out row_to Vt rfl rfl rfl ?_)
 | ((with_reducible refine Zr 2 19 ?_); refine Ze 120 _ _ 120 w.heap.size _ [.int .i64 (k : Int), .int .i64 0] R1.out rfl Vt (by simp [Value.oneCell']) rfl rfl rfl rfl rfl ?_
    intro w4 p4
    have R4 := Hh p4.whole
    have M4 := Hh (M1.out.put p4 (Nat.le_refl _) qin cin rin)
    clear p4))
   exact Yc 2 120 120 w.heap.size _ rfl R4.out row_to Vt rfl rfl ⟨rfl, M4.out⟩
def remW (q c : Nat) (w : World) : Nat :=
 match w.cell? ⟨q, 0, none⟩ with
 | some (.pointer (some _)) => match w.cell? ⟨c, 0, none⟩ with | some v => lenV v | none => 0
 | _ => 0
theorem PAt.rem {w : World} {q c r K : Nat} {L : List TokV} {st : St} (h : PAt w q c r K L st) : remW q c w = Zv L st := by
 have h0 := h.cell
 cases st with
 | ok a d =>
   have h1 : w.cell? ⟨q, 0, none⟩ = some (.pointer (some ⟨c, 0, none⟩)) := h0
   unfold remW
   rw [h1]
   dsimp only
   rw [(h.cur a d rfl).2.2.look.c0]
   rfl
 | bad F =>
   have h1 : w.cell? ⟨q, 0, none⟩ = some (.pointer none) := h0
   unfold remW
   rw [h1]
   rfl
def Fl.cells (f : Fl) : List Value := [.int .i64 f.kind, .int .i64 f.op, .int .i64 f.n, .string f.name]
def flsV (l : List Fl) : List Value := l.flatMap Fl.cells
theorem flsV_snoc (l : List Fl) (f : Fl) : flsV (l ++ [f]) = flsV l ++ f.cells := by unfold flsV; simp
theorem und_fls : Tryz.prog.underlying 58 = some (.slice 190) := by kernel_rfl
theorem info_fl : (Tryz.prog.info? 190).map (fun i => (i.zero, i.size, i.bytes)) = some (some (.agg #[.int .i64 0, .int .i64 0, .int .i64 0, .string ⟨#[]⟩]), 4, 40) := by kernel_rfl
theorem row_fl : (Tryz.prog.underlying 190).map TypeDesc.isRow = some true := by kernel_rfl
theorem size_fl : (Tryz.prog.info? 190).map (·.size) = some 4 := by kernel_rfl
theorem size_str : (Tryz.prog.info? 9).map (·.size) = some 1 := by kernel_rfl
structure RowW (w : World) (q c r K : Nat) (L : List TokV) (e : TypeId) (sz : Nat) (st : St) (n : Nat) (xs : List Value) (v : Value) (wr : World) : Prop where
 mv : Zy w wr q c r K L st
 row : wr.ownsRow w.heap.size e sz v n xs
 qin : q < w.heap.size
 cin : c < w.heap.size
 rin : r < w.heap.size
theorem RowW.then {w x y : World} {q c r K n sz : Nat} {L : List TokV} {e : TypeId} {st st' : St} {xs : List Value} {v : Value} (h : RowW w q c r K L e sz st n xs v x) (m : Zy x y q c r K L st') : RowW w q c r K L e sz st' n xs v y :=
 ⟨h.mv.then m, m.keeps.owns h.row (fun k hk c => by have := (h.row.lt k hk).1; have := h.qin; have := h.cin; omega), h.qin, h.cin, h.rin⟩
theorem RowW.next {w x y : World} {q c r K n sz : Nat} {L : List TokV} {e : TypeId} {st : St} {xs : List Value} {v : Value} (h : RowW w q c r K L e sz st n xs v x) (hb : Below x.heap.size x y) : RowW w q c r K L e sz st n xs v y :=
 ⟨h.mv.next hb, Xr h.row hb, h.qin, h.cin, h.rin⟩
theorem RowW.put {w x y : World} {q c r K n sz : Nat} {L : List TokV} {e t : TypeId} {st : St} {xs vs : List Value} {v : Value} (h : RowW w q c r K L e sz st n xs v x) {G : Nat} (p : Put x y G t vs) (hG : w.heap.size ≤ G) (hn : v.ownBlock ≠ some G) : RowW w q c r K L e sz st n xs v y :=
 ⟨h.mv.put p hG h.qin h.cin h.rin, p.keeps.owns h.row (fun k hk c => hn (by rw [hk, c])), h.qin, h.cin, h.rin⟩
theorem RowW.push {w x y : World} {q c r K n sz : Nat} {L : List TokV} {e : TypeId} {st : St} {xs ys : List Value} {v v' : Value} (h : RowW w q c r K L e sz st n xs v x) (ho : y.ownsRow w.heap.size e sz v' (n + 1) ys) (hg : x.grownBy y v.ownBlock) : RowW w q c r K L e sz st (n + 1) ys v' y := by
 have hk : Zg (fun k => v.ownBlock = some k) x y := Zg.grown (Zg.refl _ _) hg fun k hk => hk
 have hb : ∀ k, v.ownBlock = some k → w.heap.size ≤ k := fun k hk => (h.row.lt k hk).1
 refine ⟨⟨h.mv.at_.keeps hk (fun e => ?_) (fun e => ?_) (fun e => ?_), ?_⟩, ho, h.qin, h.cin, h.rin⟩
 · have := hb _ e; have := h.qin; omega
 · have := hb _ e; have := h.cin; omega
 · have := hb _ e; have := h.rin; omega
 · have h1 : Zg (fun k => (k = q ∨ k = c) ∨ v.ownBlock = some k) w x := h.mv.keeps.mono fun k h => .inl h
   have h2 : Zg (fun k => (k = q ∨ k = c) ∨ v.ownBlock = some k) x y := hk.mono fun k h => .inr h
   exact (h1.trans h2).inner fun k hk' h => h.elim id fun e => by have := hb k e; omega
theorem RowW.fresh {w x : World} {q c r K n sz : Nat} {L : List TokV} {e : TypeId} {st : St} {xs : List Value} {v : Value} (h : RowW w q c r K L e sz st n xs v x) {G : Nat} (hG : x.heap.size ≤ G) : v.ownBlock ≠ some G := fun c => by
 have := (h.row.lt _ c).2; omega
theorem findN_le (L : List TokV) (ws : List ByteArray) (st : St) : Zn L ws st ≤ ws.length := by
 cases st with
 | ok a d => exact idxW_le _ ws
 | bad F => exact Nat.zero_le _
theorem meit_me (L : List TokV) (s : St) (h : isS L sMe s = true) (nk : Int) : Wj nk L 4 s = (⟨4, 0, 0, ⟨#[]⟩⟩, Xi L sMe s) := by
 obtain ⟨h1, h2⟩ := find_hit L wMeIt s 0 (by decide) (fun j hj => by omega) h
 have h3 : Ye L wMeIt s = Xi L sMe s := by unfold Ye; rw [if_neg (by rw [h1]; decide), h2]; rfl
 show ((⟨if Zn L wMeIt s = 0 then nk else 3 + (Zn L wMeIt s : Int), 0, 0, ⟨#[]⟩⟩ : Fl), Ye L wMeIt s) = _
 rw [h1, h3]
 rfl
theorem meit_it (L : List TokV) (s : St) (h : isS L sMe s = false) : Wj 5 L 4 s = (⟨5, 0, 0, ⟨#[]⟩⟩, Vr L sIt s) := by
 show ((⟨if Zn L wMeIt s = 0 then 5 else 3 + (Zn L wMeIt s : Int), 0, 0, ⟨#[]⟩⟩ : Fl), Ye L wMeIt s) = _
 unfold Vr Ye
 by_cases hi : isS L sIt s = true
 · obtain ⟨h1, h2⟩ := find_hit L wMeIt s 1 (by decide) (fun j hj => (by have e : j = 0 := (by omega); rw [e]; exact h)) hi
   rw [if_pos hi, h1, h2]
   rfl
 · have h1 := find_miss L wMeIt s (fun j hj => by
     have hj' : j < 2 := hj
     have : j = 0 ∨ j = 1 := by omega
     rcases this with rfl | rfl
     · exact h
     · exact (by simpa using hi : isS L sIt s = false))
   rw [if_neg hi, h1]
   rfl
theorem Wi {P : Program} {ops : Array Oper} {rest : List Oper} {T : TypeId} {t : TypeId} {ps : String} {af : Array Edge} {gd : Option (Nat × Bool)} {a : Act} {w : World} {Q : Exit → Act → World → Prop} {x : Nat} {v : Value}
   (h : wpList P ops Q (⟨none, .store T (.tmp x) (.const v), t, ps, af, gd⟩ :: rest) a w) : wpList P ops Q (⟨none, .store T (.tmp x) (.const v), t, ps, af, gd⟩ :: rest) a w := h
def FiltersPost (w : World) (q c r K : Nat) (L : List TokV) (x : List Fl × St) (e : Ending) (w' : World) : Prop :=
 ∃ v, e = .returned v ∧ RowW w q c r K L 190 4 x.2 x.1.length (flsV x.1) v w'
theorem filters_step (nk : Int) (L : List TokV) (m : Nat) (st : St) (h : ¬ Zn L Xf st = 0) : Yy nk L (m + 1) st =
   ((Wj nk L (Zn L Xf st) (Ym L Xf st)).1 :: (Yy nk L m (Wj nk L (Zn L Xf st) (Ym L Xf st)).2).1, (Yy nk L m (Wj nk L (Zn L Xf st) (Ym L Xf st)).2).2) := by
 rw [Yy, if_neg h]
theorem filters_stop (nk : Int) (L : List TokV) (m : Nat) (st : St) (h : Zn L Xf st = 0) : Yy nk L (m + 1) st = ([], st) := by
 rw [Yy, if_pos h]
set_option maxRecDepth 20000 in
set_option maxHeartbeats 3200000 in
theorem xfilters (w : World) (q c r K : Nat) (L : List TokV) (st : St) (n : Nat) (h : PAt w q c r K L st) (hn : Zv L st + 1 ≤ n) (hLn : Zv L st ≤ 68719476736) :
   Calls Tryz.prog 119 #[.pointer (some ⟨q, 0, none⟩)] w (FiltersPost w q c r K L (Yy 5 L n st)) := by
 have H0 := Hh (show RowW w q c r K L 190 4 st 0 [] (.slice none 0 0) w from ⟨Zy.start h, World.ownsRow_nil _ _ _ _, h.whole.inside, h.cin, h.rin⟩)
 have HN := Hh hn
 have HL := Hh hLn
 clear hn h hLn
 go_enter Tryz.func119, Tryz.ntmps119
 go_wp2
 go_loopw [3] (fun v wr => ∃ (m : Nat) (acc : List Fl) (s : St), RowW w q c r K L 190 4 s acc.length (flsV acc) v wr ∧ Zv L s + 1 ≤ m ∧ acc.length + Zv L s ≤ Zv L st ∧ Yy 5 L n st = (acc ++ (Yy 5 L m s).1, (Yy 5 L m s).2)) (fun _ wr => remW q c wr)
 case atStart => exact ⟨n, [], st, H0.out, HN.out, by simp, by simp⟩
 case round =>
   obtain ⟨m, acc, s, hR, hm, hacc, heq⟩ := hrel
   obtain ⟨m, rfl⟩ : ∃ m', m = m' + 1 := ⟨m - 1, by omega⟩
   obtain ⟨A, cp, rfl, _, _, _⟩ := Xn hR.row
   have hrem := hR.mv.at_.rem
   have hf := xfindB _ q c r K _ L s Xf 4 4 _ rfl rfl hR.mv.at_ rfl (by decide)
   have hle := findN_le L Xf s
   have hz := hR.mv.keeps.size
   have hfr := rem_found (L := L) (ws := Xf) (st := s)
   have hfn := find_none L (ws := Xf) (st := s)
   have hst := filters_step 5 L m s
   have hsp := filters_stop 5 L m s
   have hrf := rem_filter L 5 (Zn L Xf s) (Ym L Xf s)
   generalize hk : Zn L Xf s = k at *
   generalize hs1 : Ym L Xf s = s1 at *
   have R0 := Hh hR
   have HA := Hh (And.intro hacc (And.intro hm (And.intro hrem hfr)))
   have HE := Hh heq
   have HS := Hh (And.intro hst (And.intro hsp (And.intro hfn hrf)))
   clear hR hm hacc heq hrem hfr hst hsp hfn hrf hk hs1
   have hle4 : k ≤ 4 := hle
   clear hle
   have h5 : k = 0 ∨ k = 1 ∨ k = 2 ∨ k = 3 ∨ k = 4 := by omega
   clear hle4
   rcases h5 with rfl | rfl | rfl | rfl | rfl
   · rw [show ((0 : Nat) : Int) = 0 from rfl] at hf
     go_wp2_with (first
 | (go_at_call 56; refine hf.mono ?_; rintro e w1 ⟨rfl, m1⟩
    have nb := Zd w1 (.cells #[.int .i64 0, .int .i64 0, .int .i64 0, .string ⟨#[]⟩] 190)
    have hcell := (m1.at_.below nb).cell
    have hz1 : w.heap.size ≤ w1.heap.size := by have := m1.keeps.size; omega
    have G1 := Hh (Zb.made w1 190 #[.int .i64 0, .int .i64 0, .int .i64 0, .string ⟨#[]⟩])
    have R1 := Hh ((R0.out.then m1).next nb)
    have V1 := Hh ((R0.out.then m1).fresh (Nat.le_refl w1.heap.size)); clear m1 nb))
     go_ret
     have hs := HS.out.2.2.1 (by first | rfl | trivial)
     refine ⟨_, rfl, ?_⟩
     rw [HE.out, HS.out.2.1 (by first | rfl | trivial)]
     have R := R1.out
     rw [hs] at R
     simpa using R
   · rw [show ((1 : Nat) : Int) = 1 from rfl] at hf
     have HF := Hh (show Wj 5 L 1 s1 = ((⟨1, Zn L wOp s1, signN L (Ye L wOp s1), ⟨#[]⟩⟩ : Fl), signS L (Ye L wOp s1)) from rfl)
     generalize hop : Zn L wOp s1 = op at *
     generalize hs2 : Ye L wOp s1 = s2 at *
     generalize hsg : signN L s2 = sg at *
     have hopc : ∀ w, PAt w q c r K L s1 → Calls Tryz.prog 114 #[.pointer (some ⟨q, 0, none⟩)] w (Zz w q c r K L s2 (.int .i64 (op : Int))) := fun w h => by rw [← hop, ← hs2]; exact xop w q c r K L s1 h
     have hrd : ∀ w, PAt w q c r K L s2 → Calls Tryz.prog 73 #[.pointer (some ⟨q, 0, none⟩), .func (.func 75) #[Xl c s2] #[]] w (Zz w q c r K L (signS L s2) (.int .i64 sg)) := fun w h => by rw [← hsg]; exact xreadSigned w q c r K L s2 h
     clear hop hs2 hsg
     go_wp2_with (first
 | (go_at_call 56; refine hf.mono ?_; rintro e w1 ⟨rfl, m1⟩
    have nb := Zd w1 (.cells #[.int .i64 1, .int .i64 0, .int .i64 0, .string ⟨#[]⟩] 190)
    have hcell := (m1.at_.below nb).cell
    have hz1 : w.heap.size ≤ w1.heap.size := by have := m1.keeps.size; omega
    have G1 := Hh (Zb.made w1 190 #[.int .i64 1, .int .i64 0, .int .i64 0, .string ⟨#[]⟩])
    have R1 := Hh ((R0.out.then m1).next nb)
    have V1 := Hh ((R0.out.then m1).fresh (Nat.le_refl w1.heap.size)); clear m1 nb)
 | (go_at_call 114; refine (hopc _ R1.out.mv.at_).mono ?_; rintro e w2 ⟨rfl, m2⟩
    have hz2 : w1.heap.size + 1 ≤ w2.heap.size := by have := m2.keeps.size; (try simp at this); omega
    have G2 := Hh (m2.keeps.whole G1.out (by have := R1.out.qin; have := R1.out.cin; omega))
    have R2 := Hh (R1.out.then m2)
    have hcell := R2.out.mv.at_.cell; clear m2)
 | ((with_reducible refine Zr 17 16 ?_); refine Zo 3 _ _ 190 w1.heap.size 1 [.int .i64 1] (.int .i64 0) (.int .i64 (op : Int)) [.int .i64 0, .string ⟨#[]⟩] G2.out rfl Yi rfl rfl rfl rfl rfl rfl ?_
    intro w3 p3
    have G3 := Hh (show Zb w3 w1.heap.size 190 [.int .i64 1, .int .i64 (op : Int), .int .i64 0, .string ⟨#[]⟩].toArray from p3.whole)
    have R3 := Hh (R2.out.put p3 hz1 V1.out)
    have hcell := R3.out.mv.at_.cell
    have hz3 := Nat.le_trans hz2 p3.keeps.size
    clear p3)
 | (go_at_call 73; refine (hrd _ R3.out.mv.at_).mono ?_; rintro e w4 ⟨rfl, m4⟩
    have hz4 := Nat.le_trans hz3 m4.keeps.size
    have G4 := Hh (m4.keeps.whole G3.out (by have := R3.out.qin; have := R3.out.cin; omega))
    have R4 := Hh (R3.out.then m4)
    have hcell := R4.out.mv.at_.cell; clear m4)
 | ((with_reducible refine Zr 25 24 ?_); refine Zo 3 _ _ 190 w1.heap.size 2 [.int .i64 1, .int .i64 (op : Int)] (.int .i64 0) (.int .i64 sg) [.string ⟨#[]⟩] G4.out rfl Yi rfl rfl rfl rfl rfl rfl ?_
    intro w5 p5
    have G5 := Hh (show Zb w5 w1.heap.size 190 [.int .i64 1, .int .i64 (op : Int), .int .i64 sg, .string ⟨#[]⟩].toArray from p5.whole)
    have R5 := Hh (R4.out.put p5 hz1 V1.out)
    have hcell := R5.out.mv.at_.cell
    have hz5 := Nat.le_trans hz4 p5.keeps.size
    clear p5)
 | ((with_reducible refine Yf 48 ?_); refine Zj 190 _ 190 w1.heap.size _ G5.out row_fl size_fl rfl rfl rfl ?_)
 | (at_builtin; refine Xu (.tmp 47) (.tmp 49) 58 190 4 40 _ und_fls info_fl rfl (by decide) (by decide) w.heap.size (.slice A acc.length cp) acc.length (flsV acc) [.int .i64 1, .int .i64 (op : Int), .int .i64 sg, .string ⟨#[]⟩] (Xr R5.out.row (Zd w5 (.cells [.int .i64 1, .int .i64 (op : Int), .int .i64 sg, .string ⟨#[]⟩].toArray 190))) w5.heap.size (Zb.made _ _ _) rfl (by simp [Value.oneCell']) (by have := HA.out.1; have := HL.out; omega) (by simp; omega) rfl rfl rfl rfl ?_
    intro v9 w9 o9 g9 at9
    have R9 := Hh ((R5.out.next (Zd w5 (.cells [.int .i64 1, .int .i64 (op : Int), .int .i64 sg, .string ⟨#[]⟩].toArray 190))).push o9 g9); clear o9 g9 at9))
     go_roundw
     case rel =>
       refine ⟨m, acc ++ [⟨1, op, sg, ⟨#[]⟩⟩], signS L s2, ?_, ?_, ?_, ?_⟩
       · rw [List.length_append, flsV_snoc]; exact R9.out
       · have := HA.out.2.1; have := HA.out.2.2.2 (by decide); have h4 := HS.out.2.2.2; rw [HF.out] at h4; dsimp only at h4; omega
       · have := HA.out.1; have := HA.out.2.2.2 (by decide); have h4 := HS.out.2.2.2; rw [HF.out] at h4; dsimp only at h4; rw [List.length_append]; simp only [List.length_cons, List.length_nil]; omega
       · rw [HE.out, HS.out.1 (by decide), HF.out]; simp
     case measure =>
       have h1 := R9.out.mv.at_.rem
       have h2 := HA.out.2.2.1
       have := HA.out.2.2.2 (by decide)
       have h4 := HS.out.2.2.2
       rw [HF.out] at h4; dsimp only at h4
       rw [h1, h2]; omega
   · rw [show ((2 : Nat) : Int) = 2 from rfl] at hf
     have HF := Hh (show Wj 5 L 2 s1 = ((⟨2, Zn L wOp s1, signN L (Ye L wOp s1), ⟨#[]⟩⟩ : Fl), signS L (Ye L wOp s1)) from rfl)
     generalize hop : Zn L wOp s1 = op at *
     generalize hs2 : Ye L wOp s1 = s2 at *
     generalize hsg : signN L s2 = sg at *
     have hopc : ∀ w, PAt w q c r K L s1 → Calls Tryz.prog 114 #[.pointer (some ⟨q, 0, none⟩)] w (Zz w q c r K L s2 (.int .i64 (op : Int))) := fun w h => by rw [← hop, ← hs2]; exact xop w q c r K L s1 h
     have hrd : ∀ w, PAt w q c r K L s2 → Calls Tryz.prog 73 #[.pointer (some ⟨q, 0, none⟩), .func (.func 75) #[Xl c s2] #[]] w (Zz w q c r K L (signS L s2) (.int .i64 sg)) := fun w h => by rw [← hsg]; exact xreadSigned w q c r K L s2 h
     clear hop hs2 hsg
     go_wp2_with (first
 | (go_at_call 56; refine hf.mono ?_; rintro e w1 ⟨rfl, m1⟩
    have nb := Zd w1 (.cells #[.int .i64 2, .int .i64 0, .int .i64 0, .string ⟨#[]⟩] 190)
    have hcell := (m1.at_.below nb).cell
    have hz1 : w.heap.size ≤ w1.heap.size := by have := m1.keeps.size; omega
    have G1 := Hh (Zb.made w1 190 #[.int .i64 2, .int .i64 0, .int .i64 0, .string ⟨#[]⟩])
    have R1 := Hh ((R0.out.then m1).next nb)
    have V1 := Hh ((R0.out.then m1).fresh (Nat.le_refl w1.heap.size)); clear m1 nb)
 | (go_at_call 114; refine (hopc _ R1.out.mv.at_).mono ?_; rintro e w2 ⟨rfl, m2⟩
    have hz2 : w1.heap.size + 1 ≤ w2.heap.size := by have := m2.keeps.size; (try simp at this); omega
    have G2 := Hh (m2.keeps.whole G1.out (by have := R1.out.qin; have := R1.out.cin; omega))
    have R2 := Hh (R1.out.then m2)
    have hcell := R2.out.mv.at_.cell; clear m2)
 | ((with_reducible refine Zr 17 16 ?_); refine Zo 3 _ _ 190 w1.heap.size 1 [.int .i64 2] (.int .i64 0) (.int .i64 (op : Int)) [.int .i64 0, .string ⟨#[]⟩] G2.out rfl Yi rfl rfl rfl rfl rfl rfl ?_
    intro w3 p3
    have G3 := Hh (show Zb w3 w1.heap.size 190 [.int .i64 2, .int .i64 (op : Int), .int .i64 0, .string ⟨#[]⟩].toArray from p3.whole)
    have R3 := Hh (R2.out.put p3 hz1 V1.out)
    have hcell := R3.out.mv.at_.cell
    have hz3 := Nat.le_trans hz2 p3.keeps.size
    clear p3)
 | (go_at_call 73; refine (hrd _ R3.out.mv.at_).mono ?_; rintro e w4 ⟨rfl, m4⟩
    have hz4 := Nat.le_trans hz3 m4.keeps.size
    have G4 := Hh (m4.keeps.whole G3.out (by have := R3.out.qin; have := R3.out.cin; omega))
    have R4 := Hh (R3.out.then m4)
    have hcell := R4.out.mv.at_.cell; clear m4)
 | ((with_reducible refine Zr 25 24 ?_); refine Zo 3 _ _ 190 w1.heap.size 2 [.int .i64 2, .int .i64 (op : Int)] (.int .i64 0) (.int .i64 sg) [.string ⟨#[]⟩] G4.out rfl Yi rfl rfl rfl rfl rfl rfl ?_
    intro w5 p5
    have G5 := Hh (show Zb w5 w1.heap.size 190 [.int .i64 2, .int .i64 (op : Int), .int .i64 sg, .string ⟨#[]⟩].toArray from p5.whole)
    have R5 := Hh (R4.out.put p5 hz1 V1.out)
    have hcell := R5.out.mv.at_.cell
    have hz5 := Nat.le_trans hz4 p5.keeps.size
    clear p5)
 | ((with_reducible refine Yf 48 ?_); refine Zj 190 _ 190 w1.heap.size _ G5.out row_fl size_fl rfl rfl rfl ?_)
 | (at_builtin; refine Xu (.tmp 47) (.tmp 49) 58 190 4 40 _ und_fls info_fl rfl (by decide) (by decide) w.heap.size (.slice A acc.length cp) acc.length (flsV acc) [.int .i64 2, .int .i64 (op : Int), .int .i64 sg, .string ⟨#[]⟩] (Xr R5.out.row (Zd w5 (.cells [.int .i64 2, .int .i64 (op : Int), .int .i64 sg, .string ⟨#[]⟩].toArray 190))) w5.heap.size (Zb.made _ _ _) rfl (by simp [Value.oneCell']) (by have := HA.out.1; have := HL.out; omega) (by simp; omega) rfl rfl rfl rfl ?_
    intro v9 w9 o9 g9 at9
    have R9 := Hh ((R5.out.next (Zd w5 (.cells [.int .i64 2, .int .i64 (op : Int), .int .i64 sg, .string ⟨#[]⟩].toArray 190))).push o9 g9); clear o9 g9 at9))
     go_roundw
     case rel =>
       refine ⟨m, acc ++ [⟨2, op, sg, ⟨#[]⟩⟩], signS L s2, ?_, ?_, ?_, ?_⟩
       · rw [List.length_append, flsV_snoc]; exact R9.out
       · have := HA.out.2.1; have := HA.out.2.2.2 (by decide); have h4 := HS.out.2.2.2; rw [HF.out] at h4; dsimp only at h4; omega
       · have := HA.out.1; have := HA.out.2.2.2 (by decide); have h4 := HS.out.2.2.2; rw [HF.out] at h4; dsimp only at h4; rw [List.length_append]; simp only [List.length_cons, List.length_nil]; omega
       · rw [HE.out, HS.out.1 (by decide), HF.out]; simp
     case measure =>
       have h1 := R9.out.mv.at_.rem
       have h2 := HA.out.2.2.1
       have := HA.out.2.2.2 (by decide)
       have h4 := HS.out.2.2.2
       rw [HF.out] at h4; dsimp only at h4
       rw [h1, h2]; omega
   · rw [show ((3 : Nat) : Int) = 3 from rfl] at hf
     have HF := Hh (show Wj 5 L 3 s1 = ((⟨3, 0, 0, nameN L s1⟩ : Fl), Vv L s1) from rfl)
     generalize hnm : nameN L s1 = nm at *
     have hrd : ∀ w, PAt w q c r K L s1 → Calls Tryz.prog 70 #[.pointer (some ⟨q, 0, none⟩), .func (.func 71) #[Xl c s1] #[]] w (Zz w q c r K L (Vv L s1) (.string nm)) := fun w h => by rw [← hnm]; exact xreadName w q c r K L s1 h
     clear hnm
     go_wp2_with (first
 | (go_at_call 56; refine hf.mono ?_; rintro e w1 ⟨rfl, m1⟩
    have nb := Zd w1 (.cells #[.int .i64 3, .int .i64 0, .int .i64 0, .string ⟨#[]⟩] 190)
    have hcell := (m1.at_.below nb).cell
    have hz1 : w.heap.size ≤ w1.heap.size := by have := m1.keeps.size; omega
    have G1 := Hh (Zb.made w1 190 #[.int .i64 3, .int .i64 0, .int .i64 0, .string ⟨#[]⟩])
    have R1 := Hh ((R0.out.then m1).next nb)
    have V1 := Hh ((R0.out.then m1).fresh (Nat.le_refl w1.heap.size)); clear m1 nb)
 | (go_at_call 70; refine (hrd _ R1.out.mv.at_).mono ?_; rintro e w2 ⟨rfl, m2⟩
    have hz2 : w1.heap.size + 1 ≤ w2.heap.size := by have := m2.keeps.size; (try simp at this); omega
    have G2 := Hh (m2.keeps.whole G1.out (by have := R1.out.qin; have := R1.out.cin; omega))
    have R2 := Hh (R1.out.then m2)
    have hcell := R2.out.mv.at_.cell; clear m2)
 | ((with_reducible refine Zr 35 34 ?_); refine Zo 9 _ _ 190 w1.heap.size 3 [.int .i64 3, .int .i64 0, .int .i64 0] (.string ⟨#[]⟩) (.string nm) [] G2.out rfl size_str rfl rfl rfl rfl rfl rfl ?_
    intro w3 p3
    have G3 := Hh (show Zb w3 w1.heap.size 190 [.int .i64 3, .int .i64 0, .int .i64 0, .string nm].toArray from p3.whole)
    have R3 := Hh (R2.out.put p3 hz1 V1.out)
    have hcell := R3.out.mv.at_.cell
    have hz3 := Nat.le_trans hz2 p3.keeps.size
    clear p3)
 | ((with_reducible refine Yf 48 ?_); refine Zj 190 _ 190 w1.heap.size _ G3.out row_fl size_fl rfl rfl rfl ?_)
 | (at_builtin; refine Xu (.tmp 47) (.tmp 49) 58 190 4 40 _ und_fls info_fl rfl (by decide) (by decide) w.heap.size (.slice A acc.length cp) acc.length (flsV acc) [.int .i64 3, .int .i64 0, .int .i64 0, .string nm] (Xr R3.out.row (Zd w3 (.cells [.int .i64 3, .int .i64 0, .int .i64 0, .string nm].toArray 190))) w3.heap.size (Zb.made _ _ _) rfl (by simp [Value.oneCell']) (by have := HA.out.1; have := HL.out; omega) (by simp; omega) rfl rfl rfl rfl ?_
    intro v9 w9 o9 g9 at9
    have R9 := Hh ((R3.out.next (Zd w3 (.cells [.int .i64 3, .int .i64 0, .int .i64 0, .string nm].toArray 190))).push o9 g9); clear o9 g9 at9))
     go_roundw
     case rel =>
       refine ⟨m, acc ++ [⟨3, 0, 0, nm⟩], Vv L s1, ?_, ?_, ?_, ?_⟩
       · rw [List.length_append, flsV_snoc]; exact R9.out
       · have := HA.out.2.1; have := HA.out.2.2.2 (by decide); have h4 := HS.out.2.2.2; rw [HF.out] at h4; dsimp only at h4; omega
       · have := HA.out.1; have := HA.out.2.2.2 (by decide); have h4 := HS.out.2.2.2; rw [HF.out] at h4; dsimp only at h4; rw [List.length_append]; simp only [List.length_cons, List.length_nil]; omega
       · rw [HE.out, HS.out.1 (by decide), HF.out]; simp
     case measure =>
       have h1 := R9.out.mv.at_.rem
       have h2 := HA.out.2.2.1
       have := HA.out.2.2.2 (by decide)
       have h4 := HS.out.2.2.2
       rw [HF.out] at h4; dsimp only at h4
       rw [h1, h2]; omega
   · rw [show ((4 : Nat) : Int) = 4 from rfl] at hf
     by_cases hme : isS L sMe s1 = true
     · have HF := Hh (show Wj 5 L 4 s1 = ((⟨4, 0, 0, ⟨#[]⟩⟩ : Fl), Xi L sMe s1) from meit_me L s1 hme 5)
       have htk : ∀ w, PAt w q c r K L s1 → Calls Tryz.prog 44 #[Xl c s1, .string ⟨#[109, 101]⟩] w (Zz w q c r K L (Xi L sMe s1) (.bool true)) := fun w h => by rw [← hme]; exact Wb w q c r K L s1 sMe h
       clear hme
       go_wp2_with (first
 | (go_at_call 56; refine hf.mono ?_; rintro e w1 ⟨rfl, m1⟩
    have nb := Zd w1 (.cells #[.int .i64 4, .int .i64 0, .int .i64 0, .string ⟨#[]⟩] 190)
    have hcell := (m1.at_.below nb).cell
    have hz1 : w.heap.size ≤ w1.heap.size := by have := m1.keeps.size; omega
    have G1 := Hh (Zb.made w1 190 #[.int .i64 4, .int .i64 0, .int .i64 0, .string ⟨#[]⟩])
    have R1 := Hh ((R0.out.then m1).next nb)
    have V1 := Hh ((R0.out.then m1).fresh (Nat.le_refl w1.heap.size)); clear m1 nb)
 | (go_at_call 44; refine (htk _ R1.out.mv.at_).mono ?_; rintro e w2 ⟨rfl, m2⟩
    have hz2 : w1.heap.size + 1 ≤ w2.heap.size := by have := m2.keeps.size; (try simp at this); omega
    have G2 := Hh (m2.keeps.whole G1.out (by have := R1.out.qin; have := R1.out.cin; omega))
    have R2 := Hh (R1.out.then m2)
    have hcell := R2.out.mv.at_.cell; clear m2)
 | ((with_reducible refine Yf 48 ?_); refine Zj 190 _ 190 w1.heap.size _ G2.out row_fl size_fl rfl rfl rfl ?_)
 | (at_builtin; refine Xu (.tmp 47) (.tmp 49) 58 190 4 40 _ und_fls info_fl rfl (by decide) (by decide) w.heap.size (.slice A acc.length cp) acc.length (flsV acc) [.int .i64 4, .int .i64 0, .int .i64 0, .string ⟨#[]⟩] (Xr R2.out.row (Zd w2 (.cells [.int .i64 4, .int .i64 0, .int .i64 0, .string ⟨#[]⟩].toArray 190))) w2.heap.size (Zb.made _ _ _) rfl (by simp [Value.oneCell']) (by have := HA.out.1; have := HL.out; omega) (by simp; omega) rfl rfl rfl rfl ?_
    intro v9 w9 o9 g9 at9
    have R9 := Hh ((R2.out.next (Zd w2 (.cells [.int .i64 4, .int .i64 0, .int .i64 0, .string ⟨#[]⟩].toArray 190))).push o9 g9); clear o9 g9 at9))
       go_roundw
       case rel =>
         refine ⟨m, acc ++ [⟨4, 0, 0, ⟨#[]⟩⟩], Xi L sMe s1, ?_, ?_, ?_, ?_⟩
         · rw [List.length_append, flsV_snoc]; exact R9.out
         · have := HA.out.2.1; have := HA.out.2.2.2 (by decide); have h4 := HS.out.2.2.2; rw [HF.out] at h4; dsimp only at h4; omega
         · have := HA.out.1; have := HA.out.2.2.2 (by decide); have h4 := HS.out.2.2.2; rw [HF.out] at h4; dsimp only at h4; rw [List.length_append]; simp only [List.length_cons, List.length_nil]; omega
         · rw [HE.out, HS.out.1 (by decide), HF.out]; simp
       case measure =>
         have h1 := R9.out.mv.at_.rem
         have h2 := HA.out.2.2.1
         have := HA.out.2.2.2 (by decide)
         have h4 := HS.out.2.2.2
         rw [HF.out] at h4; dsimp only at h4
         rw [h1, h2]; omega
     · have hme' : isS L sMe s1 = false := by simpa using hme
       have HF := Hh (show Wj 5 L 4 s1 = ((⟨5, 0, 0, ⟨#[]⟩⟩ : Fl), Vr L sIt s1) from meit_it L s1 hme')
       have htk : ∀ w, PAt w q c r K L s1 → Calls Tryz.prog 44 #[Xl c s1, .string ⟨#[109, 101]⟩] w (Zz w q c r K L s1 (.bool false)) := fun w h => by have h1 := Wb w q c r K L s1 sMe h; rw [hme', Xg hme'] at h1; exact h1
       clear hme hme'
       go_wp2_with (first
 | (go_at_call 56; refine hf.mono ?_; rintro e w1 ⟨rfl, m1⟩
    have nb := Zd w1 (.cells #[.int .i64 4, .int .i64 0, .int .i64 0, .string ⟨#[]⟩] 190)
    have hcell := (m1.at_.below nb).cell
    have hz1 : w.heap.size ≤ w1.heap.size := by have := m1.keeps.size; omega
    have G1 := Hh (Zb.made w1 190 #[.int .i64 4, .int .i64 0, .int .i64 0, .string ⟨#[]⟩])
    have R1 := Hh ((R0.out.then m1).next nb)
    have V1 := Hh ((R0.out.then m1).fresh (Nat.le_refl w1.heap.size)); clear m1 nb)
 | (go_at_call 44; refine (htk _ R1.out.mv.at_).mono ?_; rintro e w2 ⟨rfl, m2⟩
    have hz2 : w1.heap.size + 1 ≤ w2.heap.size := by have := m2.keeps.size; (try simp at this); omega
    have G2 := Hh (m2.keeps.whole G1.out (by have := R1.out.qin; have := R1.out.cin; omega))
    have R2 := Hh (R1.out.then m2)
    have hcell := R2.out.mv.at_.cell; clear m2)
 | (go_at_call 72; refine (xwant _ q c r K L _ sIt R2.out.mv.at_).mono ?_; rintro e w3 ⟨rfl, m3⟩
    have hz3 := Nat.le_trans hz2 m3.keeps.size
    have G3 := Hh (m3.keeps.whole G2.out (by have := R2.out.qin; have := R2.out.cin; omega))
    have R3 := Hh (R2.out.then m3)
    have hcell := R3.out.mv.at_.cell; clear m3)
 | ((with_reducible refine Wi ?_); refine Zo 3 (.tmp 46) (.const (.int .i64 5)) 190 w1.heap.size 0 [] (.int .i64 4) (.int .i64 5) [.int .i64 0, .int .i64 0, .string ⟨#[]⟩] G3.out rfl Yi rfl rfl rfl rfl rfl rfl ?_
    intro w4 p4
    have G4 := Hh (show Zb w4 w1.heap.size 190 [.int .i64 5, .int .i64 0, .int .i64 0, .string ⟨#[]⟩].toArray from p4.whole)
    have R4 := Hh (R3.out.put p4 hz1 V1.out)
    have hz4 : w1.heap.size + 1 ≤ w4.heap.size := by have := p4.keeps.size; omega
    clear p4)
 | ((with_reducible refine Yf 48 ?_); refine Zj 190 _ 190 w1.heap.size _ G4.out row_fl size_fl rfl rfl rfl ?_)
 | (at_builtin; refine Xu (.tmp 47) (.tmp 49) 58 190 4 40 _ und_fls info_fl rfl (by decide) (by decide) w.heap.size (.slice A acc.length cp) acc.length (flsV acc) [.int .i64 5, .int .i64 0, .int .i64 0, .string ⟨#[]⟩] (Xr R4.out.row (Zd w4 (.cells [.int .i64 5, .int .i64 0, .int .i64 0, .string ⟨#[]⟩].toArray 190))) w4.heap.size (Zb.made _ _ _) rfl (by simp [Value.oneCell']) (by have := HA.out.1; have := HL.out; omega) (by simp; omega) rfl rfl rfl rfl ?_
    intro v9 w9 o9 g9 at9
    have R9 := Hh ((R4.out.next (Zd w4 (.cells [.int .i64 5, .int .i64 0, .int .i64 0, .string ⟨#[]⟩].toArray 190))).push o9 g9); clear o9 g9 at9))
       go_roundw
       case rel =>
         refine ⟨m, acc ++ [⟨5, 0, 0, ⟨#[]⟩⟩], Vr L sIt s1, ?_, ?_, ?_, ?_⟩
         · rw [List.length_append, flsV_snoc]; exact R9.out
         · have := HA.out.2.1; have := HA.out.2.2.2 (by decide); have h4 := HS.out.2.2.2; rw [HF.out] at h4; dsimp only at h4; omega
         · have := HA.out.1; have := HA.out.2.2.2 (by decide); have h4 := HS.out.2.2.2; rw [HF.out] at h4; dsimp only at h4; rw [List.length_append]; simp only [List.length_cons, List.length_nil]; omega
         · rw [HE.out, HS.out.1 (by decide), HF.out]; simp
       case measure =>
         have h1 := R9.out.mv.at_.rem
         have h2 := HA.out.2.2.1
         have := HA.out.2.2.2 (by decide)
         have h4 := HS.out.2.2.2
         rw [HF.out] at h4; dsimp only at h4
         rw [h1, h2]; omega
end Go.Proofs.YtjacgcjjdebbbaaGreat
