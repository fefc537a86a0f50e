/-
  Texts CurMath, SynMath, SynRem, Cur, TokRef. No conditions but those that each theorem names.
-/
import Derived.Deep.QuietTactic
import Derived.BigQuiet
import Derived.Test.YtljdgdphldckhaaGreatQA3
import Derived.Test.YtljdgdphldckhaaGreatQA4
set_option maxRecDepth 20000
set_option maxHeartbeats 12800000
namespace Go.Proofs.YtljdgdphldckhaaGreat
open Go
def zTok : TokV := ⟨0, ⟨#[]⟩, 0, 0, 0, 0⟩
def Ye (L : List TokV) (a : Nat) : TokV := L[a]?.getD zTok
theorem curT_get (L : List TokV) (a : Nat) (h : a < L.length) : Ye L a = L[a]'h := by unfold Ye; rw [List.getElem?_eq_getElem h]; rfl
structure Ends (L : List TokV) : Prop where
 pos : 0 < L.length
 last : ∀ i, i < L.length → ((Ye L i).k = 0 ↔ i + 1 = L.length)
 num : ∀ i, 0 ≤ (Ye L i).n ∧ (Ye L i).n ≤ 99
theorem numOf_bd (l : List Int) : 0 ≤ numOf (Yb l).1 l ∧ numOf (Yb l).1 l ≤ 99 := by
 cases l with
 | nil => simp [Yb, numOf]
 | cons c r =>
   refine Ju c r (fun x => 0 ≤ numOf x.1 (c :: r) ∧ numOf x.1 (c :: r) ≤ 99) ?_ ?_ ?_ ?_ ?_ ?_ ?_ ?_
   case refine_2 =>
     intro h1 h2 _
     have hd : ∀ x ∈ Xl (c :: r), 48 ≤ x ∧ x ≤ 57 := by
       intro x hx
       rw [firstD_tw] at hx
       exact (isD_iff x).1 (tw_take isD _ x hx)
     have hv := valL_nonneg _ hd
     have hl : (Xl (c :: r)).length ≤ 2 := by rw [tw_firstD]; exact h2
     have hp : (10 : Int) ^ (Xl (c :: r)).length ≤ 100 := by
       generalize (Xl (c :: r)).length = n at hl
       match n, hl with
       | 0, _ => decide
       | 1, _ => decide
       | 2, _ => decide
     show 0 ≤ numOf 2 (c :: r) ∧ numOf 2 (c :: r) ≤ 99
     unfold numOf
     rw [if_pos rfl]
     omega
   all_goals (intros; simp [numOf])
theorem curT_succ (v : TokV) (L : List TokV) (i : Nat) : Ye (v :: L) (i + 1) = Ye L i := by unfold Ye; simp
theorem curT_zero (v : TokV) (L : List TokV) : Ye (v :: L) 0 = v := by unfold Ye; simp
theorem Sh.ends {L : List TokV} (h : Sh L) : Ends L := by
 induction h with
 | fin v hk ht hn =>
   refine ⟨by simp, fun i hi => ?_, fun i => ?_⟩
   · obtain rfl : i = 0 := by simp at hi; exact hi
     rw [curT_zero]; simp [hk]
   · cases i with
     | zero => rw [curT_zero, hn]; decide
     | succ i => rw [curT_succ]; simp [Ye, zTok]
 | tok v L hg hL ih =>
   obtain ⟨l, g1, g2, g3, g4, g5, g6, g7⟩ := hg
   refine ⟨by simp, fun i hi => ?_, fun i => ?_⟩
   · cases i with
     | zero =>
       have := ih.pos
       rw [curT_zero, List.length_cons]
       constructor
       · intro h; omega
       · intro h; omega
     | succ i =>
       rw [curT_succ, List.length_cons]
       have := ih.last i (by simpa using hi)
       rw [this]; omega
   · cases i with
     | zero => rw [curT_zero, g5]; exact numOf_bd l
     | succ i => rw [curT_succ]; exact ih.num i
theorem Tr.len {s : ByteArray} {a : Nat} {L : List TokV} (h : Tr s a L) : L.length + a ≤ s.size + 1 := by
 induction h with
 | fin a ha => simp; omega
 | skip a b L hab _ ih => omega
 | tok a L ha hk _ _ ih =>
   have := Zad s ha (by omega)
   rw [List.length_cons]; omega
def onA (L : List TokV) (a : Nat) : Nat := if (Ye L a).k = 0 then a else a + 1
theorem Ends.on {L : List TokV} (h : Ends L) {a : Nat} (ha : a < L.length) : onA L a < L.length := by
 unfold onA
 split
 · exact ha
 · rename_i hk
   have : ¬ (a + 1 = L.length) := fun e => hk ((h.last a ha).2 e)
   omega
def isT (v : TokV) (t : ByteArray) : Bool := (v.k == 1 || v.k == 4) && (v.t.toList == t.toList)
def wrF (v : TokV) : Int × Nat × Nat := if v.k = 0 then (2, v.line, v.col) else (7, v.line, v.col)
def okF : Int × Nat × Nat := (0, 0, 0)
def minus : ByteArray := ⟨#[45]⟩
def wantA (L : List TokV) (a : Nat) (t : ByteArray) : Nat := if isT (Ye L a) t = true then onA L a else a
def wantF (L : List TokV) (a : Nat) (t : ByteArray) : Int × Nat × Nat := if isT (Ye L a) t = true then okF else wrF (Ye L a)
def kindA (L : List TokV) (a : Nat) (k : Int) : Nat := if (Ye L a).k = k then onA L a else a
def Zao (L : List TokV) (a : Nat) (k : Int) : Int × Nat × Nat := if (Ye L a).k = k then okF else wrF (Ye L a)
def intV (L : List TokV) (a : Nat) : Int := if (Ye L a).k = 2 then (Ye L a).n else 0
def nameV (L : List TokV) (a : Nat) : ByteArray := if (Ye L a).k = 3 then (Ye L a).t else ⟨#[]⟩
def signA (L : List TokV) (a : Nat) : Nat := if isT (Ye L a) minus = true then (if (Ye L (onA L a)).k = 2 then onA L (onA L a) else a) else kindA L a 2
def signV (L : List TokV) (a : Nat) : Int := if isT (Ye L a) minus = true then (if (Ye L (onA L a)).k = 2 then - (Ye L (onA L a)).n else 0) else intV L a
def signF (L : List TokV) (a : Nat) : Int × Nat × Nat := if isT (Ye L a) minus = true then Zao L (onA L a) 2 else Zao L a 2
def downD (d : Nat) : Nat := if d = 8 then 8 else d + 1
def downF (L : List TokV) (a d : Nat) : Int × Nat × Nat := if d = 8 then (8, (Ye L a).line, (Ye L a).col) else okF
theorem wrF_ne (v : TokV) : (wrF v).1 ≠ 0 := by unfold wrF; split <;> simp
end Go.Proofs.YtljdgdphldckhaaGreat
namespace Go.Proofs.YtljdgdphldckhaaGreat
open Go
set_option linter.unusedSimpArgs false
set_option linter.unusedVariables false
structure Fl where
 kind : Int
 op : Int
 n : Int
 name : ByteArray
structure Se where
 kind : Int
 side : Int
 wh : Int
 lane : Int
 fs : List Fl
 pick : Int
def zSe : Se := ⟨0, 0, 0, 0, [], 0⟩
inductive Ex where
 | leaf (kind n : Int) (sel : Se) (side tk tl : Int)
 | bin (op : Int) (l r : Ex)
def zEx : Ex := .leaf 0 0 zSe 0 0 0
structure AH where
 kind : Int
 line : Int
 col : Int
 sel : Se
 num : Ex
 side : Int
 tk : Int
 tl : Int
 how : Int
 name : ByteArray
 cop : Int
 cl : Ex
 cr : Ex
def AH.zero (k l c : Int) : AH := ⟨k, l, c, zSe, zEx, 0, 0, 0, 0, ⟨#[]⟩, 0, zEx, zEx⟩
inductive Acs where
 | nil
 | cons (h : AH) (thn els rest : Acs)
def Acs.len : Acs → Nat
 | .nil => 0
 | .cons _ _ _ r => r.len + 1
def Acs.app : Acs → Acs → Acs
 | .nil, y => y
 | .cons h t e r, y => .cons h t e (r.app y)
structure Ru where
 when_ : Int
 stratum : Int
 line : Int
 col : Int
 acts : Acs
structure Ca where
 name : ByteArray
 cost : Int
 power : Int
 line : Int
 col : Int
 rules : List Ru
structure Pl where
 name : ByteArray
 line : Int
 col : Int
 rules : List Ru
structure Fi where
 cards : List Ca
 places : List Pl
theorem Acs.app_nil : ∀ x : Acs, x.app .nil = x
 | .nil => rfl
 | .cons h t e r => by rw [Acs.app, Acs.app_nil r]
theorem Acs.app_assoc (y z : Acs) : ∀ x : Acs, (x.app y).app z = x.app (y.app z)
 | .nil => rfl
 | .cons h t e r => by rw [Acs.app, Acs.app, Acs.app, Acs.app_assoc y z r]
theorem Acs.len_app (y : Acs) : ∀ x : Acs, (x.app y).len = x.len + y.len
 | .nil => by rw [Acs.app, Acs.len]; omega
 | .cons h t e r => by rw [Acs.app, Acs.len, Acs.len, Acs.len_app y r]; omega
def Uv : List ByteArray := [⟨#[109, 101]⟩, ⟨#[105, 116]⟩, ⟨#[40]⟩]
def Zt : List ByteArray := [⟨#[109, 105, 110, 101]⟩, ⟨#[116, 104, 101, 105, 114, 115]⟩, ⟨#[98, 111, 116, 104]⟩]
def Wr : List ByteArray := [⟨#[104, 101, 114, 101]⟩, ⟨#[97, 119, 97, 121]⟩, ⟨#[108, 97, 110, 101]⟩, ⟨#[97, 110, 121, 119, 104, 101, 114, 101]⟩]
def Yn : List ByteArray := [⟨#[99, 111, 115, 116]⟩, ⟨#[112, 111, 119, 101, 114]⟩, ⟨#[110, 97, 109, 101, 100]⟩, ⟨#[110, 111, 116]⟩]
def Us : List ByteArray := [⟨#[109, 101]⟩, ⟨#[105, 116]⟩]
def wPick : List ByteArray := [⟨#[97, 108, 108]⟩, ⟨#[102, 105, 114, 115, 116]⟩, ⟨#[108, 97, 115, 116]⟩, ⟨#[119, 101, 97, 107, 101, 115, 116]⟩, ⟨#[115, 116, 114, 111, 110, 103, 101, 115, 116]⟩]
def wTo : List ByteArray := [⟨#[104, 101, 114, 101]⟩, ⟨#[108, 101, 102, 116]⟩, ⟨#[114, 105, 103, 104, 116]⟩, ⟨#[108, 97, 110, 101]⟩]
def wHow : List ByteArray := [⟨#[102, 105, 114, 115, 116]⟩, ⟨#[108, 97, 115, 116]⟩, ⟨#[99, 104, 101, 97, 112, 101, 115, 116]⟩, ⟨#[99, 111, 115, 116, 108, 105, 101, 115, 116]⟩]
def wOp : List ByteArray := [⟨#[60]⟩, ⟨#[60, 61]⟩, ⟨#[61]⟩, ⟨#[33, 61]⟩, ⟨#[62, 61]⟩, ⟨#[62]⟩]
def wSum : List ByteArray := [⟨#[43]⟩, ⟨#[45]⟩]
def Vb : List ByteArray := [⟨#[99, 111, 117, 110, 116]⟩, ⟨#[115, 117, 109]⟩, ⟨#[114, 111, 117, 110, 100]⟩, ⟨#[104, 97, 110, 100]⟩, ⟨#[102, 114, 101, 101]⟩]
def Xv : List ByteArray := [⟨#[112, 111, 119, 101, 114]⟩, ⟨#[115, 101, 116]⟩, ⟨#[100, 101, 115, 116, 114, 111, 121]⟩, ⟨#[109, 111, 118, 101]⟩, ⟨#[114, 101, 116, 117, 114, 110]⟩, ⟨#[115, 112, 97, 119, 110]⟩, ⟨#[100, 114, 97, 119]⟩, ⟨#[100, 105, 115, 99, 97, 114, 100]⟩, ⟨#[101, 110, 101, 114, 103, 121]⟩, ⟨#[105, 102]⟩, ⟨#[101, 97, 99, 104]⟩, ⟨#[97, 117, 114, 97]⟩, ⟨#[100, 111, 117, 98, 108, 101]⟩, ⟨#[115, 104, 105, 101, 108, 100]⟩, ⟨#[98, 97, 114]⟩]
def Xf : List ByteArray := [⟨#[114, 101, 118, 101, 97, 108]⟩, ⟨#[100, 101, 97, 116, 104]⟩, ⟨#[109, 111, 118, 101, 100]⟩, ⟨#[101, 110, 100]⟩, ⟨#[97, 108, 119, 97, 121, 115]⟩, ⟨#[101, 110, 116, 101, 114]⟩]
def Ws : List ByteArray := [⟨#[99, 97, 114, 100]⟩, ⟨#[112, 108, 97, 99, 101]⟩]
def Uy : ByteArray := ⟨#[42]⟩
def Vo : ByteArray := ⟨#[40]⟩
def Uz : ByteArray := ⟨#[41]⟩
def Xt : ByteArray := ⟨#[123]⟩
def We : ByteArray := ⟨#[125]⟩
def sSemi : ByteArray := ⟨#[59]⟩
def Zah : ByteArray := ⟨#[101, 108, 115, 101]⟩
def sCost : ByteArray := ⟨#[99, 111, 115, 116]⟩
def sPower : ByteArray := ⟨#[112, 111, 119, 101, 114]⟩
def sMe : ByteArray := ⟨#[109, 101]⟩
def sIt : ByteArray := ⟨#[105, 116]⟩
inductive St where
 | ok (a d : Nat)
 | bad (F : Int × Nat × Nat)
def St.good : St → Bool
 | .ok _ _ => true
 | .bad _ => false
def Ug (F : Int × Nat × Nat) : St → St
 | .ok a d => if F.1 = 0 then .ok a d else .bad F
 | .bad G => .bad G
def idxW (v : TokV) : List ByteArray → Nat
 | [] => 0
 | t :: r => if isT v t = true then 1 else if idxW v r = 0 then 0 else idxW v r + 1
section
variable (L : List TokV)
def St.tok : St → TokV
 | .ok a _ => Ye L a
 | .bad _ => zTok
def wrongS : St → St
 | .ok a d => .bad (wrF (Ye L a))
 | .bad F => .bad F
def isS (t : ByteArray) : St → Bool
 | .ok a _ => isT (Ye L a) t
 | .bad _ => false
def Wc (t : ByteArray) : St → St
 | .ok a d => .ok (wantA L a t) d
 | .bad F => .bad F
def Yz (t : ByteArray) (st : St) : St := if isS L t st = true then Wc L t st else wrongS L st
def intN : St → Int
 | .ok a _ => intV L a
 | .bad _ => 0
def intS : St → St
 | .ok a d => Ug (Zao L a 2) (.ok (kindA L a 2) d)
 | .bad F => .bad F
def nameN : St → ByteArray
 | .ok a _ => nameV L a
 | .bad _ => ⟨#[]⟩
def Wm : St → St
 | .ok a d => Ug (Zao L a 3) (.ok (kindA L a 3) d)
 | .bad F => .bad F
def signN : St → Int
 | .ok a _ => signV L a
 | .bad _ => 0
def Jx : St → St
 | .ok a d => Ug (signF L a) (.ok (signA L a) d)
 | .bad F => .bad F
def Zm (ws : List ByteArray) : St → Nat
 | .ok a _ => idxW (Ye L a) ws
 | .bad _ => 0
def Yf (ws : List ByteArray) : St → St
 | .ok a d => if idxW (Ye L a) ws = 0 then .ok a d else .ok (onA L a) d
 | .bad F => .bad F
def Yu (ws : List ByteArray) (st : St) : St := if Zm L ws st = 0 then wrongS L st else Yf L ws st
def deepS (t : ByteArray) : St → St
 | .ok a d => if isT (Ye L a) t = true then Ug (downF L a d) (.ok a (downD d)) else .ok a d
 | .bad F => .bad F
def upS : St → St
 | .ok a d => .ok a (d - 1)
 | .bad F => .bad F
def Jc (t : ByteArray) (st : St) : St := Yz L t (deepS L t st)
def riseS (t : ByteArray) (st : St) : St := upS (Yz L t st)
def overS : St → St
 | .ok a d => if (Ye L a).k = 0 then .ok a d else .bad (wrF (Ye L a))
 | .bad F => .bad F
def Zw : St → Nat
 | .ok a _ => L.length - a
 | .bad _ => 0
end
section
variable (nk : Int) (L : List TokV)
def Ve (k : Nat) (s : St) : Fl × St :=
 if k = 1 ∨ k = 2 then (⟨k, Zm L wOp s, signN L (Yu L wOp s), ⟨#[]⟩⟩, Jx L (Yu L wOp s))
 else if k = 3 then (⟨3, 0, 0, nameN L s⟩, Wm L s)
 else (⟨if Zm L Us s = 0 then nk else 3 + (Zm L Us s : Int), 0, 0, ⟨#[]⟩⟩, Yu L Us s)
def Xc : Nat → St → List Fl × St
 | 0, st => ([], st)
 | n + 1, st =>
   if Zm L Yn st = 0 then ([], st)
   else
     ((Ve nk L (Zm L Yn st) (Yf L Yn st)).1 :: (Xc n (Ve nk L (Zm L Yn st) (Yf L Yn st)).2).1,
       (Xc n (Ve nk L (Zm L Yn st) (Yf L Yn st)).2).2)
def whereN (st : St) : Int × Int × Int := (Zm L Zt st, Zm L Wr (Yu L Zt st), if Zm L Wr (Yu L Zt st) = 3 then intN L (Yu L Wr (Yu L Zt st)) else 0)
def whereS (st : St) : St := if Zm L Wr (Yu L Zt st) = 3 then intS L (Yu L Wr (Yu L Zt st)) else Yu L Wr (Yu L Zt st)
def Wt (n : Nat) (st : St) : Se × St :=
 if Zm L Uv st = 3 then
   (⟨3, (whereN L (Yu L Uv st)).1, (whereN L (Yu L Uv st)).2.1, (whereN L (Yu L Uv st)).2.2, (Xc nk L n (whereS L (Yu L Uv st))).1,
       Zm L wPick (Xc nk L n (whereS L (Yu L Uv st))).2⟩,
     Yz L Uz (Yu L wPick (Xc nk L n (whereS L (Yu L Uv st))).2))
 else (⟨Zm L Uv st, 0, 0, 0, [], 0⟩, Yu L Uv st)
def toK (st : St) : Int := Zm L wTo st
def toL (st : St) : Int := if Zm L wTo st = 4 then intN L (Yu L wTo st) else 0
def toS (st : St) : St := if Zm L wTo st = 4 then intS L (Yu L wTo st) else Yu L wTo st
mutual
def Yq : Nat → St → Ex × St
 | 0, st => (zEx, st)
 | n + 1, st => Zaa n (Vy n st)
def Zaa : Nat → Ex × St → Ex × St
 | 0, x => x
 | n + 1, x =>
   if Zm L wSum x.2 = 0 then x
   else Zaa n (.bin (Zm L wSum x.2) x.1 (Vy n (Yf L wSum x.2)).1, (Vy n (Yf L wSum x.2)).2)
def Vy : Nat → St → Ex × St
 | 0, st => (zEx, st)
 | n + 1, st => Jy n (Vt n st)
def Jy : Nat → Ex × St → Ex × St
 | 0, x => x
 | n + 1, x =>
   if isS L Uy x.2 = true then Jy n (.bin 3 x.1 (Vt n (Wc L Uy x.2)).1, (Vt n (Wc L Uy x.2)).2)
   else x
def Vt : Nat → St → Ex × St
 | 0, st => (zEx, st)
 | n + 1, st =>
   if isS L Vo st = true then ((Yq n (Jc L Vo st)).1, riseS L Uz (Yq n (Jc L Vo st)).2)
   else if Zm L Vb st = 0 then (.leaf 1 (signN L st) zSe 0 0 0, Jx L st)
   else if Zm L Vb st = 1 ∨ Zm L Vb st = 2 then (.leaf (Zm L Vb st + 1) 0 (Wt nk L n (Yf L Vb st)).1 0 0 0, (Wt nk L n (Yf L Vb st)).2)
   else if Zm L Vb st = 3 then (.leaf 4 0 zSe 0 0 0, Yf L Vb st)
   else if Zm L Vb st = 4 then (.leaf 5 0 zSe (Zm L Zt (Yf L Vb st)) 0 0, Yu L Zt (Yf L Vb st))
   else (.leaf 6 0 zSe (Zm L Zt (Yf L Vb st)) (toK L (Yu L Zt (Yf L Vb st))) (toL L (Yu L Zt (Yf L Vb st))), toS L (Yu L Zt (Yf L Vb st)))
end
def Xh (n : Nat) (h : AH) (k : Nat) (st : St) : AH × St :=
 if k = 1 ∨ k = 2 ∨ k = 12 then ({ h with sel := (Wt nk L n st).1, num := (Yq nk L n (Wt nk L n st).2).1 }, (Yq nk L n (Wt nk L n st).2).2)
 else if k = 3 ∨ k = 5 ∨ k = 14 then ({ h with sel := (Wt nk L n st).1 }, (Wt nk L n st).2)
 else if k = 4 then ({ h with sel := (Wt nk L n st).1, tk := toK L (Wt nk L n st).2, tl := toL L (Wt nk L n st).2 }, toS L (Wt nk L n st).2)
 else if k = 6 then
   ({ h with name := nameN L st, side := Zm L Zt (Wm L st), tk := toK L (Yu L Zt (Wm L st)), tl := toL L (Yu L Zt (Wm L st)), num := (Yq nk L n (toS L (Yu L Zt (Wm L st)))).1 },
     (Yq nk L n (toS L (Yu L Zt (Wm L st)))).2)
 else if k = 7 ∨ k = 9 then ({ h with side := Zm L Zt st, num := (Yq nk L n (Yu L Zt st)).1 }, (Yq nk L n (Yu L Zt st)).2)
 else if k = 8 then ({ h with side := Zm L Zt st, how := Zm L wHow (Yu L Zt st) }, Yu L wHow (Yu L Zt st))
 else if k = 13 ∨ k = 15 then ({ h with side := Zm L Zt st, tk := toK L (Yu L Zt st), tl := toL L (Yu L Zt st) }, toS L (Yu L Zt st))
 else (h, st)
def Wf (n : Nat) (h : AH) (st : St) : AH × St :=
 ({ h with cl := (Yq nk L n st).1, cop := Zm L wOp (Yq nk L n st).2, cr := (Yq nk L n (Yu L wOp (Yq nk L n st).2)).1 }, (Yq nk L n (Yu L wOp (Yq nk L n st).2)).2)
structure AO where
 h : AH
 thn : Acs
 els : Acs
 st : St
mutual
def Xs : Nat → St → Acs × St
 | 0, st => (.nil, st)
 | n + 1, st =>
   if Zm L Xv st = 0 then (.nil, st)
   else
     (.cons (Ud n (AH.zero (Zm L Xv st) (st.tok L).line (st.tok L).col) (Zm L Xv st) (Yf L Xv st)).h
         (Ud n (AH.zero (Zm L Xv st) (st.tok L).line (st.tok L).col) (Zm L Xv st) (Yf L Xv st)).thn
         (Ud n (AH.zero (Zm L Xv st) (st.tok L).line (st.tok L).col) (Zm L Xv st) (Yf L Xv st)).els
         (Xs n (Ud n (AH.zero (Zm L Xv st) (st.tok L).line (st.tok L).col) (Zm L Xv st) (Yf L Xv st)).st).1,
       (Xs n (Ud n (AH.zero (Zm L Xv st) (st.tok L).line (st.tok L).col) (Zm L Xv st) (Yf L Xv st)).st).2)
def Ud : Nat → AH → Nat → St → AO
 | 0, h, _, st => ⟨h, .nil, .nil, st⟩
 | n + 1, h, k, st =>
   if k = 10 then
     if isS L Zah (Yx n (Wf nk L n h st).2).2 = true then
       ⟨(Wf nk L n h st).1, (Yx n (Wf nk L n h st).2).1, (Yx n (Wc L Zah (Yx n (Wf nk L n h st).2).2)).1, (Yx n (Wc L Zah (Yx n (Wf nk L n h st).2).2)).2⟩
     else ⟨(Wf nk L n h st).1, (Yx n (Wf nk L n h st).2).1, .nil, (Yx n (Wf nk L n h st).2).2⟩
   else if k = 11 then ⟨{ h with sel := (Wt nk L n st).1 }, (Yx n (Wt nk L n st).2).1, .nil, (Yx n (Wt nk L n st).2).2⟩
   else ⟨(Xh nk L n h k st).1, .nil, .nil, Yz L sSemi (Xh nk L n h k st).2⟩
def Yx : Nat → St → Acs × St
 | 0, st => (.nil, st)
 | n + 1, st => ((Xs n (Jc L Xt st)).1, riseS L We (Xs n (Jc L Xt st)).2)
end
def strN (k : Nat) (s : St) : Int := if k = 5 then intN L s else 0
def strS (k : Nat) (s : St) : St := if k = 5 then intS L s else s
def Vw : Nat → St → List Ru × St
 | 0, st => ([], st)
 | n + 1, st =>
   if Zm L Xf st = 0 then ([], st)
   else
     (⟨Zm L Xf st, strN L (Zm L Xf st) (Yf L Xf st), (st.tok L).line, (st.tok L).col, (Xs nk L n (Yz L Xt (strS L (Zm L Xf st) (Yf L Xf st)))).1⟩ ::
         (Vw n (Yz L We (Xs nk L n (Yz L Xt (strS L (Zm L Xf st) (Yf L Xf st)))).2)).1,
       (Vw n (Yz L We (Xs nk L n (Yz L Xt (strS L (Zm L Xf st) (Yf L Xf st)))).2)).2)
def Jg (n : Nat) (st : St) : List Ru × St := ((Vw nk L n (Yz L Xt st)).1, Yz L We (Vw nk L n (Yz L Xt st)).2)
def Uj (n : Nat) (line col : Int) (st : St) : Ca × St :=
 (⟨nameN L st, intN L (Yz L sCost (Wm L st)), signN L (Yz L sPower (intS L (Yz L sCost (Wm L st)))), line, col,
     (Jg nk L n (Jx L (Yz L sPower (intS L (Yz L sCost (Wm L st)))))).1⟩,
   (Jg nk L n (Jx L (Yz L sPower (intS L (Yz L sCost (Wm L st)))))).2)
def Vj (n : Nat) (line col : Int) (st : St) : Pl × St := (⟨nameN L st, line, col, (Jg nk L n (Wm L st)).1⟩, (Jg nk L n (Wm L st)).2)
def Vc : Nat → St → Fi × St
 | 0, st => (⟨[], []⟩, st)
 | n + 1, st =>
   if Zm L Ws st = 0 then (⟨[], []⟩, st)
   else if Zm L Ws st = 1 then
     (⟨(Uj nk L n (st.tok L).line (st.tok L).col (Yf L Ws st)).1 :: (Vc n (Uj nk L n (st.tok L).line (st.tok L).col (Yf L Ws st)).2).1.cards,
         (Vc n (Uj nk L n (st.tok L).line (st.tok L).col (Yf L Ws st)).2).1.places⟩,
       (Vc n (Uj nk L n (st.tok L).line (st.tok L).col (Yf L Ws st)).2).2)
   else
     (⟨(Vc n (Vj nk L n (st.tok L).line (st.tok L).col (Yf L Ws st)).2).1.cards,
         (Vj nk L n (st.tok L).line (st.tok L).col (Yf L Ws st)).1 :: (Vc n (Vj nk L n (st.tok L).line (st.tok L).col (Yf L Ws st)).2).1.places⟩,
       (Vc n (Vj nk L n (st.tok L).line (st.tok L).col (Yf L Ws st)).2).2)
end
theorem isT_k {v : TokV} {t : ByteArray} (h : isT v t = true) : v.k ≠ 0 := by
 unfold isT at h
 intro c
 rw [c] at h
 simp at h
theorem idxW_k {v : TokV} : ∀ {ws : List ByteArray}, idxW v ws ≠ 0 → v.k ≠ 0
 | [], h => absurd rfl h
 | t :: r, h => by
   unfold idxW at h
   by_cases ht : isT v t = true
   · exact isT_k ht
   · rw [if_neg ht] at h
     by_cases hr : idxW v r = 0
     · rw [if_pos hr] at h; exact absurd rfl h
     · exact idxW_k hr
theorem idxW_le (v : TokV) : ∀ ws : List ByteArray, idxW v ws ≤ ws.length
 | [] => Nat.le_refl _
 | t :: r => by
   have := idxW_le v r
   unfold idxW
   rw [List.length_cons]
   split
   · omega
   · split <;> omega
theorem curT_lt {L : List TokV} {a : Nat} (h : (Ye L a).k ≠ 0) : a < L.length := by
 apply Nat.lt_of_not_le
 intro c
 unfold Ye at h
 rw [List.getElem?_eq_none c] at h
 exact h rfl
theorem onA_le (L : List TokV) (a : Nat) : L.length - onA L a ≤ L.length - a := by unfold onA; split <;> omega
theorem onA_lt {L : List TokV} {a : Nat} (h : (Ye L a).k ≠ 0) : L.length - onA L a + 1 ≤ L.length - a := by
 have := curT_lt h
 unfold onA
 rw [if_neg h]
 omega
section
variable (L : List TokV)
theorem rem_note (F : Int × Nat × Nat) (st : St) : Zw L (Ug F st) ≤ Zw L st := by
 cases st with
 | ok a d =>
   by_cases h : F.1 = 0
   · rw [show Ug F (.ok a d) = .ok a d from if_pos h]; exact Nat.le_refl _
   · rw [show Ug F (.ok a d) = .bad F from if_neg h]; exact Nat.zero_le _
 | bad G => exact Nat.le_refl _
theorem rem_wrong (st : St) : Zw L (wrongS L st) ≤ Zw L st := by cases st <;> exact Nat.zero_le _
theorem wantA_le (a : Nat) (t : ByteArray) : L.length - wantA L a t ≤ L.length - a := by
 unfold wantA
 split
 · exact onA_le L a
 · exact Nat.le_refl _
theorem kindA_le (a : Nat) (k : Int) : L.length - kindA L a k ≤ L.length - a := by
 unfold kindA
 split
 · exact onA_le L a
 · exact Nat.le_refl _
theorem signA_le (a : Nat) : L.length - signA L a ≤ L.length - a := by
 unfold signA
 split
 · split
   · exact Nat.le_trans (onA_le L _) (onA_le L a)
   · exact Nat.le_refl _
 · exact kindA_le L a 2
theorem rem_take (t : ByteArray) (st : St) : Zw L (Wc L t st) ≤ Zw L st := by
 cases st with
 | ok a d => exact wantA_le L a t
 | bad F => exact Nat.le_refl _
theorem rem_took {t : ByteArray} {st : St} (h : isS L t st = true) : Zw L (Wc L t st) + 1 ≤ Zw L st := by
 cases st with
 | ok a d =>
   have h' : isT (Ye L a) t = true := h
   show L.length - wantA L a t + 1 ≤ L.length - a
   unfold wantA
   rw [if_pos h']
   exact onA_lt (isT_k h')
 | bad F => cases h
theorem Xw (t : ByteArray) (st : St) : Zw L (Yz L t st) ≤ Zw L st := by
 unfold Yz
 split
 · exact rem_take L t st
 · exact rem_wrong L st
theorem rem_wanted {t : ByteArray} {st : St} (h : isS L t st = true) : Zw L (Yz L t st) + 1 ≤ Zw L st := by
 unfold Yz
 rw [if_pos h]
 exact rem_took L h
theorem rem_int (st : St) : Zw L (intS L st) ≤ Zw L st := by
 cases st with
 | ok a d => have h := rem_note L (Zao L a 2) (.ok (kindA L a 2) d); exact Nat.le_trans h (kindA_le L a 2)
 | bad F => exact Nat.le_refl _
theorem Jk (st : St) : Zw L (Wm L st) ≤ Zw L st := by
 cases st with
 | ok a d => have h := rem_note L (Zao L a 3) (.ok (kindA L a 3) d); exact Nat.le_trans h (kindA_le L a 3)
 | bad F => exact Nat.le_refl _
theorem rem_sign (st : St) : Zw L (Jx L st) ≤ Zw L st := by
 cases st with
 | ok a d => have h := rem_note L (signF L a) (.ok (signA L a) d); exact Nat.le_trans h (signA_le L a)
 | bad F => exact Nat.le_refl _
theorem Zal (ws : List ByteArray) (st : St) : Zw L (Yf L ws st) ≤ Zw L st := by
 cases st with
 | ok a d =>
   by_cases h : idxW (Ye L a) ws = 0
   · rw [show Yf L ws (.ok a d) = .ok a d from if_pos h]; exact Nat.le_refl _
   · rw [show Yf L ws (.ok a d) = .ok (onA L a) d from if_neg h]; exact onA_le L a
 | bad F => exact Nat.le_refl _
theorem Ul {ws : List ByteArray} {st : St} (h : ¬ Zm L ws st = 0) : Zw L (Yf L ws st) + 1 ≤ Zw L st := by
 cases st with
 | ok a d =>
   have h' : ¬ idxW (Ye L a) ws = 0 := h
   rw [show Yf L ws (.ok a d) = .ok (onA L a) d from if_neg h']
   exact onA_lt (idxW_k h')
 | bad F => exact absurd rfl h
theorem Jz {ws : List ByteArray} {st : St} (h : Zm L ws st = 0) : Yf L ws st = st := by
 cases st with
 | ok a d =>
   have h' : idxW (Ye L a) ws = 0 := h
   exact if_pos h'
 | bad F => rfl
theorem Xk (ws : List ByteArray) (st : St) : Zw L (Yu L ws st) ≤ Zw L st := by
 unfold Yu
 split
 · exact rem_wrong L st
 · exact Zal L ws st
theorem rem_deep (t : ByteArray) (st : St) : Zw L (deepS L t st) ≤ Zw L st := by
 cases st with
 | ok a d =>
   by_cases h : isT (Ye L a) t = true
   · rw [show deepS L t (.ok a d) = Ug (downF L a d) (.ok a (downD d)) from if_pos h]; exact rem_note L (downF L a d) (.ok a (downD d))
   · rw [show deepS L t (.ok a d) = .ok a d from if_neg h]; exact Nat.le_refl _
 | bad F => exact Nat.le_refl _
theorem rem_up (st : St) : Zw L (upS st) = Zw L st := by cases st <;> rfl
theorem rem_down (t : ByteArray) (st : St) : Zw L (Jc L t st) ≤ Zw L st := Nat.le_trans (Xw L t _) (rem_deep L t st)
theorem rem_rise (t : ByteArray) (st : St) : Zw L (riseS L t st) ≤ Zw L st := by unfold riseS; rw [rem_up]; exact Xw L t st
theorem is_deep {t : ByteArray} {st : St} (h : isS L t st = true) : (deepS L t st).good = true → isS L t (deepS L t st) = true := by
 cases st with
 | ok a d =>
   have h' : isT (Ye L a) t = true := h
   rw [show deepS L t (.ok a d) = Ug (downF L a d) (.ok a (downD d)) from if_pos h']
   by_cases hf : (downF L a d).1 = 0
   · rw [show Ug (downF L a d) (.ok a (downD d)) = .ok a (downD d) from if_pos hf]; intro _; exact h'
   · rw [show Ug (downF L a d) (.ok a (downD d)) = .bad (downF L a d) from if_neg hf]; intro c; cases c
 | bad F => cases h
theorem rem_downed {t : ByteArray} {st : St} (h : isS L t st = true) : Zw L (Jc L t st) + 1 ≤ Zw L st := by
 have h1 := is_deep L h
 have h2 := rem_deep L t st
 unfold Jc
 cases hd : deepS L t st with
 | ok a d =>
   rw [hd] at h1 h2
   have := rem_wanted L (h1 rfl)
   omega
 | bad F =>
   have h3 : 1 ≤ Zw L st := by have := rem_took L h; omega
   have : Zw L (Yz L t (.bad F)) ≤ 0 := Xw L t (.bad F)
   omega
variable (nk : Int)
theorem rem_filter (k : Nat) (s : St) : Zw L (Ve nk L k s).2 ≤ Zw L s := by
 unfold Ve
 split
 · exact Nat.le_trans (rem_sign L _) (Xk L _ _)
 · split
   · exact Jk L s
   · exact Xk L _ _
theorem rem_filters : ∀ (n : Nat) (st : St), Zw L (Xc nk L n st).2 ≤ Zw L st
 | 0, st => Nat.le_refl _
 | n + 1, st => by
   unfold Xc
   split
   · exact Nat.le_refl _
   · exact Nat.le_trans (rem_filters n _) (Nat.le_trans (rem_filter L nk _ _) (Zal L _ _))
theorem rem_where (st : St) : Zw L (whereS L st) ≤ Zw L st := by
 unfold whereS
 split
 · exact Nat.le_trans (rem_int L _) (Nat.le_trans (Xk L _ _) (Xk L _ _))
 · exact Nat.le_trans (Xk L _ _) (Xk L _ _)
theorem Zak (n : Nat) (st : St) : Zw L (Wt nk L n st).2 ≤ Zw L st := by
 unfold Wt
 split
 · exact Nat.le_trans (Xw L _ _) (Nat.le_trans (Xk L _ _) (Nat.le_trans (rem_filters L nk n _) (Nat.le_trans (rem_where L _) (Xk L _ _))))
 · exact Xk L _ _
theorem rem_to (st : St) : Zw L (toS L st) ≤ Zw L st := by
 unfold toS
 split
 · exact Nat.le_trans (rem_int L _) (Xk L _ _)
 · exact Xk L _ _
theorem rem_exprs : ∀ n : Nat, (∀ st, Zw L (Yq nk L n st).2 ≤ Zw L st) ∧ (∀ x, Zw L (Zaa nk L n x).2 ≤ Zw L x.2) ∧ (∀ st, Zw L (Vy nk L n st).2 ≤ Zw L st) ∧
   (∀ x, Zw L (Jy nk L n x).2 ≤ Zw L x.2) ∧ (∀ st, Zw L (Vt nk L n st).2 ≤ Zw L st) := by
 intro n
 induction n with
 | zero => exact ⟨fun _ => by simp [Yq], fun _ => by simp [Zaa], fun _ => by simp [Vy], fun _ => by simp [Jy], fun _ => by simp [Vt]⟩
 | succ n ih =>
   obtain ⟨h1, h2, h3, h4, h5⟩ := ih
   refine ⟨fun st => ?_, fun x => ?_, fun st => ?_, fun x => ?_, fun st => ?_⟩
   · unfold Yq; exact Nat.le_trans (h2 _) (h3 _)
   · unfold Zaa
     split
     · exact Nat.le_refl _
     · exact Nat.le_trans (h2 _) (Nat.le_trans (h3 _) (Zal L _ _))
   · unfold Vy; exact Nat.le_trans (h4 _) (h5 _)
   · unfold Jy
     split
     · exact Nat.le_trans (h4 _) (Nat.le_trans (h5 _) (rem_take L _ _))
     · exact Nat.le_refl _
   · unfold Vt
     split
     · exact Nat.le_trans (rem_rise L _ _) (Nat.le_trans (h1 _) (rem_down L _ _))
     · split
       · exact rem_sign L _
       · split
         · exact Nat.le_trans (Zak L nk n _) (Zal L _ _)
         · split
           · exact Zal L _ _
           · split
             · exact Nat.le_trans (Xk L _ _) (Zal L _ _)
             · exact Nat.le_trans (rem_to L _) (Nat.le_trans (Xk L _ _) (Zal L _ _))
theorem rem_expr (n : Nat) (st : St) : Zw L (Yq nk L n st).2 ≤ Zw L st := (rem_exprs L nk n).1 st
theorem rem_prod (n : Nat) (st : St) : Zw L (Vy nk L n st).2 ≤ Zw L st := (rem_exprs L nk n).2.2.1 st
theorem rem_fact (n : Nat) (st : St) : Zw L (Vt nk L n st).2 ≤ Zw L st := (rem_exprs L nk n).2.2.2.2 st
theorem rem_plain (n : Nat) (h : AH) (k : Nat) (st : St) : Zw L (Xh nk L n h k st).2 ≤ Zw L st := by
 unfold Xh
 split
 · exact Nat.le_trans (rem_expr L nk n _) (Zak L nk n _)
 · split
   · exact Zak L nk n _
   · split
     · exact Nat.le_trans (rem_to L _) (Zak L nk n _)
     · split
       · exact Nat.le_trans (rem_expr L nk n _) (Nat.le_trans (rem_to L _) (Nat.le_trans (Xk L _ _) (Jk L _)))
       · split
         · exact Nat.le_trans (rem_expr L nk n _) (Xk L _ _)
         · split
           · exact Nat.le_trans (Xk L _ _) (Xk L _ _)
           · split
             · exact Nat.le_trans (rem_to L _) (Xk L _ _)
             · exact Nat.le_refl _
theorem rem_cond (n : Nat) (h : AH) (st : St) : Zw L (Wf nk L n h st).2 ≤ Zw L st :=
 Nat.le_trans (rem_expr L nk n _) (Nat.le_trans (Xk L _ _) (rem_expr L nk n _))
theorem rem_actss : ∀ n : Nat, (∀ st, Zw L (Xs nk L n st).2 ≤ Zw L st) ∧ (∀ h k st, Zw L (Ud nk L n h k st).st ≤ Zw L st) ∧ (∀ st, Zw L (Yx nk L n st).2 ≤ Zw L st) := by
 intro n
 induction n with
 | zero => exact ⟨fun _ => by simp [Xs], fun _ _ _ => by simp [Ud], fun _ => by simp [Yx]⟩
 | succ n ih =>
   obtain ⟨h1, h2, h3⟩ := ih
   refine ⟨fun st => ?_, fun h k st => ?_, fun st => ?_⟩
   · unfold Xs
     split
     · exact Nat.le_refl _
     · exact Nat.le_trans (h1 _) (Nat.le_trans (h2 _ _ _) (Zal L _ _))
   · unfold Ud
     split
     · split
       · exact Nat.le_trans (h3 _) (Nat.le_trans (rem_take L _ _) (Nat.le_trans (h3 _) (rem_cond L nk n h st)))
       · exact Nat.le_trans (h3 _) (rem_cond L nk n h st)
     · split
       · exact Nat.le_trans (h3 _) (Zak L nk n _)
       · exact Nat.le_trans (Xw L _ _) (rem_plain L nk n h k st)
   · unfold Yx
     exact Nat.le_trans (rem_rise L _ _) (Nat.le_trans (h1 _) (rem_down L _ _))
theorem rem_acts (n : Nat) (st : St) : Zw L (Xs nk L n st).2 ≤ Zw L st := (rem_actss L nk n).1 st
theorem rem_act (n : Nat) (h : AH) (k : Nat) (st : St) : Zw L (Ud nk L n h k st).st ≤ Zw L st := (rem_actss L nk n).2.1 h k st
theorem rem_block (n : Nat) (st : St) : Zw L (Yx nk L n st).2 ≤ Zw L st := (rem_actss L nk n).2.2 st
theorem rem_str (k : Nat) (s : St) : Zw L (strS L k s) ≤ Zw L s := by
 unfold strS
 split
 · exact rem_int L s
 · exact Nat.le_refl _
theorem rem_rules : ∀ (n : Nat) (st : St), Zw L (Vw nk L n st).2 ≤ Zw L st
 | 0, st => Nat.le_refl _
 | n + 1, st => by
   unfold Vw
   split
   · exact Nat.le_refl _
   · exact Nat.le_trans (rem_rules n _) (Nat.le_trans (Xw L _ _) (Nat.le_trans (rem_acts L nk n _) (Nat.le_trans (Xw L _ _) (Nat.le_trans (rem_str L _ _) (Zal L _ _)))))
theorem rem_body (n : Nat) (st : St) : Zw L (Jg nk L n st).2 ≤ Zw L st := Nat.le_trans (Xw L _ _) (Nat.le_trans (rem_rules L nk n _) (Xw L _ _))
theorem rem_card (n : Nat) (l c : Int) (st : St) : Zw L (Uj nk L n l c st).2 ≤ Zw L st :=
 Nat.le_trans (rem_body L nk n _) (Nat.le_trans (rem_sign L _) (Nat.le_trans (Xw L _ _) (Nat.le_trans (rem_int L _) (Nat.le_trans (Xw L _ _) (Jk L _)))))
theorem rem_place (n : Nat) (l c : Int) (st : St) : Zw L (Vj nk L n l c st).2 ≤ Zw L st := Nat.le_trans (rem_body L nk n _) (Jk L _)
end
end Go.Proofs.YtljdgdphldckhaaGreat
namespace Go.Proofs.YtljdgdphldckhaaGreat
open Go.ChangeShapes Go.WideShapes Go.ChangeAt Go.RowKit
set_option linter.unusedVariables false
set_option linter.unusedSimpArgs false
def Ub (v : TokV) : Value := .agg #[.int .i64 v.k, .string v.t, .int .i64 v.n, .int .i64 (v.line : Int), .int .i64 (v.col : Int)]
theorem tok_field (a n l c : Int) (b : ByteArray) (w : World) : (Instr.field 85 (.agg #[.int .i64 a, .string b, .int .i64 n, .int .i64 l, .int .i64 c]) 0).run Tryz.prog w = .ok (.int .i64 a) w := by kernel_rfl
structure At (w : World) (p : Nat) (v : TokV) (d : Int) (r o n c : Nat) : Prop where
 c0 : w.cell? ⟨p, 0, none⟩ = some (.slice (some ⟨r, o, none⟩) n c)
 c1 : w.cell? ⟨p, 1, none⟩ = some (.int .i64 d)
 t0 : w.cell? ⟨r, o, none⟩ = some (.int .i64 v.k)
 t1 : w.cell? ⟨r, o + 1, none⟩ = some (.string v.t)
 t2 : w.cell? ⟨r, o + 2, none⟩ = some (.int .i64 v.n)
 t3 : w.cell? ⟨r, o + 3, none⟩ = some (.int .i64 (v.line : Int))
 t4 : w.cell? ⟨r, o + 4, none⟩ = some (.int .i64 (v.col : Int))
 pin : p < w.heap.size
 rin : r < w.heap.size
 n0 : 0 < n
 n1 : (n : Int) ≤ 9223372036854775807
theorem At.below {w w' : World} {p : Nat} {v : TokV} {d : Int} {r o n c : Nat} (h : At w p v d r o n c) (hb : Below w.heap.size w w') : At w' p v d r o n c := by
 have hp := h.pin
 have hr := h.rin
 have key : ∀ b j, b < w.heap.size → w'.cell? ⟨b, j, none⟩ = w.cell? ⟨b, j, none⟩ := fun b j hj => hb.cell (p := ⟨b, j, none⟩) hj
 exact ⟨(key _ _ hp).trans h.c0, (key _ _ hp).trans h.c1, (key _ _ hr).trans h.t0, (key _ _ hr).trans h.t1, (key _ _ hr).trans h.t2, (key _ _ hr).trans h.t3, (key _ _ hr).trans h.t4, Nat.lt_of_lt_of_le hp hb.size, Nat.lt_of_lt_of_le hr hb.size, h.n0, h.n1⟩
theorem cStands (w : World) (p : Nat) (v : TokV) (d : Int) (r o n c : Nat) (h : At w p v d r o n c) :
   Calls Tryz.prog 172 #[.pointer (some ⟨p, 0, none⟩)] w fun e w' => e = .returned (.bool true) ∧ w = w' := by
 obtain ⟨c0, c1, t0, t1, t2, t3, t4, pin, rin, n0, n1⟩ := h
 go_enter Tryz.func172, Tryz.ntmps172
 go_wp2
 go_ret
 exact ⟨rfl, rfl⟩
theorem cPeek (w : World) (p : Nat) (v : TokV) (d : Int) (r o n c : Nat) (h : At w p v d r o n c) :
   Calls Tryz.prog 133 #[.pointer (some ⟨p, 0, none⟩)] w fun e w' => e = .returned (Ub v) ∧ Below w.heap.size w w' := by
 have h1 := h.below ((Below.refl _ _).alloc (Nat.le_refl _) (.cells #[.int .i64 0, .string ⟨#[]⟩, .int .i64 0, .int .i64 0, .int .i64 0] 85))
 have H1 := Hh h1
 obtain ⟨c0, c1, t0, t1, t2, t3, t4, pin, rin, n0, n1⟩ := h1
 have rin' := h.rin
 have pin' := h.pin
 clear h
 unfold Ub
 go_enter Tryz.func133, Tryz.ntmps133
 go_wp2_with (go_at_call 172; refine (cStands _ _ v d r o n c H1.out).mono ?_; rintro e w1 ⟨rfl, rfl⟩)
 refine bodyPost_ret (v := .agg #[.int .i64 v.k, .string v.t, .int .i64 v.n, .int .i64 (v.line : Int), .int .i64 (v.col : Int)]) (by simp [results, Tryz.results133, go_sem]) rfl ⟨rfl, ?_⟩
 exact (Below.refl _ _).alloc (Nat.le_refl _) _
theorem Zb.set3 {w : World} {g : Nat} {t : TypeId} {a b c : Value} (h : Zb w g t #[a, b, c]) (x0 x1 x2 : Value) :
   Zb (((w.setCell ⟨g, 0, none⟩ x0).setCell ⟨g, 1, none⟩ x1).setCell ⟨g, 2, none⟩ x2) g t #[x0, x1, x2] := ((h.write 0 x0).write 1 x1).write 2 x2
theorem Below.set3 {B g : Nat} {w0 w : World} (h : Below B w0 w) (hg : B ≤ g) (x0 x1 x2 : Value) :
   Below B w0 (((w.setCell ⟨g, 0, none⟩ x0).setCell ⟨g, 1, none⟩ x1).setCell ⟨g, 2, none⟩ x2) := ((h.setCell hg x0).setCell hg x1).setCell hg x2
theorem cHere (w : World) (p : Nat) (v : TokV) (d : Int) (r o n c : Nat) (E : Int) (h : At w p v d r o n c) :
   Calls Tryz.prog 173 #[.pointer (some ⟨p, 0, none⟩), .int .i64 E] w fun e w' => e = .returned (Zr (E, v.line, v.col)) ∧ Below w.heap.size w w' := by
 have h1 := h.below ((Below.refl _ _).alloc (Nat.le_refl _) (.cells #[.int .i64 0, .int .i64 0, .int .i64 0] 29))
 have H1 := Hh h1
 have F0 := Zb.made w 29 #[.int .i64 0, .int .i64 0, .int .i64 0]
 clear h h1
 unfold Zr
 go_enter Tryz.func173, Tryz.ntmps173
 go_wp2_with (first
 | (go_at_call 172; refine (cStands _ _ v d r o n c H1.out).mono ?_; rintro e w1 ⟨rfl, rfl⟩)
 | (go_at_call 133; refine (cPeek _ _ v d r o n c H1.out).mono ?_; rintro e w2 ⟨rfl, b2⟩; have W2 := Hh (F0.below b2 (by simp)); obtain ⟨k0, k1, k2, f0, f1, f2⟩ := Zu W2.out; have hz := W2.out.inside; have B2 := Hh b2; clear b2; simp only [Ub]))
 have hF := Zu ((Zb.set3 W2.out (.int .i64 E) (.int .i64 (v.line : Int)) (.int .i64 (v.col : Int))).alloc (.cells #[.int .i64 v.k, .string v.t, .int .i64 v.n, .int .i64 (v.line : Int), .int .i64 (v.col : Int)] 85))
 refine bodyPost_ret (v := .agg #[.int .i64 E, .int .i64 (v.line : Int), .int .i64 (v.col : Int)]) (by simp [results, Tryz.results173, go_sem, hF]) rfl ⟨rfl, ?_⟩
 exact (Below.set3 (((Below.refl _ _).alloc (Nat.le_refl _) _).trans (B2.out.mono (by simp))) (Nat.le_refl _) _ _ _).alloc (by simp; omega) _
theorem cIs (w : World) (p : Nat) (v : TokV) (d : Int) (r o n c : Nat) (t : ByteArray) (h : At w p v d r o n c) :
   Calls Tryz.prog 174 #[.pointer (some ⟨p, 0, none⟩), .string t] w fun e w' => e = .returned (.bool (isT v t)) ∧ Below w.heap.size w w' := by
 have H1 := Hh h
 have HT : Hid (isT v t = ((v.k == 1 || v.k == 4) && (v.t.toList == t.toList))) := Hh rfl
 clear h
 cases h1 : (v.k == 1) <;> cases h4 : (v.k == 4) <;> cases ht : (v.t.toList == t.toList)
 all_goals
   have HH := Hh (And.intro h1 (And.intro h4 ht))
   go_enter Tryz.func174, Tryz.ntmps174
   go_wp2_with (go_at_call 133; refine (cPeek _ _ v d r o n c H1.out).mono ?_; rintro e w2 ⟨rfl, b2⟩; have B2 := Hh b2; clear b2; simp only [Ub])
   go_ret
   exact ⟨by rw [HT.out, HH.out.1, HH.out.2.1, HH.out.2.2]; rfl, B2.out.alloc B2.out.size _⟩
theorem cWrong (w : World) (p : Nat) (v : TokV) (d : Int) (r o n c : Nat) (h : At w p v d r o n c) :
   Calls Tryz.prog 135 #[.pointer (some ⟨p, 0, none⟩)] w fun e w' => e = .returned (Zr (wrF v)) ∧ Below w.heap.size w w' := by
 have h1 := h.below ((Below.refl _ _).alloc (Nat.le_refl _) (.cells #[.int .i64 0, .int .i64 0, .int .i64 0] 29))
 have H1 := Hh h1
 have F0 := Zb.made w 29 #[.int .i64 0, .int .i64 0, .int .i64 0]
 have hfd := fun w => tok_field v.k v.n (v.line : Int) (v.col : Int) v.t w
 clear h h1
 unfold Zr wrF
 by_cases hk : v.k = 0
 · have q0 : (v.k == 0) = true := by rw [hk]; rfl
   rw [if_pos hk]
   clear hk
   go_enter Tryz.func135, Tryz.ntmps135
   go_wp2_with (first
 | (go_at_call 133; refine (cPeek _ _ v d r o n c H1.out).mono ?_; rintro e w2 ⟨rfl, b2⟩; have H2 := Hh (H1.out.below b2); have W2 := Hh (F0.below b2 (by simp)); have B2 := Hh b2; clear b2; simp only [Ub])
 | (go_at_call 173; refine (cHere _ _ v d r o n c _ H2.out).mono ?_; rintro e w3 ⟨rfl, b3⟩; have W3 := Hh (W2.out.below b3 W2.out.inside); obtain ⟨k0, k1, k2, f0, f1, f2⟩ := Zu W3.out; have hz := W3.out.inside; have B3 := Hh (Xr B2.out b3); clear b3; simp only [Zr]))
   have hF := Zu (Zb.set3 W3.out (.int .i64 2) (.int .i64 (v.line : Int)) (.int .i64 (v.col : Int)))
   refine bodyPost_ret (v := .agg #[.int .i64 2, .int .i64 (v.line : Int), .int .i64 (v.col : Int)]) (by simp [results, Tryz.results135, go_sem, hF]) rfl ⟨rfl, ?_⟩
   exact Below.set3 (((Below.refl _ _).alloc (Nat.le_refl _) _).trans (B3.out.mono (by simp))) (Nat.le_refl _) _ _ _
 · have q0 : (v.k == 0) = false := by rw [beq_eq_false_iff_ne]; exact hk
   rw [if_neg hk]
   clear hk
   go_enter Tryz.func135, Tryz.ntmps135
   go_wp2_with (first
 | (go_at_call 133; refine (cPeek _ _ v d r o n c H1.out).mono ?_; rintro e w2 ⟨rfl, b2⟩; have H2 := Hh (H1.out.below b2); have W2 := Hh (F0.below b2 (by simp)); have B2 := Hh b2; clear b2; simp only [Ub])
 | (go_at_call 173; refine (cHere _ _ v d r o n c _ H2.out).mono ?_; rintro e w3 ⟨rfl, b3⟩; have W3 := Hh (W2.out.below b3 W2.out.inside); obtain ⟨k0, k1, k2, f0, f1, f2⟩ := Zu W3.out; have hz := W3.out.inside; have B3 := Hh (Xr B2.out b3); clear b3; simp only [Zr]))
   have hF := Zu (Zb.set3 W3.out (.int .i64 7) (.int .i64 (v.line : Int)) (.int .i64 (v.col : Int)))
   refine bodyPost_ret (v := .agg #[.int .i64 7, .int .i64 (v.line : Int), .int .i64 (v.col : Int)]) (by simp [results, Tryz.results135, go_sem, hF]) rfl ⟨rfl, ?_⟩
   exact Below.set3 (((Below.refl _ _).alloc (Nat.le_refl _) _).trans (B3.out.mono (by simp))) (Nat.le_refl _) _ _ _
end Go.Proofs.YtljdgdphldckhaaGreat
