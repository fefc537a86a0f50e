/-
  Texts CurMath, SynMath, SynRem, Cur, TokRef. No conditions but those that each theorem names.
-/
import Derived.Deep.QuietTactic
import Derived.BigQuiet
import Derived.Test.YtljdgdphldckhaaGreatQB3
import Derived.Test.YtljdgdphldckhaaGreatQB4
namespace Go.Proofs.YtljdgdphldckhaaGreat
open Go
def zTok : TokV := ⟨0, ⟨#[]⟩, 0, 0, 0, 0⟩
def Zp (L : List TokV) (a : Nat) : TokV := L[a]?.getD zTok
theorem curT_get (L : List TokV) (a : Nat) (h : a < L.length) : Zp L a = L[a]'h := by unfold Zp; rw [List.getElem?_eq_getElem h]; rfl
structure Ends (L : List TokV) : Prop where
 pos : 0 < L.length
 last : ∀ i, i < L.length → ((Zp L i).k = 0 ↔ i + 1 = L.length)
 num : ∀ i, 0 ≤ (Zp L i).n ∧ (Zp L i).n ≤ 99
theorem numOf_bd (l : List Int) : 0 ≤ numOf (Zz l).1 l ∧ numOf (Zz l).1 l ≤ 99 := by
 cases l with
 | nil => simp [Zz, numOf]
 | cons c r =>
   refine Jz c r (fun x => 0 ≤ numOf x.1 (c :: r) ∧ numOf x.1 (c :: r) ≤ 99) ?_ ?_ ?_ ?_ ?_ ?_ ?_ ?_
   case refine_2 =>
     intro h1 h2 _
     have hd : ∀ x ∈ Xx (c :: r), 48 ≤ x ∧ x ≤ 57 := by
       intro x hx
       rw [firstD_tw] at hx
       exact (Jk x).1 (tw_take isD _ x hx)
     have hv := valL_nonneg _ hd
     have hl : (Xx (c :: r)).length ≤ 2 := by rw [tw_firstD]; exact h2
     have hp : (10 : Int) ^ (Xx (c :: r)).length ≤ 100 := by
       generalize (Xx (c :: r)).length = n at hl
       match n, hl with
       | 0, _ => decide
       | 1, _ => decide
       | 2, _ => decide
     show 0 ≤ numOf 2 (c :: r) ∧ numOf 2 (c :: r) ≤ 99
     unfold numOf
     rw [if_pos rfl]
     omega
   all_goals (intros; simp [numOf])
theorem curT_succ (v : TokV) (L : List TokV) (i : Nat) : Zp (v :: L) (i + 1) = Zp L i := by unfold Zp; simp
theorem curT_zero (v : TokV) (L : List TokV) : Zp (v :: L) 0 = v := by unfold Zp; simp
theorem Sh.ends {L : List TokV} (h : Sh L) : Ends L := by
 induction h with
 | fin v hk ht hn =>
   refine ⟨by simp, fun i hi => ?_, fun i => ?_⟩
   · obtain rfl : i = 0 := by simp at hi; exact hi
     rw [curT_zero]; simp [hk]
   · cases i with
     | zero => rw [curT_zero, hn]; decide
     | succ i => rw [curT_succ]; simp [Zp, zTok]
 | tok v L hg hL ih =>
   obtain ⟨l, g1, g2, g3, g4, g5, g6, g7⟩ := hg
   refine ⟨by simp, fun i hi => ?_, fun i => ?_⟩
   · cases i with
     | zero =>
       have := ih.pos
       rw [curT_zero, List.length_cons]
       constructor
       · intro h; omega
       · intro h; omega
     | succ i =>
       rw [curT_succ, List.length_cons]
       have := ih.last i (by simpa using hi)
       rw [this]; omega
   · cases i with
     | zero => rw [curT_zero, g5]; exact numOf_bd l
     | succ i => rw [curT_succ]; exact ih.num i
theorem Tr.len {s : ByteArray} {a : Nat} {L : List TokV} (h : Tr s a L) : L.length + a ≤ s.size + 1 := by
 induction h with
 | fin a ha => simp; omega
 | skip a b L hab _ ih => omega
 | tok a L ha hk _ _ ih =>
   have := Zam s ha (by omega)
   rw [List.length_cons]; omega
def onA (L : List TokV) (a : Nat) : Nat := if (Zp L a).k = 0 then a else a + 1
theorem Ends.on {L : List TokV} (h : Ends L) {a : Nat} (ha : a < L.length) : onA L a < L.length := by
 unfold onA
 split
 · exact ha
 · rename_i hk
   have : ¬ (a + 1 = L.length) := fun e => hk ((h.last a ha).2 e)
   omega
def isT (v : TokV) (t : ByteArray) : Bool := (v.k == 1 || v.k == 4) && (v.t.toList == t.toList)
def wrF (v : TokV) : Int × Nat × Nat := if v.k = 0 then (2, v.line, v.col) else (7, v.line, v.col)
def okF : Int × Nat × Nat := (0, 0, 0)
def minus : ByteArray := ⟨#[45]⟩
def Zal (L : List TokV) (a : Nat) (t : ByteArray) : Nat := if isT (Zp L a) t = true then onA L a else a
def wantF (L : List TokV) (a : Nat) (t : ByteArray) : Int × Nat × Nat := if isT (Zp L a) t = true then okF else wrF (Zp L a)
def Uv (L : List TokV) (a : Nat) (k : Int) : Nat := if (Zp L a).k = k then onA L a else a
def Up (L : List TokV) (a : Nat) (k : Int) : Int × Nat × Nat := if (Zp L a).k = k then okF else wrF (Zp L a)
def intV (L : List TokV) (a : Nat) : Int := if (Zp L a).k = 2 then (Zp L a).n else 0
def nameV (L : List TokV) (a : Nat) : ByteArray := if (Zp L a).k = 3 then (Zp L a).t else ⟨#[]⟩
def signA (L : List TokV) (a : Nat) : Nat := if isT (Zp L a) minus = true then (if (Zp L (onA L a)).k = 2 then onA L (onA L a) else a) else Uv L a 2
def signV (L : List TokV) (a : Nat) : Int := if isT (Zp L a) minus = true then (if (Zp L (onA L a)).k = 2 then - (Zp L (onA L a)).n else 0) else intV L a
def signF (L : List TokV) (a : Nat) : Int × Nat × Nat := if isT (Zp L a) minus = true then Up L (onA L a) 2 else Up L a 2
def downD (d : Nat) : Nat := if d = 8 then 8 else d + 1
def downF (L : List TokV) (a d : Nat) : Int × Nat × Nat := if d = 8 then (8, (Zp L a).line, (Zp L a).col) else okF
theorem wrF_ne (v : TokV) : (wrF v).1 ≠ 0 := by unfold wrF; split <;> simp
end Go.Proofs.YtljdgdphldckhaaGreat
namespace Go.Proofs.YtljdgdphldckhaaGreat
open Go
set_option linter.unusedSimpArgs false
set_option linter.unusedVariables false
structure Fl where
 kind : Int
 op : Int
 n : Int
 name : ByteArray
structure Se where
 kind : Int
 side : Int
 wh : Int
 lane : Int
 fs : List Fl
 pick : Int
def zSe : Se := ⟨0, 0, 0, 0, [], 0⟩
inductive Ex where
 | leaf (kind n : Int) (sel : Se) (side tk tl : Int)
 | bin (op : Int) (l r : Ex)
def zEx : Ex := .leaf 0 0 zSe 0 0 0
structure AH where
 kind : Int
 line : Int
 col : Int
 sel : Se
 num : Ex
 side : Int
 tk : Int
 tl : Int
 how : Int
 name : ByteArray
 cop : Int
 cl : Ex
 cr : Ex
def AH.zero (k l c : Int) : AH := ⟨k, l, c, zSe, zEx, 0, 0, 0, 0, ⟨#[]⟩, 0, zEx, zEx⟩
inductive Acs where
 | nil
 | cons (h : AH) (thn els rest : Acs)
def Acs.len : Acs → Nat
 | .nil => 0
 | .cons _ _ _ r => r.len + 1
def Acs.app : Acs → Acs → Acs
 | .nil, y => y
 | .cons h t e r, y => .cons h t e (r.app y)
structure Ru where
 when_ : Int
 stratum : Int
 line : Int
 col : Int
 acts : Acs
structure Ca where
 name : ByteArray
 cost : Int
 power : Int
 line : Int
 col : Int
 rules : List Ru
structure Pl where
 name : ByteArray
 line : Int
 col : Int
 rules : List Ru
structure Fi where
 cards : List Ca
 places : List Pl
theorem Acs.app_nil : ∀ x : Acs, x.app .nil = x
 | .nil => rfl
 | .cons h t e r => by rw [Acs.app, Acs.app_nil r]
theorem Acs.app_assoc (y z : Acs) : ∀ x : Acs, (x.app y).app z = x.app (y.app z)
 | .nil => rfl
 | .cons h t e r => by rw [Acs.app, Acs.app, Acs.app, Acs.app_assoc y z r]
theorem Acs.len_app (y : Acs) : ∀ x : Acs, (x.app y).len = x.len + y.len
 | .nil => by rw [Acs.app, Acs.len]; omega
 | .cons h t e r => by rw [Acs.app, Acs.len, Acs.len, Acs.len_app y r]; omega
def Vj : List ByteArray := [⟨#[109, 101]⟩, ⟨#[105, 116]⟩, ⟨#[40]⟩]
def Zk : List ByteArray := [⟨#[109, 105, 110, 101]⟩, ⟨#[116, 104, 101, 105, 114, 115]⟩, ⟨#[98, 111, 116, 104]⟩]
def Yy : List ByteArray := [⟨#[104, 101, 114, 101]⟩, ⟨#[97, 119, 97, 121]⟩, ⟨#[108, 97, 110, 101]⟩, ⟨#[97, 110, 121, 119, 104, 101, 114, 101]⟩]
def Zq : List ByteArray := [⟨#[99, 111, 115, 116]⟩, ⟨#[112, 111, 119, 101, 114]⟩, ⟨#[110, 97, 109, 101, 100]⟩, ⟨#[110, 111, 116]⟩]
def Ww : List ByteArray := [⟨#[109, 101]⟩, ⟨#[105, 116]⟩]
def Wq : List ByteArray := [⟨#[97, 108, 108]⟩, ⟨#[102, 105, 114, 115, 116]⟩, ⟨#[108, 97, 115, 116]⟩, ⟨#[119, 101, 97, 107, 101, 115, 116]⟩, ⟨#[115, 116, 114, 111, 110, 103, 101, 115, 116]⟩]
def wTo : List ByteArray := [⟨#[104, 101, 114, 101]⟩, ⟨#[108, 101, 102, 116]⟩, ⟨#[114, 105, 103, 104, 116]⟩, ⟨#[108, 97, 110, 101]⟩]
def Zav : List ByteArray := [⟨#[102, 105, 114, 115, 116]⟩, ⟨#[108, 97, 115, 116]⟩, ⟨#[99, 104, 101, 97, 112, 101, 115, 116]⟩, ⟨#[99, 111, 115, 116, 108, 105, 101, 115, 116]⟩]
def wOp : List ByteArray := [⟨#[60]⟩, ⟨#[60, 61]⟩, ⟨#[61]⟩, ⟨#[33, 61]⟩, ⟨#[62, 61]⟩, ⟨#[62]⟩]
def Un : List ByteArray := [⟨#[43]⟩, ⟨#[45]⟩]
def Yj : List ByteArray := [⟨#[99, 111, 117, 110, 116]⟩, ⟨#[115, 117, 109]⟩, ⟨#[114, 111, 117, 110, 100]⟩, ⟨#[104, 97, 110, 100]⟩, ⟨#[102, 114, 101, 101]⟩]
def Yr : List ByteArray := [⟨#[112, 111, 119, 101, 114]⟩, ⟨#[115, 101, 116]⟩, ⟨#[100, 101, 115, 116, 114, 111, 121]⟩, ⟨#[109, 111, 118, 101]⟩, ⟨#[114, 101, 116, 117, 114, 110]⟩, ⟨#[115, 112, 97, 119, 110]⟩, ⟨#[100, 114, 97, 119]⟩, ⟨#[100, 105, 115, 99, 97, 114, 100]⟩, ⟨#[101, 110, 101, 114, 103, 121]⟩, ⟨#[105, 102]⟩, ⟨#[101, 97, 99, 104]⟩, ⟨#[97, 117, 114, 97]⟩, ⟨#[100, 111, 117, 98, 108, 101]⟩, ⟨#[115, 104, 105, 101, 108, 100]⟩, ⟨#[98, 97, 114]⟩]
def Yd : List ByteArray := [⟨#[114, 101, 118, 101, 97, 108]⟩, ⟨#[100, 101, 97, 116, 104]⟩, ⟨#[109, 111, 118, 101, 100]⟩, ⟨#[101, 110, 100]⟩, ⟨#[97, 108, 119, 97, 121, 115]⟩, ⟨#[101, 110, 116, 101, 114]⟩]
def Ys : List ByteArray := [⟨#[99, 97, 114, 100]⟩, ⟨#[112, 108, 97, 99, 101]⟩]
def Wf : ByteArray := ⟨#[42]⟩
def Wh : ByteArray := ⟨#[40]⟩
def Wi : ByteArray := ⟨#[41]⟩
def Yv : ByteArray := ⟨#[123]⟩
def Yw : ByteArray := ⟨#[125]⟩
def sSemi : ByteArray := ⟨#[59]⟩
def Wx : ByteArray := ⟨#[101, 108, 115, 101]⟩
def Jn : ByteArray := ⟨#[99, 111, 115, 116]⟩
def Ut : ByteArray := ⟨#[112, 111, 119, 101, 114]⟩
def sMe : ByteArray := ⟨#[109, 101]⟩
def sIt : ByteArray := ⟨#[105, 116]⟩
inductive St where
 | ok (a d : Nat)
 | bad (F : Int × Nat × Nat)
def St.good : St → Bool
 | .ok _ _ => true
 | .bad _ => false
def Vo (F : Int × Nat × Nat) : St → St
 | .ok a d => if F.1 = 0 then .ok a d else .bad F
 | .bad G => .bad G
def Xg (v : TokV) : List ByteArray → Nat
 | [] => 0
 | t :: r => if isT v t = true then 1 else if Xg v r = 0 then 0 else Xg v r + 1
section
variable (L : List TokV)
def St.tok : St → TokV
 | .ok a _ => Zp L a
 | .bad _ => zTok
def wrongS : St → St
 | .ok a d => .bad (wrF (Zp L a))
 | .bad F => .bad F
def isS (t : ByteArray) : St → Bool
 | .ok a _ => isT (Zp L a) t
 | .bad _ => false
def Xz (t : ByteArray) : St → St
 | .ok a d => .ok (Zal L a t) d
 | .bad F => .bad F
def Yk (t : ByteArray) (st : St) : St := if isS L t st = true then Xz L t st else wrongS L st
def intN : St → Int
 | .ok a _ => intV L a
 | .bad _ => 0
def intS : St → St
 | .ok a d => Vo (Up L a 2) (.ok (Uv L a 2) d)
 | .bad F => .bad F
def Zba : St → ByteArray
 | .ok a _ => nameV L a
 | .bad _ => ⟨#[]⟩
def We : St → St
 | .ok a d => Vo (Up L a 3) (.ok (Uv L a 3) d)
 | .bad F => .bad F
def Zaz : St → Int
 | .ok a _ => signV L a
 | .bad _ => 0
def Zah : St → St
 | .ok a d => Vo (signF L a) (.ok (signA L a) d)
 | .bad F => .bad F
def Zd (ws : List ByteArray) : St → Nat
 | .ok a _ => Xg (Zp L a) ws
 | .bad _ => 0
def Zt (ws : List ByteArray) : St → St
 | .ok a d => if Xg (Zp L a) ws = 0 then .ok a d else .ok (onA L a) d
 | .bad F => .bad F
def Yn (ws : List ByteArray) (st : St) : St := if Zd L ws st = 0 then wrongS L st else Zt L ws st
def deepS (t : ByteArray) : St → St
 | .ok a d => if isT (Zp L a) t = true then Vo (downF L a d) (.ok a (downD d)) else .ok a d
 | .bad F => .bad F
def upS : St → St
 | .ok a d => .ok a (d - 1)
 | .bad F => .bad F
def Ux (t : ByteArray) (st : St) : St := Yk L t (deepS L t st)
def riseS (t : ByteArray) (st : St) : St := upS (Yk L t st)
def Vz : St → St
 | .ok a d => if (Zp L a).k = 0 then .ok a d else .bad (wrF (Zp L a))
 | .bad F => .bad F
def Zs : St → Nat
 | .ok a _ => L.length - a
 | .bad _ => 0
end
section
variable (nk : Int) (L : List TokV)
def Wc (k : Nat) (s : St) : Fl × St :=
 if k = 1 ∨ k = 2 then (⟨k, Zd L wOp s, Zaz L (Yn L wOp s), ⟨#[]⟩⟩, Zah L (Yn L wOp s))
 else if k = 3 then (⟨3, 0, 0, Zba L s⟩, We L s)
 else (⟨if Zd L Ww s = 0 then nk else 3 + (Zd L Ww s : Int), 0, 0, ⟨#[]⟩⟩, Yn L Ww s)
def Yu : Nat → St → List Fl × St
 | 0, st => ([], st)
 | n + 1, st =>
   if Zd L Zq st = 0 then ([], st)
   else
     ((Wc nk L (Zd L Zq st) (Zt L Zq st)).1 :: (Yu n (Wc nk L (Zd L Zq st) (Zt L Zq st)).2).1,
       (Yu n (Wc nk L (Zd L Zq st) (Zt L Zq st)).2).2)
def Us (st : St) : Int × Int × Int := (Zd L Zk st, Zd L Yy (Yn L Zk st), if Zd L Yy (Yn L Zk st) = 3 then intN L (Yn L Yy (Yn L Zk st)) else 0)
def Zbe (st : St) : St := if Zd L Yy (Yn L Zk st) = 3 then intS L (Yn L Yy (Yn L Zk st)) else Yn L Yy (Yn L Zk st)
def Wp (n : Nat) (st : St) : Se × St :=
 if Zd L Vj st = 3 then
   (⟨3, (Us L (Yn L Vj st)).1, (Us L (Yn L Vj st)).2.1, (Us L (Yn L Vj st)).2.2, (Yu nk L n (Zbe L (Yn L Vj st))).1,
       Zd L Wq (Yu nk L n (Zbe L (Yn L Vj st))).2⟩,
     Yk L Wi (Yn L Wq (Yu nk L n (Zbe L (Yn L Vj st))).2))
 else (⟨Zd L Vj st, 0, 0, 0, [], 0⟩, Yn L Vj st)
def toK (st : St) : Int := Zd L wTo st
def toL (st : St) : Int := if Zd L wTo st = 4 then intN L (Yn L wTo st) else 0
def toS (st : St) : St := if Zd L wTo st = 4 then intS L (Yn L wTo st) else Yn L wTo st
mutual
def Yg : Nat → St → Ex × St
 | 0, st => (zEx, st)
 | n + 1, st => Uq n (Vh n st)
def Uq : Nat → Ex × St → Ex × St
 | 0, x => x
 | n + 1, x =>
   if Zd L Un x.2 = 0 then x
   else Uq n (.bin (Zd L Un x.2) x.1 (Vh n (Zt L Un x.2)).1, (Vh n (Zt L Un x.2)).2)
def Vh : Nat → St → Ex × St
 | 0, st => (zEx, st)
 | n + 1, st => Ud n (Wo n st)
def Ud : Nat → Ex × St → Ex × St
 | 0, x => x
 | n + 1, x =>
   if isS L Wf x.2 = true then Ud n (.bin 3 x.1 (Wo n (Xz L Wf x.2)).1, (Wo n (Xz L Wf x.2)).2)
   else x
def Wo : Nat → St → Ex × St
 | 0, st => (zEx, st)
 | n + 1, st =>
   if isS L Wh st = true then ((Yg n (Ux L Wh st)).1, riseS L Wi (Yg n (Ux L Wh st)).2)
   else if Zd L Yj st = 0 then (.leaf 1 (Zaz L st) zSe 0 0 0, Zah L st)
   else if Zd L Yj st = 1 ∨ Zd L Yj st = 2 then (.leaf (Zd L Yj st + 1) 0 (Wp nk L n (Zt L Yj st)).1 0 0 0, (Wp nk L n (Zt L Yj st)).2)
   else if Zd L Yj st = 3 then (.leaf 4 0 zSe 0 0 0, Zt L Yj st)
   else if Zd L Yj st = 4 then (.leaf 5 0 zSe (Zd L Zk (Zt L Yj st)) 0 0, Yn L Zk (Zt L Yj st))
   else (.leaf 6 0 zSe (Zd L Zk (Zt L Yj st)) (toK L (Yn L Zk (Zt L Yj st))) (toL L (Yn L Zk (Zt L Yj st))), toS L (Yn L Zk (Zt L Yj st)))
end
def Xc (n : Nat) (h : AH) (k : Nat) (st : St) : AH × St :=
 if k = 1 ∨ k = 2 ∨ k = 12 then ({ h with sel := (Wp nk L n st).1, num := (Yg nk L n (Wp nk L n st).2).1 }, (Yg nk L n (Wp nk L n st).2).2)
 else if k = 3 ∨ k = 5 ∨ k = 14 then ({ h with sel := (Wp nk L n st).1 }, (Wp nk L n st).2)
 else if k = 4 then ({ h with sel := (Wp nk L n st).1, tk := toK L (Wp nk L n st).2, tl := toL L (Wp nk L n st).2 }, toS L (Wp nk L n st).2)
 else if k = 6 then
   ({ h with name := Zba L st, side := Zd L Zk (We L st), tk := toK L (Yn L Zk (We L st)), tl := toL L (Yn L Zk (We L st)), num := (Yg nk L n (toS L (Yn L Zk (We L st)))).1 },
     (Yg nk L n (toS L (Yn L Zk (We L st)))).2)
 else if k = 7 ∨ k = 9 then ({ h with side := Zd L Zk st, num := (Yg nk L n (Yn L Zk st)).1 }, (Yg nk L n (Yn L Zk st)).2)
 else if k = 8 then ({ h with side := Zd L Zk st, how := Zd L Zav (Yn L Zk st) }, Yn L Zav (Yn L Zk st))
 else if k = 13 ∨ k = 15 then ({ h with side := Zd L Zk st, tk := toK L (Yn L Zk st), tl := toL L (Yn L Zk st) }, toS L (Yn L Zk st))
 else (h, st)
def Xv (n : Nat) (h : AH) (st : St) : AH × St :=
 ({ h with cl := (Yg nk L n st).1, cop := Zd L wOp (Yg nk L n st).2, cr := (Yg nk L n (Yn L wOp (Yg nk L n st).2)).1 }, (Yg nk L n (Yn L wOp (Yg nk L n st).2)).2)
structure AO where
 h : AH
 thn : Acs
 els : Acs
 st : St
mutual
def Xs : Nat → St → Acs × St
 | 0, st => (.nil, st)
 | n + 1, st =>
   if Zd L Yr st = 0 then (.nil, st)
   else
     (.cons (Vl n (AH.zero (Zd L Yr st) (st.tok L).line (st.tok L).col) (Zd L Yr st) (Zt L Yr st)).h
         (Vl n (AH.zero (Zd L Yr st) (st.tok L).line (st.tok L).col) (Zd L Yr st) (Zt L Yr st)).thn
         (Vl n (AH.zero (Zd L Yr st) (st.tok L).line (st.tok L).col) (Zd L Yr st) (Zt L Yr st)).els
         (Xs n (Vl n (AH.zero (Zd L Yr st) (st.tok L).line (st.tok L).col) (Zd L Yr st) (Zt L Yr st)).st).1,
       (Xs n (Vl n (AH.zero (Zd L Yr st) (st.tok L).line (st.tok L).col) (Zd L Yr st) (Zt L Yr st)).st).2)
def Vl : Nat → AH → Nat → St → AO
 | 0, h, _, st => ⟨h, .nil, .nil, st⟩
 | n + 1, h, k, st =>
   if k = 10 then
     if isS L Wx (Yl n (Xv nk L n h st).2).2 = true then
       ⟨(Xv nk L n h st).1, (Yl n (Xv nk L n h st).2).1, (Yl n (Xz L Wx (Yl n (Xv nk L n h st).2).2)).1, (Yl n (Xz L Wx (Yl n (Xv nk L n h st).2).2)).2⟩
     else ⟨(Xv nk L n h st).1, (Yl n (Xv nk L n h st).2).1, .nil, (Yl n (Xv nk L n h st).2).2⟩
   else if k = 11 then ⟨{ h with sel := (Wp nk L n st).1 }, (Yl n (Wp nk L n st).2).1, .nil, (Yl n (Wp nk L n st).2).2⟩
   else ⟨(Xc nk L n h k st).1, .nil, .nil, Yk L sSemi (Xc nk L n h k st).2⟩
def Yl : Nat → St → Acs × St
 | 0, st => (.nil, st)
 | n + 1, st => ((Xs n (Ux L Yv st)).1, riseS L Yw (Xs n (Ux L Yv st)).2)
end
def strN (k : Nat) (s : St) : Int := if k = 5 then intN L s else 0
def strS (k : Nat) (s : St) : St := if k = 5 then intS L s else s
def Vf : Nat → St → List Ru × St
 | 0, st => ([], st)
 | n + 1, st =>
   if Zd L Yd st = 0 then ([], st)
   else
     (⟨Zd L Yd st, strN L (Zd L Yd st) (Zt L Yd st), (st.tok L).line, (st.tok L).col, (Xs nk L n (Yk L Yv (strS L (Zd L Yd st) (Zt L Yd st)))).1⟩ ::
         (Vf n (Yk L Yw (Xs nk L n (Yk L Yv (strS L (Zd L Yd st) (Zt L Yd st)))).2)).1,
       (Vf n (Yk L Yw (Xs nk L n (Yk L Yv (strS L (Zd L Yd st) (Zt L Yd st)))).2)).2)
def Uy (n : Nat) (st : St) : List Ru × St := ((Vf nk L n (Yk L Yv st)).1, Yk L Yw (Vf nk L n (Yk L Yv st)).2)
def Ub (n : Nat) (line col : Int) (st : St) : Ca × St :=
 (⟨Zba L st, intN L (Yk L Jn (We L st)), Zaz L (Yk L Ut (intS L (Yk L Jn (We L st)))), line, col,
     (Uy nk L n (Zah L (Yk L Ut (intS L (Yk L Jn (We L st)))))).1⟩,
   (Uy nk L n (Zah L (Yk L Ut (intS L (Yk L Jn (We L st)))))).2)
def Wz (n : Nat) (line col : Int) (st : St) : Pl × St := (⟨Zba L st, line, col, (Uy nk L n (We L st)).1⟩, (Uy nk L n (We L st)).2)
def Wm : Nat → St → Fi × St
 | 0, st => (⟨[], []⟩, st)
 | n + 1, st =>
   if Zd L Ys st = 0 then (⟨[], []⟩, st)
   else if Zd L Ys st = 1 then
     (⟨(Ub nk L n (st.tok L).line (st.tok L).col (Zt L Ys st)).1 :: (Wm n (Ub nk L n (st.tok L).line (st.tok L).col (Zt L Ys st)).2).1.cards,
         (Wm n (Ub nk L n (st.tok L).line (st.tok L).col (Zt L Ys st)).2).1.places⟩,
       (Wm n (Ub nk L n (st.tok L).line (st.tok L).col (Zt L Ys st)).2).2)
   else
     (⟨(Wm n (Wz nk L n (st.tok L).line (st.tok L).col (Zt L Ys st)).2).1.cards,
         (Wz nk L n (st.tok L).line (st.tok L).col (Zt L Ys st)).1 :: (Wm n (Wz nk L n (st.tok L).line (st.tok L).col (Zt L Ys st)).2).1.places⟩,
       (Wm n (Wz nk L n (st.tok L).line (st.tok L).col (Zt L Ys st)).2).2)
end
theorem isT_k {v : TokV} {t : ByteArray} (h : isT v t = true) : v.k ≠ 0 := by
 unfold isT at h
 intro c
 rw [c] at h
 simp at h
theorem idxW_k {v : TokV} : ∀ {ws : List ByteArray}, Xg v ws ≠ 0 → v.k ≠ 0
 | [], h => absurd rfl h
 | t :: r, h => by
   unfold Xg at h
   by_cases ht : isT v t = true
   · exact isT_k ht
   · rw [if_neg ht] at h
     by_cases hr : Xg v r = 0
     · rw [if_pos hr] at h; exact absurd rfl h
     · exact idxW_k hr
theorem Zat (v : TokV) : ∀ ws : List ByteArray, Xg v ws ≤ ws.length
 | [] => Nat.le_refl _
 | t :: r => by
   have := Zat v r
   unfold Xg
   rw [List.length_cons]
   split
   · omega
   · split <;> omega
theorem curT_lt {L : List TokV} {a : Nat} (h : (Zp L a).k ≠ 0) : a < L.length := by
 apply Nat.lt_of_not_le
 intro c
 unfold Zp at h
 rw [List.getElem?_eq_none c] at h
 exact h rfl
theorem onA_le (L : List TokV) (a : Nat) : L.length - onA L a ≤ L.length - a := by unfold onA; split <;> omega
theorem onA_lt {L : List TokV} {a : Nat} (h : (Zp L a).k ≠ 0) : L.length - onA L a + 1 ≤ L.length - a := by
 have := curT_lt h
 unfold onA
 rw [if_neg h]
 omega
section
variable (L : List TokV)
theorem rem_note (F : Int × Nat × Nat) (st : St) : Zs L (Vo F st) ≤ Zs L st := by
 cases st with
 | ok a d =>
   by_cases h : F.1 = 0
   · rw [show Vo F (.ok a d) = .ok a d from if_pos h]; exact Nat.le_refl _
   · rw [show Vo F (.ok a d) = .bad F from if_neg h]; exact Nat.zero_le _
 | bad G => exact Nat.le_refl _
theorem rem_wrong (st : St) : Zs L (wrongS L st) ≤ Zs L st := by cases st <;> exact Nat.zero_le _
theorem wantA_le (a : Nat) (t : ByteArray) : L.length - Zal L a t ≤ L.length - a := by
 unfold Zal
 split
 · exact onA_le L a
 · exact Nat.le_refl _
theorem kindA_le (a : Nat) (k : Int) : L.length - Uv L a k ≤ L.length - a := by
 unfold Uv
 split
 · exact onA_le L a
 · exact Nat.le_refl _
theorem signA_le (a : Nat) : L.length - signA L a ≤ L.length - a := by
 unfold signA
 split
 · split
   · exact Nat.le_trans (onA_le L _) (onA_le L a)
   · exact Nat.le_refl _
 · exact kindA_le L a 2
theorem rem_take (t : ByteArray) (st : St) : Zs L (Xz L t st) ≤ Zs L st := by
 cases st with
 | ok a d => exact wantA_le L a t
 | bad F => exact Nat.le_refl _
theorem rem_took {t : ByteArray} {st : St} (h : isS L t st = true) : Zs L (Xz L t st) + 1 ≤ Zs L st := by
 cases st with
 | ok a d =>
   have h' : isT (Zp L a) t = true := h
   show L.length - Zal L a t + 1 ≤ L.length - a
   unfold Zal
   rw [if_pos h']
   exact onA_lt (isT_k h')
 | bad F => cases h
theorem Xq (t : ByteArray) (st : St) : Zs L (Yk L t st) ≤ Zs L st := by
 unfold Yk
 split
 · exact rem_take L t st
 · exact rem_wrong L st
theorem rem_wanted {t : ByteArray} {st : St} (h : isS L t st = true) : Zs L (Yk L t st) + 1 ≤ Zs L st := by
 unfold Yk
 rw [if_pos h]
 exact rem_took L h
theorem rem_int (st : St) : Zs L (intS L st) ≤ Zs L st := by
 cases st with
 | ok a d => have h := rem_note L (Up L a 2) (.ok (Uv L a 2) d); exact Nat.le_trans h (kindA_le L a 2)
 | bad F => exact Nat.le_refl _
theorem Uu (st : St) : Zs L (We L st) ≤ Zs L st := by
 cases st with
 | ok a d => have h := rem_note L (Up L a 3) (.ok (Uv L a 3) d); exact Nat.le_trans h (kindA_le L a 3)
 | bad F => exact Nat.le_refl _
theorem rem_sign (st : St) : Zs L (Zah L st) ≤ Zs L st := by
 cases st with
 | ok a d => have h := rem_note L (signF L a) (.ok (signA L a) d); exact Nat.le_trans h (signA_le L a)
 | bad F => exact Nat.le_refl _
theorem Zbi (ws : List ByteArray) (st : St) : Zs L (Zt L ws st) ≤ Zs L st := by
 cases st with
 | ok a d =>
   by_cases h : Xg (Zp L a) ws = 0
   · rw [show Zt L ws (.ok a d) = .ok a d from if_pos h]; exact Nat.le_refl _
   · rw [show Zt L ws (.ok a d) = .ok (onA L a) d from if_neg h]; exact onA_le L a
 | bad F => exact Nat.le_refl _
theorem Vn {ws : List ByteArray} {st : St} (h : ¬ Zd L ws st = 0) : Zs L (Zt L ws st) + 1 ≤ Zs L st := by
 cases st with
 | ok a d =>
   have h' : ¬ Xg (Zp L a) ws = 0 := h
   rw [show Zt L ws (.ok a d) = .ok (onA L a) d from if_neg h']
   exact onA_lt (idxW_k h')
 | bad F => exact absurd rfl h
theorem Zbb {ws : List ByteArray} {st : St} (h : Zd L ws st = 0) : Zt L ws st = st := by
 cases st with
 | ok a d =>
   have h' : Xg (Zp L a) ws = 0 := h
   exact if_pos h'
 | bad F => rfl
theorem Xo (ws : List ByteArray) (st : St) : Zs L (Yn L ws st) ≤ Zs L st := by
 unfold Yn
 split
 · exact rem_wrong L st
 · exact Zbi L ws st
theorem rem_deep (t : ByteArray) (st : St) : Zs L (deepS L t st) ≤ Zs L st := by
 cases st with
 | ok a d =>
   by_cases h : isT (Zp L a) t = true
   · rw [show deepS L t (.ok a d) = Vo (downF L a d) (.ok a (downD d)) from if_pos h]; exact rem_note L (downF L a d) (.ok a (downD d))
   · rw [show deepS L t (.ok a d) = .ok a d from if_neg h]; exact Nat.le_refl _
 | bad F => exact Nat.le_refl _
theorem rem_up (st : St) : Zs L (upS st) = Zs L st := by cases st <;> rfl
theorem rem_down (t : ByteArray) (st : St) : Zs L (Ux L t st) ≤ Zs L st := Nat.le_trans (Xq L t _) (rem_deep L t st)
theorem rem_rise (t : ByteArray) (st : St) : Zs L (riseS L t st) ≤ Zs L st := by unfold riseS; rw [rem_up]; exact Xq L t st
theorem is_deep {t : ByteArray} {st : St} (h : isS L t st = true) : (deepS L t st).good = true → isS L t (deepS L t st) = true := by
 cases st with
 | ok a d =>
   have h' : isT (Zp L a) t = true := h
   rw [show deepS L t (.ok a d) = Vo (downF L a d) (.ok a (downD d)) from if_pos h']
   by_cases hf : (downF L a d).1 = 0
   · rw [show Vo (downF L a d) (.ok a (downD d)) = .ok a (downD d) from if_pos hf]; intro _; exact h'
   · rw [show Vo (downF L a d) (.ok a (downD d)) = .bad (downF L a d) from if_neg hf]; intro c; cases c
 | bad F => cases h
theorem rem_downed {t : ByteArray} {st : St} (h : isS L t st = true) : Zs L (Ux L t st) + 1 ≤ Zs L st := by
 have h1 := is_deep L h
 have h2 := rem_deep L t st
 unfold Ux
 cases hd : deepS L t st with
 | ok a d =>
   rw [hd] at h1 h2
   have := rem_wanted L (h1 rfl)
   omega
 | bad F =>
   have h3 : 1 ≤ Zs L st := by have := rem_took L h; omega
   have : Zs L (Yk L t (.bad F)) ≤ 0 := Xq L t (.bad F)
   omega
variable (nk : Int)
theorem rem_filter (k : Nat) (s : St) : Zs L (Wc nk L k s).2 ≤ Zs L s := by
 unfold Wc
 split
 · exact Nat.le_trans (rem_sign L _) (Xo L _ _)
 · split
   · exact Uu L s
   · exact Xo L _ _
theorem rem_filters : ∀ (n : Nat) (st : St), Zs L (Yu nk L n st).2 ≤ Zs L st
 | 0, st => Nat.le_refl _
 | n + 1, st => by
   unfold Yu
   split
   · exact Nat.le_refl _
   · exact Nat.le_trans (rem_filters n _) (Nat.le_trans (rem_filter L nk _ _) (Zbi L _ _))
theorem rem_where (st : St) : Zs L (Zbe L st) ≤ Zs L st := by
 unfold Zbe
 split
 · exact Nat.le_trans (rem_int L _) (Nat.le_trans (Xo L _ _) (Xo L _ _))
 · exact Nat.le_trans (Xo L _ _) (Xo L _ _)
theorem Zaf (n : Nat) (st : St) : Zs L (Wp nk L n st).2 ≤ Zs L st := by
 unfold Wp
 split
 · exact Nat.le_trans (Xq L _ _) (Nat.le_trans (Xo L _ _) (Nat.le_trans (rem_filters L nk n _) (Nat.le_trans (rem_where L _) (Xo L _ _))))
 · exact Xo L _ _
theorem rem_to (st : St) : Zs L (toS L st) ≤ Zs L st := by
 unfold toS
 split
 · exact Nat.le_trans (rem_int L _) (Xo L _ _)
 · exact Xo L _ _
theorem rem_exprs : ∀ n : Nat, (∀ st, Zs L (Yg nk L n st).2 ≤ Zs L st) ∧ (∀ x, Zs L (Uq nk L n x).2 ≤ Zs L x.2) ∧ (∀ st, Zs L (Vh nk L n st).2 ≤ Zs L st) ∧
   (∀ x, Zs L (Ud nk L n x).2 ≤ Zs L x.2) ∧ (∀ st, Zs L (Wo nk L n st).2 ≤ Zs L st) := by
 intro n
 induction n with
 | zero => exact ⟨fun _ => by simp [Yg], fun _ => by simp [Uq], fun _ => by simp [Vh], fun _ => by simp [Ud], fun _ => by simp [Wo]⟩
 | succ n ih =>
   obtain ⟨h1, h2, h3, h4, h5⟩ := ih
   refine ⟨fun st => ?_, fun x => ?_, fun st => ?_, fun x => ?_, fun st => ?_⟩
   · unfold Yg; exact Nat.le_trans (h2 _) (h3 _)
   · unfold Uq
     split
     · exact Nat.le_refl _
     · exact Nat.le_trans (h2 _) (Nat.le_trans (h3 _) (Zbi L _ _))
   · unfold Vh; exact Nat.le_trans (h4 _) (h5 _)
   · unfold Ud
     split
     · exact Nat.le_trans (h4 _) (Nat.le_trans (h5 _) (rem_take L _ _))
     · exact Nat.le_refl _
   · unfold Wo
     split
     · exact Nat.le_trans (rem_rise L _ _) (Nat.le_trans (h1 _) (rem_down L _ _))
     · split
       · exact rem_sign L _
       · split
         · exact Nat.le_trans (Zaf L nk n _) (Zbi L _ _)
         · split
           · exact Zbi L _ _
           · split
             · exact Nat.le_trans (Xo L _ _) (Zbi L _ _)
             · exact Nat.le_trans (rem_to L _) (Nat.le_trans (Xo L _ _) (Zbi L _ _))
theorem rem_expr (n : Nat) (st : St) : Zs L (Yg nk L n st).2 ≤ Zs L st := (rem_exprs L nk n).1 st
theorem rem_prod (n : Nat) (st : St) : Zs L (Vh nk L n st).2 ≤ Zs L st := (rem_exprs L nk n).2.2.1 st
theorem rem_fact (n : Nat) (st : St) : Zs L (Wo nk L n st).2 ≤ Zs L st := (rem_exprs L nk n).2.2.2.2 st
theorem rem_plain (n : Nat) (h : AH) (k : Nat) (st : St) : Zs L (Xc nk L n h k st).2 ≤ Zs L st := by
 unfold Xc
 split
 · exact Nat.le_trans (rem_expr L nk n _) (Zaf L nk n _)
 · split
   · exact Zaf L nk n _
   · split
     · exact Nat.le_trans (rem_to L _) (Zaf L nk n _)
     · split
       · exact Nat.le_trans (rem_expr L nk n _) (Nat.le_trans (rem_to L _) (Nat.le_trans (Xo L _ _) (Uu L _)))
       · split
         · exact Nat.le_trans (rem_expr L nk n _) (Xo L _ _)
         · split
           · exact Nat.le_trans (Xo L _ _) (Xo L _ _)
           · split
             · exact Nat.le_trans (rem_to L _) (Xo L _ _)
             · exact Nat.le_refl _
theorem rem_cond (n : Nat) (h : AH) (st : St) : Zs L (Xv nk L n h st).2 ≤ Zs L st :=
 Nat.le_trans (rem_expr L nk n _) (Nat.le_trans (Xo L _ _) (rem_expr L nk n _))
theorem rem_actss : ∀ n : Nat, (∀ st, Zs L (Xs nk L n st).2 ≤ Zs L st) ∧ (∀ h k st, Zs L (Vl nk L n h k st).st ≤ Zs L st) ∧ (∀ st, Zs L (Yl nk L n st).2 ≤ Zs L st) := by
 intro n
 induction n with
 | zero => exact ⟨fun _ => by simp [Xs], fun _ _ _ => by simp [Vl], fun _ => by simp [Yl]⟩
 | succ n ih =>
   obtain ⟨h1, h2, h3⟩ := ih
   refine ⟨fun st => ?_, fun h k st => ?_, fun st => ?_⟩
   · unfold Xs
     split
     · exact Nat.le_refl _
     · exact Nat.le_trans (h1 _) (Nat.le_trans (h2 _ _ _) (Zbi L _ _))
   · unfold Vl
     split
     · split
       · exact Nat.le_trans (h3 _) (Nat.le_trans (rem_take L _ _) (Nat.le_trans (h3 _) (rem_cond L nk n h st)))
       · exact Nat.le_trans (h3 _) (rem_cond L nk n h st)
     · split
       · exact Nat.le_trans (h3 _) (Zaf L nk n _)
       · exact Nat.le_trans (Xq L _ _) (rem_plain L nk n h k st)
   · unfold Yl
     exact Nat.le_trans (rem_rise L _ _) (Nat.le_trans (h1 _) (rem_down L _ _))
theorem rem_acts (n : Nat) (st : St) : Zs L (Xs nk L n st).2 ≤ Zs L st := (rem_actss L nk n).1 st
theorem rem_act (n : Nat) (h : AH) (k : Nat) (st : St) : Zs L (Vl nk L n h k st).st ≤ Zs L st := (rem_actss L nk n).2.1 h k st
theorem rem_block (n : Nat) (st : St) : Zs L (Yl nk L n st).2 ≤ Zs L st := (rem_actss L nk n).2.2 st
theorem rem_str (k : Nat) (s : St) : Zs L (strS L k s) ≤ Zs L s := by
 unfold strS
 split
 · exact rem_int L s
 · exact Nat.le_refl _
theorem rem_rules : ∀ (n : Nat) (st : St), Zs L (Vf nk L n st).2 ≤ Zs L st
 | 0, st => Nat.le_refl _
 | n + 1, st => by
   unfold Vf
   split
   · exact Nat.le_refl _
   · exact Nat.le_trans (rem_rules n _) (Nat.le_trans (Xq L _ _) (Nat.le_trans (rem_acts L nk n _) (Nat.le_trans (Xq L _ _) (Nat.le_trans (rem_str L _ _) (Zbi L _ _)))))
theorem rem_body (n : Nat) (st : St) : Zs L (Uy nk L n st).2 ≤ Zs L st := Nat.le_trans (Xq L _ _) (Nat.le_trans (rem_rules L nk n _) (Xq L _ _))
theorem rem_card (n : Nat) (l c : Int) (st : St) : Zs L (Ub nk L n l c st).2 ≤ Zs L st :=
 Nat.le_trans (rem_body L nk n _) (Nat.le_trans (rem_sign L _) (Nat.le_trans (Xq L _ _) (Nat.le_trans (rem_int L _) (Nat.le_trans (Xq L _ _) (Uu L _)))))
theorem rem_place (n : Nat) (l c : Int) (st : St) : Zs L (Wz nk L n l c st).2 ≤ Zs L st := Nat.le_trans (rem_body L nk n _) (Uu L _)
end
end Go.Proofs.YtljdgdphldckhaaGreat
namespace Go.Proofs.YtljdgdphldckhaaGreat
open Go.ChangeShapes Go.WideShapes Go.ChangeAt Go.RowKit
set_option linter.unusedVariables false
set_option linter.unusedSimpArgs false
def Ue (v : TokV) : Value := .agg #[.int .i64 v.k, .string v.t, .int .i64 v.n, .int .i64 (v.line : Int), .int .i64 (v.col : Int)]
theorem tok_field (a n l c : Int) (b : ByteArray) (w : World) : (Instr.field 85 (.agg #[.int .i64 a, .string b, .int .i64 n, .int .i64 l, .int .i64 c]) 0).run Tryz.prog w = .ok (.int .i64 a) w := by kernel_rfl
structure At (w : World) (p : Nat) (v : TokV) (d : Int) (r o n c : Nat) : Prop where
 c0 : w.cell? ⟨p, 0, none⟩ = some (.slice (some ⟨r, o, none⟩) n c)
 c1 : w.cell? ⟨p, 1, none⟩ = some (.int .i64 d)
 t0 : w.cell? ⟨r, o, none⟩ = some (.int .i64 v.k)
 t1 : w.cell? ⟨r, o + 1, none⟩ = some (.string v.t)
 t2 : w.cell? ⟨r, o + 2, none⟩ = some (.int .i64 v.n)
 t3 : w.cell? ⟨r, o + 3, none⟩ = some (.int .i64 (v.line : Int))
 t4 : w.cell? ⟨r, o + 4, none⟩ = some (.int .i64 (v.col : Int))
 pin : p < w.heap.size
 rin : r < w.heap.size
 n0 : 0 < n
 n1 : (n : Int) ≤ 9223372036854775807
theorem At.below {w w' : World} {p : Nat} {v : TokV} {d : Int} {r o n c : Nat} (h : At w p v d r o n c) (hb : Below w.heap.size w w') : At w' p v d r o n c := by
 have hp := h.pin
 have hr := h.rin
 have key : ∀ b j, b < w.heap.size → w'.cell? ⟨b, j, none⟩ = w.cell? ⟨b, j, none⟩ := fun b j hj => hb.cell (p := ⟨b, j, none⟩) hj
 exact ⟨(key _ _ hp).trans h.c0, (key _ _ hp).trans h.c1, (key _ _ hr).trans h.t0, (key _ _ hr).trans h.t1, (key _ _ hr).trans h.t2, (key _ _ hr).trans h.t3, (key _ _ hr).trans h.t4, Nat.lt_of_lt_of_le hp hb.size, Nat.lt_of_lt_of_le hr hb.size, h.n0, h.n1⟩
theorem cStands (w : World) (p : Nat) (v : TokV) (d : Int) (r o n c : Nat) (h : At w p v d r o n c) :
   Calls Tryz.prog 172 #[.pointer (some ⟨p, 0, none⟩)] w fun e w' => e = .returned (.bool true) ∧ w = w' := by
 obtain ⟨c0, c1, t0, t1, t2, t3, t4, pin, rin, n0, n1⟩ := h
 go_enter Tryz.func172, Tryz.ntmps172
 go_wp2
 go_ret
 exact ⟨rfl, rfl⟩
theorem cPeek (w : World) (p : Nat) (v : TokV) (d : Int) (r o n c : Nat) (h : At w p v d r o n c) :
   Calls Tryz.prog 133 #[.pointer (some ⟨p, 0, none⟩)] w fun e w' => e = .returned (Ue v) ∧ Below w.heap.size w w' := by
 have h1 := h.below ((Below.refl _ _).alloc (Nat.le_refl _) (.cells #[.int .i64 0, .string ⟨#[]⟩, .int .i64 0, .int .i64 0, .int .i64 0] 85))
 have H1 := Hh h1
 obtain ⟨c0, c1, t0, t1, t2, t3, t4, pin, rin, n0, n1⟩ := h1
 have rin' := h.rin
 have pin' := h.pin
 clear h
 unfold Ue
 go_enter Tryz.func133, Tryz.ntmps133
 go_wp2_with (go_at_call 172; refine (cStands _ _ v d r o n c H1.out).mono ?_; rintro e w1 ⟨rfl, rfl⟩)
 refine bodyPost_ret (v := .agg #[.int .i64 v.k, .string v.t, .int .i64 v.n, .int .i64 (v.line : Int), .int .i64 (v.col : Int)]) (by simp [results, Tryz.results133, go_sem]) rfl ⟨rfl, ?_⟩
 exact (Below.refl _ _).alloc (Nat.le_refl _) _
theorem Za.set3 {w : World} {g : Nat} {t : TypeId} {a b c : Value} (h : Za w g t #[a, b, c]) (x0 x1 x2 : Value) :
   Za (((w.setCell ⟨g, 0, none⟩ x0).setCell ⟨g, 1, none⟩ x1).setCell ⟨g, 2, none⟩ x2) g t #[x0, x1, x2] := ((h.write 0 x0).write 1 x1).write 2 x2
theorem Below.set3 {B g : Nat} {w0 w : World} (h : Below B w0 w) (hg : B ≤ g) (x0 x1 x2 : Value) :
   Below B w0 (((w.setCell ⟨g, 0, none⟩ x0).setCell ⟨g, 1, none⟩ x1).setCell ⟨g, 2, none⟩ x2) := ((h.setCell hg x0).setCell hg x1).setCell hg x2
theorem cHere (w : World) (p : Nat) (v : TokV) (d : Int) (r o n c : Nat) (E : Int) (h : At w p v d r o n c) :
   Calls Tryz.prog 173 #[.pointer (some ⟨p, 0, none⟩), .int .i64 E] w fun e w' => e = .returned (Zo (E, v.line, v.col)) ∧ Below w.heap.size w w' := by
 have h1 := h.below ((Below.refl _ _).alloc (Nat.le_refl _) (.cells #[.int .i64 0, .int .i64 0, .int .i64 0] 29))
 have H1 := Hh h1
 have F0 := Za.made w 29 #[.int .i64 0, .int .i64 0, .int .i64 0]
 clear h h1
 unfold Zo
 go_enter Tryz.func173, Tryz.ntmps173
 go_wp2_with (first
 | (go_at_call 172; refine (cStands _ _ v d r o n c H1.out).mono ?_; rintro e w1 ⟨rfl, rfl⟩)
 | (go_at_call 133; refine (cPeek _ _ v d r o n c H1.out).mono ?_; rintro e w2 ⟨rfl, b2⟩; have W2 := Hh (F0.below b2 (by simp)); obtain ⟨k0, k1, k2, f0, f1, f2⟩ := Xf W2.out; have hz := W2.out.inside; have B2 := Hh b2; clear b2; simp only [Ue]))
 have hF := Xf ((Za.set3 W2.out (.int .i64 E) (.int .i64 (v.line : Int)) (.int .i64 (v.col : Int))).alloc (.cells #[.int .i64 v.k, .string v.t, .int .i64 v.n, .int .i64 (v.line : Int), .int .i64 (v.col : Int)] 85))
 refine bodyPost_ret (v := .agg #[.int .i64 E, .int .i64 (v.line : Int), .int .i64 (v.col : Int)]) (by simp [results, Tryz.results173, go_sem, hF]) rfl ⟨rfl, ?_⟩
 exact (Below.set3 (((Below.refl _ _).alloc (Nat.le_refl _) _).trans (B2.out.mono (by simp))) (Nat.le_refl _) _ _ _).alloc (by simp; omega) _
theorem cIs (w : World) (p : Nat) (v : TokV) (d : Int) (r o n c : Nat) (t : ByteArray) (h : At w p v d r o n c) :
   Calls Tryz.prog 174 #[.pointer (some ⟨p, 0, none⟩), .string t] w fun e w' => e = .returned (.bool (isT v t)) ∧ Below w.heap.size w w' := by
 have H1 := Hh h
 have HT : Hid (isT v t = ((v.k == 1 || v.k == 4) && (v.t.toList == t.toList))) := Hh rfl
 clear h
 cases h1 : (v.k == 1) <;> cases h4 : (v.k == 4) <;> cases ht : (v.t.toList == t.toList)
 all_goals
   have HH := Hh (And.intro h1 (And.intro h4 ht))
   go_enter Tryz.func174, Tryz.ntmps174
   go_wp2_with (go_at_call 133; refine (cPeek _ _ v d r o n c H1.out).mono ?_; rintro e w2 ⟨rfl, b2⟩; have B2 := Hh b2; clear b2; simp only [Ue])
   go_ret
   exact ⟨by rw [HT.out, HH.out.1, HH.out.2.1, HH.out.2.2]; rfl, B2.out.alloc B2.out.size _⟩
theorem cWrong (w : World) (p : Nat) (v : TokV) (d : Int) (r o n c : Nat) (h : At w p v d r o n c) :
   Calls Tryz.prog 135 #[.pointer (some ⟨p, 0, none⟩)] w fun e w' => e = .returned (Zo (wrF v)) ∧ Below w.heap.size w w' := by
 have h1 := h.below ((Below.refl _ _).alloc (Nat.le_refl _) (.cells #[.int .i64 0, .int .i64 0, .int .i64 0] 29))
 have H1 := Hh h1
 have F0 := Za.made w 29 #[.int .i64 0, .int .i64 0, .int .i64 0]
 have hfd := fun w => tok_field v.k v.n (v.line : Int) (v.col : Int) v.t w
 clear h h1
 unfold Zo wrF
 by_cases hk : v.k = 0
 · have q0 : (v.k == 0) = true := by rw [hk]; rfl
   rw [if_pos hk]
   clear hk
   go_enter Tryz.func135, Tryz.ntmps135
   go_wp2_with (first
 | (go_at_call 133; refine (cPeek _ _ v d r o n c H1.out).mono ?_; rintro e w2 ⟨rfl, b2⟩; have H2 := Hh (H1.out.below b2); have W2 := Hh (F0.below b2 (by simp)); have B2 := Hh b2; clear b2; simp only [Ue])
 | (go_at_call 173; refine (cHere _ _ v d r o n c _ H2.out).mono ?_; rintro e w3 ⟨rfl, b3⟩; have W3 := Hh (W2.out.below b3 W2.out.inside); obtain ⟨k0, k1, k2, f0, f1, f2⟩ := Xf W3.out; have hz := W3.out.inside; have B3 := Hh (Je B2.out b3); clear b3; simp only [Zo]))
   have hF := Xf (Za.set3 W3.out (.int .i64 2) (.int .i64 (v.line : Int)) (.int .i64 (v.col : Int)))
   refine bodyPost_ret (v := .agg #[.int .i64 2, .int .i64 (v.line : Int), .int .i64 (v.col : Int)]) (by simp [results, Tryz.results135, go_sem, hF]) rfl ⟨rfl, ?_⟩
   exact Below.set3 (((Below.refl _ _).alloc (Nat.le_refl _) _).trans (B3.out.mono (by simp))) (Nat.le_refl _) _ _ _
 · have q0 : (v.k == 0) = false := by rw [beq_eq_false_iff_ne]; exact hk
   rw [if_neg hk]
   clear hk
   go_enter Tryz.func135, Tryz.ntmps135
   go_wp2_with (first
 | (go_at_call 133; refine (cPeek _ _ v d r o n c H1.out).mono ?_; rintro e w2 ⟨rfl, b2⟩; have H2 := Hh (H1.out.below b2); have W2 := Hh (F0.below b2 (by simp)); have B2 := Hh b2; clear b2; simp only [Ue])
 | (go_at_call 173; refine (cHere _ _ v d r o n c _ H2.out).mono ?_; rintro e w3 ⟨rfl, b3⟩; have W3 := Hh (W2.out.below b3 W2.out.inside); obtain ⟨k0, k1, k2, f0, f1, f2⟩ := Xf W3.out; have hz := W3.out.inside; have B3 := Hh (Je B2.out b3); clear b3; simp only [Zo]))
   have hF := Xf (Za.set3 W3.out (.int .i64 7) (.int .i64 (v.line : Int)) (.int .i64 (v.col : Int)))
   refine bodyPost_ret (v := .agg #[.int .i64 7, .int .i64 (v.line : Int), .int .i64 (v.col : Int)]) (by simp [results, Tryz.results135, go_sem, hF]) rfl ⟨rfl, ?_⟩
   exact Below.set3 (((Below.refl _ _).alloc (Nat.le_refl _) _).trans (B3.out.mono (by simp))) (Nat.le_refl _) _ _ _
end Go.Proofs.YtljdgdphldckhaaGreat
