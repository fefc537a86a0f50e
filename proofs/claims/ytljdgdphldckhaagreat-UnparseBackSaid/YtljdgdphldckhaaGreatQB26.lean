/-
  Texts UnpEx. No conditions but those that each theorem names.
-/
import Derived.Test.YtljdgdphldckhaaGreatQB12
namespace Go.Proofs.YtljdgdphldckhaaGreat
open Go
set_option linter.unusedSimpArgs false
set_option linter.unusedVariables false
def Ex.isBin : Ex → Bool
 | .leaf .. => false
 | .bin .. => true
def Ex.isSum : Ex → Bool
 | .leaf .. => false
 | .bin o _ _ => decide (o < 3)
def Vs (right : Bool) (op : Int) (x : Ex) : Bool := (decide (op = 3) && x.isSum) || (right && x.isBin && (x.isSum || decide (op = 3)))
theorem isSum_bin : ∀ {x : Ex}, x.isSum = true → x.isBin = true
 | .leaf .., h => h
 | .bin .., _ => rfl
theorem must_sum {op : Int} (h3 : op ≠ 3) (l r : Ex) : Vs false op l = false ∧ Vs true op r = r.isSum := by
 constructor
 · unfold Vs; simp [h3]
 · unfold Vs; simp [h3]
   exact isSum_bin
theorem must_times (l r : Ex) : Vs false 3 l = l.isSum ∧ Vs true 3 r = r.isBin := by
 constructor
 · unfold Vs; simp
 · unfold Vs; simp
   exact isSum_bin
def brk (b : Bool) (T : List PT) : List PT := if b = true then pM Wh :: (T ++ [pM Wi]) else T
def tLeaf (kind n : Int) (sel : Se) (side tk tl : Int) : List PT :=
 if kind = 1 then tS n else if kind = 2 ∨ kind = 3 then pw Yj (kind - 1) :: tSel sel else if kind = 4 then [pw Yj 3]
 else if kind = 5 then [pw Yj 4, pw Zk side] else pw Yj 5 :: pw Zk side :: tTo tk tl
def pOp (op : Int) : PT := if op = 3 then pM Wf else pm Un op
def tE : Ex → List PT
 | .leaf kind n sel side tk tl => tLeaf kind n sel side tk tl
 | .bin op l r => brk (Vs false op l) (tE l) ++ pOp op :: brk (Vs true op r) (tE r)
def VLeaf (kind n : Int) (sel : Se) (side tk tl : Int) : Prop :=
 (kind = 1 ∧ (-99 ≤ n ∧ n ≤ 99) ∧ sel = zSe ∧ side = 0 ∧ tk = 0 ∧ tl = 0) ∨ ((kind = 2 ∨ kind = 3) ∧ n = 0 ∧ VSe sel ∧ side = 0 ∧ tk = 0 ∧ tl = 0) ∨
   (kind = 4 ∧ n = 0 ∧ sel = zSe ∧ side = 0 ∧ tk = 0 ∧ tl = 0) ∨ (kind = 5 ∧ n = 0 ∧ sel = zSe ∧ (1 ≤ side ∧ side ≤ 3) ∧ tk = 0 ∧ tl = 0) ∨
   (kind = 6 ∧ n = 0 ∧ sel = zSe ∧ (1 ≤ side ∧ side ≤ 3) ∧ VTo tk tl)
def VEx : Ex → Prop
 | .leaf kind n sel side tk tl => VLeaf kind n sel side tk tl
 | .bin op l r => (1 ≤ op ∧ op ≤ 3) ∧ VEx l ∧ VEx r
def kD (b : Bool) (n : Nat) : Nat := if b = true then n + 1 else n
def pD : Ex → Nat
 | .leaf .. => 0
 | .bin op l r => max (kD (Vs false op l) (pD l)) (kD (Vs true op r) (pD r))
theorem tS_len (n : Int) : 1 ≤ (tS n).length := by unfold tS; split <;> simp
theorem tSel_len (s : Se) : s.fs.length + 1 ≤ (tSel s).length ∨ s.kind = 1 ∨ s.kind = 2 := by
 by_cases h : s.kind = 1 ∨ s.kind = 2
 · exact .inr h
 · left
   unfold tSel; rw [if_neg h]; simp only [List.length_cons, List.length_append]
   have := tFls_len s.fs
   omega
theorem sel_fuel {s : Se} (h : VSe s) {n : Nat} (hn : (tSel s).length ≤ n + 1) : s.fs.length ≤ n := by
 rcases h with ⟨_, _, _, _, h, _⟩ | ⟨h, _⟩
 · rw [h]; exact Nat.zero_le _
 · have := tSel_len s; omega
theorem tLeaf_len (kind n : Int) (sel : Se) (side tk tl : Int) : 1 ≤ (tLeaf kind n sel side tk tl).length := by
 unfold tLeaf; have := tS_len n; split
 · exact this
 · split
   · simp
   · split
     · simp
     · split <;> simp
theorem tE_len : ∀ x : Ex, 1 ≤ (tE x).length
 | .leaf kind n sel side tk tl => tLeaf_len ..
 | .bin op l r => by unfold tE; simp only [List.length_append, List.length_cons]; omega
theorem brk_len (b : Bool) (T : List PT) : (brk b T).length = if b = true then T.length + 2 else T.length := by unfold brk; split <;> simp
section
variable {L : List TokV} {nk : Int}
theorem leaf_fit {kind n : Int} {sel : Se} {side tk tl : Int} {a d m : Nat} (hv : VLeaf kind n sel side tk tl) (hm : (tLeaf kind n sel side tk tl).length ≤ m) (hf : Zay L a (tLeaf kind n sel side tk tl)) :
   Wo nk L (m + 1) (.ok a d) = (.leaf kind n sel side tk tl, .ok (a + (tLeaf kind n sel side tk tl).length) d) := by
 rcases hv with ⟨rfl, hn, rfl, rfl, rfl, rfl⟩ | ⟨hk, rfl, hs, rfl, rfl, rfl⟩ | ⟨rfl, rfl, rfl, rfl, rfl, rfl⟩ | ⟨rfl, rfl, rfl, hs, rfl, rfl⟩ | ⟨rfl, rfl, rfl, hs, ht⟩
 · have e : tLeaf 1 n zSe 0 0 0 = tS n := rfl
   rw [e] at hf ⊢
   have hh : ∃ p r, tS n = p :: r ∧ isT p.v Wh = false ∧ Xg p.v Yj = 0 := by
     unfold tS
     split
     · exact ⟨_, _, rfl, by decide +kernel, by decide +kernel⟩
     · exact ⟨_, _, rfl, rfl, rfl⟩
   obtain ⟨p, r, hp, h1, h2⟩ := hh
   have hf0 := hf
   rw [hp] at hf
   rw [Wo, is_fit hf.1, h1, if_neg Bool.false_ne_true, Xd hf.1, if_pos h2, (sign_fit hf0).1, (sign_fit hf0).2]
 · have hk1 : ¬ kind = 1 := by omega
   have e : tLeaf kind 0 sel 0 0 0 = pw Yj (kind - 1) :: tSel sel := by unfold tLeaf; rw [if_neg hk1, if_pos hk]
   rw [e] at hf hm ⊢
   obtain ⟨g1, g2⟩ := hf
   have x1 := x_fact (k := kind - 1) (by omega) (by omega)
   have hm' := sel_fuel hs (n := m) (by simp only [List.length_cons] at hm; omega)
   have e := sel_fit (nk := nk) (d := d) hs hm' g2
   rw [Wo, is_fit g1, x1.2, if_neg Bool.false_ne_true, Xd g1, if_neg (by omega), if_pos (by omega), Vw g1 n1 (by omega), e]
   have hc : (Xg (pw Yj (kind - 1)).v Yj : Int) + 1 = kind := by omega
   rw [hc]
   simp only [List.length_cons]
   rw [show a + 1 + (tSel sel).length = a + ((tSel sel).length + 1) from by omega]
 · have e : tLeaf 4 0 zSe 0 0 0 = [pw Yj 3] := rfl
   rw [e] at hf ⊢
   obtain ⟨g1, _⟩ := hf
   have x1 := x_fact (k := 3) (by decide) (by decide)
   rw [Wo, is_fit g1, x1.2, if_neg Bool.false_ne_true, Xd g1, if_neg (by omega), if_neg (by omega), if_pos (by omega), Vw g1 n1 (by omega)]
   rfl
 · have e : tLeaf 5 0 zSe side 0 0 = [pw Yj 4, pw Zk side] := rfl
   rw [e] at hf ⊢
   obtain ⟨g1, g2, _⟩ := hf
   have x1 := x_fact (k := 4) (by decide) (by decide)
   have x2 := x_side hs.1 hs.2
   rw [Wo, is_fit g1, x1.2, if_neg Bool.false_ne_true, Xd g1, if_neg (by omega), if_neg (by omega), if_neg (by omega), if_pos (by omega), Vw g1 n1 (by omega),
     Xd g2, Uk g2 n1 (by omega), x2]
   rfl
 · have e : tLeaf 6 0 zSe side tk tl = pw Yj 5 :: pw Zk side :: tTo tk tl := rfl
   rw [e] at hf ⊢
   obtain ⟨g1, g2, g3⟩ := hf
   have x1 := x_fact (k := 5) (by decide) (by decide)
   have x2 := x_side hs.1 hs.2
   have e := to_fit (d := d) ht g3
   rw [Wo, is_fit g1, x1.2, if_neg Bool.false_ne_true, Xd g1, if_neg (by omega), if_neg (by omega), if_neg (by omega), if_neg (by omega), Vw g1 n1 (by omega),
     Xd g2, Uk g2 n1 (by omega), x2, e.1, e.2.1, e.2.2]
   simp only [List.length_cons]
   rw [show a + 1 + 1 + (tTo tk tl).length = a + ((tTo tk tl).length + 1 + 1) from by omega]
theorem exprL_stop {n a d : Nat} {x : Ex} (h : Xg (Zp L a) Un = 0) : Uq nk L n (x, .ok a d) = (x, .ok a d) := by
 cases n with
 | zero => rfl
 | succ n =>
   have h' : Zd L Un (.ok a d) = 0 := h
   rw [Uq, if_pos h']
theorem prodL_stop {n a d : Nat} {x : Ex} (h : isT (Zp L a) Wf = false) : Ud nk L n (x, .ok a d) = (x, .ok a d) := by
 cases n with
 | zero => rfl
 | succ n =>
   have h' : ¬ isS L Wf (.ok a d) = true := by show ¬ isT (Zp L a) Wf = true; rw [h]; simp
   rw [Ud, if_neg h']
def SumFit (nk : Int) (L : List TokV) (x : Ex) : Prop := ∀ n a d, Zay L a (tE x) → pD x + d ≤ 8 → 4 * (tE x).length + 4 ≤ n → isT (Zp L (a + (tE x).length)) Wf = false →
 ∃ m, n ≤ m + 4 * (tE x).length ∧ Yg nk L n (.ok a d) = Uq nk L m (x, .ok (a + (tE x).length) d)
def ProFit (nk : Int) (L : List TokV) (x : Ex) : Prop := ∀ n a d, Zay L a (tE x) → pD x + d ≤ 8 → 4 * (tE x).length + 3 ≤ n →
 ∃ m, n ≤ m + 4 * (tE x).length ∧ Vh nk L n (.ok a d) = Ud nk L m (x, .ok (a + (tE x).length) d)
def KidFit (nk : Int) (L : List TokV) (b : Bool) (x : Ex) : Prop := ∀ n a d, Zay L a (brk b (tE x)) → kD b (pD x) + d ≤ 8 → 4 * (brk b (tE x)).length + 2 ≤ n →
 Wo nk L n (.ok a d) = (x, .ok (a + (brk b (tE x)).length) d)
theorem kid_brk {x : Ex} (h : SumFit nk L x) : KidFit nk L true x := by
 intro n a d hf hp hn
 rw [brk_len, if_pos rfl] at hn ⊢
 unfold brk at hf
 rw [if_pos rfl] at hf
 obtain ⟨g1, g2⟩ := hf
 obtain ⟨g2, g3⟩ := Xu.1 g2
 unfold kD at hp
 rw [if_pos rfl] at hp
 obtain ⟨n, rfl⟩ : ∃ k, n = k + 1 := ⟨n - 1, by omega⟩
 obtain ⟨m, _, e⟩ := h n (a + 1) (d + 1) g2 (by omega) (by omega) (by rw [Jy g3.1]; decide +kernel)
 rw [Wo, is_fit g1, isM, if_pos rfl, down_fit g1 (by omega), e, exprL_stop (by rw [Zbm g3.1]; decide +kernel)]
 dsimp only
 rw [rise_fit g3.1, show a + 1 + (tE x).length + 1 = a + ((tE x).length + 2) from by omega]
theorem pro_of_kid {x : Ex} {b : Bool} (h : KidFit nk L b x) {n a d : Nat} (hf : Zay L a (brk b (tE x))) (hp : kD b (pD x) + d ≤ 8) (hn : 4 * (brk b (tE x)).length + 3 ≤ n) :
   ∃ m, n ≤ m + 4 * (brk b (tE x)).length ∧ Vh nk L n (.ok a d) = Ud nk L m (x, .ok (a + (brk b (tE x)).length) d) := by
 obtain ⟨n, rfl⟩ : ∃ k, n = k + 1 := ⟨n - 1, by omega⟩
 have hl := tE_len x
 have hb : 1 ≤ (brk b (tE x)).length := by rw [brk_len]; split <;> omega
 exact ⟨n, by omega, by rw [Vh, h n a d hf hp (by omega)]⟩
theorem sum_of_pro {x : Ex} (h : ProFit nk L x) : SumFit nk L x := by
 intro n a d hf hp hn ht
 obtain ⟨n, rfl⟩ : ∃ k, n = k + 1 := ⟨n - 1, by omega⟩
 obtain ⟨m, _, e⟩ := h n a d hf hp (by omega)
 have hl := tE_len x
 exact ⟨n, by omega, by rw [Yg, e, prodL_stop ht]⟩
theorem pro_kid {x : Ex} {b : Bool} (hs : SumFit nk L x) (hp : x.isSum = false → ProFit nk L x) (hb : b = false → x.isSum = false) {n a d : Nat} (hf : Zay L a (brk b (tE x))) (hd : kD b (pD x) + d ≤ 8)
   (hn : 4 * (brk b (tE x)).length + 3 ≤ n) : ∃ m, n ≤ m + 4 * (brk b (tE x)).length ∧ Vh nk L n (.ok a d) = Ud nk L m (x, .ok (a + (brk b (tE x)).length) d) := by
 cases b with
 | true => exact pro_of_kid (kid_brk hs) hf hd hn
 | false => exact hp (hb rfl) n a d hf hd hn
theorem expr_fits : ∀ x : Ex, VEx x → SumFit nk L x ∧ (x.isSum = false → ProFit nk L x) ∧ (x.isBin = false → KidFit nk L false x)
 | .leaf kind n sel side tk tl, hv => by
   have k : KidFit nk L false (.leaf kind n sel side tk tl) := by
     intro m a d hf hp hn
     have hn' : 4 * (tLeaf kind n sel side tk tl).length + 2 ≤ m := hn
     obtain ⟨m, rfl⟩ : ∃ k, m = k + 1 := ⟨m - 1, by omega⟩
     exact leaf_fit hv (by omega) hf
   have p : ProFit nk L (.leaf kind n sel side tk tl) := fun m a d hf hp hn => pro_of_kid k hf hp hn
   exact ⟨sum_of_pro p, fun _ => p, fun _ => k⟩
 | .bin op l r, hv => by
   obtain ⟨ho, hl, hr⟩ := hv
   obtain ⟨l1, l2, l3⟩ := expr_fits l hl
   obtain ⟨r1, r2, r3⟩ := expr_fits r hr
   have hlen : (tE (.bin op l r)).length = (brk (Vs false op l) (tE l)).length + (1 + (brk (Vs true op r) (tE r)).length) := by
     rw [tE]; simp only [List.length_append, List.length_cons]; omega
   have lb : 1 ≤ (brk (Vs false op l) (tE l)).length := by have := tE_len l; rw [brk_len]; split <;> omega
   have rb : 1 ≤ (brk (Vs true op r) (tE r)).length := by have := tE_len r; rw [brk_len]; split <;> omega
   by_cases h3 : op = 3
   · have ml : Vs false op l = l.isSum := by rw [h3]; exact (must_times l r).1
     have mr : Vs true op r = r.isBin := by rw [h3]; exact (must_times l r).2
     have hp : ProFit nk L (.bin op l r) := by
       intro n a d hf hd hn
       rw [hlen] at hn ⊢
       rw [tE] at hf
       obtain ⟨g1, g2, g3⟩ := Xu.1 hf
       rw [pD] at hd
       obtain ⟨m, hm, e⟩ := pro_kid l1 l2 (by rw [ml]; exact id) (n := n) (d := d) g1 (by omega) (by omega)
       obtain ⟨m, rfl⟩ : ∃ k, m = k + 1 := ⟨m - 1, by omega⟩
       have hk : KidFit nk L (Vs true op r) r := by
         rw [mr]
         cases hb : r.isBin with
         | true => exact kid_brk r1
         | false => exact r3 hb
       have e2 := hk m _ d g3 (by omega) (by omega)
       refine ⟨m, by omega, ?_⟩
       have g2' : Fit (Zp L (a + (brk (Vs false op l) (tE l)).length)) (pM Wf) := by unfold pOp at g2; rwa [if_pos h3] at g2
       rw [e, Ud, is_fit g2', isM, if_pos rfl, take_fit g2' n4 (isM _), e2, h3]
       dsimp only
       rw [show a + (brk (Vs false 3 l) (tE l)).length + 1 + (brk (Vs true 3 r) (tE r)).length = a + ((brk (Vs false 3 l) (tE l)).length + (1 + (brk (Vs true 3 r) (tE r)).length)) from by omega]
     exact ⟨sum_of_pro hp, fun _ => hp, fun hb => by cases hb⟩
   · obtain ⟨ml, mr⟩ := must_sum h3 l r
     refine ⟨?_, fun hs => ?_, fun hb => by cases hb⟩
     · intro n a d hf hd hn ht
       rw [hlen] at hn ht ⊢
       rw [tE] at hf
       obtain ⟨g1, g2, g3⟩ := Xu.1 hf
       rw [pD] at hd
       have g2' : Fit (Zp L (a + (brk (Vs false op l) (tE l)).length)) (pm Un op) := by unfold pOp at g2; rwa [if_neg h3] at g2
       have x1 := x_sum (k := op) ho.1 (by omega)
       rw [ml] at g1 g2' g3 hn ht hlen lb hd ⊢
       change Zay L a (tE l) at g1
       change Fit (Zp L (a + (tE l).length)) (pm Un op) at g2'
       change 1 ≤ (tE l).length at lb
       change max (pD l) _ + d ≤ 8 at hd
       obtain ⟨m, hm, e⟩ := l1 n a d g1 (by omega) (by show 4 * (tE l).length + 4 ≤ n; have : (brk false (tE l)).length = (tE l).length := rfl; omega) (by rw [Jy g2']; exact x1.2)
       have hb0 : (brk false (tE l)).length = (tE l).length := rfl
       rw [hb0] at hn ht g3 ⊢
       obtain ⟨m, rfl⟩ : ∃ k, m = k + 1 := ⟨m - 1, by omega⟩
       obtain ⟨m', hm', e2⟩ := pro_kid r1 r2 (by rw [mr]; exact id) (n := m) (d := d) g3 (by omega) (by omega)
       refine ⟨m, by omega, ?_⟩
       have hst : a + (tE l).length + 1 + (brk (Vs true op r) (tE r)).length = a + ((tE l).length + (1 + (brk (Vs true op r) (tE r)).length)) := by omega
       rw [e, Uq, Xd g2', if_neg (by omega), Vw g2' n4 (by omega), e2, hst, prodL_stop ht, x1.1]
     · have : decide (op < 3) = false := hs
       simp at this
       omega
theorem expr_fit {x : Ex} (hv : VEx x) {n a d : Nat} (hf : Zay L a (tE x)) (hd : pD x + d ≤ 8) (hn : 4 * (tE x).length + 4 ≤ n) (h1 : isT (Zp L (a + (tE x).length)) Wf = false)
   (h2 : Xg (Zp L (a + (tE x).length)) Un = 0) : Yg nk L n (.ok a d) = (x, .ok (a + (tE x).length) d) := by
 obtain ⟨m, _, e⟩ := (expr_fits x hv).1 n a d hf hd hn h1
 rw [e, exprL_stop h2]
end
end Go.Proofs.YtljdgdphldckhaaGreat
