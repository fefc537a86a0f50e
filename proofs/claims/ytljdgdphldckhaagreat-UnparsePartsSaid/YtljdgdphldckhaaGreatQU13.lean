/-
  No conditions but those that each theorem names.
-/
import Derived.Test.YtljdgdphldckhaaGreatQU12
set_option maxRecDepth 20000
set_option maxHeartbeats 12800000
namespace Go.Proofs.YtljdgdphldckhaaGreat
open Go.ChangeShapes Go.WideShapes Go.ChangeAt Go.RowKit
set_option linter.unusedVariables false
set_option linter.unusedSimpArgs false
def Vu(v:TokV):Value:=.agg #[.int .i64 v.k,.string v.t,.int .i64 v.n,.int .i64 (v.line:Int),.int .i64 (v.col:Int)]
theorem Zgd(a n l c:Int)(b:ByteArray)(w:World):(Instr.field 85 (.agg #[.int .i64 a,.string b,.int .i64 n,.int .i64 l,.int .i64 c]) 0).run Tryz.prog w=.ok (.int .i64 a) w:=by kernel_rfl
structure At(w:World)(p:Nat)(v:TokV)(d:Int)(r o n c:Nat):Prop where
 c0:w.cell? ⟨p,0,none⟩=some (.slice (some ⟨r,o,none⟩) n c)
 c1:w.cell? ⟨p,1,none⟩=some (.int .i64 d)
 t0:w.cell? ⟨r,o,none⟩=some (.int .i64 v.k)
 t1:w.cell? ⟨r,o+1,none⟩=some (.string v.t)
 t2:w.cell? ⟨r,o+2,none⟩=some (.int .i64 v.n)
 t3:w.cell? ⟨r,o+3,none⟩=some (.int .i64 (v.line:Int))
 t4:w.cell? ⟨r,o+4,none⟩=some (.int .i64 (v.col:Int))
 pin:p<w.heap.size
 rin:r<w.heap.size
 n0:0<n
 n1:(n:Int)≤9223372036854775807
theorem At.below{w w':World}{p:Nat}{v:TokV}{d:Int}{r o n c:Nat}(h:At w p v d r o n c)(hb:Below w.heap.size w w'):At w' p v d r o n c:=by
 have hp:=h.pin;have hr:=h.rin;have key:∀ b j,b<w.heap.size→w'.cell? ⟨b,j,none⟩=w.cell? ⟨b,j,none⟩:=fun b j hj=>hb.cell (p:=⟨b,j,none⟩) hj
 exact⟨(key _ _ hp).trans h.c0,(key _ _ hp).trans h.c1,(key _ _ hr).trans h.t0,(key _ _ hr).trans h.t1,(key _ _ hr).trans h.t2,(key _ _ hr).trans h.t3,(key _ _ hr).trans h.t4,Nat.lt_of_lt_of_le hp hb.size,Nat.lt_of_lt_of_le hr hb.size,h.n0,h.n1⟩
theorem Zoz(w:World)(p:Nat)(v:TokV)(d:Int)(r o n c:Nat)(h:At w p v d r o n c) :
  Calls Tryz.prog 172 #[.pointer (some ⟨p,0,none⟩)] w fun e w'=>e=.returned (.bool true)∧w=w':=by
 obtain⟨c0,c1,t0,t1,t2,t3,t4,pin,rin,n0,n1⟩:=h;go_enter Tryz.func172,Tryz.ntmps172;go_wp2
 go_ret;exact⟨rfl,rfl⟩
theorem Zml(w:World)(p:Nat)(v:TokV)(d:Int)(r o n c:Nat)(h:At w p v d r o n c) :
  Calls Tryz.prog 133 #[.pointer (some ⟨p,0,none⟩)] w fun e w'=>e=.returned (Vu v)∧Below w.heap.size w w':=by
 have h1:=h.below ((Below.refl _ _).alloc (Nat.le_refl _) (.cells #[.int .i64 0,.string ⟨#[]⟩,.int .i64 0,.int .i64 0,.int .i64 0] 85));have H1:=Hh h1;obtain⟨c0,c1,t0,t1,t2,t3,t4,pin,rin,n0,n1⟩:=h1;have rin':=h.rin;have pin':=h.pin;clear h;unfold Vu;go_enter Tryz.func133,Tryz.ntmps133;go_wp2_with(go_at_call 172;refine(Zoz _ _ v d r o n c H1.out).mono ?_;rintro e w1 ⟨rfl,rfl⟩)
 refine bodyPost_ret (v:=.agg #[.int .i64 v.k,.string v.t,.int .i64 v.n,.int .i64 (v.line:Int),.int .i64 (v.col:Int)]) (by simp[results,Tryz.results133,go_sem]) rfl ⟨rfl,?_⟩;exact(Below.refl _ _).alloc (Nat.le_refl _) _
theorem Zd.set3{w:World}{g:Nat}{t:TypeId}{a b c:Value}(h:Zd w g t #[a,b,c])(x0 x1 x2:Value) :
 Zd (((w.setCell ⟨g,0,none⟩ x0).setCell ⟨g,1,none⟩ x1).setCell ⟨g,2,none⟩ x2) g t #[x0,x1,x2]:=((h.write 0 x0).write 1 x1).write 2 x2
theorem Below.set3{B g:Nat}{w0 w:World}(h:Below B w0 w)(hg:B≤g)(x0 x1 x2:Value) :
 Below B w0 (((w.setCell ⟨g,0,none⟩ x0).setCell ⟨g,1,none⟩ x1).setCell ⟨g,2,none⟩ x2):=((h.setCell hg x0).setCell hg x1).setCell hg x2
theorem cHere(w:World)(p:Nat)(v:TokV)(d:Int)(r o n c:Nat)(E:Int)(h:At w p v d r o n c) :
  Calls Tryz.prog 173 #[.pointer (some ⟨p,0,none⟩),.int .i64 E] w fun e w'=>e=.returned (Zq (E,v.line,v.col))∧Below w.heap.size w w':=by
 have h1:=h.below ((Below.refl _ _).alloc (Nat.le_refl _) (.cells #[.int .i64 0,.int .i64 0,.int .i64 0] 29));have H1:=Hh h1;have F0:=Zd.made w 29 #[.int .i64 0,.int .i64 0,.int .i64 0];clear h h1;unfold Zq;go_enter Tryz.func173,Tryz.ntmps173;go_wp2_with(first
 |(go_at_call 172;refine(Zoz _ _ v d r o n c H1.out).mono ?_;rintro e w1 ⟨rfl,rfl⟩)
 |(go_at_call 133;refine(Zml _ _ v d r o n c H1.out).mono ?_;rintro e w2 ⟨rfl,b2⟩;have W2:=Hh (F0.below b2 (by simp));obtain⟨k0,k1,k2,f0,f1,f2⟩:=Zz W2.out;have hz:=W2.out.inside;have B2:=Hh b2;clear b2;simp only[Vu]))
 have hF:=Zz ((Zd.set3 W2.out (.int .i64 E) (.int .i64 (v.line:Int)) (.int .i64 (v.col:Int))).alloc (.cells #[.int .i64 v.k,.string v.t,.int .i64 v.n,.int .i64 (v.line:Int),.int .i64 (v.col:Int)] 85));refine bodyPost_ret (v:=.agg #[.int .i64 E,.int .i64 (v.line:Int),.int .i64 (v.col:Int)]) (by simp[results,Tryz.results173,go_sem,hF]) rfl ⟨rfl,?_⟩;exact(Below.set3 (((Below.refl _ _).alloc (Nat.le_refl _) _).trans (B2.out.mono (by simp))) (Nat.le_refl _) _ _ _).alloc (by simp;omega) _
theorem cIs(w:World)(p:Nat)(v:TokV)(d:Int)(r o n c:Nat)(t:ByteArray)(h:At w p v d r o n c) :
  Calls Tryz.prog 174 #[.pointer (some ⟨p,0,none⟩),.string t] w fun e w'=>e=.returned (.bool (isT v t))∧Below w.heap.size w w':=by
 have H1:=Hh h;have HT:Hid (isT v t=((v.k == 1 || v.k == 4) && (v.t.toList == t.toList))):=Hh rfl;clear h;cases h1:(v.k == 1)<;>cases h4:(v.k == 4)<;>cases ht:(v.t.toList == t.toList)
 all_goals
  have HH:=Hh (And.intro h1 (And.intro h4 ht));go_enter Tryz.func174,Tryz.ntmps174;go_wp2_with(go_at_call 133;refine(Zml _ _ v d r o n c H1.out).mono ?_;rintro e w2 ⟨rfl,b2⟩;have B2:=Hh b2;clear b2;simp only[Vu])
  go_ret;exact⟨by rw[HT.out,HH.out.1,HH.out.2.1,HH.out.2.2];rfl,B2.out.alloc B2.out.size _⟩
theorem cWrong(w:World)(p:Nat)(v:TokV)(d:Int)(r o n c:Nat)(h:At w p v d r o n c) :
  Calls Tryz.prog 135 #[.pointer (some ⟨p,0,none⟩)] w fun e w'=>e=.returned (Zq (wrF v))∧Below w.heap.size w w':=by
 have h1:=h.below ((Below.refl _ _).alloc (Nat.le_refl _) (.cells #[.int .i64 0,.int .i64 0,.int .i64 0] 29));have H1:=Hh h1;have F0:=Zd.made w 29 #[.int .i64 0,.int .i64 0,.int .i64 0];have hfd:=fun w=>Zgd v.k v.n (v.line:Int) (v.col:Int) v.t w
 clear h h1;unfold Zq wrF;by_cases hk:v.k=0
 ·have q0:(v.k == 0)=true:=by rw[hk];rfl
  rw[if_pos hk];clear hk;go_enter Tryz.func135,Tryz.ntmps135;go_wp2_with(first
 |(go_at_call 133;refine(Zml _ _ v d r o n c H1.out).mono ?_;rintro e w2 ⟨rfl,b2⟩;have H2:=Hh (H1.out.below b2);have W2:=Hh (F0.below b2 (by simp));have B2:=Hh b2;clear b2;simp only[Vu])
 |(go_at_call 173;refine(cHere _ _ v d r o n c _ H2.out).mono ?_;rintro e w3 ⟨rfl,b3⟩;have W3:=Hh (W2.out.below b3 W2.out.inside);obtain⟨k0,k1,k2,f0,f1,f2⟩:=Zz W3.out;have hz:=W3.out.inside;have B3:=Hh (Ul B2.out b3);clear b3;simp only[Zq]))
  have hF:=Zz (Zd.set3 W3.out (.int .i64 2) (.int .i64 (v.line:Int)) (.int .i64 (v.col:Int)));refine bodyPost_ret (v:=.agg #[.int .i64 2,.int .i64 (v.line:Int),.int .i64 (v.col:Int)]) (by simp[results,Tryz.results135,go_sem,hF]) rfl ⟨rfl,?_⟩;exact Below.set3 (((Below.refl _ _).alloc (Nat.le_refl _) _).trans (B3.out.mono (by simp))) (Nat.le_refl _) _ _ _
 ·have q0:(v.k == 0)=false:=by rw[beq_eq_false_iff_ne];exact hk
  rw[if_neg hk];clear hk;go_enter Tryz.func135,Tryz.ntmps135;go_wp2_with(first
 |(go_at_call 133;refine(Zml _ _ v d r o n c H1.out).mono ?_;rintro e w2 ⟨rfl,b2⟩;have H2:=Hh (H1.out.below b2);have W2:=Hh (F0.below b2 (by simp));have B2:=Hh b2;clear b2;simp only[Vu])
 |(go_at_call 173;refine(cHere _ _ v d r o n c _ H2.out).mono ?_;rintro e w3 ⟨rfl,b3⟩;have W3:=Hh (W2.out.below b3 W2.out.inside);obtain⟨k0,k1,k2,f0,f1,f2⟩:=Zz W3.out;have hz:=W3.out.inside;have B3:=Hh (Ul B2.out b3);clear b3;simp only[Zq]))
  have hF:=Zz (Zd.set3 W3.out (.int .i64 7) (.int .i64 (v.line:Int)) (.int .i64 (v.col:Int)));refine bodyPost_ret (v:=.agg #[.int .i64 7,.int .i64 (v.line:Int),.int .i64 (v.col:Int)]) (by simp[results,Tryz.results135,go_sem,hF]) rfl ⟨rfl,?_⟩;exact Below.set3 (((Below.refl _ _).alloc (Nat.le_refl _) _).trans (B3.out.mono (by simp))) (Nat.le_refl _) _ _ _
end Go.Proofs.YtljdgdphldckhaaGreat
