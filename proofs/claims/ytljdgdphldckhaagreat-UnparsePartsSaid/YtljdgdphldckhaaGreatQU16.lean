/-
  No conditions but those that each theorem names.
-/
import Derived.Test.YtljdgdphldckhaaGreatQU15
set_option maxRecDepth 20000
set_option maxHeartbeats 12800000
namespace Go.Proofs.YtljdgdphldckhaaGreat
open Go.ChangeShapes Go.WideShapes Go.ChangeAt Go.RowKit
set_option linter.unusedVariables false
set_option linter.unusedSimpArgs false
structure Zai(w:World)(r K:Nat)(L:List TokV):Prop where
 row:∀ j,j<(Jy L).length→w.cell? ⟨r,j,none⟩=(Jy L)[j]?
 rin:r<w.heap.size
 ends:Zmn L
 capL:L.length≤K
 capM:K≤9223372036854775807
theorem Zai.keeps{w w':World}{r K:Nat}{L:List TokV}(h:Zai w r K L){S:Nat→Prop}(hk:Zx S w w')(hr:¬ S r):Zai w' r K L:=
 ⟨fun j hj=>(World.cell?_of_block (a:=⟨r,j,none⟩) (hk.block r h.rin hr)).trans (h.row j hj),Nat.lt_of_lt_of_le h.rin hk.size,h.ends,h.capL,h.capM⟩
theorem Zai.below{w w':World}{r K:Nat}{L:List TokV}(h:Zai w r K L)(hb:Below w.heap.size w w'):Zai w' r K L:=
 h.keeps (S:=fun _=>False) (Zx.of_below hb) id
theorem Zai.at_{w:World}{r K:Nat}{L:List TokV}(h:Zai w r K L){a:Nat}(ha:a<L.length) :
  w.cell? ⟨r,a*5,none⟩=some (.int .i64 (Zv L a).k)∧w.cell? ⟨r,a*5+1,none⟩=some (.string (Zv L a).t)∧w.cell? ⟨r,a*5+2,none⟩=some (.int .i64 (Zv L a).n) ∧
  w.cell? ⟨r,a*5+3,none⟩=some (.int .i64 ((Zv L a).line:Int))∧w.cell? ⟨r,a*5+4,none⟩=some (.int .i64 ((Zv L a).col:Int)):=by
 have hl:=Zkj L
 have key:∀ j,j<5→w.cell? ⟨r,a*5+j,none⟩=(Zv L a).cells[j]?:=fun j hj=>by
  rw[h.row _ (by omega),tokCs_at L a j ha hj,curT_get L a ha]
 exact⟨key 0 (by omega),key 1 (by omega),key 2 (by omega),key 3 (by omega),key 4 (by omega)⟩
def qA(r K n a d:Nat):Value:=.agg #[.slice (some ⟨r,0,none⟩) n K,.int .i64 (a:Int),.int .i64 (d:Int)]
theorem Znt(w:World)(r K:Nat)(L:List TokV)(n a d:Nat)(hn:n=L.length)(h:Zai w r K L)(ha:a<L.length) :
  Calls Tryz.prog 46 #[qA r K n a d,.int .i64 0] w fun e w'=>e=.returned (Vu (Zv L a))∧Below w.heap.size w w':=by
 have h1:=h.below (Zh w (.cells #[.slice (some ⟨r,0,none⟩) n K,.int .i64 (a:Int),.int .i64 (d:Int)] 80));have h2:=h1.below (Zh _ (.cells #[.int .i64 0,.string ⟨#[]⟩,.int .i64 0,.int .i64 0,.int .i64 0] 85));obtain⟨t0,t1,t2,t3,t4⟩:=h2.at_ ha;have rin:=h.rin;have l0:a<n:=by omega
 have l1:(n:Int)≤9223372036854775807:=by have:=h.capL;have:=h.capM;omega
 have l2:(a:Int)≤9223372036854775806:=by omega
 have HN:=Hh hn;clear hn h h1 h2 ha;unfold qA Vu;generalize Zv L a=v at *;go_enter Tryz.func46,Tryz.ntmps46;go_wp2
 refine bodyPost_ret (v:=Vu v) (by simp[results,Tryz.results46,go_sem,Vu]) rfl ⟨rfl,?_⟩;exact((Below.refl _ _).alloc (Nat.le_refl _) _).alloc (by simp) _
theorem qOn(w:World)(r K:Nat)(L:List TokV)(n a d:Nat)(hn:n=L.length)(h:Zai w r K L)(ha:a<L.length) :
  Calls Tryz.prog 100 #[qA r K n a d] w fun e w'=>e=.returned (qA r K n (onA L a) d)∧Below w.heap.size w w':=by
 have hon:=h.ends.on' ha;have l0:(a:Int)<(n:Int):=by omega
 have l1:(n:Int)≤9223372036854775807:=by have:=h.capL;have:=h.capM;omega
 rw[hon,←hn];clear hon hn h ha;unfold qA;by_cases hl:(a:Int)<(n:Int) - 1
 ·rw[if_pos hl]
  go_enter Tryz.func100,Tryz.ntmps100;go_wp2
  refine bodyPost_ret (v:=qA r K n (a+1) d) (by simp[results,Tryz.results100,go_sem,qA]) rfl ⟨by simp[qA],?_⟩;exact((Below.refl _ _).alloc (Nat.le_refl _) _).alloc (by simp) _
 ·rw[if_neg hl]
  go_enter Tryz.func100,Tryz.ntmps100;go_wp2
  refine bodyPost_ret (v:=qA r K n a d) (by simp[results,Tryz.results100,go_sem,qA]) rfl ⟨rfl,?_⟩;exact((Below.refl _ _).alloc (Nat.le_refl _) _).alloc (by simp) _
theorem qIs(w:World)(r K:Nat)(L:List TokV)(n a d:Nat)(t:ByteArray)(hn:n=L.length)(h:Zai w r K L)(ha:a<L.length) :
  Calls Tryz.prog 99 #[qA r K n a d,.string t] w fun e w'=>e=.returned (.bool (isT (Zv L a) t))∧Below w.heap.size w w':=by
 have h1:=h.below (Zh w (.cells #[.slice (some ⟨r,0,none⟩) n K,.int .i64 (a:Int),.int .i64 (d:Int)] 80));have hi:=Znt _ r K L n a d hn h1 ha;clear hn h h1 ha;unfold qA at hi ⊢;generalize Zv L a=v at *;have HT:Hid (isT v t=((v.k == 1 || v.k == 4) && (v.t.toList == t.toList))):=Hh rfl;cases h1:(v.k == 1)<;>cases h4:(v.k == 4)<;>cases ht:(v.t.toList == t.toList)
 all_goals
  have HH:=Hh (And.intro h1 (And.intro h4 ht));go_enter Tryz.func99,Tryz.ntmps99;go_wp2_with(go_at_call 46;refine hi.mono ?_;rintro e w2 ⟨rfl,b2⟩;have B2:=Hh b2;clear b2;simp only[Vu])
  go_ret;have hb:=Ul (Zh _ _) B2.out;exact⟨by rw[HT.out,HH.out.1,HH.out.2.1,HH.out.2.2];rfl,hb.alloc hb.size _⟩
theorem qwrong(w:World)(v:TokV) :
  Calls Tryz.prog 198 #[Vu v] w fun e w'=>e=.returned (Zq (wrF v))∧Below w.heap.size w w':=by
 unfold Vu wrF;by_cases hk:v.k=0
 ·have q0:(v.k == 0)=true:=by rw[hk];rfl
  rw[if_pos hk];clear hk;go_enter Tryz.func198,Tryz.ntmps198;go_wp2
  refine bodyPost_ret (v:=Zq (2,v.line,v.col)) (by simp[results,Tryz.results198,go_sem,Zq]) rfl ⟨rfl,?_⟩;exact((Below.refl _ _).alloc (Nat.le_refl _) _).alloc (by simp) _
 ·have q0:(v.k == 0)=false:=by rw[beq_eq_false_iff_ne];exact hk
  rw[if_neg hk];clear hk;go_enter Tryz.func198,Tryz.ntmps198;go_wp2
  refine bodyPost_ret (v:=Zq (7,v.line,v.col)) (by simp[results,Tryz.results198,go_sem,Zq]) rfl ⟨rfl,?_⟩;exact((Below.refl _ _).alloc (Nat.le_refl _) _).alloc (by simp) _
theorem qWrong(w:World)(r K:Nat)(L:List TokV)(n a d:Nat)(hn:n=L.length)(h:Zai w r K L)(ha:a<L.length) :
  Calls Tryz.prog 150 #[qA r K n a d] w fun e w'=>e=.returned (Zq (wrF (Zv L a)))∧Below w.heap.size w w':=by
 have h1:=h.below (Zh w (.cells #[.slice (some ⟨r,0,none⟩) n K,.int .i64 (a:Int),.int .i64 (d:Int)] 80));have h2:=h1.below (Zh _ (.cells #[.int .i64 0,.int .i64 0,.int .i64 0] 29));have T0:=Hh (Two.start w 80 #[.slice (some ⟨r,0,none⟩) n K,.int .i64 (a:Int),.int .i64 (d:Int)] 29 #[.int .i64 0,.int .i64 0,.int .i64 0]);have hi:=Znt _ r K L n a d hn h2 ha;clear hn h h1 h2 ha;unfold qA at hi ⊢;generalize Zv L a=v at *;generalize hf:wrF v=f at *;have hj:∀ w,Calls Tryz.prog 198 #[Vu v] w fun e w'=>e=.returned (Zq f)∧Below w.heap.size w w':=fun w=>by rw[←hf];exact qwrong w v
 clear hf;obtain⟨f1,f2,f3⟩:=f;go_enter Tryz.func150,Tryz.ntmps150;go_wp2_with(first
 |(go_at_call 46;refine hi.mono ?_;rintro e w2 ⟨rfl,b2⟩;have T2:=Hh (T0.out.next b2);clear b2)
 |(go_at_call 198;refine(hj _).mono ?_;rintro e w3 ⟨rfl,b3⟩;have T3:=Hh (T2.out.next b3);obtain⟨g0,g1,g2,z0,z1,z2⟩:=Zz T3.out.k1;have hz:=T3.out.k1.inside;clear b3;simp only[Zq]))
 have hF:=Zz (Zd.set3 T3.out.k1 (.int .i64 f1) (.int .i64 (f2:Int)) (.int .i64 (f3:Int)));refine bodyPost_ret (v:=Zq (f1,f2,f3)) (by simp[results,Tryz.results150,go_sem,hF,Zq]) rfl ⟨rfl,?_⟩;exact Below.set3 T3.out.below (Nat.le_succ _) _ _ _
end Go.Proofs.YtljdgdphldckhaaGreat
