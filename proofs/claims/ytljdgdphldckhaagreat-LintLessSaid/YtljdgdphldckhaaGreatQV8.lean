/-
  No conditions but those that each theorem names.
-/
import Derived.Deep.QuietTactic
import Derived.BigQuiet
import Derived.Deep.RegionHeld3
import Derived.RegionTactic
import Derived.Deep.MidRow
import Derived.Great.Ranges
import Derived.Great.Walk
import Derived.Test.YtljdgdphldckhaaGreatQV7
set_option maxRecDepth 20000
set_option maxHeartbeats 12800000
namespace Go.Proofs.YtljdgdphldckhaaGreat
open Go.ChangeShapes Go.WideShapes Go.ChangeAt Go.RowKit
set_option linter.unusedVariables false
set_option linter.unusedSimpArgs false
theorem add_add'(x:Addr)(n m:Nat):(x.add n).add m=x.add (n+m):=by
 unfold Addr.add;by_cases h:n=0
 ·subst h;simp
 ·by_cases h2:m=0
  ·subst h2;simp
  ·simp[h,h2,Nat.add_assoc]
theorem tokCs_at(L:List TokV):∀(i j:Nat)(h:i<L.length),j<5→(Ui L)[i*5+j]?=(L[i]'h).cells[j]?:=by
 induction L with
 |nil=>intro i j h;simp at h
 |cons v L ih=>
  intro i j h hj;have e:Ui (v::L)=v.cells++Ui L:=rfl;have hl:v.cells.length=5:=rfl;rw[e];cases i with
  |zero=>rw[Nat.zero_mul,Nat.zero_add,List.getElem?_append_left (by omega)];rfl
  |succ i=>
   rw[List.getElem?_append_right (by omega),hl,show(i+1)*5+j - 5=i*5+j from by omega];exact ih i j (by simpa using h) hj
theorem Un.tok{w:World}{A:Option Addr}{L:List TokV}(h:Un w A (Ui L)){i:Nat}(hi:i<L.length) :
  ∃ x,A=some x∧x.block<w.heap.size∧w.cell? (x.add (i*5))=some (.int .i64 (L[i]'hi).k)∧w.cell? ⟨(x.add (i*5)).block,(x.add (i*5)).off+1,none⟩=some (.string (L[i]'hi).t) ∧
   w.cell? ⟨(x.add (i*5)).block,(x.add (i*5)).off+2,none⟩=some (.int .i64 (L[i]'hi).n)∧w.cell? ⟨(x.add (i*5)).block,(x.add (i*5)).off+3,none⟩=some (.int .i64 ((L[i]'hi).line:Int)) ∧
   w.cell? ⟨(x.add (i*5)).block,(x.add (i*5)).off+4,none⟩=some (.int .i64 ((L[i]'hi).col:Int)):=by
 have hl:=Zil L;obtain⟨x,hA,hx,hc⟩:=h.at_ (by omega)
 have key:∀ j,j<5→w.cell? ((x.add (i*5)).add j)=(L[i]'hi).cells[j]?:=fun j hj=>by
  rw[add_add',hc _ (by omega),tokCs_at L i j hi hj]
 exact⟨x,hA,hx,key 0 (by omega),key 1 (by omega),key 2 (by omega),key 3 (by omega),key 4 (by omega)⟩
theorem own5_reads{w:World}{base:Nat}{e:TypeId}{v:Value}{xs:List Value}{n:Nat}(h:w.ownsRow base e 5 v n xs):∃ A c,v=.slice A n c∧n≤9223372036854775807∧Un w A xs:=by
 obtain⟨A,c,hv,hn,hm,hc⟩:=own_form h;exact⟨A,c,hv,by unfold maxLen at hm;omega,hc.reads⟩
theorem own5_at{w:World}{base:Nat}{e:TypeId}{v:Value}{xs:List Value}{n:Nat}(h:w.ownsRow base e 5 v n xs)(hn:0<n):∃ g c,v=.slice (some ⟨g,0,none⟩) n c∧g<w.heap.size∧∀ j,j<xs.length→w.cell? ⟨g,j,none⟩=xs[j]?:=by
 obtain⟨hl,h0 | ⟨g,cap,cur,rfl,hb,hg,h1,h2,h3,h4⟩⟩:=h
 ·omega
 ·have hw:Zb w g e cur:=hg
  refine⟨g,cap,rfl,hw.inside,fun j hj=>?_⟩;rw[hw.read j,←h4,List.getElem?_take_of_lt (by omega),Array.getElem?_toList]
structure Wa(w:World)(p r K:Nat)(L:List TokV)(a d:Nat):Prop where
 whole:Zb w p 227 #[.slice (some ⟨r,a*5,none⟩) (L.length - a) (K - a),.int .i64 (d:Int)]
 row:∀ j,j<(Ui L).length→w.cell? ⟨r,j,none⟩=(Ui L)[j]?
 rin:r<w.heap.size
 ne:r≠p
 ends:Ends L
 inn:a<L.length
 capL:L.length≤K
 capM:K≤9223372036854775807
 deep:d≤8
theorem Wa.look{w:World}{p r K:Nat}{L:List TokV}{a d:Nat}(h:Wa w p r K L a d):At w p (Zp L a) d r (a*5) (L.length - a) (K - a):=by
 have hi:=h.inn;have hl:=Zil L
 have key:∀ j,j<5→w.cell? ⟨r,a*5+j,none⟩=(Zp L a).cells[j]?:=fun j hj=>by
  rw[h.row _ (by omega),tokCs_at L a j hi hj,curT_get L a hi]
 exact⟨h.whole.read 0,h.whole.read 1,key 0 (by omega),key 1 (by omega),key 2 (by omega),key 3 (by omega),key 4 (by omega),h.whole.inside,h.rin,by omega,by have:=h.capM;have:=h.capL;omega⟩
theorem Wa.keeps{w w':World}{p r K:Nat}{L:List TokV}{a d:Nat}(h:Wa w p r K L a d){S:Nat→Prop}(hk:Keeps S w w')(hp:¬ S p)(hr:¬ S r):Wa w' p r K L a d:=
 ⟨hk.whole h.whole hp,fun j hj=>(World.cell?_of_block (a:=⟨r,j,none⟩) (hk.block r h.rin hr)).trans (h.row j hj),Nat.lt_of_lt_of_le h.rin hk.size,h.ne,h.ends,h.inn,h.capL,h.capM,h.deep⟩
theorem Wa.below{w w':World}{p r K:Nat}{L:List TokV}{a d:Nat}(h:Wa w p r K L a d)(hb:Below w.heap.size w w'):Wa w' p r K L a d:=
 h.keeps (S:=fun _=>False) (Keeps.of_below hb) id id
structure Vg(w w':World)(p r K:Nat)(L:List TokV)(a d:Nat):Prop where
 at_:Wa w' p r K L a d
 keeps:Keeps (fun k=>k=p) w w'
theorem Wa.moved{w:World}{p r K:Nat}{L:List TokV}{a d:Nat}(h:Wa w p r K L a d)(b:Nat)(hb:b<L.length)(u:Value)(hu:u=.slice (some ⟨r,b*5,none⟩) (L.length - b) (K - b)):Wa (w.setCell ⟨p,0,none⟩ u) p r K L b d:=by
 subst hu;refine⟨h.whole.write 0 _,fun j hj=>?_,by simp[World.setCell];exact h.rin,h.ne,h.ends,hb,h.capL,h.capM,h.deep⟩;rw[World.cell?_of_block (a:=⟨r,j,none⟩) (w:=w) (Below.heap_setCell _ _ _ _ h.ne)];exact h.row j hj
theorem Wa.deeper{w:World}{p r K:Nat}{L:List TokV}{a d:Nat}(h:Wa w p r K L a d)(e:Nat)(he:e≤8)(u:Value)(hu:u=.int .i64 (e:Int)):Wa (w.setCell ⟨p,1,none⟩ u) p r K L a e:=by
 subst hu;refine⟨h.whole.write 1 _,fun j hj=>?_,by simp[World.setCell];exact h.rin,h.ne,h.ends,h.inn,h.capL,h.capM,he⟩;rw[World.cell?_of_block (a:=⟨r,j,none⟩) (w:=w) (Below.heap_setCell _ _ _ _ h.ne)];exact h.row j hj
def Zds(w:World)(p r K:Nat)(L:List TokV)(a d:Nat)(val:Value)(e:Ending)(w':World):Prop:=e=.returned val∧Vg w w' p r K L a d
theorem Keeps.inner{S T:Nat→Prop}{a b:World}(h:Keeps S a b)(hs:∀ k,k<a.heap.size→S k→T k):Keeps T a b:=⟨h.os,h.tape,h.output,h.size,fun k hk hn=>h.block k hk fun c=>hn (hs k hk c)⟩
theorem Vg.on{w x y:World}{p r K:Nat}{L:List TokV}{a d:Nat}(m:Vg w x p r K L a d){G:Nat}(hk:Keeps (fun k=>k=G) x y)(hG:w.heap.size≤G)(hp:p<w.heap.size)(hr:r<w.heap.size):Vg w y p r K L a d:=by
 refine⟨m.at_.keeps hk (by omega) (by omega),?_⟩;have h1:Keeps (fun k=>k=p∨k=G) w x:=m.keeps.mono fun k h=>.inl h
 have h2:Keeps (fun k=>k=p∨k=G) x y:=hk.mono fun k h=>.inr h
 exact(h1.trans h2).inner fun k hk h=>by omega
theorem Vg.next{w x y:World}{p r K:Nat}{L:List TokV}{a d:Nat}(m:Vg w x p r K L a d)(hb:Below x.heap.size x y):Vg w y p r K L a d:=
 ⟨m.at_.below hb,m.keeps.trans (Keeps.of_below hb)⟩
theorem Vg.then{w x y:World}{p r K:Nat}{L:List TokV}{a d b e:Nat}(m:Vg w x p r K L a d)(h:Vg x y p r K L b e):Vg w y p r K L b e:=⟨h.at_,m.keeps.trans h.keeps⟩
theorem Vg.start{w:World}{p r K:Nat}{L:List TokV}{a d:Nat}(h:Wa w p r K L a d):Vg w w p r K L a d:=⟨h,Keeps.refl _ _⟩
theorem keeps5(x:World)(g:Nat)(a b c d e:Value):Keeps (fun k=>k=g) x (((((x.setCell ⟨g,0,none⟩ a).setCell ⟨g,1,none⟩ b).setCell ⟨g,2,none⟩ c).setCell ⟨g,3,none⟩ d).setCell ⟨g,4,none⟩ e):=
 ((((Keeps.setCell (S:=fun k=>k=g) (Keeps.refl _ x) rfl a).setCell rfl b).setCell rfl c).setCell rfl d).setCell rfl e
theorem Zcb(x:World)(g:Nat)(a b c:Value):Keeps (fun k=>k=g) x (((x.setCell ⟨g,0,none⟩ a).setCell ⟨g,1,none⟩ b).setCell ⟨g,2,none⟩ c):=
 ((Keeps.setCell (S:=fun k=>k=g) (Keeps.refl _ x) rfl a).setCell rfl b).setCell rfl c
theorem Za(w:World)(o:Obj):Below w.heap.size w (w.alloc o):=(Below.refl _ _).alloc (Nat.le_refl _) o
theorem cNext(w:World)(p r K:Nat)(L:List TokV)(a d:Nat)(h:Wa w p r K L a d) :
  Calls Tryz.prog 175 #[.pointer (some ⟨p,0,none⟩)] w (Zds w p r K L (onA L a) d (Vk (Zp L a))):=by
 have h1:=h.below ((Below.refl _ _).alloc (Nat.le_refl _) (.cells #[.int .i64 0,.string ⟨#[]⟩,.int .i64 0,.int .i64 0,.int .i64 0] 85));have F0:=Zb.made w 85 #[.int .i64 0,.string ⟨#[]⟩,.int .i64 0,.int .i64 0,.int .i64 0];have H1:=Hh h1;have HL:=Hh h1.look;have hcM:=h.capM;have hcL:=h.capL;have hin:=h.inn;have hon:=h.ends.on h.inn;have hlast:=h.ends.last a h.inn;have pin:=h.whole.inside;have rin:=h.rin;have HC:=Hh h;unfold onA at hon ⊢;clear h h1;unfold Vk;generalize hv:Zp L a=v at *;by_cases hk:v.k=0
 ·have q0:(v.k != 0)=false:=by rw[hk];rfl
  rw[if_pos hk]at hon ⊢;have HH:=Hh (And.intro hv (And.intro hk (And.intro hlast hon)));clear hv hk hlast hon;go_enter Tryz.func175,Tryz.ntmps175;go_wp2_with(go_at_call 133;refine(Zie _ _ _ _ _ _ _ _ HL.out).mono ?_;rintro e w2 ⟨rfl,b2⟩;have C2:=Hh (H1.out.below b2);have W2:=Hh (F0.below b2 (by simp));have hz:=W2.out.inside;obtain⟨k0,k1,k2,k3,k4,f0,f1,f2,f3,f4⟩:=Ud W2.out;have B2:=Hh b2;clear b2;simp only[Vk])
  have hF:=Jh ((Zb.set5 W2.out (.int .i64 v.k) (.string v.t) (.int .i64 v.n) (.int .i64 (v.line:Int)) (.int .i64 (v.col:Int))).alloc (.cells #[.int .i64 v.k,.string v.t,.int .i64 v.n,.int .i64 (v.line:Int),.int .i64 (v.col:Int)] 85));refine bodyPost_ret (v:=.agg #[.int .i64 v.k,.string v.t,.int .i64 v.n,.int .i64 (v.line:Int),.int .i64 (v.col:Int)]) (by simp[results,Tryz.results175,go_sem,hF]) rfl ⟨rfl,?_⟩;exact(((Vg.start HC.out).next (Za _ _)).next B2.out).on ((keeps5 _ _ _ _ _ _ _).alloc _) (Nat.le_refl _) pin rin
 ·have q0:(v.k != 0)=true:=by rw[bne_iff_ne];exact hk
  rw[if_neg hk]at hon ⊢;have HH:=Hh (And.intro hv (And.intro hk (And.intro hlast hon)));clear hv hk hlast;have l1:1≤((L.length - a:Nat):Int):=by omega
  have l2:((L.length - a:Nat):Int)≤((K - a:Nat):Int):=by omega
  have l3:((K - a:Nat):Int)≤9223372036854775807:=by omega
  have l4:K - a≠1:=by omega
  generalize hN:L.length - a=n at *;generalize hC:K - a=c at *;generalize hO:a*5=o at *;have HN:=Hh (And.intro hN (And.intro hC hO));clear hN hC hO hcM hcL hin hon;go_enter Tryz.func175,Tryz.ntmps175;go_wp2_with(go_at_call 133;refine(Zie _ _ _ _ _ _ _ _ HL.out).mono ?_;rintro e w2 ⟨rfl,b2⟩;have C2:=Hh (H1.out.below b2);have W2:=Hh (F0.below b2 (by simp));have hz:=W2.out.inside;obtain⟨k0,k1,k2,k3,k4,f0,f1,f2,f3,f4⟩:=Ud W2.out;have hp2:=C2.out.whole.inside;have c0:=(HL.out.below b2).c0;have z0:=C2.out.whole.thawed 0;have B2:=Hh b2;clear b2;simp only[Vk])
  have hne:w.heap.size≠p:=by omega
  have hF:=Jh ((Zb.set5 (W2.out.aside (p:=⟨p,0,none⟩) hne (.slice (some ⟨r,o+5,none⟩) (n - 1) (c - 1))) (.int .i64 v.k) (.string v.t) (.int .i64 v.n) (.int .i64 (v.line:Int)) (.int .i64 (v.col:Int))).alloc (.cells #[.int .i64 v.k,.string v.t,.int .i64 v.n,.int .i64 (v.line:Int),.int .i64 (v.col:Int)] 85));refine bodyPost_ret (v:=.agg #[.int .i64 v.k,.string v.t,.int .i64 v.n,.int .i64 (v.line:Int),.int .i64 (v.col:Int)]) (by simp[results,Tryz.results175,go_sem,hF]) rfl ⟨rfl,?_⟩;have m2:=((Vg.start HC.out).next (Za _ _)).next B2.out
  have m3:Vg w (w2.setCell ⟨p,0,none⟩ (.slice (some ⟨r,o+5,none⟩) (n - 1) (c - 1))) p r K L (a+1) d:=by
   refine⟨m2.at_.moved (a+1) HH.out.2.2.2 _ ?_,m2.keeps.setCell rfl _⟩;obtain⟨e1,e2,e3⟩:=HN.out;rw[←e1,←e2,←e3,show(a+1)*5=a*5+5 from by omega,Nat.sub_sub,Nat.sub_sub]
  exact m3.on ((keeps5 _ _ _ _ _ _ _).alloc _) (Nat.le_refl _) pin rin
theorem cTake(w:World)(p r K:Nat)(L:List TokV)(a d:Nat)(t:ByteArray)(h:Wa w p r K L a d) :
  Calls Tryz.prog 136 #[.pointer (some ⟨p,0,none⟩),.string t] w (Zds w p r K L (Jq L a t) d (.bool (isT (Zp L a) t))):=by
 have hi:=cIs w p _ _ _ _ _ _ t h.look;have HC:=Hh h;clear h;unfold Jq;cases hb:isT (Zp L a) t
 ·rw[hb]at hi
  rw[if_neg (by decide)];clear hb;go_enter Tryz.func136,Tryz.ntmps136;go_wp2_with(go_at_call 174;refine hi.mono ?_;rintro e w2 ⟨rfl,b2⟩;have B2:=Hh b2;clear b2)
  go_ret;exact⟨rfl,(Vg.start HC.out).next B2.out⟩
 ·rw[hb]at hi
  rw[if_pos rfl];clear hb;go_enter Tryz.func136,Tryz.ntmps136;go_wp2_with(first
 |(go_at_call 174;refine hi.mono ?_;rintro e w2 ⟨rfl,b2⟩;have B2:=Hh b2;have C2:=Hh (HC.out.below b2);clear b2)
 |(go_at_call 175;refine(cNext _ _ _ _ _ _ _ C2.out).mono ?_;rintro e w3 ⟨rfl,m3⟩;have M3:=Hh m3;clear m3))
  go_ret;exact⟨rfl,((Vg.start HC.out).next B2.out).then M3.out⟩
theorem cWant(w:World)(p r K:Nat)(L:List TokV)(a d:Nat)(t:ByteArray)(h:Wa w p r K L a d) :
  Calls Tryz.prog 210 #[.pointer (some ⟨p,0,none⟩),.string t] w (Zds w p r K L (Jq L a t) d (Zi (wantF L a t))):=by
 have h1:=h.below (Za w (.cells #[.int .i64 0,.int .i64 0,.int .i64 0] 29));have F0:=Hh (Zb.made w 29 #[.int .i64 0,.int .i64 0,.int .i64 0]);have hi:=cTake _ p r K L a d t h1;have HC:=Hh h;have pin:=h.whole.inside;have rin:=h.rin;have hpw:¬(w.heap.size=p):=by omega
 clear h h1;unfold Jq at hi;unfold Jq wantF;cases hb:isT (Zp L a) t
 ·rw[hb]at hi
  rw[if_neg (by decide)]at hi ⊢;rw[if_neg (by decide)];clear hb;go_enter Tryz.func210,Tryz.ntmps210;go_wp2_with(first
 |(go_at_call 136;refine hi.mono ?_;rintro e w2 ⟨rfl,m2⟩;have M2:=Hh m2;clear m2)
 |(go_at_call 135;refine(cWrong _ _ _ _ _ _ _ _ M2.out.at_.look).mono ?_;rintro e w3 ⟨rfl,b3⟩;have W3:=Hh ((M2.out.keeps.whole F0.out hpw).below b3 (M2.out.keeps.whole F0.out hpw).inside);obtain⟨k0,k1,k2,f0,f1,f2⟩:=Zl W3.out;have hz:=W3.out.inside;have B3:=Hh b3;clear b3;simp only[Zi]))
  have hF:=Zl (Zb.set3 W3.out (.int .i64 (wrF (Zp L a)).1) (.int .i64 ((wrF (Zp L a)).2.1:Int)) (.int .i64 ((wrF (Zp L a)).2.2:Int)));refine bodyPost_ret (v:=Zi (wrF (Zp L a))) (by simp[results,Tryz.results210,go_sem,hF,Zi]) rfl ⟨rfl,?_⟩;exact(((Vg.start HC.out).next (Za _ _)).then (M2.out.next B3.out)).on (Zcb _ _ _ _ _) (Nat.le_refl _) pin rin
 ·rw[hb]at hi
  rw[if_pos rfl]at hi ⊢;rw[if_pos rfl];clear hb;go_enter Tryz.func210,Tryz.ntmps210;go_wp2_with(go_at_call 136;refine hi.mono ?_;rintro e w2 ⟨rfl,m2⟩;have M2:=Hh m2;have W3:=Hh (M2.out.keeps.whole F0.out hpw);obtain⟨k0,k1,k2,f0,f1,f2⟩:=Zl W3.out;have hz:=W3.out.inside;clear m2)
  have hF:=Zl (Zb.set3 W3.out (.int .i64 0) (.int .i64 0) (.int .i64 0));refine bodyPost_ret (v:=Zi okF) (by simp[results,Tryz.results210,go_sem,hF,Zi,okF]) rfl ⟨rfl,?_⟩;exact(((Vg.start HC.out).next (Za _ _)).then M2.out).on (Zcb _ _ _ _ _) (Nat.le_refl _) pin rin
theorem two_set{y:World}{g:Nat}{t u:TypeId}{a b c d e f h i:Value}(w0:Zb y g t #[a,b,c,d,e])(w1:Zb y (g+1) u #[f,h,i])(x0 x1 x2 x3 x4 y0 y1 y2:Value) :
  Zb ((((((((y.setCell ⟨g,0,none⟩ x0).setCell ⟨g,1,none⟩ x1).setCell ⟨g,2,none⟩ x2).setCell ⟨g,3,none⟩ x3).setCell ⟨g,4,none⟩ x4).setCell ⟨g+1,0,none⟩ y0).setCell ⟨g+1,1,none⟩ y1).setCell ⟨g+1,2,none⟩ y2) g t #[x0,x1,x2,x3,x4] ∧
  Zb ((((((((y.setCell ⟨g,0,none⟩ x0).setCell ⟨g,1,none⟩ x1).setCell ⟨g,2,none⟩ x2).setCell ⟨g,3,none⟩ x3).setCell ⟨g,4,none⟩ x4).setCell ⟨g+1,0,none⟩ y0).setCell ⟨g+1,1,none⟩ y1).setCell ⟨g+1,2,none⟩ y2) (g+1) u #[y0,y1,y2]:=by
 have n1:g≠g+1:=by omega
 have n2:g+1≠g:=by omega
 exact⟨(((w0.set5 x0 x1 x2 x3 x4).aside n1 y0).aside n1 y1).aside n1 y2,Zb.set3 (((((w1.aside n2 x0).aside n2 x1).aside n2 x2).aside n2 x3).aside n2 x4) y0 y1 y2⟩
def Zjn(L:List TokV)(a:Nat)(k:Int):TokV:=if(Zp L a).k=k then Zp L a else zTok
theorem cKind(w:World)(p r K:Nat)(L:List TokV)(a d:Nat)(k:Int)(h:Wa w p r K L a d) :
  Calls Tryz.prog 209 #[.pointer (some ⟨p,0,none⟩),.int .i64 k] w (Zds w p r K L (Ul L a k) d (.tuple #[Vk (Zjn L a k),Zi (Uk L a k)])):=by
 have nb1:=Za w (.cells #[.int .i64 0,.string ⟨#[]⟩,.int .i64 0,.int .i64 0,.int .i64 0] 85);have nb2:=Za (w.alloc (.cells #[.int .i64 0,.string ⟨#[]⟩,.int .i64 0,.int .i64 0,.int .i64 0] 85)) (.cells #[.int .i64 0,.int .i64 0,.int .i64 0] 29);have T0:=Two.start w 85 #[.int .i64 0,.string ⟨#[]⟩,.int .i64 0,.int .i64 0,.int .i64 0] 29 #[.int .i64 0,.int .i64 0,.int .i64 0];have H2:=Hh ((h.below nb1).below nb2);have HM:=Hh (((Vg.start h).next nb1).next nb2);have T:=Hh T0;have hfd:=fun w=>Zcx (Zp L a).k (Zp L a).n ((Zp L a).line:Int) ((Zp L a).col:Int) (Zp L a).t w
 have pin:=h.whole.inside;have rin:=h.rin;have hpw:¬(w.heap.size=p):=by omega
 have hpv:¬(w.heap.size+1=p):=by omega
 clear h nb1 nb2 T0;unfold Ul Uk Zjn;by_cases hk:(Zp L a).k=k
 ·have q0:((Zp L a).k != k)=false:=by rw[bne_eq_false_iff_eq];exact hk
  rw[if_pos hk,if_pos hk,if_pos hk];clear hk;go_enter Tryz.func209,Tryz.ntmps209;go_wp2_with(first
 |(go_at_call 133;refine(Zie _ _ _ _ _ _ _ _ H2.out.look).mono ?_;rintro e w3 ⟨rfl,b3⟩;have T3:=Hh (T.out.next b3);have M3:=Hh (HM.out.next b3);clear b3;simp only[Vk])
 |(go_at_call 175;refine(cNext _ _ _ _ _ _ _ M3.out.at_).mono ?_;rintro e w4 ⟨rfl,m4⟩;have W0:=Hh (m4.keeps.whole T3.out.k0 hpw);have W1:=Hh (m4.keeps.whole T3.out.k1 hpv);obtain⟨k0,k1,k2,k3,k4,f0,f1,f2,f3,f4⟩:=Ud W0.out;obtain⟨g0,g1,g2,z0,z1,z2⟩:=Zl W1.out;have hz:=W1.out.inside;have M4:=Hh (M3.out.then m4);clear m4;simp only[Vk]))
  have hFG:=two_set W0.out W1.out (.int .i64 (Zp L a).k) (.string (Zp L a).t) (.int .i64 (Zp L a).n) (.int .i64 ((Zp L a).line:Int)) (.int .i64 ((Zp L a).col:Int)) (.int .i64 0) (.int .i64 0) (.int .i64 0);have hF:=Jh hFG.1;have hG:=Zl hFG.2;refine bodyPost_ret (v:=.tuple #[Vk (Zp L a),Zi okF]) (by simp[results,Tryz.results209,go_sem,hF,hG,Zi,okF,Vk]) rfl ⟨rfl,?_⟩;exact(M4.out.on (keeps5 _ _ _ _ _ _ _) (Nat.le_refl _) pin rin).on (Zcb _ _ _ _ _) (by omega) pin rin
 ·have q0:((Zp L a).k != k)=true:=by rw[bne_iff_ne];exact hk
  rw[if_neg hk,if_neg hk,if_neg hk];clear hk;go_enter Tryz.func209,Tryz.ntmps209;go_wp2_with(first
 |(go_at_call 133;refine(Zie _ _ _ _ _ _ _ _ H2.out.look).mono ?_;rintro e w3 ⟨rfl,b3⟩;have T3:=Hh (T.out.next b3);have M3:=Hh (HM.out.next b3);clear b3;simp only[Vk])
 |(go_at_call 135;refine(cWrong _ _ _ _ _ _ _ _ M3.out.at_.look).mono ?_;rintro e w4 ⟨rfl,b4⟩;have W0:=Hh (T3.out.next b4).k0;have W1:=Hh (T3.out.next b4).k1;obtain⟨k0,k1,k2,k3,k4,f0,f1,f2,f3,f4⟩:=Ud W0.out;obtain⟨g0,g1,g2,z0,z1,z2⟩:=Zl W1.out;have hz:=W1.out.inside;have M4:=Hh (M3.out.next b4);clear b4;simp only[Zi]))
  have hFG:=two_set W0.out W1.out (.int .i64 0) (.string ⟨#[]⟩) (.int .i64 0) (.int .i64 0) (.int .i64 0) (.int .i64 (wrF (Zp L a)).1) (.int .i64 ((wrF (Zp L a)).2.1:Int)) (.int .i64 ((wrF (Zp L a)).2.2:Int));have hF:=Jh hFG.1;have hG:=Zl hFG.2;refine bodyPost_ret (v:=.tuple #[Vk zTok,Zi (wrF (Zp L a))]) (by simp[results,Tryz.results209,go_sem,hF,hG,Zi,zTok,Vk]) rfl ⟨rfl,?_⟩;exact(M4.out.on (keeps5 _ _ _ _ _ _ _) (Nat.le_refl _) pin rin).on (Zcb _ _ _ _ _) (by omega) pin rin
theorem kindT_n(L:List TokV)(a:Nat):(Zjn L a 2).n=Zhp L a:=by unfold Zjn Zhp;split<;>rfl
theorem kindT_t(L:List TokV)(a:Nat):(Zjn L a 3).t=Zjk L a:=by unfold Zjn Zjk;split<;>rfl
theorem cInt(w:World)(p r K:Nat)(L:List TokV)(a d:Nat)(h:Wa w p r K L a d) :
  Calls Tryz.prog 180 #[.pointer (some ⟨p,0,none⟩)] w (Zds w p r K L (Ul L a 2) d (.tuple #[.int .i64 (Zhp L a),Zi (Uk L a 2)])):=by
 have nb1:=Za w (.cells #[.int .i64 0,.int .i64 0,.int .i64 0] 29);have H1:=Hh (h.below nb1);have F0:=Hh (Zb.made w 29 #[.int .i64 0,.int .i64 0,.int .i64 0]);have HM:=Hh ((Vg.start h).next nb1);have pin:=h.whole.inside;have rin:=h.rin;have hpw:¬(w.heap.size=p):=by omega
 clear h nb1;rw[←kindT_n];generalize hv:Zjn L a 2=v at *;generalize hf:Uk L a 2=f at *;have HV:=Hh (And.intro hv hf)
 have hi:Calls Tryz.prog 209 #[.pointer (some ⟨p,0,none⟩),.int .i64 2] (w.alloc (.cells #[.int .i64 0,.int .i64 0,.int .i64 0] 29)) (Zds (w.alloc (.cells #[.int .i64 0,.int .i64 0,.int .i64 0] 29)) p r K L (Ul L a 2) d (.tuple #[Vk v,Zi f])):=by
  have:=cKind _ p r K L a d 2 H1.out;rw[hv,hf]at this;exact this
 clear hv hf;obtain⟨f1,f2,f3⟩:=f;go_enter Tryz.func180,Tryz.ntmps180;go_wp2_with(go_at_call 209;refine hi.mono ?_;rintro e w3 ⟨rfl,m3⟩;have W0:=Hh (m3.keeps.whole F0.out hpw);obtain⟨g0,g1,g2,z0,z1,z2⟩:=Zl W0.out;have hz:=W0.out.inside;have M3:=Hh (HM.out.then m3);clear m3;simp only[Vk,Zi])
 go_region
 all_goals
  go_wp2
  have hF:=Zl ((((Zb.set3 W0.out (.int .i64 f1) (.int .i64 (f2:Int)) (.int .i64 (f3:Int))).alloc (.cells #[.int .i64 v.k,.string v.t,.int .i64 v.n,.int .i64 (v.line:Int),.int .i64 (v.col:Int)] 85)).alloc (.cells #[.int .i64 f1,.int .i64 (f2:Int),.int .i64 (f3:Int)] 29)).drew);refine bodyPost_ret (v:=.tuple #[.int .i64 v.n,Zi (f1,f2,f3)]) (by simp[results,Tryz.results180,go_sem,hF,Zi]) rfl ⟨rfl,?_⟩;exact M3.out.on ((((Zcb _ _ _ _ _).alloc _).alloc _).drew) (Nat.le_refl _) pin rin
theorem cName(w:World)(p r K:Nat)(L:List TokV)(a d:Nat)(h:Wa w p r K L a d) :
  Calls Tryz.prog 177 #[.pointer (some ⟨p,0,none⟩)] w (Zds w p r K L (Ul L a 3) d (.tuple #[.string (Zjk L a),Zi (Uk L a 3)])):=by
 have nb1:=Za w (.cells #[.int .i64 0,.int .i64 0,.int .i64 0] 29);have H1:=Hh (h.below nb1);have F0:=Hh (Zb.made w 29 #[.int .i64 0,.int .i64 0,.int .i64 0]);have HM:=Hh ((Vg.start h).next nb1);have pin:=h.whole.inside;have rin:=h.rin;have hpw:¬(w.heap.size=p):=by omega
 clear h nb1;rw[←kindT_t];generalize hv:Zjn L a 3=v at *;generalize hf:Uk L a 3=f at *;have HV:=Hh (And.intro hv hf)
 have hi:Calls Tryz.prog 209 #[.pointer (some ⟨p,0,none⟩),.int .i64 3] (w.alloc (.cells #[.int .i64 0,.int .i64 0,.int .i64 0] 29)) (Zds (w.alloc (.cells #[.int .i64 0,.int .i64 0,.int .i64 0] 29)) p r K L (Ul L a 3) d (.tuple #[Vk v,Zi f])):=by
  have:=cKind _ p r K L a d 3 H1.out;rw[hv,hf]at this;exact this
 clear hv hf;obtain⟨f1,f2,f3⟩:=f;go_enter Tryz.func177,Tryz.ntmps177;go_wp2_with(go_at_call 209;refine hi.mono ?_;rintro e w3 ⟨rfl,m3⟩;have W0:=Hh (m3.keeps.whole F0.out hpw);obtain⟨g0,g1,g2,z0,z1,z2⟩:=Zl W0.out;have hz:=W0.out.inside;have M3:=Hh (HM.out.then m3);clear m3;simp only[Vk,Zi])
 go_region
 all_goals
  go_wp2
  have hF:=Zl ((((Zb.set3 W0.out (.int .i64 f1) (.int .i64 (f2:Int)) (.int .i64 (f3:Int))).alloc (.cells #[.int .i64 v.k,.string v.t,.int .i64 v.n,.int .i64 (v.line:Int),.int .i64 (v.col:Int)] 85)).alloc (.cells #[.int .i64 f1,.int .i64 (f2:Int),.int .i64 (f3:Int)] 29)).drew);refine bodyPost_ret (v:=.tuple #[.string v.t,Zi (f1,f2,f3)]) (by simp[results,Tryz.results177,go_sem,hF,Zi]) rfl ⟨rfl,?_⟩;exact M3.out.on ((((Zcb _ _ _ _ _).alloc _).alloc _).drew) (Nat.le_refl _) pin rin
theorem cUp(w:World)(p r K:Nat)(L:List TokV)(a d:Nat)(h:Wa w p r K L a d) :
  Calls Tryz.prog 279 #[.pointer (some ⟨p,0,none⟩)] w (Zds w p r K L a (d - 1) (.tuple #[])):=by
 have HC:=Hh h;have c1:=h.look.c1;have z1:=h.whole.thawed 1;have hd:=h.deep;clear h;by_cases h0:0<d
 ·have l0:(0:Int)<(d:Int):=by omega
  have l1:(d:Int)≤8:=by omega
  have H0:=Hh h0;have HD:=Hh hd;clear hd;go_enter Tryz.func279,Tryz.ntmps279;go_wp2
  go_end0
  exact⟨rfl,HC.out.deeper (d - 1) (by have:=HD.out;omega) _ (by have:=H0.out;rw[show((d - 1:Nat):Int)=(d:Int) - 1 from by omega]),Keeps.setCell (S:=fun k=>k=p) (Keeps.refl _ _) rfl _⟩
 ·obtain rfl:d=0:=by omega
  go_enter Tryz.func279,Tryz.ntmps279;go_wp2
  go_end0
  exact⟨rfl,Vg.start HC.out⟩
theorem cDown(w:World)(p r K:Nat)(L:List TokV)(a d:Nat)(h:Wa w p r K L a d) :
  Calls Tryz.prog 278 #[.pointer (some ⟨p,0,none⟩)] w (Zds w p r K L a (Zcp d) (Zi (Zco L a d))):=by
 have nb1:=Za w (.cells #[.int .i64 0,.int .i64 0,.int .i64 0] 29);have h1:=h.below nb1;have F0:=Zb.made w 29 #[.int .i64 0,.int .i64 0,.int .i64 0];have HM:=Hh ((Vg.start h).next nb1);have pin:=h.whole.inside;have rin:=h.rin;have hpw:¬(w.heap.size=p):=by omega
 have c1:=h1.look.c1;have z1:=h1.whole.thawed 1;have H1:=Hh h1;have hd:=h.deep;have HC:=Hh h;clear h nb1 h1;unfold Zcp Zco;by_cases h0:d=8
 ·subst h0
  rw[if_pos rfl,if_pos rfl];have F0:=Hh F0;clear hd;go_enter Tryz.func278,Tryz.ntmps278;go_wp2_with(first
 |(go_at_call 172;refine(Zkz _ _ _ _ _ _ _ _ H1.out.look).mono ?_;rintro e w1 ⟨rfl,rfl⟩)
 |(go_at_call 173;refine(cHere _ _ _ _ _ _ _ _ _ H1.out.look).mono ?_;rintro e w3 ⟨rfl,b3⟩;have W3:=Hh (F0.out.below b3 (by simp));obtain⟨k0,k1,k2,f0,f1,f2⟩:=Zl W3.out;have hz:=W3.out.inside;have B3:=Hh b3;clear b3;simp only[Zi]))
  have hF:=Zl (Zb.set3 W3.out (.int .i64 8) (.int .i64 ((Zp L a).line:Int)) (.int .i64 ((Zp L a).col:Int)));refine bodyPost_ret (v:=Zi (8,(Zp L a).line,(Zp L a).col)) (by simp[results,Tryz.results278,go_sem,hF,Zi]) rfl ⟨rfl,?_⟩;exact(HM.out.next B3.out).on (Zcb _ _ _ _ _) (Nat.le_refl _) pin rin
 ·rw[if_neg h0,if_neg h0]
  have q0:((d:Int) == 8)=false:=by rw[beq_eq_false_iff_ne];omega
  have l1:(d:Int)≤7:=by omega
  have H0:=Hh (And.intro h0 hd);clear h0 hd;go_enter Tryz.func278,Tryz.ntmps278;go_wp2_with(go_at_call 172;refine(Zkz _ _ _ _ _ _ _ _ H1.out.look).mono ?_;rintro e w1 ⟨rfl,rfl⟩)
  refine bodyPost_ret (v:=Zi okF) (by simp[results,Tryz.results278,go_sem,Zi,okF]) rfl ⟨rfl,?_⟩
  have m1:Vg w (w.setCell ⟨p,1,none⟩ (.int .i64 ((d:Int)+1))) p r K L a (d+1):=
   ⟨HC.out.deeper (d+1) (by have:=H0.out;omega) _ (by simp),Keeps.setCell (S:=fun k=>k=p) (Keeps.refl _ _) rfl _⟩
  exact m1.next (Za _ _)
theorem Wa.copy{w:World}{p r K:Nat}{L:List TokV}{a d:Nat}(h:Wa w p r K L a d)(o n c:Nat)(ho:o=a*5)(hn:n=L.length - a)(hc:c=K - a) :
  Wa (w.alloc (.cells #[.slice (some ⟨r,o,none⟩) n c,.int .i64 (d:Int)] 227)) w.heap.size r K L a d:=by
 subst ho hn hc;have h1:=h.below (Za w (.cells #[.slice (some ⟨r,a*5,none⟩) (L.length - a) (K - a),.int .i64 (d:Int)] 227));exact⟨Zb.made _ _ _,h1.row,h1.rin,by have:=h.rin;omega,h.ends,h.inn,h.capL,h.capM,h.deep⟩
theorem look2{w:World}{p r K:Nat}{L:List TokV}{a d:Nat}(h:Wa w p r K L a d){o n c:Nat}(ho:o=a*5)(hn:n=L.length - a)(hc:c=K - a) :
  w.cell? ⟨p,0,none⟩=some (.slice (some ⟨r,o,none⟩) n c)∧w.cell? ⟨p,1,none⟩=some (.int .i64 (d:Int)):=by
 subst ho hn hc;exact⟨h.look.c0,h.look.c1⟩
theorem cSigned(w:World)(p r K:Nat)(L:List TokV)(a d:Nat)(h:Wa w p r K L a d) :
  Calls Tryz.prog 181 #[.pointer (some ⟨p,0,none⟩)] w (Zds w p r K L (Zep L a) d (.tuple #[.int .i64 (Zgb L a),Zi (Zjg L a)])):=by
 have nb1:=Za w (.cells #[.int .i64 0,.int .i64 0,.int .i64 0] 29);have h1:=h.below nb1;have F0:=Hh (Zb.made w 29 #[.int .i64 0,.int .i64 0,.int .i64 0]);have HM:=Hh ((Vg.start h).next nb1);have pin:=h.whole.inside;have rin:=h.rin;have hpw:¬(w.heap.size=p):=by omega
 have hi:=cIs _ p _ _ _ _ _ _ minus h1.look;have H1:=Hh h1;clear h nb1 h1;unfold Zep Zgb Zjg;unfold minus at hi ⊢;cases hb:isT (Zp L a) ⟨#[45]⟩
 ·rw[hb]at hi
  rw[if_neg (by decide),if_neg (by decide),if_neg (by decide)];clear hb;generalize hf:Uk L a 2=f at *;have hj:=cInt _ p r K L a d H1.out;have HF:=Hh hf;clear hf;have hj:∀ w,Wa w p r K L a d→Calls Tryz.prog 180 #[.pointer (some ⟨p,0,none⟩)] w (Zds w p r K L (Ul L a 2) d (.tuple #[.int .i64 (Zhp L a),Zi f])):=fun w h=>by rw[←HF.out];exact cInt w p r K L a d h
  obtain⟨f1,f2,f3⟩:=f;go_enter Tryz.func181,Tryz.ntmps181;go_wp2_with(first
 |(go_at_call 174;refine hi.mono ?_;rintro e w2 ⟨rfl,b2⟩;have M2:=Hh (HM.out.next b2);have F2:=Hh (F0.out.below b2 F0.out.inside);clear b2)
 |(go_at_call 180;refine(hj _ M2.out.at_).mono ?_;rintro e w3 ⟨rfl,m3⟩;have W0:=Hh (m3.keeps.whole F2.out hpw);obtain⟨g0,g1,g2,z0,z1,z2⟩:=Zl W0.out;have hz:=W0.out.inside;have M3:=Hh (M2.out.then m3);clear m3;simp only[Zi]))
  have hF:=Zl (Zb.set3 W0.out (.int .i64 f1) (.int .i64 (f2:Int)) (.int .i64 (f3:Int)));refine bodyPost_ret (v:=.tuple #[.int .i64 (Zhp L a),Zi (f1,f2,f3)]) (by simp[results,Tryz.results181,go_sem,hF,Zi]) rfl ⟨rfl,?_⟩;exact M3.out.on (Zcb _ _ _ _ _) (Nat.le_refl _) pin rin
 ·rw[hb]at hi
  rw[if_pos rfl,if_pos rfl,if_pos rfl];clear hb;obtain⟨o,n,c,ho,hn,hc⟩:∃ o n c,o=a*5∧n=L.length - a∧c=K - a:=⟨_,_,_,rfl,rfl,rfl⟩
  have HO:=Hh (And.intro ho (And.intro hn hc));generalize hbn:onA L a=b at *;have HB:=Hh hbn;have hk:Ul L b 2=if(Zp L b).k=2 then onA L b else b:=rfl
  have hv:Zhp L b=if(Zp L b).k=2 then(Zp L b).n else 0:=rfl
  have hf:Uk L b 2=if(Zp L b).k=2 then okF else wrF (Zp L b):=rfl
  have hnx:∀ w q,Wa w q r K L a d→Calls Tryz.prog 175 #[.pointer (some ⟨q,0,none⟩)] w (Zds w q r K L b d (Vk (Zp L a))):=fun w q h=>by rw[←HB.out];exact cNext w q r K L a d h
  have hj:=fun w q (h:Wa w q r K L b d)=>cInt w q r K L b d h
  have HN:=Hh hnx;clear hnx ho hn hc hbn;rw[hf];by_cases h2:(Zp L b).k=2
  · rw[if_pos h2]at hk hv hf ⊢
    rw[if_pos h2,if_pos h2];have hnum:=H1.out.ends.num b;rw[hk,hv,hf]at hj;have HJ:=Hh hj;clear hj hk hv hf h2;generalize hm:(Zp L b).n=m at *;have HE:=Hh hm;obtain⟨m0,m9⟩:=hnum;clear hm;generalize hbn:onA L b=b2 at *;obtain⟨o2,n2,c2,ho,hn,hc⟩:∃ o n c,o=b2*5∧n=L.length - b2∧c=K - b2:=⟨_,_,_,rfl,rfl,rfl⟩
    have HB2:=Hh (And.intro ho (And.intro hn hc));clear ho hn hc hbn;go_enter Tryz.func181,Tryz.ntmps181;go_wp2_with(first
 |(go_at_call 174;refine hi.mono ?_;rintro e w2 ⟨rfl,b2⟩;have M2:=Hh (HM.out.next b2);have F2:=Hh (F0.out.below b2 F0.out.inside);obtain⟨c0,c1⟩:=look2 M2.out.at_ HO.out.1 HO.out.2.1 HO.out.2.2;have hp2:=M2.out.at_.whole.inside;clear b2)
 |(go_at_call 175;refine(HN.out _ _ (M2.out.at_.copy o n c HO.out.1 HO.out.2.1 HO.out.2.2)).mono ?_;rintro e w3 ⟨rfl,m3⟩;have N3:=Hh m3;clear m3;simp only[Vk])
 |(go_at_call 180;refine(HJ.out _ _ N3.out.at_).mono ?_;rintro e w4 ⟨rfl,m4⟩;have N4:=Hh (N3.out.then m4);have hG:=F2.out.inside;have M4:=Hh ((M2.out.next (Za _ _)).on N4.out.keeps (Nat.le_of_lt hG) pin rin);have F4:=Hh (N4.out.keeps.whole (F2.out.alloc _) (Nat.ne_of_lt hG));obtain⟨d0,d1⟩:=look2 N4.out.at_ HB2.out.1 HB2.out.2.1 HB2.out.2.2;obtain⟨p0,p1⟩:=look2 M4.out.at_ HO.out.1 HO.out.2.1 HO.out.2.2;have t0:=M4.out.at_.whole.thawed 0;have t1:=M4.out.at_.whole.thawed 1;have hp4:=M4.out.at_.whole.inside;obtain⟨g0,g1,g2,z0,z1,z2⟩:=Zl F4.out;have hz:=F4.out.inside;have hq4:=N4.out.at_.whole.inside;have hN:=Hh hG;clear m4 hG;simp only[Zi,okF]))
    have hne:w.heap.size≠p:=hpw;have hF:=Zl ((Zb.set3 ((F4.out.aside (p:=⟨p,0,none⟩) hne (.slice (some ⟨r,o2,none⟩) n2 c2)).aside (p:=⟨p,1,none⟩) hne (.int .i64 (d:Int))) (.int .i64 0) (.int .i64 0) (.int .i64 0)).alloc (.cells #[.int .i64 0,.int .i64 0,.int .i64 0] 29));refine bodyPost_ret (v:=.tuple #[.int .i64 (-m),Zi okF]) (by simp[results,Tryz.results181,go_sem,hF,Zi,okF]) rfl ⟨rfl,?_⟩;obtain⟨e1,e2,e3⟩:=HB2.out
    have m5:Vg w ((w4.setCell ⟨p,0,none⟩ (.slice (some ⟨r,o2,none⟩) n2 c2)).setCell ⟨p,1,none⟩ (.int .i64 (d:Int))) p r K L b2 d:=
     ⟨(M4.out.at_.moved b2 N4.out.at_.inn _ (by rw[e1,e2,e3])).deeper d M4.out.at_.deep _ rfl,(M4.out.keeps.setCell rfl _).setCell rfl _⟩
    exact m5.on ((Zcb _ _ _ _ _).alloc _) (Nat.le_refl _) pin rin
  · rw[if_neg h2]at hk hv hf ⊢
    rw[if_neg h2,if_neg h2];rw[hk,hv,hf]at hj;have HJ:=Hh hj;have hne:=Zgi (Zp L b);clear hj hk hv hf h2;generalize hm:wrF (Zp L b)=f at *;obtain⟨f1,f2,f3⟩:=f;have HE:=Hh hm;have q0:(f1 != 0)=true:=by rw[bne_iff_ne];exact hne
    clear hm hne;go_enter Tryz.func181,Tryz.ntmps181;go_wp2_with(first
 |(go_at_call 174;refine hi.mono ?_;rintro e w2 ⟨rfl,b2⟩;have M2:=Hh (HM.out.next b2);have F2:=Hh (F0.out.below b2 F0.out.inside);obtain⟨c0,c1⟩:=look2 M2.out.at_ HO.out.1 HO.out.2.1 HO.out.2.2;have hp2:=M2.out.at_.whole.inside;clear b2)
 |(go_at_call 175;refine(HN.out _ _ (M2.out.at_.copy o n c HO.out.1 HO.out.2.1 HO.out.2.2)).mono ?_;rintro e w3 ⟨rfl,m3⟩;have N3:=Hh m3;clear m3;simp only[Vk])
 |(go_at_call 180;refine(HJ.out _ _ N3.out.at_).mono ?_;rintro e w4 ⟨rfl,m4⟩;have N4:=Hh (N3.out.then m4);have hG:=F2.out.inside;have M4:=Hh ((M2.out.next (Za _ _)).on N4.out.keeps (Nat.le_of_lt hG) pin rin);have F4:=Hh (N4.out.keeps.whole (F2.out.alloc _) (Nat.ne_of_lt hG));obtain⟨g0,g1,g2,z0,z1,z2⟩:=Zl F4.out;have hz:=F4.out.inside;clear m4 hG;simp only[Zi]))
    go_region
    all_goals
     go_wp2
     have hF:=Zl (((Zb.set3 F4.out (.int .i64 f1) (.int .i64 (f2:Int)) (.int .i64 (f3:Int))).alloc (.cells #[.int .i64 f1,.int .i64 (f2:Int),.int .i64 (f3:Int)] 29)).drew);refine bodyPost_ret (v:=.tuple #[.int .i64 0,Zi (f1,f2,f3)]) (by simp[results,Tryz.results181,go_sem,hF,Zi]) rfl ⟨rfl,?_⟩;exact M4.out.on (((Zcb _ _ _ _ _).alloc _).drew) (Nat.le_refl _) pin rin
theorem own5_all{w:World}{base:Nat}{e:TypeId}{v:Value}{xs:List Value}{n:Nat}(h:w.ownsRow base e 5 v n xs)(hn:0<n) :
  ∃ g c,v=.slice (some ⟨g,0,none⟩) n c∧base≤g∧g<w.heap.size∧n≤c∧c≤9223372036854775807∧∀ j,j<xs.length→w.cell? ⟨g,j,none⟩=xs[j]?:=by
 obtain⟨g,c,rfl,hg,hc⟩:=own5_at h hn;obtain⟨A,c',hv,h1,h2,_⟩:=own_form h;injection hv with _ _ e3;subst e3;unfold maxLen at h2;exact⟨g,c,rfl,(h.lt g rfl).1,hg,h1,by omega,hc⟩
theorem Wa.made{w1 y:World}{g K G:Nat}{L:List TokV}(hrow:∀ j,j<(Ui L).length→w1.cell? ⟨g,j,none⟩=(Ui L)[j]?)(hg:g<w1.heap.size)(hk:Keeps (fun k=>k=G) w1 y)(hG:g≠G)(hL:Ends L)(h1:L.length≤K)(h2:K≤9223372036854775807) :
  Wa (y.alloc (.cells #[.slice (some ⟨g,0,none⟩) L.length K,.int .i64 0] 227)) y.heap.size g K L 0 0:=by
 have hs:=hk.size;refine⟨by simpa using Zb.made y 227 #[.slice (some ⟨g,0,none⟩) L.length K,.int .i64 0],fun j hj=>?_,by simp;omega,by omega,hL,hL.pos,h1,h2,by omega⟩;have k2:=hk.alloc (.cells #[.slice (some ⟨g,0,none⟩) L.length K,.int .i64 0] 227);exact(World.cell?_of_block (a:=⟨g,j,none⟩) (k2.block g hg hG)).trans (hrow j hj)
def NewPost(L:List TokV)(w:World)(e:Ending)(w':World):Prop:=
 ∃ p r K,e=.returned (.tuple #[.pointer (some ⟨p,0,none⟩),Zi okF])∧Wa w' p r K L 0 0∧w.heap.size≤p∧w.heap.size≤r∧Below w.heap.size w w'
theorem cNew_err(s:ByteArray)(w:World)(hs:s.size≤140737488355328)(E:Int)(l c:Nat)(hv:Zbd s=([],E,l,c))(hE:E≠0) :
  Calls Tryz.prog 132 #[.string s] w fun e w'=>e=.returned (.tuple #[.pointer none,Zi (E,l,c)])∧Below w.heap.size w w':=by
 have HV:=Hh hv;have q0:(E != 0)=true:=by rw[bne_iff_ne];exact hE
 have F0:=Hh (Zb.made w 29 #[.int .i64 0,.int .i64 0,.int .i64 0]);clear hv hE;go_enter Tryz.func132,Tryz.ntmps132;go_wp2_with(go_at_call 171;refine(tkScan s _ (by omega)).mono ?_;rintro e w1 ⟨v,rfl,o1,b1⟩;rw[HV.out]at o1 ⊢;obtain⟨A1,c1,rfl,hl1,_⟩:=own5_reads o1;have F1:=Hh (F0.out.below b1 (by simp));obtain⟨g0,g1,g2,z0,z1,z2⟩:=Zl F1.out;have hz:=F1.out.inside;have B1:=Hh b1;clear o1 b1;simp only[Zi])
 go_region
 all_goals
  go_wp2
  have hF:=Zl (((Zb.set3 F1.out (.int .i64 E) (.int .i64 (l:Int)) (.int .i64 (c:Int))).alloc (.cells #[.int .i64 E,.int .i64 (l:Int),.int .i64 (c:Int)] 29)).drew);refine bodyPost_ret (v:=.tuple #[.pointer none,Zi (E,l,c)]) (by simp[results,Tryz.results132,go_sem,hF,Zi]) rfl ⟨rfl,?_⟩;exact Jo ((Below.set3 (Xq (Za _ _) B1.out) (Nat.le_refl _) _ _ _).alloc (by simp;omega) _)
theorem cNew_ok(s:ByteArray)(w:World)(hs:s.size≤140737488355328)(L:List TokV)(hv:Zbd s=(L,0,0,0))(hL:Ends L) :
  Calls Tryz.prog 132 #[.string s] w (NewPost L w):=by
 have HV:=Hh hv;have F0:=Hh (Zb.made w 29 #[.int .i64 0,.int .i64 0,.int .i64 0]);have hpos:=hL.pos;have HL:=Hh hL;clear hv hL;go_enter Tryz.func132,Tryz.ntmps132;go_wp2_with(go_at_call 171;refine(tkScan s _ (by omega)).mono ?_;rintro e w1 ⟨v,rfl,o1,b1⟩;rw[HV.out]at o1 ⊢;obtain⟨g,K,rfl,r1,r2,r3,r4,r5⟩:=own5_all o1 hpos;have F1:=Hh (F0.out.below b1 (by simp));obtain⟨g0,g1,g2,z0,z1,z2⟩:=Zl F1.out;have hz:=F1.out.inside;have B1:=Hh b1;have R5:=Hh r5;clear o1 b1 r5;simp only[Zi])
 have hk:Keeps (fun k=>k=w.heap.size) w1 ((((w1.setCell ⟨w.heap.size,0,none⟩ (.int .i64 0)).setCell ⟨w.heap.size,1,none⟩ (.int .i64 0)).setCell ⟨w.heap.size,2,none⟩ (.int .i64 0)).alloc (.cells #[.int .i64 0,.int .i64 0,.int .i64 0] 29)):=(Zcb _ _ _ _ _).alloc _;have hF:=Zl (((Zb.set3 F1.out (.int .i64 0) (.int .i64 0) (.int .i64 0)).alloc (.cells #[.int .i64 0,.int .i64 0,.int .i64 0] 29)).alloc (.cells #[.slice (some ⟨g,0,none⟩) L.length K,.int .i64 0] 227));have hgs:w.heap.size+1≤g:=by simpa using r1
 have hc:=Wa.made R5.out r2 hk (by omega) HL.out r3 r4
 have hb:Below w.heap.size w ((((w1.setCell ⟨w.heap.size,0,none⟩ (.int .i64 0)).setCell ⟨w.heap.size,1,none⟩ (.int .i64 0)).setCell ⟨w.heap.size,2,none⟩ (.int .i64 0)).alloc (.cells #[.int .i64 0,.int .i64 0,.int .i64 0] 29)):=
  (Below.set3 (Xq (Za _ _) B1.out) (Nat.le_refl _) _ _ _).alloc (by simp;omega) _
 refine bodyPost_ret (v:=.tuple #[.pointer (some ⟨w1.heap.size+1,0,none⟩),Zi okF]) (by simp[results,Tryz.results132,go_sem,hF,Zi,okF]) rfl ⟨w1.heap.size+1,g,K,rfl,?_,by omega,by omega,hb.alloc hb.size _⟩;simpa using hc
structure Zig(w:World)(r K:Nat)(L:List TokV):Prop where
 row:∀ j,j<(Ui L).length→w.cell? ⟨r,j,none⟩=(Ui L)[j]?
 rin:r<w.heap.size
 ends:Ends L
 capL:L.length≤K
 capM:K≤9223372036854775807
theorem Zig.keeps{w w':World}{r K:Nat}{L:List TokV}(h:Zig w r K L){S:Nat→Prop}(hk:Keeps S w w')(hr:¬ S r):Zig w' r K L:=
 ⟨fun j hj=>(World.cell?_of_block (a:=⟨r,j,none⟩) (hk.block r h.rin hr)).trans (h.row j hj),Nat.lt_of_lt_of_le h.rin hk.size,h.ends,h.capL,h.capM⟩
theorem Zig.below{w w':World}{r K:Nat}{L:List TokV}(h:Zig w r K L)(hb:Below w.heap.size w w'):Zig w' r K L:=
 h.keeps (S:=fun _=>False) (Keeps.of_below hb) id
theorem Zig.at_{w:World}{r K:Nat}{L:List TokV}(h:Zig w r K L){a:Nat}(ha:a<L.length) :
  w.cell? ⟨r,a*5,none⟩=some (.int .i64 (Zp L a).k)∧w.cell? ⟨r,a*5+1,none⟩=some (.string (Zp L a).t)∧w.cell? ⟨r,a*5+2,none⟩=some (.int .i64 (Zp L a).n) ∧
  w.cell? ⟨r,a*5+3,none⟩=some (.int .i64 ((Zp L a).line:Int))∧w.cell? ⟨r,a*5+4,none⟩=some (.int .i64 ((Zp L a).col:Int)):=by
 have hl:=Zil L
 have key:∀ j,j<5→w.cell? ⟨r,a*5+j,none⟩=(Zp L a).cells[j]?:=fun j hj=>by
  rw[h.row _ (by omega),tokCs_at L a j ha hj,curT_get L a ha]
 exact⟨key 0 (by omega),key 1 (by omega),key 2 (by omega),key 3 (by omega),key 4 (by omega)⟩
open Go Go.RowKit
inductive Ds where
 |nil
 |int (n:Int) (r:Ds)
 |str (s:ByteArray) (r:Ds)
 |row (n:Nat) (cs r:Ds)
def Ds.app:Ds→Ds→Ds
 |.nil,y=>y
 |.int n r,y=>.int n (r.app y)
 |.str s r,y=>.str s (r.app y)
 |.row n cs r,y=>.row n cs (r.app y)
def Ds.len:Ds→Nat
 |.nil=>0
 |.int _ r=>r.len+1
 |.str _ r=>r.len+1
 |.row _ _ r=>r.len+1
theorem Ds.app_nil:∀ x:Ds,x.app .nil=x
 |.nil=>rfl
 |.int n r=>by rw[Ds.app,Ds.app_nil r]
 |.str s r=>by rw[Ds.app,Ds.app_nil r]
 |.row n cs r=>by rw[Ds.app,Ds.app_nil r]
theorem Ds.app_assoc(y z:Ds):∀ x:Ds,(x.app y).app z=x.app (y.app z)
 |.nil=>rfl
 |.int n r=>by rw[Ds.app,Ds.app,Ds.app,Ds.app_assoc y z r]
 |.str s r=>by rw[Ds.app,Ds.app,Ds.app,Ds.app_assoc y z r]
 |.row n cs r=>by rw[Ds.app,Ds.app,Ds.app,Ds.app_assoc y z r]
theorem Ds.len_app(y:Ds):∀ x:Ds,(x.app y).len=x.len+y.len
 |.nil=>by rw[Ds.app,Ds.len];omega
 |.int n r=>by rw[Ds.app,Ds.len,Ds.len,Ds.len_app y r];omega
 |.str s r=>by rw[Ds.app,Ds.len,Ds.len,Ds.len_app y r];omega
 |.row n cs r=>by rw[Ds.app,Ds.len,Ds.len,Ds.len_app y r];omega
def Within(N:Nat→Prop)(w:World)(A:Option Addr)(xs:List Value):Prop:=
 xs=[]∨∃ g,A=some ⟨g,0,none⟩∧N g∧g<w.heap.size∧∀ j,j<xs.length→w.cell? ⟨g,j,none⟩=xs[j]?
def Deep(N:Nat→Prop)(w:World):Ds→List Value→Prop
 |.nil,vs=>vs=[]
 |.int n r,vs=>∃ t,vs=.int .i64 n::t∧Deep N w r t
 |.str s r,vs=>∃ t,vs=.string s::t∧Deep N w r t
 |.row n cs r,vs=>∃ A c xs t,vs=.slice A n c::t∧(n≤9223372036854775807∧n≤c)∧Within N w A xs∧Deep N w cs xs∧Deep N w r t
theorem Within.keeps{N M S:Nat→Prop}{w w':World}{A:Option Addr}{xs:List Value}(h:Within N w A xs)(hk:Keeps S w w')(hs:∀ k,k<w.heap.size→N k→¬ S k∧M k):Within M w' A xs:=by
 rcases h with h | ⟨g,e,h1,h2,h3⟩
 ·exact .inl h
 ·exact .inr ⟨g,e,(hs g h2 h1).2,Nat.lt_of_lt_of_le h2 hk.size,fun j hj=>(World.cell?_of_block (a:=⟨g,j,none⟩) (hk.block g h2 (hs g h2 h1).1)).trans (h3 j hj)⟩
theorem Deep.keeps{N M S:Nat→Prop}{w w':World}(hk:Keeps S w w')(hs:∀ k,k<w.heap.size→N k→¬ S k∧M k):∀{ds:Ds}{vs:List Value},Deep N w ds vs→Deep M w' ds vs
 |.nil,vs,h=>h
 |.int n r,vs,⟨t,e,h⟩=>⟨t,e,Deep.keeps hk hs h⟩
 |.str s r,vs,⟨t,e,h⟩=>⟨t,e,Deep.keeps hk hs h⟩
 |.row n cs r,vs,⟨A,c,xs,t,e,hn,h1,h2,h3⟩=>⟨A,c,xs,t,e,hn,h1.keeps hk hs,Deep.keeps hk hs h2,Deep.keeps hk hs h3⟩
theorem Deep.mono{N M:Nat→Prop}{w:World}{ds:Ds}{vs:List Value}(h:Deep N w ds vs)(hs:∀ k,k<w.heap.size→N k→M k):Deep M w ds vs:=
 h.keeps (S:=fun _=>False) (Keeps.refl _ w) fun k hk hn=>⟨id,hs k hk hn⟩
theorem Deep.below{N:Nat→Prop}{w w':World}{ds:Ds}{vs:List Value}(h:Deep N w ds vs)(hb:Below w.heap.size w w'):Deep N w' ds vs:=
 h.keeps (S:=fun _=>False) (Keeps.of_below hb) fun k _ hn=>⟨id,hn⟩
theorem Deep.len{N:Nat→Prop}{w:World}:∀{ds:Ds}{vs:List Value},Deep N w ds vs→vs.length=ds.len
 |.nil,vs,h=>by cases h;rfl
 |.int n r,vs,⟨t,e,h⟩=>by rw[e,List.length_cons,Deep.len h];rfl
 |.str s r,vs,⟨t,e,h⟩=>by rw[e,List.length_cons,Deep.len h];rfl
 |.row n cs r,vs,⟨A,c,xs,t,e,_,_,_,h⟩=>by rw[e,List.length_cons,Deep.len h];rfl
theorem Deep.one{N:Nat→Prop}{w:World}:∀{ds:Ds}{vs:List Value},Deep N w ds vs→∀ v ∈ vs,v.oneCell'=true
 |.nil,vs,h=>by cases h;intro v hv;cases hv
 |.int n r,vs,⟨t,e,h⟩=>by rw[e];intro v hv;rcases List.mem_cons.1 hv with rfl | hv;rfl;exact Deep.one h v hv
 |.str s r,vs,⟨t,e,h⟩=>by rw[e];intro v hv;rcases List.mem_cons.1 hv with rfl | hv;rfl;exact Deep.one h v hv
 |.row n cs r,vs,⟨A,c,xs,t,e,_,_,_,h⟩=>by rw[e];intro v hv;rcases List.mem_cons.1 hv with rfl | hv;rfl;exact Deep.one h v hv
theorem Deep.app{N:Nat→Prop}{w:World}{y:Ds}{us:List Value}(hy:Deep N w y us):∀{x:Ds}{vs:List Value},Deep N w x vs→Deep N w (x.app y) (vs++us)
 |.nil,vs,h=>by cases h;exact hy
 |.int n r,vs,⟨t,e,h⟩=>⟨t++us,by rw[e];rfl,Deep.app hy h⟩
 |.str s r,vs,⟨t,e,h⟩=>⟨t++us,by rw[e];rfl,Deep.app hy h⟩
 |.row n cs r,vs,⟨A,c,xs,t,e,hn,h1,h2,h⟩=>⟨A,c,xs,t++us,by rw[e];rfl,hn,h1,h2,Deep.app hy h⟩
theorem Deep.split{N:Nat→Prop}{w:World}{y:Ds}:∀{x:Ds}{vs:List Value},Deep N w (x.app y) vs→∃ a b,vs=a++b∧Deep N w x a∧Deep N w y b
 |.nil,vs,h=>⟨[],vs,rfl,rfl,h⟩
 |.int n r,vs,⟨t,e,h⟩=>by obtain⟨a,b,e2,h1,h2⟩:=Deep.split (x:=r) h;exact⟨.int .i64 n::a,b,by rw[e,e2];rfl,⟨a,rfl,h1⟩,h2⟩
 |.str s r,vs,⟨t,e,h⟩=>by obtain⟨a,b,e2,h1,h2⟩:=Deep.split (x:=r) h;exact⟨.string s::a,b,by rw[e,e2];rfl,⟨a,rfl,h1⟩,h2⟩
 |.row n cs r,vs,⟨A,c,xs,t,e,hn,g1,g2,h⟩=>by obtain⟨a,b,e2,h1,h2⟩:=Deep.split (x:=r) h;exact⟨.slice A n c::a,b,by rw[e,e2];rfl,⟨A,c,xs,a,rfl,hn,g1,g2,h1⟩,h2⟩
theorem own_within{w:World}{base:Nat}{e:TypeId}{size:Nat}{v:Value}{n:Nat}{xs:List Value}(h:w.ownsRow base e size v n xs) :
  ∃ A c,v=.slice A n c∧(n≤9223372036854775807∧n≤c)∧Within (fun k=>base≤k) w A xs:=by
 obtain⟨hl,h⟩:=id h;rcases h with⟨rfl,rfl⟩ | ⟨g,cap,cur,rfl,hb,hw,h1,h2,h3,h4⟩
 ·refine⟨none,0,rfl,by omega,.inl ?_⟩
  rw[Nat.zero_mul]at hl;exact List.length_eq_zero_iff.1 hl
 ·unfold maxLen at h2
  refine⟨some ⟨g,0,none⟩,cap,rfl,by omega,.inr ⟨g,rfl,hb,Zb.inside (cs:=cur) hw,fun j hj=>?_⟩⟩;rw[Zb.read (cs:=cur) hw j,←h4,List.getElem?_take];have hj':j<n*size:=by rw[←hl];exact hj
  rw[if_pos hj',Array.getElem?_toList]
theorem Deep.rowOf{N:Nat→Prop}{w:World}{base:Nat}{e:TypeId}{size:Nat}{v:Value}{n:Nat}{xs:List Value}{ds:Ds}(h:w.ownsRow base e size v n xs)(hb:∀ k,base≤k→N k)(hd:Deep N w ds xs) :
  Deep N w (.row n ds .nil) [v]:=by
 obtain⟨A,c,rfl,hn,hw⟩:=own_within h;exact⟨A,c,xs,[],rfl,hn,hw.keeps (S:=fun _=>False) (Keeps.refl _ w) (fun k _ hk=>⟨id,hb k hk⟩),hd,rfl⟩
theorem Zb.range{w:World}{g:Nat}{t:TypeId}{a b c:List Value}(h:Zb w g t (a++b++c).toArray):w.rangeAt g a.length b:=fun j v hv=>by
 have hj:j<b.length:=(List.getElem?_eq_some_iff.1 hv).1;rw[h.read,List.getElem?_toArray,List.getElem?_append_left (by rw[List.length_append];omega),List.getElem?_append_right (by omega),show a.length+j - a.length=j from by omega,hv]
theorem Zb.there{w:World}{g:Nat}{t:TypeId}{a b c:List Value}(h:Zb w g t (a++b++c).toArray):w.there g a.length b.length:=fun j hj=>
 ⟨h.range.isSome j hj,h.thawed _⟩
theorem Zb.setCells{g:Nat}{t:TypeId}(c:List Value):∀(y b a:List Value)(w:World),y.length=b.length→Zb w g t (a++b++c).toArray→Zb (w.setCells g a.length y) g t (a++y++c).toArray
 |[],b,a,w,hl,h=>by
  have:b=[]:=List.length_eq_zero_iff.1 (by rw[←hl];rfl);rw[this]at h;exact h
 |v::y,[],a,w,hl,h=>by cases hl
 |v::y,u::b,a,w,hl,h=>by
  rw[World.setCells];have h1:=h.write a.length v
  have e:(a++u::b++c).toArray.setIfInBounds a.length v=((a++[v])++b++c).toArray:=by
   simp[List.setIfInBounds_toArray,List.set_append_right]
  rw[e]at h1;have h2:=Zb.setCells c y b (a++[v]) _ (by rw[List.length_cons,List.length_cons]at hl;omega) h1;rw[List.length_append]at h2;have e2:(a++[v]++y++c).toArray=(a++v::y++c).toArray:=by simp
  rw[e2]at h2;exact h2
theorem Keeps.setCells{S:Nat→Prop}{g:Nat}(hg:S g):∀(y:List Value)(o:Nat){a b:World},Keeps S a b→Keeps S a (b.setCells g o y)
 |[],_,_,_,h=>h
 |v::y,o,a,b,h=>Keeps.setCells hg y (o+1) (h.setCell (p:=⟨g,o,none⟩) hg v)
theorem at_ld{P:Program}{ops:Array Oper}{rest:List Oper}{op:Op}{t:TypeId}{ps:String}{af:Array Edge}{gd:Option (Nat×Bool)}{a:Act}{w:World}{Q:Exit→Act→World→Prop}(d:Nat)
 (h:wpList P ops Q (⟨some d,op,t,ps,af,gd⟩::rest) a w):wpList P ops Q (⟨some d,op,t,ps,af,gd⟩::rest) a w:=h
theorem at_st{P:Program}{ops:Array Oper}{rest:List Oper}{T:TypeId}{t:TypeId}{ps:String}{af:Array Edge}{gd:Option (Nat×Bool)}{a:Act}{w:World}{Q:Exit→Act→World→Prop}(x y:Nat)
 (h:wpList P ops Q (⟨none,.store T (.tmp x) (.tmp y),t,ps,af,gd⟩::rest) a w):wpList P ops Q (⟨none,.store T (.tmp x) (.tmp y),t,ps,af,gd⟩::rest) a w:=h
structure Put(w w':World)(g:Nat)(t:TypeId)(vs:List Value):Prop where
 whole:Zb w' g t vs.toArray
 keeps:Keeps (fun k=>k=g) w w'
theorem wpList_storeP{P:Program}{ops:Array Oper}{rest:List Oper}{o:Oper}{a:Act}{w:World}{Q:Exit→Act→World→Prop}(T:TypeId)(x y:Operand)(t:TypeId)(g n:Nat)(pre old post ys:List Value)(hW:Zb w g t (pre++old++post).toArray)(hl:ys.length=old.length)
  (hpn:n=pre.length)(hi:(P.info? T).map (·.size)=some ys.length)(h1:∀ v ∈ ys,v.oneCell'=true)
  (hgd:o.guard=none)(ho:o.op=.store T x y)(hd:o.dst=none)
  (hx:a.eval x=.pointer (some ⟨g,n,none⟩))(hy:a.eval y=.agg ys.toArray)
  (h:∀ w',Put w w' g t (pre++ys++post)→wpList P ops Q rest a w'):wpList P ops Q (o::rest) a w:=by
 subst hpn;have ht:w.there g pre.length ys.length:=by rw[hl];exact hW.there
 refine wpList_store_mid hgd T x y ho g pre.length ys.toArray hx hy (by simpa using ht) (by simpa using hi) (all_oneCell_toArray h1) ?_;rw[hd];exact h _ ⟨Zb.setCells post ys old pre w hl hW,Keeps.setCells (S:=fun k=>k=g) rfl _ _ (Keeps.refl _ _)⟩
theorem wpList_storeW{P:Program}{ops:Array Oper}{rest:List Oper}{o:Oper}{a:Act}{w:World}{Q:Exit→Act→World→Prop}(T:TypeId)(x y:Operand)(t:TypeId)(g:Nat)(old ys:List Value)(hW:Zb w g t old.toArray)(hl:ys.length=old.length)
  (hi:(P.info? T).map (·.size)=some ys.length)(h1:∀ v ∈ ys,v.oneCell'=true)
  (hgd:o.guard=none)(ho:o.op=.store T x y)(hd:o.dst=none)
  (hx:a.eval x=.pointer (some ⟨g,0,none⟩))(hy:a.eval y=.agg ys.toArray)
  (h:∀ w',Put w w' g t ys→wpList P ops Q rest a w'):wpList P ops Q (o::rest) a w:=
 wpList_storeP T x y t g 0 [] old [] ys (by simpa using hW) hl rfl hi h1 hgd ho hd hx hy fun w' p=>h w' ⟨by simpa using p.whole,p.keeps⟩
theorem wpList_store1{P:Program}{ops:Array Oper}{rest:List Oper}{o:Oper}{a:Act}{w:World}{Q:Exit→Act→World→Prop}(T:TypeId)(x y:Operand)(t:TypeId)(g n:Nat)(pre:List Value)(old v:Value)(post:List Value)(hW:Zb w g t (pre++[old]++post).toArray)
  (hpn:n=pre.length)(hi:(P.info? T).map (·.size)=some 1)(h1:v.oneCell'=true)
  (hgd:o.guard=none)(ho:o.op=.store T x y)(hd:o.dst=none)
  (hx:a.eval x=.pointer (some ⟨g,n,none⟩))(hy:a.eval y=v)
  (h:∀ w',Put w w' g t (pre++[v]++post)→wpList P ops Q rest a w'):wpList P ops Q (o::rest) a w:=by
 subst hpn;refine wpList_plain hgd fun K hK=>?_
 have hc:v.cells=#[v]:=by cases v<;>first | rfl | cases h1
 have hst:(storeVar T ⟨g,pre.length,none⟩ v).run P w=.ok () (w.setCells g pre.length [v]):=by
  have:=run_storeCells_cells (P:=P) g pre.length [v] 0 w (fun j hj=>by simpa using(hW.there j hj).1) (fun j hj=>by simpa using(hW.there j hj).2) (fun u hu=>by simp at hu;rw[hu];exact h1);cases hq:P.info? T with
  |none=>simp[hq]at hi
  |some i=>
   have hs:i.size=1:=by simpa[hq]using hi
   simp only[Nat.add_zero]at this;simp[storeVar,sizeOf,typeInfo,hq,hc,hs,this]
 unfold Oper.wp execOp;simp only[ho,hx,hy,Instr.storeAt,Instr.sureAddr,Sem.run_bind,Sem.run_pure,Result.andThen_ok,hst];have hh:=hK _ _ (h _ ⟨Zb.setCells post [v] [old] pre w rfl hW,Keeps.setCells (S:=fun k=>k=g) rfl _ _ (Keeps.refl _ _)⟩);have e:a.put o.dst undef=a:=by rw[hd];rfl
 show K (a.put o.dst undef) _;rw[e];exact hh
theorem wpList_loadP{P:Program}{ops:Array Oper}{rest:List Oper}{o:Oper}{a:Act}{w:World}{Q:Exit→Act→World→Prop}(T:TypeId)(x:Operand)(t:TypeId)(g n:Nat)(pre vs post:List Value)(hW:Zb w g t (pre++vs++post).toArray)(hpn:n=pre.length)
  (hu:(P.underlying T).map TypeDesc.isRow=some true)(hi:(P.info? T).map (·.size)=some vs.length)
  (hgd:o.guard=none)(ho:o.op=.load T x)(hx:a.eval x=.pointer (some ⟨g,n,none⟩))
  (h:wpList P ops Q rest (a.put o.dst (.agg vs.toArray)) w):wpList P ops Q (o::rest) a w:=by
 subst hpn;obtain⟨d,hu,hr⟩:=Option.map_eq_some_iff.1 hu;exact wpList_load_mid hgd T x ho g pre.length hx vs d hW.range hu hr hi h
theorem wpList_loadW{P:Program}{ops:Array Oper}{rest:List Oper}{o:Oper}{a:Act}{w:World}{Q:Exit→Act→World→Prop}(T:TypeId)(x:Operand)(t:TypeId)(g:Nat)(vs:List Value)(hW:Zb w g t vs.toArray)
  (hu:(P.underlying T).map TypeDesc.isRow=some true)(hi:(P.info? T).map (·.size)=some vs.length)
  (hgd:o.guard=none)(ho:o.op=.load T x)(hx:a.eval x=.pointer (some ⟨g,0,none⟩))
  (h:wpList P ops Q rest (a.put o.dst (.agg vs.toArray)) w):wpList P ops Q (o::rest) a w:=
 wpList_loadP T x t g 0 [] vs [] (by simpa using hW) rfl hu hi hgd ho hx h
theorem wpList_pushL{P:Program}{w:World}{ops:Array Oper}{rest:List Oper}{o:Oper}{a:Act}{Q:Exit→Act→World→Prop}(s x:Operand)(t e:TypeId)(sz bytes:Nat)(z:Value)
  (ht:P.underlying t=some (.slice e))(hinfo:(P.info? e).map (fun i=>(i.zero,i.size,i.bytes))=some (some z,sz,bytes))(hzs:z.cells.size=sz)(hpos:0<sz)(hby:bytes≤1024)
  (base:Nat)(v:Value)(n:Nat)(xs news:List Value)(hown:w.ownsRow base e sz v n xs)(g:Nat)(hW:Zb w g e news.toArray)(hnl:news.length=sz)(h1:∀ u ∈ news,u.oneCell'=true)
  (hn:n≤68719476736)(hbase:base≤w.heap.size)
  (hgd:o.guard=none)(ho:o.op=.call { callee:=.builtin .append,args:=#[s,x],argTypes:=#[t,t] })(hs:a.eval s=v)(hx:a.eval x=.slice (some ⟨g,0,none⟩) 1 1)
  (h:∀ v' w',w'.ownsRow base e sz v' (n+1) (xs++news)→w.grownBy w' v.ownBlock→(v'.ownBlock=v.ownBlock∨v'.ownBlock=some w.heap.size)→wpList P ops Q rest (a.put o.dst v') w') :
  wpList P ops Q (o::rest) a w:=by
 obtain⟨i,hi,hz,hsize,hbytes⟩:=info_parts hinfo;refine wpList_append_own_at w hgd s x t ho base e i z sz bytes ht hi hz hsize hbytes hzs hpos v n xs hs hown ⟨g,0,none⟩ 1 1 news hx (by rw[hnl];omega) ?_ h1 (by unfold maxLen;omega) ?_ hbase ?_
 ·intro j u hj
  have hr:=hW.read j;have ha:(⟨g,0,none⟩:Addr).add j=⟨g,j,none⟩:=by simp[Addr.add];omega
  rw[ha,hr,←hj];simp
 ·have:(n+1)*bytes≤(n+1)*1024:=Nat.mul_le_mul_left _ hby
  omega
 ·intro v' w' ho' hg _ hat
  exact h v' w' ho' hg hat
theorem Zj{P:Program}{fn:Func}{R:Ending→World→Prop}{a:Act}{w:World}(s T:Nat)(t:TypeId)(g:Nat)(vs:List Value)(hres:fn.results=#[.cell s T])(hW:Zb w g t vs.toArray)
  (hu:(P.underlying T).map TypeDesc.isRow=some true)(hi:(P.info? T).map (·.size)=some vs.length)
  (hp:a.tmps.getD s undef=.pointer (some ⟨g,0,none⟩))(hd:a.defers=[])(hR:R (.returned (.agg vs.toArray)) w):bodyPost P fn R .ret a w:=by
 obtain⟨d,hu,hr⟩:=Option.map_eq_some_iff.1 hu;refine bodyPost_ret (v:=.agg vs.toArray) ?_ hd hR;have hl:=run_loadVar_mid (P:=P) w g 0 T vs d (by have:=Zb.range (a:=[]) (b:=vs) (c:=[]) (by simpa using hW);exact this) hu hr hi;have hp':a.tmps[s]?.getD undef=.pointer (some ⟨g,0,none⟩):=by simpa using hp
 simp[results,hres,hp',hl,asAddr,Sem.run_bind,Sem.run_pure]
open Go
structure Sc where
 place:Bool
 whn:Int
 each:Bool
abbrev Fa:=Int×Int×Int
def faV(F:Fa):Value:=.agg #[.int .i64 F.1,.int .i64 F.2.1,.int .i64 F.2.2]
def orE(a b:Int):Int:=if a=0 then b else a
def orF(a b:Fa):Fa:=if a.1=0∧a.2.1=0∧a.2.2=0 then b else a
def atF(e l c:Int):Fa:=if e=0 then(0,0,0)else(e,l,c)
def Zbw(n lo hi:Int):Bool:=decide (n<lo) || decide (hi<n)
def Sc.entered(c:Sc):Bool:=c.place && (c.whn == 6)
def Zbg(c:Sc)(n:Int):Int:=if(c.place && !c.entered && (n == 1 || n == 2))=true then 24 else 0
def lTo(tk tl:Int):Int:=if(tk == 4 && Zbw tl 1 3)=true then 20 else 0
def Jr(s:Se)(k f:Int):Bool:=s.fs.any (fun x=>x.kind == f) || (s.kind == k)
def Zhj(c:Sc)(s:Se):Int:=
 if(!(c.each || c.entered) && Jr s 2 5)=true then 24
 else if(c.place && Jr s 1 4)=true then 24
 else if Zbg c s.side≠0 then Zbg c s.side
 else if(s.wh == 3 && Zbw s.lane 1 3)=true then 20
 else if 4<s.fs.length then 9 else 0
def Vj(c:Sc):Ex→Int
 |.leaf k n s sd tk tl=>if k=2∨k=3 then Zhj c s else if k=5 then Zbg c sd else if k=6 then orE (Zbg c sd) (lTo tk tl)else 0
 |.bin op l r=>orE (Vj c l) (Vj c r)
def Zca(c:Sc)(h:AH):Int:=
 if h.kind=1∨h.kind=2∨h.kind=12 then orE (Zhj c h.sel) (Vj c h.num)
 else if h.kind=3∨h.kind=5∨h.kind=14∨h.kind=11 then Zhj c h.sel
 else if h.kind=4 then orE (Zhj c h.sel) (lTo h.tk h.tl)
 else if h.kind=6 then orE (Zbg c h.side) (orE (lTo h.tk h.tl) (Vj c h.num))
 else if h.kind=7∨h.kind=9 then orE (Zbg c h.side) (Vj c h.num)
 else if h.kind=8 then Zbg c h.side
 else if h.kind=13∨h.kind=15 then orE (Zbg c h.side) (lTo h.tk h.tl)
 else if h.kind=10 then orE (Vj c h.cl) (Vj c h.cr)
 else 0
def Zhn(c:Sc)(k:Int):Bool:=if k=10 then true else if k=12∨k=13∨k=14∨k=15 then c.whn == 5 else !(c.whn == 5)
def Zct(c:Sc)(i k:Int):Int:=if 12≤i then 9 else if Zhn c k=false then 13 else if(k == 11 && c.each)=true then 8 else 0
def Vr(c:Sc)(i:Nat):Acs→Fa
 |.nil=>(0,0,0)
 |.cons h t e r=>
  if(if orE (Zct c i h.kind) (Zca c h)≠0 then(orE (Zct c i h.kind) (Zca c h),h.line,h.col)else if h.kind=10 then orF (Vr c 0 t) (Vr c 0 e)else if h.kind=11 then Vr ⟨c.place,c.whn,true⟩ 0 t else(0,0,0)).1=0 then Vr c (i+1) r
  else if orE (Zct c i h.kind) (Zca c h)≠0 then(orE (Zct c i h.kind) (Zca c h),h.line,h.col)else if h.kind=10 then orF (Vr c 0 t) (Vr c 0 e)else if h.kind=11 then Vr ⟨c.place,c.whn,true⟩ 0 t else(0,0,0)
def lAct(c:Sc)(i:Int)(h:AH)(t e:Acs):Fa:=
 if orE (Zct c i h.kind) (Zca c h)≠0 then(orE (Zct c i h.kind) (Zca c h),h.line,h.col)else if h.kind=10 then orF (Vr c 0 t) (Vr c 0 e)else if h.kind=11 then Vr ⟨c.place,c.whn,true⟩ 0 t else(0,0,0)
theorem Zeb(c:Sc)(i:Nat)(h:AH)(t e r:Acs):Vr c i (.cons h t e r)=if(lAct c i h t e).1=0 then Vr c (i+1) r else lAct c i h t e:=rfl
def exZ:Ex→Int
 |.leaf .. =>1
 |.bin _ l r=>1+exZ l+exZ r
def acZ(h:AH)(t e:Int)(en:Nat):Int:=
 if h.kind=1∨h.kind=2∨h.kind=6∨h.kind=7∨h.kind=9∨h.kind=12 then exZ h.num+1
 else if h.kind=10 then exZ h.cl+exZ h.cr+t+1+(if 0<en then e+1 else 0)
 else if h.kind=11 then t+2 else 1
def acsZ:Acs→Int
 |.nil=>0
 |.cons h t e r=>acZ h (acsZ t) (acsZ e) e.len+acsZ r
def wr(n:Int):Int:=IntKind.i64.wrap n
theorem wr_eq(n:Int):wr n=if 9223372036854775808≤n % 18446744073709551616 then n % 18446744073709551616 - 18446744073709551616 else n % 18446744073709551616:=by
 unfold wr;simp[IntKind.wrap,IntKind.bits,IntKind.signed]
theorem wr_add(a b:Int):wr (wr a+wr b)=wr (a+b):=by
 simp only[wr_eq];split<;>split<;>split<;>split<;>omega
theorem Zkc(a b:Int):wr (wr a+b)=wr (a+b):=by
 simp only[wr_eq];split<;>split<;>split<;>omega
theorem wr_small{n:Int}(h0 : -9223372036854775808≤n)(h1:n<9223372036854775808):wr n=n:=by
 rw[wr_eq];split<;>omega
def Zcm(place:Bool)(i:Int)(r:Ru):Int:=
 if 4≤i then 9 else if(if r.when_=6 then place else if r.when_=2∨r.when_=3 then !place else true)=false then 13
 else if(r.when_ == 5 && Zbw r.stratum 1 3)=true then 12 else 0
def Zkm(r:Ru):Int:=if 96<wr (acsZ r.acts)then 3 else 0
def Zcl(place:Bool)(i:Int)(r:Ru):Fa:=orF (atF (Zcm place i r) r.line r.col) (orF (Vr ⟨place,r.when_,false⟩ 0 r.acts) (atF (Zkm r) r.line r.col))
def Vu(place:Bool):Nat→List Ru→Fa
 |_,[]=>(0,0,0)
 |i,r::l=>if(Zcl place i r).1=0 then Vu place (i+1) l else Zcl place i r
def lCard(c:Ca):Fa:=if(Zbw c.cost 0 9 || Zbw c.power (-20) 20)=true then(12,c.line,c.col)else Vu false 0 c.rules
def Jj(p:Pl):Fa:=Vu true 0 p.rules
def Zbj(most tw i:Int)(l c:Int)(f:Fa):Fa:=if most≤i then(9,l,c)else if i=tw then(11,l,c)else f
def Uy(tw:Int):Nat→List Ca→Fa
 |_,[]=>(0,0,0)
 |i,c::l=>if(Zbj 128 tw i c.line c.col (lCard c)).1=0 then Uy tw (i+1) l else Zbj 128 tw i c.line c.col (lCard c)
def Vl(tw:Int):Nat→List Pl→Fa
 |_,[]=>(0,0,0)
 |i,p::l=>if(Zbj 32 tw i p.line p.col (Jj p)).1=0 then Vl tw (i+1) l else Zbj 32 tw i p.line p.col (Jj p)
def scL(c:Sc)(st ln cl:Int)(A:Option Addr)(n k:Nat):List Value:=[.int .i64 c.whn,.int .i64 st,.int .i64 ln,.int .i64 cl,.slice A n k,.bool c.place,.bool c.each]
theorem Wx{w:World}{g:Nat}{t:TypeId}{a b c d e f:Value}(h:Zb w g t #[a,b,c,d,e,f]):w.cell? ⟨g,0,none⟩=some a∧w.cell? ⟨g,1,none⟩=some b∧w.cell? ⟨g,2,none⟩=some c∧w.cell? ⟨g,3,none⟩=some d∧w.cell? ⟨g,4,none⟩=some e∧w.cell? ⟨g,5,none⟩=some f:=
 ⟨by rw[h.read];rfl,by rw[h.read];rfl,by rw[h.read];rfl,by rw[h.read];rfl,by rw[h.read];rfl,by rw[h.read];rfl⟩
theorem Zu{w:World}{g:Nat}{t:TypeId}{a b c d e f h:Value}(W:Zb w g t #[a,b,c,d,e,f,h]) :
  w.cell? ⟨g,0,none⟩=some a∧w.cell? ⟨g,1,none⟩=some b∧w.cell? ⟨g,2,none⟩=some c∧w.cell? ⟨g,3,none⟩=some d∧w.cell? ⟨g,4,none⟩=some e∧w.cell? ⟨g,5,none⟩=some f∧w.cell? ⟨g,6,none⟩=some h:=
 ⟨W.read 0,W.read 1,W.read 2,W.read 3,W.read 4,W.read 5,W.read 6⟩
theorem Zw:(Tryz.prog.underlying 29).map TypeDesc.isRow=some true:=by kernel_rfl
theorem Zf:(Tryz.prog.info? 29).map (·.size)=some 3:=by kernel_rfl
theorem Zez(n lo hi:Int)(w:World):Calls Tryz.prog 91 #[.int .i64 n,.int .i64 lo,.int .i64 hi] w fun e w'=>e=.returned (.bool (Zbw n lo hi))∧Below w.heap.size w w':=by
 go_enter Tryz.func91,Tryz.ntmps91;by_cases h1:n<lo
 ·go_wp2
  go_ret;exact⟨by simp[Zbw,h1],Below.refl _ _⟩
 ·by_cases h2:hi<n
  ·go_wp2
   go_ret;exact⟨by simp[Zbw,h1,h2],Below.refl _ _⟩
  ·go_wp2
   go_ret;exact⟨by simp[Zbw,h1,h2],Below.refl _ _⟩
theorem lFaultAt(e l c:Int)(w:World):Calls Tryz.prog 185 #[.int .i64 e,.int .i64 l,.int .i64 c] w fun r w'=>r=.returned (faV (atF e l c))∧Below w.heap.size w w':=by
 go_enter Tryz.func185,Tryz.ntmps185;by_cases h:e=0
 ·subst h
  go_wp2
  exact Zj 6 29 29 _ [.int .i64 0,.int .i64 0,.int .i64 0] rfl (Zb.made _ _ _) Zw Zf rfl rfl ⟨rfl,Za _ _⟩
 ·have hb:(e == 0)=false:=by simpa using h
  go_wp2
  exact Zj 6 29 29 _ [.int .i64 e,.int .i64 l,.int .i64 c] rfl (Zb.made _ _ _) Zw Zf rfl rfl ⟨by simp[faV,atF,h],Za _ _⟩
section
variable (c:Sc) (st ln cl:Int) (A:Option Addr) (rn rk:Nat)
theorem lEntered(w:World):Calls Tryz.prog 276 #[.agg (scL c st ln cl A rn rk).toArray] w fun e w'=>e=.returned (.bool c.entered)∧Below w.heap.size w w':=by
 obtain⟨pl,wh,ea⟩:=c;simp only[scL];go_enter Tryz.func276,Tryz.ntmps276;cases pl
 ·go_wp2
  go_ret;exact⟨rfl,Za _ _⟩
 ·go_wp2
  go_ret;exact⟨by simp[Sc.entered],Za _ _⟩
theorem lAlways(w:World):Calls Tryz.prog 187 #[.agg (scL c st ln cl A rn rk).toArray] w fun e w'=>e=.returned (.bool (c.whn == 5))∧Below w.heap.size w w':=by
 obtain⟨pl,wh,ea⟩:=c;simp only[scL];go_enter Tryz.func187,Tryz.ntmps187;go_wp2
 go_ret;exact⟨rfl,Za _ _⟩
theorem lTriggered(w:World):Calls Tryz.prog 186 #[.agg (scL c st ln cl A rn rk).toArray] w fun e w'=>e=.returned (.bool (if c.whn=6 then c.place else if c.whn=2∨c.whn=3 then !c.place else true))∧Below w.heap.size w w':=by
 obtain⟨pl,wh,ea⟩:=c;simp only[scL];go_enter Tryz.func186,Tryz.ntmps186;by_cases h6:wh=6
 ·subst h6
  go_wp2
  go_ret;exact⟨rfl,Za _ _⟩
 ·have b6:(wh == 6)=false:=by simpa using h6
  by_cases h2:wh=2
  ·subst h2
   go_wp2
   go_ret;exact⟨rfl,Za _ _⟩
  ·have b2:(wh == 2)=false:=by simpa using h2
   by_cases h3:wh=3
   ·subst h3
    go_wp2
    go_ret;exact⟨rfl,Za _ _⟩
   ·have b3:(wh == 3)=false:=by simpa using h3
    go_wp2
    go_ret;exact⟨by simp[h6,h2,h3],Za _ _⟩
theorem lTo_any(tk tl:Int)(w:World):Calls Tryz.prog 253 #[.agg [.int .i64 tk,.int .i64 tl].toArray] w fun e w'=>e=.returned (.int .i64 (lTo tk tl))∧Below w.heap.size w w':=by
 have ho:=fun w=>Zez tl 1 3 w
 have hv:lTo tk tl=if(tk == 4 && Zbw tl 1 3)=true then 20 else 0:=rfl
 generalize Zbw tl 1 3=q at *;go_enter Tryz.func253,Tryz.ntmps253;by_cases h4:tk=4
 ·subst h4
  cases q <;>
  ·go_wp2_with(go_at_call 91;refine(ho _).mono ?_;rintro e w1 ⟨rfl,b1⟩)
   go_ret;exact⟨by first | rfl | (rw[hv];rfl),Xq (Za _ _) b1⟩
 ·have b4:(tk == 4)=false:=by simpa using h4
  go_wp2
  go_ret;exact⟨by rw[hv];simp[h4],Za _ _⟩
theorem Ziu(n:Int)(w:World):Calls Tryz.prog 254 #[.agg (scL c st ln cl A rn rk).toArray,.int .i64 n] w fun e w'=>e=.returned (.int .i64 (Zbg c n))∧Below w.heap.size w w':=by
 have ho:=fun w=>lEntered c st ln cl A rn rk w
 have hv:Zbg c n=if(c.place && !c.entered && (n == 1 || n == 2))=true then 24 else 0:=rfl
 generalize c.entered=q at *;obtain⟨pl,wh,ea⟩:=c;simp only[scL]at *;go_enter Tryz.func254,Tryz.ntmps254;cases pl
 ·go_wp2
  go_ret;exact⟨by rw[hv];simp,Za _ _⟩
 ·cases q
  ·by_cases h1:n=1
   ·subst h1
    go_wp2_with(go_at_call 276;refine(ho _).mono ?_;rintro e w1 ⟨rfl,b1⟩)
    go_ret;exact⟨by first | rfl | (rw[hv];rfl),Xq (Za _ _) b1⟩
   ·have e1:(n == 1)=false:=by simpa using h1
    by_cases h2:n=2
    ·subst h2
     go_wp2_with(go_at_call 276;refine(ho _).mono ?_;rintro e w1 ⟨rfl,b1⟩)
     go_ret;exact⟨by first | rfl | (rw[hv];rfl),Xq (Za _ _) b1⟩
    ·have e2:(n == 2)=false:=by simpa using h2
     go_wp2_with(go_at_call 276;refine(ho _).mono ?_;rintro e w1 ⟨rfl,b1⟩)
     go_ret;exact⟨by rw[hv];simp[h1,h2],Xq (Za _ _) b1⟩
  ·go_wp2_with(go_at_call 276;refine(ho _).mono ?_;rintro e w1 ⟨rfl,b1⟩)
   go_ret;exact⟨by rw[hv];simp,Xq (Za _ _) b1⟩
theorem lAllows_any(k:Int)(w:World):Calls Tryz.prog 250 #[.agg (scL c st ln cl A rn rk).toArray,.int .i64 k] w fun e w'=>e=.returned (.bool (Zhn c k))∧Below w.heap.size w w':=by
 have ho:=fun w=>lAlways c st ln cl A rn rk w
 have hv:Zhn c k=if k=10 then true else if k=12∨k=13∨k=14∨k=15 then c.whn == 5 else !(c.whn == 5):=rfl
 generalize(c.whn == 5)=q at *;obtain⟨pl,wh,ea⟩:=c;simp only[scL]at *;go_enter Tryz.func250,Tryz.ntmps250;by_cases h0:k=10
 ·subst h0
  go_wp2
  go_ret;exact⟨by first | rfl | (rw[hv];rfl),Za _ _⟩
 ·have b0:(k == 10)=false:=by simpa using h0
  by_cases hk:k=12∨k=13∨k=14∨k=15
  ·rcases hk with rfl | rfl | rfl | rfl <;>
   ·go_wp2_with(go_at_call 187;refine(ho _).mono ?_;rintro e w1 ⟨rfl,b1⟩)
    go_ret;exact⟨by first | rfl | (rw[hv];rfl),Xq (Za _ _) b1⟩
  ·have b2:(k == 12)=false:=by rw[beq_eq_false_iff_ne];omega
   have b3:(k == 13)=false:=by rw[beq_eq_false_iff_ne];omega
   have b4:(k == 14)=false:=by rw[beq_eq_false_iff_ne];omega
   have b5:(k == 15)=false:=by rw[beq_eq_false_iff_ne];omega
   rw[if_neg h0,if_neg hk]at hv;clear hk h0;go_wp2_with(go_at_call 187;refine(ho _).mono ?_;rintro e w1 ⟨rfl,b1⟩)
   go_ret;exact⟨by rw[hv];rfl,Xq (Za _ _) b1⟩
theorem lStand_any(i k:Int)(w:World):Calls Tryz.prog 215 #[.agg (scL c st ln cl A rn rk).toArray,.int .i64 i,.int .i64 k] w fun e w'=>e=.returned (.int .i64 (Zct c i k))∧Below w.heap.size w w':=by
 have ho:=fun w=>lAllows_any c st ln cl A rn rk k w
 have hv:Zct c i k=if 12≤i then 9 else if Zhn c k=false then 13 else if(k == 11 && c.each)=true then 8 else 0:=rfl
 generalize Zhn c k=q at *;obtain⟨pl,wh,ea⟩:=c;simp only[scL]at *;go_enter Tryz.func215,Tryz.ntmps215;by_cases h0:12≤i
 ·go_wp2
  go_ret;exact⟨by rw[hv];simp[h0],Za _ _⟩
 ·cases q
  ·go_wp2_with(go_at_call 250;refine(ho _).mono ?_;rintro e w1 ⟨rfl,b1⟩)
   go_ret;exact⟨by rw[hv];simp[h0],Xq (Za _ _) b1⟩
  ·by_cases h1:k=11
   ·subst h1
    cases ea <;>
    ·go_wp2_with(go_at_call 250;refine(ho _).mono ?_;rintro e w1 ⟨rfl,b1⟩;have W:=(Zb.made w 194 #[_,_,_,_,_,_,_]).below b1 (Zb.made w 194 _).inside;obtain⟨c0,c1,c2,c3,c4,c5,c6⟩:=Zu W)
     go_ret;exact⟨by rw[hv];simp[h0],Xq (Za _ _) b1⟩
   ·have b1:(k == 11)=false:=by simpa using h1
    go_wp2_with(go_at_call 250;refine(ho _).mono ?_;rintro e w1 ⟨rfl,b1⟩)
    go_ret;exact⟨by rw[hv];simp[h0,h1],Xq (Za _ _) b1⟩
end
def Xi:List Int→Int
 |[]=>0
 |a::r=>if a=0 then Xi r else a
theorem Zhu:∀{l:List Int},(∀ j,j<l.length→l.getD j 0=0)→Xi l=0
 |[],_=>rfl
 |a::r,h=>by
  have h0:a=0:=h 0 (by simp);unfold Xi;rw[if_pos h0];exact Zhu fun j hj=>by have:=h (j+1) (by simpa using hj);simpa using this
theorem firstNZ_at:∀{l:List Int}{k:Nat},k<l.length→(∀ j,j<k→l.getD j 0=0)→l.getD k 0≠0→Xi l=l.getD k 0
 |[],k,hk,_,_=>by cases hk
 |a::r,0,_,_,h=>by
  have h0:a≠0:=h;unfold Xi;rw[if_neg h0];rfl
 |a::r,k+1,hk,h,hn=>by
  have h0:a=0:=h 0 (by omega);unfold Xi;rw[if_pos h0];have:=firstNZ_at (l:=r) (k:=k) (by simpa using hk) (fun j hj=>by have:=h (j+1) (by omega);simpa using this) (by simpa using hn);simpa using this
theorem orE2(a b:Int):Xi [a,b]=orE a b:=by simp only[orE,Xi];split<;>(try split)<;>omega
theorem orE3(a b c:Int):Xi [a,b,c]=orE a (orE b c):=by simp only[orE,Xi];split<;>(try split)<;>(try split)<;>omega
theorem cell_ints{w:World}{g:Nat}{t:TypeId}{l:List Int}(h:Zb w g t (l.map (Value.int .i64)).toArray){k:Nat}(hk:k<l.length):w.cell? ⟨g,k,none⟩=some (.int .i64 (l.getD k 0)):=by
 rw[Zb.read h k];simp[List.getD,hk]
theorem Zkb(l:List Int)(n m g:Nat)(w:World)(hn:l.length=n)(h64:n≤64)(hW:Zb w g 27 (l.map (Value.int .i64)).toArray) :
  Calls Tryz.prog 214 #[.slice (some ⟨g,0,none⟩) n m] w fun e w'=>e=.returned (.int .i64 (Xi l))∧Below w.heap.size w w':=by
 have HW:=Hh hW;have HN:=Hh hn;clear hW hn;have l64:(n:Int)≤64:=by omega
 obtain⟨V,hV⟩:∃ V,V=Xi l:=⟨_,rfl⟩
 rw[←hV];have HV:=Hh hV;clear hV;go_enter Tryz.func214,Tryz.ntmps214;go_wp2
 go_loopw [8] (fun i wr=>∃ k:Nat,i=.int .i64 k∧k≤n∧Below w.heap.size w wr∧Hid (∀ j,j<k→l.getD j 0=0)) (fun i _=>n - (intOf i).toNat)
 case atStart=>exact⟨0,by go_num,Nat.zero_le _,Below.refl _ _,Hh fun j hj=>by omega⟩
 case round=>
  obtain⟨k,rfl,hk,hb,hz⟩:=hrel;by_cases hlt:k<n
  ·have hW:=HW.out.below hb HW.out.inside
   have hin:=hW.inside;have hc:=cell_ints hW (k:=k) (by have:=HN.out;omega);have hnz:=fun q=>firstNZ_at (l:=l) (k:=k) (by have:=HN.out;omega) hz.out q
   rw[←HV.out]at hnz
   have hs:l.getD k 0=0→Hid (∀ j,j<k+1→l.getD j 0=0):=fun q=>Hh fun j hj=>by
    rcases Nat.lt_succ_iff_lt_or_eq.1 hj with r | rfl
    ·exact hz.out j r
    ·exact q
   generalize l.getD k 0=v at *;have lk:(k:Int)<(n:Int):=by omega
   clear hW;by_cases h0:v=0
   ·have hs2:=hs h0
    clear hs;subst h0;clear hnz;go_wp2
    go_roundw
    case rel=>exact⟨k+1,by go_num,by omega,hb,hs2⟩
    case measure=>simp[intOf];omega
   ·have hb0:(v == 0)=false:=by simpa using h0
    have hx:=hnz h0;subst hx;clear hnz hs;go_wp2
    go_ret;exact⟨rfl,hb⟩
  ·have hx:=Zhu (l:=l) fun j hj=>hz.out j (by have:=HN.out;omega)
   rw[←HV.out]at hx;subst hx;go_wp2
   go_ret;exact⟨rfl,hb⟩
def faL(F:Fa):List Value:=[.int .i64 F.1,.int .i64 F.2.1,.int .i64 F.2.2]
def isZ(F:Fa):Prop:=F.1=0∧F.2.1=0∧F.2.2=0
instance (F:Fa):Decidable (isZ F):=by unfold isZ;exact inferInstance
def Ve:List Fa→Fa
 |[]=>(0,0,0)
 |a::r=>if isZ a then Ve r else a
theorem Zhv:∀{l:List Fa},(∀ j,j<l.length→isZ (l.getD j (0,0,0)))→Ve l=(0,0,0)
 |[],_=>rfl
 |a::r,h=>by
  have h0:isZ a:=h 0 (by simp);unfold Ve;rw[if_pos h0];exact Zhv fun j hj=>by have:=h (j+1) (by simpa using hj);simpa using this
theorem firstNF_at:∀{l:List Fa}{k:Nat},k<l.length→(∀ j,j<k→isZ (l.getD j (0,0,0)))→¬ isZ (l.getD k (0,0,0))→Ve l=l.getD k (0,0,0)
 |[],k,hk,_,_=>by cases hk
 |a::r,0,_,_,h=>by
  have h0:¬ isZ a:=h;unfold Ve;rw[if_neg h0];rfl
 |a::r,k+1,hk,h,hn=>by
  have h0:isZ a:=h 0 (by omega);unfold Ve;rw[if_pos h0];have:=firstNF_at (l:=r) (k:=k) (by simpa using hk) (fun j hj=>by have:=h (j+1) (by omega);simpa using this) (by simpa using hn);simpa using this
theorem orF_if(a b:Fa):orF a b=if isZ a then b else a:=rfl
theorem isZ_eq{a:Fa}(h:isZ a):a=(0,0,0):=by obtain⟨x,y,z⟩:=a;obtain⟨h1,h2,h3⟩:=h;dsimp only at *;subst h1 h2 h3;rfl
theorem orF2(a b:Fa):Ve [a,b]=orF a b:=by
 simp only[orF_if,Ve];split<;>(try split)<;>first | rfl | (rename_i h;exact(isZ_eq h).symm)
theorem orF3(a b c:Fa):Ve [a,b,c]=orF a (orF b c):=by
 rw[orF_if a,←orF2 b c];rfl
theorem fa_at:∀{l:List Fa}{k:Nat},k<l.length→∀ j,j<3→(l.flatMap faL)[k*3+j]?=(faL (l.getD k (0,0,0)))[j]?
 |a::r,0,_,j,hj=>by
  rcases(show j=0∨j=1∨j=2 by omega)with rfl | rfl | rfl<;>rfl
 |a::r,k+1,hk,j,hj=>by
  have:=fa_at (l:=r) (k:=k) (by simpa using hk) j hj;rw[show(k+1)*3+j=(k*3+j)+3 by omega];simpa[List.flatMap_cons,faL]using this
theorem cell_fas{w:World}{g:Nat}{t:TypeId}{l:List Fa}(h:Zb w g t (l.flatMap faL).toArray){k:Nat}(hk:k<l.length) :
  w.cell? ⟨g,k*3,none⟩=some (.int .i64 (l.getD k (0,0,0)).1)∧w.cell? ⟨g,k*3+1,none⟩=some (.int .i64 (l.getD k (0,0,0)).2.1) ∧
   w.cell? ⟨g,k*3+2,none⟩=some (.int .i64 (l.getD k (0,0,0)).2.2):=by
 have key:∀ j,j<3→w.cell? ⟨g,k*3+j,none⟩=(faL (l.getD k (0,0,0)))[j]?:=fun j hj=>by
  rw[Zb.read h,←fa_at hk j hj];simp
 exact⟨key 0 (by omega),key 1 (by omega),key 2 (by omega)⟩
theorem made2(w:World)(o:Obj)(t:TypeId)(cs:Array Value):Zb ((w.alloc o).alloc (.cells cs t)) (w.heap.size+1) t cs:=by
 have:=Zb.made (w.alloc o) t cs;simpa using this
structure Fz(w:World)(wr:World):Prop where
 a:Zb wr w.heap.size 29 #[.int .i64 0,.int .i64 0,.int .i64 0]
 b:Zb wr (w.heap.size+1) 29 #[.int .i64 0,.int .i64 0,.int .i64 0]
 below:Below w.heap.size w wr
theorem Fz.alloc{w wr:World}(h:Fz w wr)(o:Obj):Fz w (wr.alloc o):=⟨h.a.alloc _,h.b.alloc _,h.below.trans ((Za _ _).mono h.below.size)⟩
theorem lOrF(l:List Fa)(n m g:Nat)(w:World)(hn:l.length=n)(h64:n≤64)(hW:Zb w g 29 (l.flatMap faL).toArray) :
  Calls Tryz.prog 88 #[.slice (some ⟨g,0,none⟩) n m] w fun e w'=>e=.returned (faV (Ve l))∧Below w.heap.size w w':=by
 have HW:=Hh hW;have HN:=Hh hn;have HV:Hid (∃ V,V=Ve l):=Hh ⟨_,rfl⟩;clear hW hn;have l64:(n:Int)≤64:=by omega
 obtain⟨V,hV⟩:=HV.out;rw[←hV];have HV:=Hh hV;clear hV;go_enter Tryz.func88,Tryz.ntmps88;go_wp2
 go_loopw [8] (fun i wr=>∃ k:Nat,i=.int .i64 k∧k≤n∧Fz w wr∧Hid (∀ j,j<k→isZ (l.getD j (0,0,0)))) (fun i _=>n - (intOf i).toNat)
 case atStart=>exact⟨0,by go_num,Nat.zero_le _,⟨(Zb.made _ _ _).alloc _,made2 _ _ _ _,(Za _ _).trans ((Za _ _).mono (Za _ _).size)⟩,Hh fun j hj=>by omega⟩
 case round=>
  obtain⟨k,rfl,hk,hF,hz⟩:=hrel;obtain⟨a0,a1,a2,f0,f1,f2⟩:=Zl hF.a;obtain⟨b0,b1,b2,_,_,_⟩:=Zl hF.b;have hsz:=hF.b.inside;by_cases hlt:k<n
  ·have hW:=HW.out.below hF.below HW.out.inside
   have hin:=hW.inside;have hgw:=HW.out.inside;obtain⟨d0,d1,d2⟩:=cell_fas hW (k:=k) (by have:=HN.out;omega);have hnz:=fun q=>firstNF_at (l:=l) (k:=k) (by have:=HN.out;omega) hz.out q
   rw[←HV.out]at hnz
   have hs:isZ (l.getD k (0,0,0))→Hid (∀ j,j<k+1→isZ (l.getD j (0,0,0))):=fun q=>Hh fun j hj=>by
    rcases Nat.lt_succ_iff_lt_or_eq.1 hj with r | rfl
    ·exact hz.out j r
    ·exact q
   generalize l.getD k (0,0,0)=v at *;obtain⟨v0,v1,v2⟩:=v;dsimp only at d0 d1 d2;have lk:(k:Int)<(n:Int):=by omega
   clear hW hz;by_cases h0:isZ (v0,v1,v2)
   ·have hs2:=hs h0
    clear hs hnz;obtain⟨q0,q1,q2⟩:=h0;dsimp only at q0 q1 q2;subst q0 q1 q2;go_wp2
    go_roundw
    case rel=>exact⟨k+1,by go_num,by omega,hF.alloc _,hs2⟩
    case measure=>simp[intOf];omega
   ·have hx:=hnz h0
    subst hx;clear hnz hs;have hs0:w.heap.size<wr.heap.size:=by omega
    have hs0':¬ w.heap.size=wr.heap.size:=by omega
    by_cases q0:v0=0
    ·by_cases q1:v1=0
     ·have q2:v2≠0:=fun c=>h0 ⟨q0,q1,c⟩
      have e2:(v2 == 0)=false:=by simpa using q2
      subst q0 q1;clear h0;go_wp2
      exact Zj 2 29 29 _ [_,_,_] rfl ((hF.a.set3 _ _ _).alloc _) Zw Zf rfl rfl ⟨rfl,(Below.set3 hF.below (Nat.le_refl _) _ _ _).alloc (by simpa using hF.below.size) _⟩
     ·have e1:(v1 == 0)=false:=by simpa using q1
      subst q0;clear h0;go_wp2
      exact Zj 2 29 29 _ [_,_,_] rfl ((hF.a.set3 _ _ _).alloc _) Zw Zf rfl rfl ⟨rfl,(Below.set3 hF.below (Nat.le_refl _) _ _ _).alloc (by simpa using hF.below.size) _⟩
    ·have e0:(v0 == 0)=false:=by simpa using q0
     clear h0;go_wp2
     exact Zj 2 29 29 _ [_,_,_] rfl ((hF.a.set3 _ _ _).alloc _) Zw Zf rfl rfl ⟨rfl,(Below.set3 hF.below (Nat.le_refl _) _ _ _).alloc (by simpa using hF.below.size) _⟩
  ·have hx:=Zhv (l:=l) fun j hj=>hz.out j (by have:=HN.out;omega)
   rw[←HV.out]at hx;subst hx;go_wp2_with((with_reducible refine at_st 2 17 ?_);refine wpList_storeW 29 _ _ 29 w.heap.size _ [.int .i64 0,.int .i64 0,.int .i64 0] hF.a rfl Zf (by simp[Value.oneCell']) rfl rfl rfl rfl rfl ?_;intro w9 p9;have P9:=Hh p9;clear p9)
   exact Zj 2 29 29 _ [.int .i64 0,.int .i64 0,.int .i64 0] rfl P9.out.whole Zw Zf rfl rfl ⟨rfl,hF.below.trans (P9.out.keeps.below hF.below.size fun q e=>by omega)⟩
open Go Go.RowKit Go.Great
abbrev Bk:=Nat×TypeId×List Value
structure Rw where
 v:Value
 e:TypeId
 sz:Nat
 n:Nat
 xs:List Value
def Free(w:World)(bs:List Bk)(rs:List Rw)(k:Nat):Prop:=w.heap.size≤k∧(∀ b ∈ bs,b.1≠k)∧∀ r ∈ rs,r.v.ownBlock≠some k
structure Env(w:World)(bs:List Bk)(rs:List Rw)(ts:List (Ds×List Value))(x:World):Prop where
 at_:∀ b ∈ bs,Zb x b.1 b.2.1 b.2.2.toArray
 lo:∀ b ∈ bs,w.heap.size≤b.1
 nod:(bs.map (·.1)).Nodup
 row:∀ r ∈ rs,x.ownsRow w.heap.size r.e r.sz r.v r.n r.xs
 apart:∀ r ∈ rs,∀ b ∈ bs,r.v.ownBlock≠some b.1
 rapart:rs.Pairwise fun a b=>∀ k,a.v.ownBlock=some k→b.v.ownBlock≠some k
 deep:∀ t ∈ ts,Deep (Free w bs rs) x t.1 t.2
 below:Below w.heap.size w x
section
variable {w x y:World} {bs:List Bk} {rs:List Rw} {ts:List (Ds×List Value)}
theorem Env.start(w:World):Env w [] [] [] w:=
 ⟨(fun _ h=>nomatch h),(fun _ h=>nomatch h),List.nodup_nil,(fun _ h=>nomatch h),(fun _ h=>nomatch h),List.Pairwise.nil,(fun _ h=>nomatch h),Below.refl _ _⟩
theorem Env.box(h:Env w bs rs ts x)(t:TypeId)(vs:List Value):Env w (bs++[(x.heap.size,t,vs)]) rs ts (x.alloc (.cells vs.toArray t)):=by
 have hk:Keeps (fun _=>False) x (x.alloc (.cells vs.toArray t)):=Keeps.of_below (Za x _);refine⟨fun b hb=>?_,fun b hb=>?_,?_,fun r hr=>hk.owns (h.row r hr) (fun _ _=>id),fun r hr b hb=>?_,h.rapart,fun u hu=>?_,h.below.alloc h.below.size _⟩
 ·rcases List.mem_append.1 hb with hb | hb
  ·exact(h.at_ b hb).alloc _
  ·cases List.mem_singleton.1 hb;exact Zb.made x t vs.toArray
 ·rcases List.mem_append.1 hb with hb | hb
  ·exact h.lo b hb
  ·cases List.mem_singleton.1 hb;exact h.below.size
 ·rw[List.map_append,List.nodup_append]
  refine⟨h.nod,by simp,fun a ha b hb=>?_⟩;obtain⟨c,hc,rfl⟩:=List.mem_map.1 ha;simp at hb;subst hb;have:=(h.at_ c hc).inside;omega
 ·rcases List.mem_append.1 hb with hb | hb
  ·exact h.apart r hr b hb
  ·cases List.mem_singleton.1 hb
   intro c;have:=((h.row r hr).lt _ c).2;exact Nat.lt_irrefl _ this
 ·refine(h.deep u hu).keeps hk fun k hk hn=>⟨id,hn.1,fun b hb=>?_,hn.2.2⟩
  rcases List.mem_append.1 hb with hb | hb
  ·exact hn.2.1 b hb
  ·cases List.mem_singleton.1 hb
   show x.heap.size≠k;omega
theorem Env.call(h:Env w bs rs ts x)(b:Below x.heap.size x y):Env w bs rs ts y:=
 ⟨fun c hc=>(h.at_ c hc).below b (h.at_ c hc).inside,h.lo,h.nod,fun r hr=>(Keeps.of_below (S:=fun _=>False) b).owns (h.row r hr) (fun _ _=>id),h.apart,h.rapart,fun t ht=>(h.deep t ht).below b,h.below.trans (b.mono h.below.size)⟩
theorem Env.tree(h:Env w bs rs ts x)(b:Below x.heap.size x y){ds:Ds}{vs:List Value}(d:Deep (fun k=>x.heap.size≤k) y ds vs):Env w bs rs (ts++[(ds,vs)]) y:=by
 have h':=h.call b;refine⟨h'.at_,h'.lo,h'.nod,h'.row,h'.apart,h'.rapart,fun u hu=>?_,h'.below⟩;rcases List.mem_append.1 hu with hu | hu
 ·exact h'.deep u hu
 ·cases List.mem_singleton.1 hu
  refine d.mono fun k hk hn=>⟨?_,fun c hc=>?_,fun r hr c=>?_⟩
  ·have:=h.below.size;omega
  ·have:=(h.at_ c hc).inside;omega
  ·have:=((h.row r hr).lt _ c).2;omega
theorem Env.drew(h:Env w bs rs ts x):Env w bs rs ts x.drew:=h.call ⟨rfl,rfl,rfl,Nat.le_refl _,fun _ _=>rfl⟩
theorem Env.drewN(h:Env w bs rs ts x)(n:Nat):Env w bs rs ts (x.drewN n):=h.call ⟨rfl,rfl,rfl,Nat.le_refl _,fun _ _=>rfl⟩
theorem Env.get(h:Env w bs rs ts x)(i:Nat){g:Nat}{t:TypeId}{vs:List Value}(hi:bs[i]?=some (g,t,vs)):Zb x g t vs.toArray:=
 h.at_ (g,t,vs) (List.mem_of_getElem? hi)
theorem Env.leaf(h:Env w bs rs ts x)(i:Nat){ds:Ds}{vs:List Value}(hi:ts[i]?=some (ds,vs)):Deep (fun k=>w.heap.size≤k) x ds vs:=
 (h.deep (ds,vs) (List.mem_of_getElem? hi)).mono fun k _ hn=>hn.1
theorem Zhh{bs:List Bk}{i g:Nat}{t:TypeId}{old ys:List Value}(hi:bs[i]?=some (g,t,old)):(bs.set i (g,t,ys)).map (·.1)=bs.map (·.1):=by
 apply List.ext_getElem?;intro j;rw[List.getElem?_map,List.getElem?_map,List.getElem?_set];by_cases hj:i=j
 ·subst hj
  have hlt:=(List.getElem?_eq_some_iff.1 hi).1;rw[if_pos rfl,if_pos hlt,hi];rfl
 ·rw[if_neg hj]
theorem free_set{bs:List Bk}{rs:List Rw}{i g:Nat}{t:TypeId}{old ys:List Value}(hi:bs[i]?=some (g,t,old)){k:Nat}(h:Free w bs rs k):Free w (bs.set i (g,t,ys)) rs k:=by
 refine⟨h.1,fun b hb=>?_,h.2.2⟩;have:b.1 ∈ (bs.set i (g,t,ys)).map (·.1):=List.mem_map_of_mem hb;rw[Zhh hi]at this;obtain⟨c,hc,e⟩:=List.mem_map.1 this;rw[←e];exact h.2.1 c hc
theorem Env.put(h:Env w bs rs ts x)(i:Nat){g:Nat}{t:TypeId}{old ys:List Value}(hi:bs[i]?=some (g,t,old))(p:Put x y g t ys):Env w (bs.set i (g,t,ys)) rs ts y:=by
 have hm:=Zhh (ys:=ys) hi;have hmem:=List.mem_of_getElem? hi
 have hin:∀ b ∈ bs.set i (g,t,ys),∃ c ∈ bs,c.1=b.1:=fun b hb=>by
  have:b.1 ∈ (bs.set i (g,t,ys)).map (·.1):=List.mem_map_of_mem hb;rw[hm]at this;exact List.mem_map.1 this
 refine⟨fun b hb=>?_,fun b hb=>?_,by rw[hm];exact h.nod,fun r hr=>p.keeps.owns (h.row r hr) (fun k hk e=>?_),fun r hr b hb=>?_,h.rapart,fun u hu=>?_,h.below.trans (p.keeps.below h.below.size fun k e=>by rw[e];exact h.lo _ hmem)⟩
 ·obtain⟨j,hj,hb'⟩:=List.getElem_of_mem hb
  rw[List.getElem_set]at hb';rw[List.length_set]at hj;by_cases e:i=j
  ·rw[if_pos e]at hb'
   rw[←hb'];exact p.whole
  ·rw[if_neg e]at hb'
   rw[←hb'];refine p.keeps.whole (h.at_ _ (List.getElem_mem hj)) fun c=>e ?_
   obtain⟨hlt,hge⟩:=List.getElem?_eq_some_iff.1 hi;have h1:(bs.map (·.1))[i]'(by simpa using hlt)=(bs.map (·.1))[j]'(by simpa using hj):=by simp[hge,c]
   have hp:=List.pairwise_iff_getElem.1 h.nod;rcases Nat.lt_trichotomy i j with q | q | q
   ·exact absurd h1 (hp i j _ _ q)
   ·exact q
   ·exact absurd h1.symm (hp j i _ _ q)
 ·obtain⟨c,hc,e⟩:=hin b hb
  rw[←e];exact h.lo c hc
 ·exact h.apart r hr _ hmem (by rw[hk,e])
 ·obtain⟨c,hc,e⟩:=hin b hb
  rw[←e];exact h.apart r hr c hc
 ·exact(h.deep u hu).keeps p.keeps fun k _ hn=>⟨fun e=>hn.2.1 _ hmem e.symm,free_set hi hn⟩
theorem Env.push{v':Value}{e:TypeId}{sz n:Nat}{xs news:List Value}{v:Value}(h:Env w bs [⟨v,e,sz,n,xs⟩] ts x)(ho:y.ownsRow w.heap.size e sz v' (n+1) (xs++news))(hg:x.grownBy y v.ownBlock)
  (hat:v'.ownBlock=v.ownBlock∨v'.ownBlock=some x.heap.size):Env w bs [⟨v',e,sz,n+1,xs++news⟩] ts y:=by
 have hk:Keeps (fun k=>v.ownBlock=some k) x y:=Keeps.grown (Keeps.refl _ _) hg fun k hk=>hk
 have hr:=h.row _ (List.mem_singleton.2 rfl);have ha:=h.apart _ (List.mem_singleton.2 rfl);refine⟨fun b hb=>hk.whole (h.at_ b hb) (ha b hb),h.lo,h.nod,fun r hr=>?_,fun r hr b hb=>?_,List.pairwise_singleton _ _,fun u hu=>?_,h.below.trans (hk.below h.below.size fun k e=>(hr.lt k e).1)⟩
 ·cases List.mem_singleton.1 hr;exact ho
 ·cases List.mem_singleton.1 hr
  rcases hat with e | e
  ·show v'.ownBlock≠_
   rw[e];exact ha b hb
  ·show v'.ownBlock≠_
   rw[e];intro c;have:=(h.at_ b hb).inside;injection c with c;omega
 ·refine(h.deep u hu).keeps hk fun k hk' hn=>⟨hn.2.2 _ (List.mem_singleton.2 rfl),hn.1,hn.2.1,fun r hr=>?_⟩
  cases List.mem_singleton.1 hr
  rcases hat with e | e
  ·show v'.ownBlock≠_
   rw[e];exact hn.2.2 _ (List.mem_singleton.2 rfl)
  ·show v'.ownBlock≠_
   rw[e];intro c;injection c with c;omega
theorem Env.row1(h:Env w bs [] ts x)(e:TypeId)(sz:Nat):Env w bs [⟨.slice none 0 0,e,sz,0,[]⟩] ts x:=
 ⟨h.at_,h.lo,h.nod,(fun r hr=>by cases List.mem_singleton.1 hr;exact⟨by simp,.inl ⟨rfl,rfl⟩⟩),(fun r hr b hb=>by cases List.mem_singleton.1 hr;simp[Value.ownBlock]),List.pairwise_singleton _ _,
   fun u hu=>(h.deep u hu).mono fun k _ hn=>⟨hn.1,hn.2.1,(fun r hr=>by cases List.mem_singleton.1 hr;simp[Value.ownBlock])⟩,h.below⟩
variable {P:Program} {ops:Array Oper} {rest:List Oper} {o:Oper} {a:Act} {Q:Exit→Act→World→Prop}
theorem Ze(h:Env w bs rs ts x)(t:TypeId)(v:Operand)(vs:List Value)(hg:o.guard=none)(ho:o.op=.box t v)(hv:a.eval v=.agg vs.toArray)
  (hn:∀ y g,Env w (bs++[(g,t,vs)]) rs ts y→wpList P ops Q rest (a.put o.dst (.pointer (some ⟨g,0,none⟩))) y):wpList P ops Q (o::rest) a x:=
 wpList_boxTo hg t v ho o.dst rfl x.heap.size rfl vs.toArray (by rw[hv];rfl) (hn _ _ (h.box t vs))
theorem wpList_allocE(h:Env w bs rs ts x)(t:TypeId)(vs:List Value)(hg:o.guard=none)(ho:o.op=.alloc t)(hz:(P.info? t).map (fun i=>i.zero.map Value.cells)=some (some vs.toArray))
  (hn:∀ y g,Env w (bs++[(g,t,vs)]) rs ts y→wpList P ops Q rest (a.put o.dst (.pointer (some ⟨g,0,none⟩))) y):wpList P ops Q (o::rest) a x:=by
 obtain⟨i,hi,hzz⟩:=Option.map_eq_some_iff.1 hz;obtain⟨z,hz1,hz2⟩:=Option.map_eq_some_iff.1 hzz;refine wpList_runTo hg o.dst rfl (.pointer (some ⟨x.heap.size,0,none⟩)) (x.alloc (.cells vs.toArray t)) ?_ (hn _ _ (h.box t vs));unfold execOp;rw[ho];simp[Instr.alloc,zeroValue,typeInfo,hi,hz1,newVar,newRow,hz2,Sem.run_bind,Sem.run_pure,run_newObj_alloc]
end
theorem Env.less{w x:World}{bs cs:List Bk}{rs:List Rw}{ts us:List (Ds×List Value)}(h:Env w (bs++cs) rs (ts++us) x):Env w bs rs ts x:=
 ⟨fun b hb=>h.at_ b (List.mem_append_left _ hb),fun b hb=>h.lo b (List.mem_append_left _ hb),by have:=h.nod;rw[List.map_append,List.nodup_append]at this;exact this.1,h.row,fun r hr b hb=>h.apart r hr b (List.mem_append_left _ hb),h.rapart,
   fun u hu=>(h.deep u (List.mem_append_left _ hu)).mono fun k _ hn=>⟨hn.1,fun b hb=>hn.2.1 b (List.mem_append_left _ hb),hn.2.2⟩,h.below⟩
theorem Env.cell{w x:World}{bs:List Bk}{rs:List Rw}{ts:List (Ds×List Value)}(h:Env w bs rs ts x)(i n:Nat){g:Nat}{t:TypeId}{vs:List Value}{v:Value}(hi:bs[i]?=some (g,t,vs))(hv:vs[n]?=some v):x.cell? ⟨g,n,none⟩=some v:=by
 rw[(h.get i hi).read n,List.getElem?_toArray,hv]
theorem Env.perm{w x:World}{bs cs:List Bk}{rs:List Rw}{ts:List (Ds×List Value)}(h:Env w bs rs ts x)(p:bs.Perm cs):Env w cs rs ts x:=
 ⟨fun b hb=>h.at_ b (p.mem_iff.2 hb),fun b hb=>h.lo b (p.mem_iff.2 hb),(p.map _).nodup_iff.1 h.nod,h.row,fun r hr b hb=>h.apart r hr b (p.mem_iff.2 hb),h.rapart,
   fun t ht=>(h.deep t ht).mono fun k _ hn=>⟨hn.1,fun b hb=>hn.2.1 b (p.mem_iff.2 hb),hn.2.2⟩,h.below⟩
end Go.Proofs.YtljdgdphldckhaaGreat
