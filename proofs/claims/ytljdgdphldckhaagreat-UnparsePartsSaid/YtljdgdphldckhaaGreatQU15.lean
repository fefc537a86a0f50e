/-
  No conditions but those that each theorem names.
-/
import Derived.Deep.QuietTactic
import Derived.BigQuiet
import Derived.Deep.RegionHeld3
import Derived.RegionTactic
import Derived.Test.YtljdgdphldckhaaGreatQU13
import Derived.Test.YtljdgdphldckhaaGreatQU14
set_option maxRecDepth 20000
set_option maxHeartbeats 12800000
namespace Go.Proofs.YtljdgdphldckhaaGreat
open Go.ChangeShapes Go.WideShapes Go.ChangeAt Go.RowKit
set_option linter.unusedVariables false
set_option linter.unusedSimpArgs false
theorem add_add'(x:Addr)(n m:Nat):(x.add n).add m=x.add (n+m):=by
 unfold Addr.add;by_cases h:n=0
 ·subst h;simp
 ·by_cases h2:m=0
  ·subst h2;simp
  ·simp[h,h2,Nat.add_assoc]
theorem tokCs_at(L:List TokV):∀(i j:Nat)(h:i<L.length),j<5→(Jy L)[i*5+j]?=(L[i]'h).cells[j]?:=by
 induction L with
 |nil=>intro i j h;simp at h
 |cons v L ih=>
  intro i j h hj;have e:Jy (v::L)=v.cells++Jy L:=rfl;have hl:v.cells.length=5:=rfl;rw[e];cases i with
  |zero=>rw[Nat.zero_mul,Nat.zero_add,List.getElem?_append_left (by omega)];rfl
  |succ i=>
   rw[List.getElem?_append_right (by omega),hl,show(i+1)*5+j - 5=i*5+j from by omega];exact ih i j (by simpa using h) hj
theorem Zhg.tok{w:World}{A:Option Addr}{L:List TokV}(h:Zhg w A (Jy L)){i:Nat}(hi:i<L.length) :
  ∃ x,A=some x∧x.block<w.heap.size∧w.cell? (x.add (i*5))=some (.int .i64 (L[i]'hi).k)∧w.cell? ⟨(x.add (i*5)).block,(x.add (i*5)).off+1,none⟩=some (.string (L[i]'hi).t) ∧
   w.cell? ⟨(x.add (i*5)).block,(x.add (i*5)).off+2,none⟩=some (.int .i64 (L[i]'hi).n)∧w.cell? ⟨(x.add (i*5)).block,(x.add (i*5)).off+3,none⟩=some (.int .i64 ((L[i]'hi).line:Int)) ∧
   w.cell? ⟨(x.add (i*5)).block,(x.add (i*5)).off+4,none⟩=some (.int .i64 ((L[i]'hi).col:Int)):=by
 have hl:=Zkj L;obtain⟨x,hA,hx,hc⟩:=h.at_ (by omega)
 have key:∀ j,j<5→w.cell? ((x.add (i*5)).add j)=(L[i]'hi).cells[j]?:=fun j hj=>by
  rw[add_add',hc _ (by omega),tokCs_at L i j hi hj]
 exact⟨x,hA,hx,key 0 (by omega),key 1 (by omega),key 2 (by omega),key 3 (by omega),key 4 (by omega)⟩
theorem own5_reads{w:World}{base:Nat}{e:TypeId}{v:Value}{xs:List Value}{n:Nat}(h:w.ownsRow base e 5 v n xs):∃ A c,v=.slice A n c∧n≤9223372036854775807∧Zhg w A xs:=by
 obtain⟨A,c,hv,hn,hm,hc⟩:=Wd h;exact⟨A,c,hv,by unfold maxLen at hm;omega,hc.reads⟩
theorem own5_at{w:World}{base:Nat}{e:TypeId}{v:Value}{xs:List Value}{n:Nat}(h:w.ownsRow base e 5 v n xs)(hn:0<n):∃ g c,v=.slice (some ⟨g,0,none⟩) n c∧g<w.heap.size∧∀ j,j<xs.length→w.cell? ⟨g,j,none⟩=xs[j]?:=by
 obtain⟨hl,h0 | ⟨g,cap,cur,rfl,hb,hg,h1,h2,h3,h4⟩⟩:=h
 ·omega
 ·have hw:Zd w g e cur:=hg
  refine⟨g,cap,rfl,hw.inside,fun j hj=>?_⟩;rw[hw.read j,←h4,List.getElem?_take_of_lt (by omega),Array.getElem?_toList]
structure Vx(w:World)(p r K:Nat)(L:List TokV)(a d:Nat):Prop where
 whole:Zd w p 227 #[.slice (some ⟨r,a*5,none⟩) (L.length - a) (K - a),.int .i64 (d:Int)]
 row:∀ j,j<(Jy L).length→w.cell? ⟨r,j,none⟩=(Jy L)[j]?
 rin:r<w.heap.size
 ne:r≠p
 ends:Zmn L
 inn:a<L.length
 capL:L.length≤K
 capM:K≤9223372036854775807
 deep:d≤8
theorem Vx.look{w:World}{p r K:Nat}{L:List TokV}{a d:Nat}(h:Vx w p r K L a d):At w p (Zv L a) d r (a*5) (L.length - a) (K - a):=by
 have hi:=h.inn;have hl:=Zkj L
 have key:∀ j,j<5→w.cell? ⟨r,a*5+j,none⟩=(Zv L a).cells[j]?:=fun j hj=>by
  rw[h.row _ (by omega),tokCs_at L a j hi hj,curT_get L a hi]
 exact⟨h.whole.read 0,h.whole.read 1,key 0 (by omega),key 1 (by omega),key 2 (by omega),key 3 (by omega),key 4 (by omega),h.whole.inside,h.rin,by omega,by have:=h.capM;have:=h.capL;omega⟩
theorem Vx.keeps{w w':World}{p r K:Nat}{L:List TokV}{a d:Nat}(h:Vx w p r K L a d){S:Nat→Prop}(hk:Zx S w w')(hp:¬ S p)(hr:¬ S r):Vx w' p r K L a d:=
 ⟨hk.whole h.whole hp,fun j hj=>(World.cell?_of_block (a:=⟨r,j,none⟩) (hk.block r h.rin hr)).trans (h.row j hj),Nat.lt_of_lt_of_le h.rin hk.size,h.ne,h.ends,h.inn,h.capL,h.capM,h.deep⟩
theorem Vx.below{w w':World}{p r K:Nat}{L:List TokV}{a d:Nat}(h:Vx w p r K L a d)(hb:Below w.heap.size w w'):Vx w' p r K L a d:=
 h.keeps (S:=fun _=>False) (Zx.of_below hb) id id
structure Zae(w w':World)(p r K:Nat)(L:List TokV)(a d:Nat):Prop where
 at_:Vx w' p r K L a d
 keeps:Zx (fun k=>k=p) w w'
theorem Vx.moved{w:World}{p r K:Nat}{L:List TokV}{a d:Nat}(h:Vx w p r K L a d)(b:Nat)(hb:b<L.length)(u:Value)(hu:u=.slice (some ⟨r,b*5,none⟩) (L.length - b) (K - b)):Vx (w.setCell ⟨p,0,none⟩ u) p r K L b d:=by
 subst hu;refine⟨h.whole.write 0 _,fun j hj=>?_,by simp[World.setCell];exact h.rin,h.ne,h.ends,hb,h.capL,h.capM,h.deep⟩;rw[World.cell?_of_block (a:=⟨r,j,none⟩) (w:=w) (Below.heap_setCell _ _ _ _ h.ne)];exact h.row j hj
theorem Vx.deeper{w:World}{p r K:Nat}{L:List TokV}{a d:Nat}(h:Vx w p r K L a d)(e:Nat)(he:e≤8)(u:Value)(hu:u=.int .i64 (e:Int)):Vx (w.setCell ⟨p,1,none⟩ u) p r K L a e:=by
 subst hu;refine⟨h.whole.write 1 _,fun j hj=>?_,by simp[World.setCell];exact h.rin,h.ne,h.ends,h.inn,h.capL,h.capM,he⟩;rw[World.cell?_of_block (a:=⟨r,j,none⟩) (w:=w) (Below.heap_setCell _ _ _ _ h.ne)];exact h.row j hj
def Zia(w:World)(p r K:Nat)(L:List TokV)(a d:Nat)(val:Value)(e:Ending)(w':World):Prop:=e=.returned val∧Zae w w' p r K L a d
theorem Zx.inner{S T:Nat→Prop}{a b:World}(h:Zx S a b)(hs:∀ k,k<a.heap.size→S k→T k):Zx T a b:=⟨h.os,h.tape,h.output,h.size,fun k hk hn=>h.block k hk fun c=>hn (hs k hk c)⟩
theorem Zae.on{w x y:World}{p r K:Nat}{L:List TokV}{a d:Nat}(m:Zae w x p r K L a d){G:Nat}(hk:Zx (fun k=>k=G) x y)(hG:w.heap.size≤G)(hp:p<w.heap.size)(hr:r<w.heap.size):Zae w y p r K L a d:=by
 refine⟨m.at_.keeps hk (by omega) (by omega),?_⟩;have h1:Zx (fun k=>k=p∨k=G) w x:=m.keeps.mono fun k h=>.inl h
 have h2:Zx (fun k=>k=p∨k=G) x y:=hk.mono fun k h=>.inr h
 exact(h1.trans h2).inner fun k hk h=>by omega
theorem Zae.next{w x y:World}{p r K:Nat}{L:List TokV}{a d:Nat}(m:Zae w x p r K L a d)(hb:Below x.heap.size x y):Zae w y p r K L a d:=
 ⟨m.at_.below hb,m.keeps.trans (Zx.of_below hb)⟩
theorem Zae.then{w x y:World}{p r K:Nat}{L:List TokV}{a d b e:Nat}(m:Zae w x p r K L a d)(h:Zae x y p r K L b e):Zae w y p r K L b e:=⟨h.at_,m.keeps.trans h.keeps⟩
theorem Zae.start{w:World}{p r K:Nat}{L:List TokV}{a d:Nat}(h:Vx w p r K L a d):Zae w w p r K L a d:=⟨h,Zx.refl _ _⟩
theorem keeps5(x:World)(g:Nat)(a b c d e:Value):Zx (fun k=>k=g) x (((((x.setCell ⟨g,0,none⟩ a).setCell ⟨g,1,none⟩ b).setCell ⟨g,2,none⟩ c).setCell ⟨g,3,none⟩ d).setCell ⟨g,4,none⟩ e):=
 ((((Zx.setCell (S:=fun k=>k=g) (Zx.refl _ x) rfl a).setCell rfl b).setCell rfl c).setCell rfl d).setCell rfl e
theorem Zeu(x:World)(g:Nat)(a b c:Value):Zx (fun k=>k=g) x (((x.setCell ⟨g,0,none⟩ a).setCell ⟨g,1,none⟩ b).setCell ⟨g,2,none⟩ c):=
 ((Zx.setCell (S:=fun k=>k=g) (Zx.refl _ x) rfl a).setCell rfl b).setCell rfl c
theorem Zh(w:World)(o:Obj):Below w.heap.size w (w.alloc o):=(Below.refl _ _).alloc (Nat.le_refl _) o
theorem cNext(w:World)(p r K:Nat)(L:List TokV)(a d:Nat)(h:Vx w p r K L a d) :
  Calls Tryz.prog 175 #[.pointer (some ⟨p,0,none⟩)] w (Zia w p r K L (onA L a) d (Vu (Zv L a))):=by
 have h1:=h.below ((Below.refl _ _).alloc (Nat.le_refl _) (.cells #[.int .i64 0,.string ⟨#[]⟩,.int .i64 0,.int .i64 0,.int .i64 0] 85));have F0:=Zd.made w 85 #[.int .i64 0,.string ⟨#[]⟩,.int .i64 0,.int .i64 0,.int .i64 0];have H1:=Hh h1;have HL:=Hh h1.look;have hcM:=h.capM;have hcL:=h.capL;have hin:=h.inn;have hon:=h.ends.on h.inn;have hlast:=h.ends.last a h.inn;have pin:=h.whole.inside;have rin:=h.rin;have HC:=Hh h;unfold onA at hon ⊢;clear h h1;unfold Vu;generalize hv:Zv L a=v at *;by_cases hk:v.k=0
 ·have q0:(v.k != 0)=false:=by rw[hk];rfl
  rw[if_pos hk]at hon ⊢;have HH:=Hh (And.intro hv (And.intro hk (And.intro hlast hon)));clear hv hk hlast hon;go_enter Tryz.func175,Tryz.ntmps175;go_wp2_with(go_at_call 133;refine(Zml _ _ _ _ _ _ _ _ HL.out).mono ?_;rintro e w2 ⟨rfl,b2⟩;have C2:=Hh (H1.out.below b2);have W2:=Hh (F0.below b2 (by simp));have hz:=W2.out.inside;obtain⟨k0,k1,k2,k3,k4,f0,f1,f2,f3,f4⟩:=Zaw W2.out;have B2:=Hh b2;clear b2;simp only[Vu])
  have hF:=Zbk ((Zd.set5 W2.out (.int .i64 v.k) (.string v.t) (.int .i64 v.n) (.int .i64 (v.line:Int)) (.int .i64 (v.col:Int))).alloc (.cells #[.int .i64 v.k,.string v.t,.int .i64 v.n,.int .i64 (v.line:Int),.int .i64 (v.col:Int)] 85));refine bodyPost_ret (v:=.agg #[.int .i64 v.k,.string v.t,.int .i64 v.n,.int .i64 (v.line:Int),.int .i64 (v.col:Int)]) (by simp[results,Tryz.results175,go_sem,hF]) rfl ⟨rfl,?_⟩;exact(((Zae.start HC.out).next (Zh _ _)).next B2.out).on ((keeps5 _ _ _ _ _ _ _).alloc _) (Nat.le_refl _) pin rin
 ·have q0:(v.k != 0)=true:=by rw[bne_iff_ne];exact hk
  rw[if_neg hk]at hon ⊢;have HH:=Hh (And.intro hv (And.intro hk (And.intro hlast hon)));clear hv hk hlast;have l1:1≤((L.length - a:Nat):Int):=by omega
  have l2:((L.length - a:Nat):Int)≤((K - a:Nat):Int):=by omega
  have l3:((K - a:Nat):Int)≤9223372036854775807:=by omega
  have l4:K - a≠1:=by omega
  generalize hN:L.length - a=n at *;generalize hC:K - a=c at *;generalize hO:a*5=o at *;have HN:=Hh (And.intro hN (And.intro hC hO));clear hN hC hO hcM hcL hin hon;go_enter Tryz.func175,Tryz.ntmps175;go_wp2_with(go_at_call 133;refine(Zml _ _ _ _ _ _ _ _ HL.out).mono ?_;rintro e w2 ⟨rfl,b2⟩;have C2:=Hh (H1.out.below b2);have W2:=Hh (F0.below b2 (by simp));have hz:=W2.out.inside;obtain⟨k0,k1,k2,k3,k4,f0,f1,f2,f3,f4⟩:=Zaw W2.out;have hp2:=C2.out.whole.inside;have c0:=(HL.out.below b2).c0;have z0:=C2.out.whole.thawed 0;have B2:=Hh b2;clear b2;simp only[Vu])
  have hne:w.heap.size≠p:=by omega
  have hF:=Zbk ((Zd.set5 (W2.out.aside (p:=⟨p,0,none⟩) hne (.slice (some ⟨r,o+5,none⟩) (n - 1) (c - 1))) (.int .i64 v.k) (.string v.t) (.int .i64 v.n) (.int .i64 (v.line:Int)) (.int .i64 (v.col:Int))).alloc (.cells #[.int .i64 v.k,.string v.t,.int .i64 v.n,.int .i64 (v.line:Int),.int .i64 (v.col:Int)] 85));refine bodyPost_ret (v:=.agg #[.int .i64 v.k,.string v.t,.int .i64 v.n,.int .i64 (v.line:Int),.int .i64 (v.col:Int)]) (by simp[results,Tryz.results175,go_sem,hF]) rfl ⟨rfl,?_⟩;have m2:=((Zae.start HC.out).next (Zh _ _)).next B2.out
  have m3:Zae w (w2.setCell ⟨p,0,none⟩ (.slice (some ⟨r,o+5,none⟩) (n - 1) (c - 1))) p r K L (a+1) d:=by
   refine⟨m2.at_.moved (a+1) HH.out.2.2.2 _ ?_,m2.keeps.setCell rfl _⟩;obtain⟨e1,e2,e3⟩:=HN.out;rw[←e1,←e2,←e3,show(a+1)*5=a*5+5 from by omega,Nat.sub_sub,Nat.sub_sub]
  exact m3.on ((keeps5 _ _ _ _ _ _ _).alloc _) (Nat.le_refl _) pin rin
theorem cTake(w:World)(p r K:Nat)(L:List TokV)(a d:Nat)(t:ByteArray)(h:Vx w p r K L a d) :
  Calls Tryz.prog 136 #[.pointer (some ⟨p,0,none⟩),.string t] w (Zia w p r K L (Zbq L a t) d (.bool (isT (Zv L a) t))):=by
 have hi:=cIs w p _ _ _ _ _ _ t h.look;have HC:=Hh h;clear h;unfold Zbq;cases hb:isT (Zv L a) t
 ·rw[hb]at hi
  rw[if_neg (by decide)];clear hb;go_enter Tryz.func136,Tryz.ntmps136;go_wp2_with(go_at_call 174;refine hi.mono ?_;rintro e w2 ⟨rfl,b2⟩;have B2:=Hh b2;clear b2)
  go_ret;exact⟨rfl,(Zae.start HC.out).next B2.out⟩
 ·rw[hb]at hi
  rw[if_pos rfl];clear hb;go_enter Tryz.func136,Tryz.ntmps136;go_wp2_with(first
 |(go_at_call 174;refine hi.mono ?_;rintro e w2 ⟨rfl,b2⟩;have B2:=Hh b2;have C2:=Hh (HC.out.below b2);clear b2)
 |(go_at_call 175;refine(cNext _ _ _ _ _ _ _ C2.out).mono ?_;rintro e w3 ⟨rfl,m3⟩;have M3:=Hh m3;clear m3))
  go_ret;exact⟨rfl,((Zae.start HC.out).next B2.out).then M3.out⟩
theorem cWant(w:World)(p r K:Nat)(L:List TokV)(a d:Nat)(t:ByteArray)(h:Vx w p r K L a d) :
  Calls Tryz.prog 210 #[.pointer (some ⟨p,0,none⟩),.string t] w (Zia w p r K L (Zbq L a t) d (Zq (wantF L a t))):=by
 have h1:=h.below (Zh w (.cells #[.int .i64 0,.int .i64 0,.int .i64 0] 29));have F0:=Hh (Zd.made w 29 #[.int .i64 0,.int .i64 0,.int .i64 0]);have hi:=cTake _ p r K L a d t h1;have HC:=Hh h;have pin:=h.whole.inside;have rin:=h.rin;have hpw:¬(w.heap.size=p):=by omega
 clear h h1;unfold Zbq at hi;unfold Zbq wantF;cases hb:isT (Zv L a) t
 ·rw[hb]at hi
  rw[if_neg (by decide)]at hi ⊢;rw[if_neg (by decide)];clear hb;go_enter Tryz.func210,Tryz.ntmps210;go_wp2_with(first
 |(go_at_call 136;refine hi.mono ?_;rintro e w2 ⟨rfl,m2⟩;have M2:=Hh m2;clear m2)
 |(go_at_call 135;refine(cWrong _ _ _ _ _ _ _ _ M2.out.at_.look).mono ?_;rintro e w3 ⟨rfl,b3⟩;have W3:=Hh ((M2.out.keeps.whole F0.out hpw).below b3 (M2.out.keeps.whole F0.out hpw).inside);obtain⟨k0,k1,k2,f0,f1,f2⟩:=Zz W3.out;have hz:=W3.out.inside;have B3:=Hh b3;clear b3;simp only[Zq]))
  have hF:=Zz (Zd.set3 W3.out (.int .i64 (wrF (Zv L a)).1) (.int .i64 ((wrF (Zv L a)).2.1:Int)) (.int .i64 ((wrF (Zv L a)).2.2:Int)));refine bodyPost_ret (v:=Zq (wrF (Zv L a))) (by simp[results,Tryz.results210,go_sem,hF,Zq]) rfl ⟨rfl,?_⟩;exact(((Zae.start HC.out).next (Zh _ _)).then (M2.out.next B3.out)).on (Zeu _ _ _ _ _) (Nat.le_refl _) pin rin
 ·rw[hb]at hi
  rw[if_pos rfl]at hi ⊢;rw[if_pos rfl];clear hb;go_enter Tryz.func210,Tryz.ntmps210;go_wp2_with(go_at_call 136;refine hi.mono ?_;rintro e w2 ⟨rfl,m2⟩;have M2:=Hh m2;have W3:=Hh (M2.out.keeps.whole F0.out hpw);obtain⟨k0,k1,k2,f0,f1,f2⟩:=Zz W3.out;have hz:=W3.out.inside;clear m2)
  have hF:=Zz (Zd.set3 W3.out (.int .i64 0) (.int .i64 0) (.int .i64 0));refine bodyPost_ret (v:=Zq okF) (by simp[results,Tryz.results210,go_sem,hF,Zq,okF]) rfl ⟨rfl,?_⟩;exact(((Zae.start HC.out).next (Zh _ _)).then M2.out).on (Zeu _ _ _ _ _) (Nat.le_refl _) pin rin
theorem two_set{y:World}{g:Nat}{t u:TypeId}{a b c d e f h i:Value}(w0:Zd y g t #[a,b,c,d,e])(w1:Zd y (g+1) u #[f,h,i])(x0 x1 x2 x3 x4 y0 y1 y2:Value) :
  Zd ((((((((y.setCell ⟨g,0,none⟩ x0).setCell ⟨g,1,none⟩ x1).setCell ⟨g,2,none⟩ x2).setCell ⟨g,3,none⟩ x3).setCell ⟨g,4,none⟩ x4).setCell ⟨g+1,0,none⟩ y0).setCell ⟨g+1,1,none⟩ y1).setCell ⟨g+1,2,none⟩ y2) g t #[x0,x1,x2,x3,x4] ∧
  Zd ((((((((y.setCell ⟨g,0,none⟩ x0).setCell ⟨g,1,none⟩ x1).setCell ⟨g,2,none⟩ x2).setCell ⟨g,3,none⟩ x3).setCell ⟨g,4,none⟩ x4).setCell ⟨g+1,0,none⟩ y0).setCell ⟨g+1,1,none⟩ y1).setCell ⟨g+1,2,none⟩ y2) (g+1) u #[y0,y1,y2]:=by
 have n1:g≠g+1:=by omega
 have n2:g+1≠g:=by omega
 exact⟨(((w0.set5 x0 x1 x2 x3 x4).aside n1 y0).aside n1 y1).aside n1 y2,Zd.set3 (((((w1.aside n2 x0).aside n2 x1).aside n2 x2).aside n2 x3).aside n2 x4) y0 y1 y2⟩
def Znw(L:List TokV)(a:Nat)(k:Int):TokV:=if(Zv L a).k=k then Zv L a else zTok
theorem cKind(w:World)(p r K:Nat)(L:List TokV)(a d:Nat)(k:Int)(h:Vx w p r K L a d) :
  Calls Tryz.prog 209 #[.pointer (some ⟨p,0,none⟩),.int .i64 k] w (Zia w p r K L (Vs L a k) d (.tuple #[Vu (Znw L a k),Zq (We L a k)])):=by
 have nb1:=Zh w (.cells #[.int .i64 0,.string ⟨#[]⟩,.int .i64 0,.int .i64 0,.int .i64 0] 85);have nb2:=Zh (w.alloc (.cells #[.int .i64 0,.string ⟨#[]⟩,.int .i64 0,.int .i64 0,.int .i64 0] 85)) (.cells #[.int .i64 0,.int .i64 0,.int .i64 0] 29);have T0:=Two.start w 85 #[.int .i64 0,.string ⟨#[]⟩,.int .i64 0,.int .i64 0,.int .i64 0] 29 #[.int .i64 0,.int .i64 0,.int .i64 0];have H2:=Hh ((h.below nb1).below nb2);have HM:=Hh (((Zae.start h).next nb1).next nb2);have T:=Hh T0;have hfd:=fun w=>Zgd (Zv L a).k (Zv L a).n ((Zv L a).line:Int) ((Zv L a).col:Int) (Zv L a).t w
 have pin:=h.whole.inside;have rin:=h.rin;have hpw:¬(w.heap.size=p):=by omega
 have hpv:¬(w.heap.size+1=p):=by omega
 clear h nb1 nb2 T0;unfold Vs We Znw;by_cases hk:(Zv L a).k=k
 ·have q0:((Zv L a).k != k)=false:=by rw[bne_eq_false_iff_eq];exact hk
  rw[if_pos hk,if_pos hk,if_pos hk];clear hk;go_enter Tryz.func209,Tryz.ntmps209;go_wp2_with(first
 |(go_at_call 133;refine(Zml _ _ _ _ _ _ _ _ H2.out.look).mono ?_;rintro e w3 ⟨rfl,b3⟩;have T3:=Hh (T.out.next b3);have M3:=Hh (HM.out.next b3);clear b3;simp only[Vu])
 |(go_at_call 175;refine(cNext _ _ _ _ _ _ _ M3.out.at_).mono ?_;rintro e w4 ⟨rfl,m4⟩;have W0:=Hh (m4.keeps.whole T3.out.k0 hpw);have W1:=Hh (m4.keeps.whole T3.out.k1 hpv);obtain⟨k0,k1,k2,k3,k4,f0,f1,f2,f3,f4⟩:=Zaw W0.out;obtain⟨g0,g1,g2,z0,z1,z2⟩:=Zz W1.out;have hz:=W1.out.inside;have M4:=Hh (M3.out.then m4);clear m4;simp only[Vu]))
  have hFG:=two_set W0.out W1.out (.int .i64 (Zv L a).k) (.string (Zv L a).t) (.int .i64 (Zv L a).n) (.int .i64 ((Zv L a).line:Int)) (.int .i64 ((Zv L a).col:Int)) (.int .i64 0) (.int .i64 0) (.int .i64 0);have hF:=Zbk hFG.1;have hG:=Zz hFG.2;refine bodyPost_ret (v:=.tuple #[Vu (Zv L a),Zq okF]) (by simp[results,Tryz.results209,go_sem,hF,hG,Zq,okF,Vu]) rfl ⟨rfl,?_⟩;exact(M4.out.on (keeps5 _ _ _ _ _ _ _) (Nat.le_refl _) pin rin).on (Zeu _ _ _ _ _) (by omega) pin rin
 ·have q0:((Zv L a).k != k)=true:=by rw[bne_iff_ne];exact hk
  rw[if_neg hk,if_neg hk,if_neg hk];clear hk;go_enter Tryz.func209,Tryz.ntmps209;go_wp2_with(first
 |(go_at_call 133;refine(Zml _ _ _ _ _ _ _ _ H2.out.look).mono ?_;rintro e w3 ⟨rfl,b3⟩;have T3:=Hh (T.out.next b3);have M3:=Hh (HM.out.next b3);clear b3;simp only[Vu])
 |(go_at_call 135;refine(cWrong _ _ _ _ _ _ _ _ M3.out.at_.look).mono ?_;rintro e w4 ⟨rfl,b4⟩;have W0:=Hh (T3.out.next b4).k0;have W1:=Hh (T3.out.next b4).k1;obtain⟨k0,k1,k2,k3,k4,f0,f1,f2,f3,f4⟩:=Zaw W0.out;obtain⟨g0,g1,g2,z0,z1,z2⟩:=Zz W1.out;have hz:=W1.out.inside;have M4:=Hh (M3.out.next b4);clear b4;simp only[Zq]))
  have hFG:=two_set W0.out W1.out (.int .i64 0) (.string ⟨#[]⟩) (.int .i64 0) (.int .i64 0) (.int .i64 0) (.int .i64 (wrF (Zv L a)).1) (.int .i64 ((wrF (Zv L a)).2.1:Int)) (.int .i64 ((wrF (Zv L a)).2.2:Int));have hF:=Zbk hFG.1;have hG:=Zz hFG.2;refine bodyPost_ret (v:=.tuple #[Vu zTok,Zq (wrF (Zv L a))]) (by simp[results,Tryz.results209,go_sem,hF,hG,Zq,zTok,Vu]) rfl ⟨rfl,?_⟩;exact(M4.out.on (keeps5 _ _ _ _ _ _ _) (Nat.le_refl _) pin rin).on (Zeu _ _ _ _ _) (by omega) pin rin
theorem kindT_n(L:List TokV)(a:Nat):(Znw L a 2).n=Zjb L a:=by unfold Znw Zjb;split<;>rfl
theorem kindT_t(L:List TokV)(a:Nat):(Znw L a 3).t=Zkx L a:=by unfold Znw Zkx;split<;>rfl
theorem cInt(w:World)(p r K:Nat)(L:List TokV)(a d:Nat)(h:Vx w p r K L a d) :
  Calls Tryz.prog 180 #[.pointer (some ⟨p,0,none⟩)] w (Zia w p r K L (Vs L a 2) d (.tuple #[.int .i64 (Zjb L a),Zq (We L a 2)])):=by
 have nb1:=Zh w (.cells #[.int .i64 0,.int .i64 0,.int .i64 0] 29);have H1:=Hh (h.below nb1);have F0:=Hh (Zd.made w 29 #[.int .i64 0,.int .i64 0,.int .i64 0]);have HM:=Hh ((Zae.start h).next nb1);have pin:=h.whole.inside;have rin:=h.rin;have hpw:¬(w.heap.size=p):=by omega
 clear h nb1;rw[←kindT_n];generalize hv:Znw L a 2=v at *;generalize hf:We L a 2=f at *;have HV:=Hh (And.intro hv hf)
 have hi:Calls Tryz.prog 209 #[.pointer (some ⟨p,0,none⟩),.int .i64 2] (w.alloc (.cells #[.int .i64 0,.int .i64 0,.int .i64 0] 29)) (Zia (w.alloc (.cells #[.int .i64 0,.int .i64 0,.int .i64 0] 29)) p r K L (Vs L a 2) d (.tuple #[Vu v,Zq f])):=by
  have:=cKind _ p r K L a d 2 H1.out;rw[hv,hf]at this;exact this
 clear hv hf;obtain⟨f1,f2,f3⟩:=f;go_enter Tryz.func180,Tryz.ntmps180;go_wp2_with(go_at_call 209;refine hi.mono ?_;rintro e w3 ⟨rfl,m3⟩;have W0:=Hh (m3.keeps.whole F0.out hpw);obtain⟨g0,g1,g2,z0,z1,z2⟩:=Zz W0.out;have hz:=W0.out.inside;have M3:=Hh (HM.out.then m3);clear m3;simp only[Vu,Zq])
 go_region
 all_goals
  go_wp2
  have hF:=Zz ((((Zd.set3 W0.out (.int .i64 f1) (.int .i64 (f2:Int)) (.int .i64 (f3:Int))).alloc (.cells #[.int .i64 v.k,.string v.t,.int .i64 v.n,.int .i64 (v.line:Int),.int .i64 (v.col:Int)] 85)).alloc (.cells #[.int .i64 f1,.int .i64 (f2:Int),.int .i64 (f3:Int)] 29)).drew);refine bodyPost_ret (v:=.tuple #[.int .i64 v.n,Zq (f1,f2,f3)]) (by simp[results,Tryz.results180,go_sem,hF,Zq]) rfl ⟨rfl,?_⟩;exact M3.out.on ((((Zeu _ _ _ _ _).alloc _).alloc _).drew) (Nat.le_refl _) pin rin
theorem cName(w:World)(p r K:Nat)(L:List TokV)(a d:Nat)(h:Vx w p r K L a d) :
  Calls Tryz.prog 177 #[.pointer (some ⟨p,0,none⟩)] w (Zia w p r K L (Vs L a 3) d (.tuple #[.string (Zkx L a),Zq (We L a 3)])):=by
 have nb1:=Zh w (.cells #[.int .i64 0,.int .i64 0,.int .i64 0] 29);have H1:=Hh (h.below nb1);have F0:=Hh (Zd.made w 29 #[.int .i64 0,.int .i64 0,.int .i64 0]);have HM:=Hh ((Zae.start h).next nb1);have pin:=h.whole.inside;have rin:=h.rin;have hpw:¬(w.heap.size=p):=by omega
 clear h nb1;rw[←kindT_t];generalize hv:Znw L a 3=v at *;generalize hf:We L a 3=f at *;have HV:=Hh (And.intro hv hf)
 have hi:Calls Tryz.prog 209 #[.pointer (some ⟨p,0,none⟩),.int .i64 3] (w.alloc (.cells #[.int .i64 0,.int .i64 0,.int .i64 0] 29)) (Zia (w.alloc (.cells #[.int .i64 0,.int .i64 0,.int .i64 0] 29)) p r K L (Vs L a 3) d (.tuple #[Vu v,Zq f])):=by
  have:=cKind _ p r K L a d 3 H1.out;rw[hv,hf]at this;exact this
 clear hv hf;obtain⟨f1,f2,f3⟩:=f;go_enter Tryz.func177,Tryz.ntmps177;go_wp2_with(go_at_call 209;refine hi.mono ?_;rintro e w3 ⟨rfl,m3⟩;have W0:=Hh (m3.keeps.whole F0.out hpw);obtain⟨g0,g1,g2,z0,z1,z2⟩:=Zz W0.out;have hz:=W0.out.inside;have M3:=Hh (HM.out.then m3);clear m3;simp only[Vu,Zq])
 go_region
 all_goals
  go_wp2
  have hF:=Zz ((((Zd.set3 W0.out (.int .i64 f1) (.int .i64 (f2:Int)) (.int .i64 (f3:Int))).alloc (.cells #[.int .i64 v.k,.string v.t,.int .i64 v.n,.int .i64 (v.line:Int),.int .i64 (v.col:Int)] 85)).alloc (.cells #[.int .i64 f1,.int .i64 (f2:Int),.int .i64 (f3:Int)] 29)).drew);refine bodyPost_ret (v:=.tuple #[.string v.t,Zq (f1,f2,f3)]) (by simp[results,Tryz.results177,go_sem,hF,Zq]) rfl ⟨rfl,?_⟩;exact M3.out.on ((((Zeu _ _ _ _ _).alloc _).alloc _).drew) (Nat.le_refl _) pin rin
theorem cUp(w:World)(p r K:Nat)(L:List TokV)(a d:Nat)(h:Vx w p r K L a d) :
  Calls Tryz.prog 279 #[.pointer (some ⟨p,0,none⟩)] w (Zia w p r K L a (d - 1) (.tuple #[])):=by
 have HC:=Hh h;have c1:=h.look.c1;have z1:=h.whole.thawed 1;have hd:=h.deep;clear h;by_cases h0:0<d
 ·have l0:(0:Int)<(d:Int):=by omega
  have l1:(d:Int)≤8:=by omega
  have H0:=Hh h0;have HD:=Hh hd;clear hd;go_enter Tryz.func279,Tryz.ntmps279;go_wp2
  go_end0
  exact⟨rfl,HC.out.deeper (d - 1) (by have:=HD.out;omega) _ (by have:=H0.out;rw[show((d - 1:Nat):Int)=(d:Int) - 1 from by omega]),Zx.setCell (S:=fun k=>k=p) (Zx.refl _ _) rfl _⟩
 ·obtain rfl:d=0:=by omega
  go_enter Tryz.func279,Tryz.ntmps279;go_wp2
  go_end0
  exact⟨rfl,Zae.start HC.out⟩
theorem cDown(w:World)(p r K:Nat)(L:List TokV)(a d:Nat)(h:Vx w p r K L a d) :
  Calls Tryz.prog 278 #[.pointer (some ⟨p,0,none⟩)] w (Zia w p r K L a (Zby d) (Zq (Uu L a d))):=by
 have nb1:=Zh w (.cells #[.int .i64 0,.int .i64 0,.int .i64 0] 29);have h1:=h.below nb1;have F0:=Zd.made w 29 #[.int .i64 0,.int .i64 0,.int .i64 0];have HM:=Hh ((Zae.start h).next nb1);have pin:=h.whole.inside;have rin:=h.rin;have hpw:¬(w.heap.size=p):=by omega
 have c1:=h1.look.c1;have z1:=h1.whole.thawed 1;have H1:=Hh h1;have hd:=h.deep;have HC:=Hh h;clear h nb1 h1;unfold Zby Uu;by_cases h0:d=8
 ·subst h0
  rw[if_pos rfl,if_pos rfl];have F0:=Hh F0;clear hd;go_enter Tryz.func278,Tryz.ntmps278;go_wp2_with(first
 |(go_at_call 172;refine(Zoz _ _ _ _ _ _ _ _ H1.out.look).mono ?_;rintro e w1 ⟨rfl,rfl⟩)
 |(go_at_call 173;refine(cHere _ _ _ _ _ _ _ _ _ H1.out.look).mono ?_;rintro e w3 ⟨rfl,b3⟩;have W3:=Hh (F0.out.below b3 (by simp));obtain⟨k0,k1,k2,f0,f1,f2⟩:=Zz W3.out;have hz:=W3.out.inside;have B3:=Hh b3;clear b3;simp only[Zq]))
  have hF:=Zz (Zd.set3 W3.out (.int .i64 8) (.int .i64 ((Zv L a).line:Int)) (.int .i64 ((Zv L a).col:Int)));refine bodyPost_ret (v:=Zq (8,(Zv L a).line,(Zv L a).col)) (by simp[results,Tryz.results278,go_sem,hF,Zq]) rfl ⟨rfl,?_⟩;exact(HM.out.next B3.out).on (Zeu _ _ _ _ _) (Nat.le_refl _) pin rin
 ·rw[if_neg h0,if_neg h0]
  have q0:((d:Int) == 8)=false:=by rw[beq_eq_false_iff_ne];omega
  have l1:(d:Int)≤7:=by omega
  have H0:=Hh (And.intro h0 hd);clear h0 hd;go_enter Tryz.func278,Tryz.ntmps278;go_wp2_with(go_at_call 172;refine(Zoz _ _ _ _ _ _ _ _ H1.out.look).mono ?_;rintro e w1 ⟨rfl,rfl⟩)
  refine bodyPost_ret (v:=Zq okF) (by simp[results,Tryz.results278,go_sem,Zq,okF]) rfl ⟨rfl,?_⟩
  have m1:Zae w (w.setCell ⟨p,1,none⟩ (.int .i64 ((d:Int)+1))) p r K L a (d+1):=
   ⟨HC.out.deeper (d+1) (by have:=H0.out;omega) _ (by simp),Zx.setCell (S:=fun k=>k=p) (Zx.refl _ _) rfl _⟩
  exact m1.next (Zh _ _)
theorem Vx.copy{w:World}{p r K:Nat}{L:List TokV}{a d:Nat}(h:Vx w p r K L a d)(o n c:Nat)(ho:o=a*5)(hn:n=L.length - a)(hc:c=K - a) :
  Vx (w.alloc (.cells #[.slice (some ⟨r,o,none⟩) n c,.int .i64 (d:Int)] 227)) w.heap.size r K L a d:=by
 subst ho hn hc;have h1:=h.below (Zh w (.cells #[.slice (some ⟨r,a*5,none⟩) (L.length - a) (K - a),.int .i64 (d:Int)] 227));exact⟨Zd.made _ _ _,h1.row,h1.rin,by have:=h.rin;omega,h.ends,h.inn,h.capL,h.capM,h.deep⟩
theorem look2{w:World}{p r K:Nat}{L:List TokV}{a d:Nat}(h:Vx w p r K L a d){o n c:Nat}(ho:o=a*5)(hn:n=L.length - a)(hc:c=K - a) :
  w.cell? ⟨p,0,none⟩=some (.slice (some ⟨r,o,none⟩) n c)∧w.cell? ⟨p,1,none⟩=some (.int .i64 (d:Int)):=by
 subst ho hn hc;exact⟨h.look.c0,h.look.c1⟩
theorem cSigned(w:World)(p r K:Nat)(L:List TokV)(a d:Nat)(h:Vx w p r K L a d) :
  Calls Tryz.prog 181 #[.pointer (some ⟨p,0,none⟩)] w (Zia w p r K L (Zdv L a) d (.tuple #[.int .i64 (Zix L a),Zq (Zbd L a)])):=by
 have nb1:=Zh w (.cells #[.int .i64 0,.int .i64 0,.int .i64 0] 29);have h1:=h.below nb1;have F0:=Hh (Zd.made w 29 #[.int .i64 0,.int .i64 0,.int .i64 0]);have HM:=Hh ((Zae.start h).next nb1);have pin:=h.whole.inside;have rin:=h.rin;have hpw:¬(w.heap.size=p):=by omega
 have hi:=cIs _ p _ _ _ _ _ _ Zmd h1.look;have H1:=Hh h1;clear h nb1 h1;unfold Zdv Zix Zbd;unfold Zmd at hi ⊢;cases hb:isT (Zv L a) ⟨#[45]⟩
 ·rw[hb]at hi
  rw[if_neg (by decide),if_neg (by decide),if_neg (by decide)];clear hb;generalize hf:We L a 2=f at *;have hj:=cInt _ p r K L a d H1.out;have HF:=Hh hf;clear hf;have hj:∀ w,Vx w p r K L a d→Calls Tryz.prog 180 #[.pointer (some ⟨p,0,none⟩)] w (Zia w p r K L (Vs L a 2) d (.tuple #[.int .i64 (Zjb L a),Zq f])):=fun w h=>by rw[←HF.out];exact cInt w p r K L a d h
  obtain⟨f1,f2,f3⟩:=f;go_enter Tryz.func181,Tryz.ntmps181;go_wp2_with(first
 |(go_at_call 174;refine hi.mono ?_;rintro e w2 ⟨rfl,b2⟩;have M2:=Hh (HM.out.next b2);have F2:=Hh (F0.out.below b2 F0.out.inside);clear b2)
 |(go_at_call 180;refine(hj _ M2.out.at_).mono ?_;rintro e w3 ⟨rfl,m3⟩;have W0:=Hh (m3.keeps.whole F2.out hpw);obtain⟨g0,g1,g2,z0,z1,z2⟩:=Zz W0.out;have hz:=W0.out.inside;have M3:=Hh (M2.out.then m3);clear m3;simp only[Zq]))
  have hF:=Zz (Zd.set3 W0.out (.int .i64 f1) (.int .i64 (f2:Int)) (.int .i64 (f3:Int)));refine bodyPost_ret (v:=.tuple #[.int .i64 (Zjb L a),Zq (f1,f2,f3)]) (by simp[results,Tryz.results181,go_sem,hF,Zq]) rfl ⟨rfl,?_⟩;exact M3.out.on (Zeu _ _ _ _ _) (Nat.le_refl _) pin rin
 ·rw[hb]at hi
  rw[if_pos rfl,if_pos rfl,if_pos rfl];clear hb;obtain⟨o,n,c,ho,hn,hc⟩:∃ o n c,o=a*5∧n=L.length - a∧c=K - a:=⟨_,_,_,rfl,rfl,rfl⟩
  have HO:=Hh (And.intro ho (And.intro hn hc));generalize hbn:onA L a=b at *;have HB:=Hh hbn;have hk:Vs L b 2=if(Zv L b).k=2 then onA L b else b:=rfl
  have hv:Zjb L b=if(Zv L b).k=2 then(Zv L b).n else 0:=rfl
  have hf:We L b 2=if(Zv L b).k=2 then okF else wrF (Zv L b):=rfl
  have hnx:∀ w q,Vx w q r K L a d→Calls Tryz.prog 175 #[.pointer (some ⟨q,0,none⟩)] w (Zia w q r K L b d (Vu (Zv L a))):=fun w q h=>by rw[←HB.out];exact cNext w q r K L a d h
  have hj:=fun w q (h:Vx w q r K L b d)=>cInt w q r K L b d h
  have HN:=Hh hnx;clear hnx ho hn hc hbn;rw[hf];by_cases h2:(Zv L b).k=2
  · rw[if_pos h2]at hk hv hf ⊢
    rw[if_pos h2,if_pos h2];have hnum:=H1.out.ends.num b;rw[hk,hv,hf]at hj;have HJ:=Hh hj;clear hj hk hv hf h2;generalize hm:(Zv L b).n=m at *;have HE:=Hh hm;obtain⟨m0,m9⟩:=hnum;clear hm;generalize hbn:onA L b=b2 at *;obtain⟨o2,n2,c2,ho,hn,hc⟩:∃ o n c,o=b2*5∧n=L.length - b2∧c=K - b2:=⟨_,_,_,rfl,rfl,rfl⟩
    have HB2:=Hh (And.intro ho (And.intro hn hc));clear ho hn hc hbn;go_enter Tryz.func181,Tryz.ntmps181;go_wp2_with(first
 |(go_at_call 174;refine hi.mono ?_;rintro e w2 ⟨rfl,b2⟩;have M2:=Hh (HM.out.next b2);have F2:=Hh (F0.out.below b2 F0.out.inside);obtain⟨c0,c1⟩:=look2 M2.out.at_ HO.out.1 HO.out.2.1 HO.out.2.2;have hp2:=M2.out.at_.whole.inside;clear b2)
 |(go_at_call 175;refine(HN.out _ _ (M2.out.at_.copy o n c HO.out.1 HO.out.2.1 HO.out.2.2)).mono ?_;rintro e w3 ⟨rfl,m3⟩;have N3:=Hh m3;clear m3;simp only[Vu])
 |(go_at_call 180;refine(HJ.out _ _ N3.out.at_).mono ?_;rintro e w4 ⟨rfl,m4⟩;have N4:=Hh (N3.out.then m4);have hG:=F2.out.inside;have M4:=Hh ((M2.out.next (Zh _ _)).on N4.out.keeps (Nat.le_of_lt hG) pin rin);have F4:=Hh (N4.out.keeps.whole (F2.out.alloc _) (Nat.ne_of_lt hG));obtain⟨d0,d1⟩:=look2 N4.out.at_ HB2.out.1 HB2.out.2.1 HB2.out.2.2;obtain⟨p0,p1⟩:=look2 M4.out.at_ HO.out.1 HO.out.2.1 HO.out.2.2;have t0:=M4.out.at_.whole.thawed 0;have t1:=M4.out.at_.whole.thawed 1;have hp4:=M4.out.at_.whole.inside;obtain⟨g0,g1,g2,z0,z1,z2⟩:=Zz F4.out;have hz:=F4.out.inside;have hq4:=N4.out.at_.whole.inside;have hN:=Hh hG;clear m4 hG;simp only[Zq,okF]))
    have hne:w.heap.size≠p:=hpw;have hF:=Zz ((Zd.set3 ((F4.out.aside (p:=⟨p,0,none⟩) hne (.slice (some ⟨r,o2,none⟩) n2 c2)).aside (p:=⟨p,1,none⟩) hne (.int .i64 (d:Int))) (.int .i64 0) (.int .i64 0) (.int .i64 0)).alloc (.cells #[.int .i64 0,.int .i64 0,.int .i64 0] 29));refine bodyPost_ret (v:=.tuple #[.int .i64 (-m),Zq okF]) (by simp[results,Tryz.results181,go_sem,hF,Zq,okF]) rfl ⟨rfl,?_⟩;obtain⟨e1,e2,e3⟩:=HB2.out
    have m5:Zae w ((w4.setCell ⟨p,0,none⟩ (.slice (some ⟨r,o2,none⟩) n2 c2)).setCell ⟨p,1,none⟩ (.int .i64 (d:Int))) p r K L b2 d:=
     ⟨(M4.out.at_.moved b2 N4.out.at_.inn _ (by rw[e1,e2,e3])).deeper d M4.out.at_.deep _ rfl,(M4.out.keeps.setCell rfl _).setCell rfl _⟩
    exact m5.on ((Zeu _ _ _ _ _).alloc _) (Nat.le_refl _) pin rin
  · rw[if_neg h2]at hk hv hf ⊢
    rw[if_neg h2,if_neg h2];rw[hk,hv,hf]at hj;have HJ:=Hh hj;have hne:=Zfm (Zv L b);clear hj hk hv hf h2;generalize hm:wrF (Zv L b)=f at *;obtain⟨f1,f2,f3⟩:=f;have HE:=Hh hm;have q0:(f1 != 0)=true:=by rw[bne_iff_ne];exact hne
    clear hm hne;go_enter Tryz.func181,Tryz.ntmps181;go_wp2_with(first
 |(go_at_call 174;refine hi.mono ?_;rintro e w2 ⟨rfl,b2⟩;have M2:=Hh (HM.out.next b2);have F2:=Hh (F0.out.below b2 F0.out.inside);obtain⟨c0,c1⟩:=look2 M2.out.at_ HO.out.1 HO.out.2.1 HO.out.2.2;have hp2:=M2.out.at_.whole.inside;clear b2)
 |(go_at_call 175;refine(HN.out _ _ (M2.out.at_.copy o n c HO.out.1 HO.out.2.1 HO.out.2.2)).mono ?_;rintro e w3 ⟨rfl,m3⟩;have N3:=Hh m3;clear m3;simp only[Vu])
 |(go_at_call 180;refine(HJ.out _ _ N3.out.at_).mono ?_;rintro e w4 ⟨rfl,m4⟩;have N4:=Hh (N3.out.then m4);have hG:=F2.out.inside;have M4:=Hh ((M2.out.next (Zh _ _)).on N4.out.keeps (Nat.le_of_lt hG) pin rin);have F4:=Hh (N4.out.keeps.whole (F2.out.alloc _) (Nat.ne_of_lt hG));obtain⟨g0,g1,g2,z0,z1,z2⟩:=Zz F4.out;have hz:=F4.out.inside;clear m4 hG;simp only[Zq]))
    go_region
    all_goals
     go_wp2
     have hF:=Zz (((Zd.set3 F4.out (.int .i64 f1) (.int .i64 (f2:Int)) (.int .i64 (f3:Int))).alloc (.cells #[.int .i64 f1,.int .i64 (f2:Int),.int .i64 (f3:Int)] 29)).drew);refine bodyPost_ret (v:=.tuple #[.int .i64 0,Zq (f1,f2,f3)]) (by simp[results,Tryz.results181,go_sem,hF,Zq]) rfl ⟨rfl,?_⟩;exact M4.out.on (((Zeu _ _ _ _ _).alloc _).drew) (Nat.le_refl _) pin rin
theorem own5_all{w:World}{base:Nat}{e:TypeId}{v:Value}{xs:List Value}{n:Nat}(h:w.ownsRow base e 5 v n xs)(hn:0<n) :
  ∃ g c,v=.slice (some ⟨g,0,none⟩) n c∧base≤g∧g<w.heap.size∧n≤c∧c≤9223372036854775807∧∀ j,j<xs.length→w.cell? ⟨g,j,none⟩=xs[j]?:=by
 obtain⟨g,c,rfl,hg,hc⟩:=own5_at h hn;obtain⟨A,c',hv,h1,h2,_⟩:=Wd h;injection hv with _ _ e3;subst e3;unfold maxLen at h2;exact⟨g,c,rfl,(h.lt g rfl).1,hg,h1,by omega,hc⟩
theorem Vx.made{w1 y:World}{g K G:Nat}{L:List TokV}(hrow:∀ j,j<(Jy L).length→w1.cell? ⟨g,j,none⟩=(Jy L)[j]?)(hg:g<w1.heap.size)(hk:Zx (fun k=>k=G) w1 y)(hG:g≠G)(hL:Zmn L)(h1:L.length≤K)(h2:K≤9223372036854775807) :
  Vx (y.alloc (.cells #[.slice (some ⟨g,0,none⟩) L.length K,.int .i64 0] 227)) y.heap.size g K L 0 0:=by
 have hs:=hk.size;refine⟨by simpa using Zd.made y 227 #[.slice (some ⟨g,0,none⟩) L.length K,.int .i64 0],fun j hj=>?_,by simp;omega,by omega,hL,hL.pos,h1,h2,by omega⟩;have k2:=hk.alloc (.cells #[.slice (some ⟨g,0,none⟩) L.length K,.int .i64 0] 227);exact(World.cell?_of_block (a:=⟨g,j,none⟩) (k2.block g hg hG)).trans (hrow j hj)
def NewPost(L:List TokV)(w:World)(e:Ending)(w':World):Prop:=
 ∃ p r K,e=.returned (.tuple #[.pointer (some ⟨p,0,none⟩),Zq okF])∧Vx w' p r K L 0 0∧w.heap.size≤p∧w.heap.size≤r∧Below w.heap.size w w'
theorem cNew_err(s:ByteArray)(w:World)(hs:s.size≤140737488355328)(E:Int)(l c:Nat)(hv:Zcj s=([],E,l,c))(hE:E≠0) :
  Calls Tryz.prog 132 #[.string s] w fun e w'=>e=.returned (.tuple #[.pointer none,Zq (E,l,c)])∧Below w.heap.size w w':=by
 have HV:=Hh hv;have q0:(E != 0)=true:=by rw[bne_iff_ne];exact hE
 have F0:=Hh (Zd.made w 29 #[.int .i64 0,.int .i64 0,.int .i64 0]);clear hv hE;go_enter Tryz.func132,Tryz.ntmps132;go_wp2_with(go_at_call 171;refine(tkScan s _ (by omega)).mono ?_;rintro e w1 ⟨v,rfl,o1,b1⟩;rw[HV.out]at o1 ⊢;obtain⟨A1,c1,rfl,hl1,_⟩:=own5_reads o1;have F1:=Hh (F0.out.below b1 (by simp));obtain⟨g0,g1,g2,z0,z1,z2⟩:=Zz F1.out;have hz:=F1.out.inside;have B1:=Hh b1;clear o1 b1;simp only[Zq])
 go_region
 all_goals
  go_wp2
  have hF:=Zz (((Zd.set3 F1.out (.int .i64 E) (.int .i64 (l:Int)) (.int .i64 (c:Int))).alloc (.cells #[.int .i64 E,.int .i64 (l:Int),.int .i64 (c:Int)] 29)).drew);refine bodyPost_ret (v:=.tuple #[.pointer none,Zq (E,l,c)]) (by simp[results,Tryz.results132,go_sem,hF,Zq]) rfl ⟨rfl,?_⟩;exact Wg ((Below.set3 (Ul (Zh _ _) B1.out) (Nat.le_refl _) _ _ _).alloc (by simp;omega) _)
theorem cNew_ok(s:ByteArray)(w:World)(hs:s.size≤140737488355328)(L:List TokV)(hv:Zcj s=(L,0,0,0))(hL:Zmn L) :
  Calls Tryz.prog 132 #[.string s] w (NewPost L w):=by
 have HV:=Hh hv;have F0:=Hh (Zd.made w 29 #[.int .i64 0,.int .i64 0,.int .i64 0]);have hpos:=hL.pos;have HL:=Hh hL;clear hv hL;go_enter Tryz.func132,Tryz.ntmps132;go_wp2_with(go_at_call 171;refine(tkScan s _ (by omega)).mono ?_;rintro e w1 ⟨v,rfl,o1,b1⟩;rw[HV.out]at o1 ⊢;obtain⟨g,K,rfl,r1,r2,r3,r4,r5⟩:=own5_all o1 hpos;have F1:=Hh (F0.out.below b1 (by simp));obtain⟨g0,g1,g2,z0,z1,z2⟩:=Zz F1.out;have hz:=F1.out.inside;have B1:=Hh b1;have R5:=Hh r5;clear o1 b1 r5;simp only[Zq])
 have hk:Zx (fun k=>k=w.heap.size) w1 ((((w1.setCell ⟨w.heap.size,0,none⟩ (.int .i64 0)).setCell ⟨w.heap.size,1,none⟩ (.int .i64 0)).setCell ⟨w.heap.size,2,none⟩ (.int .i64 0)).alloc (.cells #[.int .i64 0,.int .i64 0,.int .i64 0] 29)):=(Zeu _ _ _ _ _).alloc _;have hF:=Zz (((Zd.set3 F1.out (.int .i64 0) (.int .i64 0) (.int .i64 0)).alloc (.cells #[.int .i64 0,.int .i64 0,.int .i64 0] 29)).alloc (.cells #[.slice (some ⟨g,0,none⟩) L.length K,.int .i64 0] 227));have hgs:w.heap.size+1≤g:=by simpa using r1
 have hc:=Vx.made R5.out r2 hk (by omega) HL.out r3 r4
 have hb:Below w.heap.size w ((((w1.setCell ⟨w.heap.size,0,none⟩ (.int .i64 0)).setCell ⟨w.heap.size,1,none⟩ (.int .i64 0)).setCell ⟨w.heap.size,2,none⟩ (.int .i64 0)).alloc (.cells #[.int .i64 0,.int .i64 0,.int .i64 0] 29)):=
  (Below.set3 (Ul (Zh _ _) B1.out) (Nat.le_refl _) _ _ _).alloc (by simp;omega) _
 refine bodyPost_ret (v:=.tuple #[.pointer (some ⟨w1.heap.size+1,0,none⟩),Zq okF]) (by simp[results,Tryz.results132,go_sem,hF,Zq,okF]) rfl ⟨w1.heap.size+1,g,K,rfl,?_,by omega,by omega,hb.alloc hb.size _⟩;simpa using hc
end Go.Proofs.YtljdgdphldckhaaGreat
