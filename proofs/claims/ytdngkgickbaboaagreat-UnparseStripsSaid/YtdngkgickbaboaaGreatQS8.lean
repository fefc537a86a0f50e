/-
  No conditions but those that each theorem names.
-/
import Derived.Deep.QuietTactic
import Derived.BigQuiet
import Derived.Deep.RegionHeld3
import Derived.RegionTactic
import Derived.Deep.MidRow
import Derived.Test.YtdngkgickbaboaaGreatQS7
set_option maxRecDepth 20000
set_option maxHeartbeats 12800000
namespace Go.Proofs.YtdngkgickbaboaaGreat
open Go.ChangeShapes Go.WideShapes Go.ChangeAt Go.RowKit
set_option linter.unusedVariables false
set_option linter.unusedSimpArgs false
theorem add_add'(x:Addr)(n m:Nat):(x.add n).add m=x.add (n+m):=by
 unfold Addr.add;by_cases h:n=0
 ·subst h;simp
 ·by_cases h2:m=0
  ·subst h2;simp
  ·simp[h,h2,Nat.add_assoc]
theorem tokCs_at(L:List TokV):∀(i j:Nat)(h:i<L.length),j<5→(Jb L)[i*5+j]?=(L[i]'h).cells[j]?:=by
 induction L with
 |nil=>intro i j h;simp at h
 |cons v L ih=>
  intro i j h hj;have e:Jb (v::L)=v.cells++Jb L:=rfl;have hl:v.cells.length=5:=rfl;rw[e];cases i with
  |zero=>rw[Nat.zero_mul,Nat.zero_add,List.getElem?_append_left (by omega)];rfl
  |succ i=>
   rw[List.getElem?_append_right (by omega),hl,show(i+1)*5+j - 5=i*5+j from by omega];exact ih i j (by simpa using h) hj
theorem Zfl.tok{w:World}{A:Option Addr}{L:List TokV}(h:Zfl w A (Jb L)){i:Nat}(hi:i<L.length) :
  ∃ x,A=some x∧x.block<w.heap.size∧w.cell? (x.add (i*5))=some (.int .i64 (L[i]'hi).k)∧w.cell? ⟨(x.add (i*5)).block,(x.add (i*5)).off+1,none⟩=some (.string (L[i]'hi).t) ∧
   w.cell? ⟨(x.add (i*5)).block,(x.add (i*5)).off+2,none⟩=some (.int .i64 (L[i]'hi).n)∧w.cell? ⟨(x.add (i*5)).block,(x.add (i*5)).off+3,none⟩=some (.int .i64 ((L[i]'hi).line:Int)) ∧
   w.cell? ⟨(x.add (i*5)).block,(x.add (i*5)).off+4,none⟩=some (.int .i64 ((L[i]'hi).col:Int)):=by
 have hl:=Zig L;obtain⟨x,hA,hx,hc⟩:=h.at_ (by omega)
 have key:∀ j,j<5→w.cell? ((x.add (i*5)).add j)=(L[i]'hi).cells[j]?:=fun j hj=>by
  rw[add_add',hc _ (by omega),tokCs_at L i j hi hj]
 exact⟨x,hA,hx,key 0 (by omega),key 1 (by omega),key 2 (by omega),key 3 (by omega),key 4 (by omega)⟩
theorem own5_reads{w:World}{base:Nat}{e:TypeId}{v:Value}{xs:List Value}{n:Nat}(h:w.ownsRow base e 5 v n xs):∃ A c,v=.slice A n c∧n≤9223372036854775807∧Zfl w A xs:=by
 obtain⟨A,c,hv,hn,hm,hc⟩:=Xd h;exact⟨A,c,hv,by unfold maxLen at hm;omega,hc.reads⟩
theorem own5_at{w:World}{base:Nat}{e:TypeId}{v:Value}{xs:List Value}{n:Nat}(h:w.ownsRow base e 5 v n xs)(hn:0<n):∃ g c,v=.slice (some ⟨g,0,none⟩) n c∧g<w.heap.size∧∀ j,j<xs.length→w.cell? ⟨g,j,none⟩=xs[j]?:=by
 obtain⟨hl,h0 | ⟨g,cap,cur,rfl,hb,hg,h1,h2,h3,h4⟩⟩:=h
 ·omega
 ·have hw:Zf w g e cur:=hg
  refine⟨g,cap,rfl,hw.inside,fun j hj=>?_⟩;rw[hw.read j,←h4,List.getElem?_take_of_lt (by omega),Array.getElem?_toList]
structure Vp(w:World)(p r K:Nat)(L:List TokV)(a d:Nat):Prop where
 whole:Zf w p 171 #[.slice (some ⟨r,a*5,none⟩) (L.length - a) (K - a),.int .i64 (d:Int)]
 row:∀ j,j<(Jb L).length→w.cell? ⟨r,j,none⟩=(Jb L)[j]?
 rin:r<w.heap.size
 ne:r≠p
 ends:Zla L
 inn:a<L.length
 capL:L.length≤K
 capM:K≤9223372036854775807
 deep:d≤8
theorem Vp.look{w:World}{p r K:Nat}{L:List TokV}{a d:Nat}(h:Vp w p r K L a d):At w p (Zv L a) d r (a*5) (L.length - a) (K - a):=by
 have hi:=h.inn;have hl:=Zig L
 have key:∀ j,j<5→w.cell? ⟨r,a*5+j,none⟩=(Zv L a).cells[j]?:=fun j hj=>by
  rw[h.row _ (by omega),tokCs_at L a j hi hj,curT_get L a hi]
 exact⟨h.whole.read 0,h.whole.read 1,key 0 (by omega),key 1 (by omega),key 2 (by omega),key 3 (by omega),key 4 (by omega),h.whole.inside,h.rin,by omega,by have:=h.capM;have:=h.capL;omega⟩
theorem Vp.keeps{w w':World}{p r K:Nat}{L:List TokV}{a d:Nat}(h:Vp w p r K L a d){S:Nat→Prop}(hk:Zq S w w')(hp:¬ S p)(hr:¬ S r):Vp w' p r K L a d:=
 ⟨hk.whole h.whole hp,fun j hj=>(World.cell?_of_block (a:=⟨r,j,none⟩) (hk.block r h.rin hr)).trans (h.row j hj),Nat.lt_of_lt_of_le h.rin hk.size,h.ne,h.ends,h.inn,h.capL,h.capM,h.deep⟩
theorem Vp.below{w w':World}{p r K:Nat}{L:List TokV}{a d:Nat}(h:Vp w p r K L a d)(hb:Below w.heap.size w w'):Vp w' p r K L a d:=
 h.keeps (S:=fun _=>False) (Zq.of_below hb) id id
structure Jh(w w':World)(p r K:Nat)(L:List TokV)(a d:Nat):Prop where
 at_:Vp w' p r K L a d
 keeps:Zq (fun k=>k=p) w w'
theorem Vp.moved{w:World}{p r K:Nat}{L:List TokV}{a d:Nat}(h:Vp w p r K L a d)(b:Nat)(hb:b<L.length)(u:Value)(hu:u=.slice (some ⟨r,b*5,none⟩) (L.length - b) (K - b)):Vp (w.setCell ⟨p,0,none⟩ u) p r K L b d:=by
 subst hu;refine⟨h.whole.write 0 _,fun j hj=>?_,by simp[World.setCell];exact h.rin,h.ne,h.ends,hb,h.capL,h.capM,h.deep⟩;rw[World.cell?_of_block (a:=⟨r,j,none⟩) (w:=w) (Below.heap_setCell _ _ _ _ h.ne)];exact h.row j hj
theorem Vp.deeper{w:World}{p r K:Nat}{L:List TokV}{a d:Nat}(h:Vp w p r K L a d)(e:Nat)(he:e≤8)(u:Value)(hu:u=.int .i64 (e:Int)):Vp (w.setCell ⟨p,1,none⟩ u) p r K L a e:=by
 subst hu;refine⟨h.whole.write 1 _,fun j hj=>?_,by simp[World.setCell];exact h.rin,h.ne,h.ends,h.inn,h.capL,h.capM,he⟩;rw[World.cell?_of_block (a:=⟨r,j,none⟩) (w:=w) (Below.heap_setCell _ _ _ _ h.ne)];exact h.row j hj
def Zgd(w:World)(p r K:Nat)(L:List TokV)(a d:Nat)(val:Value)(e:Ending)(w':World):Prop:=e=.returned val∧Jh w w' p r K L a d
theorem Zq.inner{S T:Nat→Prop}{a b:World}(h:Zq S a b)(hs:∀ k,k<a.heap.size→S k→T k):Zq T a b:=⟨h.os,h.tape,h.output,h.size,fun k hk hn=>h.block k hk fun c=>hn (hs k hk c)⟩
theorem Jh.on{w x y:World}{p r K:Nat}{L:List TokV}{a d:Nat}(m:Jh w x p r K L a d){G:Nat}(hk:Zq (fun k=>k=G) x y)(hG:w.heap.size≤G)(hp:p<w.heap.size)(hr:r<w.heap.size):Jh w y p r K L a d:=by
 refine⟨m.at_.keeps hk (by omega) (by omega),?_⟩;have h1:Zq (fun k=>k=p∨k=G) w x:=m.keeps.mono fun k h=>.inl h
 have h2:Zq (fun k=>k=p∨k=G) x y:=hk.mono fun k h=>.inr h
 exact(h1.trans h2).inner fun k hk h=>by omega
theorem Jh.next{w x y:World}{p r K:Nat}{L:List TokV}{a d:Nat}(m:Jh w x p r K L a d)(hb:Below x.heap.size x y):Jh w y p r K L a d:=
 ⟨m.at_.below hb,m.keeps.trans (Zq.of_below hb)⟩
theorem Jh.then{w x y:World}{p r K:Nat}{L:List TokV}{a d b e:Nat}(m:Jh w x p r K L a d)(h:Jh x y p r K L b e):Jh w y p r K L b e:=⟨h.at_,m.keeps.trans h.keeps⟩
theorem Jh.start{w:World}{p r K:Nat}{L:List TokV}{a d:Nat}(h:Vp w p r K L a d):Jh w w p r K L a d:=⟨h,Zq.refl _ _⟩
theorem keeps5(x:World)(g:Nat)(a b c d e:Value):Zq (fun k=>k=g) x (((((x.setCell ⟨g,0,none⟩ a).setCell ⟨g,1,none⟩ b).setCell ⟨g,2,none⟩ c).setCell ⟨g,3,none⟩ d).setCell ⟨g,4,none⟩ e):=
 ((((Zq.setCell (S:=fun k=>k=g) (Zq.refl _ x) rfl a).setCell rfl b).setCell rfl c).setCell rfl d).setCell rfl e
theorem Zdf(x:World)(g:Nat)(a b c:Value):Zq (fun k=>k=g) x (((x.setCell ⟨g,0,none⟩ a).setCell ⟨g,1,none⟩ b).setCell ⟨g,2,none⟩ c):=
 ((Zq.setCell (S:=fun k=>k=g) (Zq.refl _ x) rfl a).setCell rfl b).setCell rfl c
theorem Zi(w:World)(o:Obj):Below w.heap.size w (w.alloc o):=(Below.refl _ _).alloc (Nat.le_refl _) o
theorem cNext(w:World)(p r K:Nat)(L:List TokV)(a d:Nat)(h:Vp w p r K L a d) :
  Calls Tryz.prog 135 #[.pointer (some ⟨p,0,none⟩)] w (Zgd w p r K L (onA L a) d (Vd (Zv L a))):=by
 have h1:=h.below ((Below.refl _ _).alloc (Nat.le_refl _) (.cells #[.int .i64 0,.string ⟨#[]⟩,.int .i64 0,.int .i64 0,.int .i64 0] 69));have F0:=Zf.made w 69 #[.int .i64 0,.string ⟨#[]⟩,.int .i64 0,.int .i64 0,.int .i64 0];have H1:=Hh h1;have HL:=Hh h1.look;have hcM:=h.capM;have hcL:=h.capL;have hin:=h.inn;have hon:=h.ends.on h.inn;have hlast:=h.ends.last a h.inn;have pin:=h.whole.inside;have rin:=h.rin;have HC:=Hh h;unfold onA at hon ⊢;clear h h1;unfold Vd;generalize hv:Zv L a=v at *;by_cases hk:v.k=0
 ·have q0:(v.k != 0)=false:=by rw[hk];rfl
  rw[if_pos hk]at hon ⊢;have HH:=Hh (And.intro hv (And.intro hk (And.intro hlast hon)));clear hv hk hlast hon;go_enter Tryz.func135,Tryz.ntmps135;go_wp2_with(go_at_call 71;refine(Zkx _ _ _ _ _ _ _ _ HL.out).mono ?_;rintro e w2 ⟨rfl,b2⟩;have C2:=Hh (H1.out.below b2);have W2:=Hh (F0.below b2 (by simp));have hz:=W2.out.inside;obtain⟨k0,k1,k2,k3,k4,f0,f1,f2,f3,f4⟩:=Zac W2.out;have B2:=Hh b2;clear b2;simp only[Vd])
  have hF:=Zan ((Zf.set5 W2.out (.int .i64 v.k) (.string v.t) (.int .i64 v.n) (.int .i64 (v.line:Int)) (.int .i64 (v.col:Int))).alloc (.cells #[.int .i64 v.k,.string v.t,.int .i64 v.n,.int .i64 (v.line:Int),.int .i64 (v.col:Int)] 69));refine bodyPost_ret (v:=.agg #[.int .i64 v.k,.string v.t,.int .i64 v.n,.int .i64 (v.line:Int),.int .i64 (v.col:Int)]) (by simp[results,Tryz.results135,go_sem,hF]) rfl ⟨rfl,?_⟩;exact(((Jh.start HC.out).next (Zi _ _)).next B2.out).on ((keeps5 _ _ _ _ _ _ _).alloc _) (Nat.le_refl _) pin rin
 ·have q0:(v.k != 0)=true:=by rw[bne_iff_ne];exact hk
  rw[if_neg hk]at hon ⊢;have HH:=Hh (And.intro hv (And.intro hk (And.intro hlast hon)));clear hv hk hlast;have l1:1≤((L.length - a:Nat):Int):=by omega
  have l2:((L.length - a:Nat):Int)≤((K - a:Nat):Int):=by omega
  have l3:((K - a:Nat):Int)≤9223372036854775807:=by omega
  have l4:K - a≠1:=by omega
  generalize hN:L.length - a=n at *;generalize hC:K - a=c at *;generalize hO:a*5=o at *;have HN:=Hh (And.intro hN (And.intro hC hO));clear hN hC hO hcM hcL hin hon;go_enter Tryz.func135,Tryz.ntmps135;go_wp2_with(go_at_call 71;refine(Zkx _ _ _ _ _ _ _ _ HL.out).mono ?_;rintro e w2 ⟨rfl,b2⟩;have C2:=Hh (H1.out.below b2);have W2:=Hh (F0.below b2 (by simp));have hz:=W2.out.inside;obtain⟨k0,k1,k2,k3,k4,f0,f1,f2,f3,f4⟩:=Zac W2.out;have hp2:=C2.out.whole.inside;have c0:=(HL.out.below b2).c0;have z0:=C2.out.whole.thawed 0;have B2:=Hh b2;clear b2;simp only[Vd])
  have hne:w.heap.size≠p:=by omega
  have hF:=Zan ((Zf.set5 (W2.out.aside (p:=⟨p,0,none⟩) hne (.slice (some ⟨r,o+5,none⟩) (n - 1) (c - 1))) (.int .i64 v.k) (.string v.t) (.int .i64 v.n) (.int .i64 (v.line:Int)) (.int .i64 (v.col:Int))).alloc (.cells #[.int .i64 v.k,.string v.t,.int .i64 v.n,.int .i64 (v.line:Int),.int .i64 (v.col:Int)] 69));refine bodyPost_ret (v:=.agg #[.int .i64 v.k,.string v.t,.int .i64 v.n,.int .i64 (v.line:Int),.int .i64 (v.col:Int)]) (by simp[results,Tryz.results135,go_sem,hF]) rfl ⟨rfl,?_⟩;have m2:=((Jh.start HC.out).next (Zi _ _)).next B2.out
  have m3:Jh w (w2.setCell ⟨p,0,none⟩ (.slice (some ⟨r,o+5,none⟩) (n - 1) (c - 1))) p r K L (a+1) d:=by
   refine⟨m2.at_.moved (a+1) HH.out.2.2.2 _ ?_,m2.keeps.setCell rfl _⟩;obtain⟨e1,e2,e3⟩:=HN.out;rw[←e1,←e2,←e3,show(a+1)*5=a*5+5 from by omega,Nat.sub_sub,Nat.sub_sub]
  exact m3.on ((keeps5 _ _ _ _ _ _ _).alloc _) (Nat.le_refl _) pin rin
theorem cTake(w:World)(p r K:Nat)(L:List TokV)(a d:Nat)(t:ByteArray)(h:Vp w p r K L a d) :
  Calls Tryz.prog 99 #[.pointer (some ⟨p,0,none⟩),.string t] w (Zgd w p r K L (Zav L a t) d (.bool (isT (Zv L a) t))):=by
 have hi:=cIs w p _ _ _ _ _ _ t h.look;have HC:=Hh h;clear h;unfold Zav;cases hb:isT (Zv L a) t
 ·rw[hb]at hi
  rw[if_neg (by decide)];clear hb;go_enter Tryz.func99,Tryz.ntmps99;go_wp2_with(go_at_call 128;refine hi.mono ?_;rintro e w2 ⟨rfl,b2⟩;have B2:=Hh b2;clear b2)
  go_ret;exact⟨rfl,(Jh.start HC.out).next B2.out⟩
 ·rw[hb]at hi
  rw[if_pos rfl];clear hb;go_enter Tryz.func99,Tryz.ntmps99;go_wp2_with(first
 |(go_at_call 128;refine hi.mono ?_;rintro e w2 ⟨rfl,b2⟩;have B2:=Hh b2;have C2:=Hh (HC.out.below b2);clear b2)
 |(go_at_call 135;refine(cNext _ _ _ _ _ _ _ C2.out).mono ?_;rintro e w3 ⟨rfl,m3⟩;have M3:=Hh m3;clear m3))
  go_ret;exact⟨rfl,((Jh.start HC.out).next B2.out).then M3.out⟩
theorem cWant(w:World)(p r K:Nat)(L:List TokV)(a d:Nat)(t:ByteArray)(h:Vp w p r K L a d) :
  Calls Tryz.prog 190 #[.pointer (some ⟨p,0,none⟩),.string t] w (Zgd w p r K L (Zav L a t) d (Zr (wantF L a t))):=by
 have h1:=h.below (Zi w (.cells #[.int .i64 0,.int .i64 0,.int .i64 0] 29));have F0:=Hh (Zf.made w 29 #[.int .i64 0,.int .i64 0,.int .i64 0]);have hi:=cTake _ p r K L a d t h1;have HC:=Hh h;have pin:=h.whole.inside;have rin:=h.rin;have hpw:¬(w.heap.size=p):=by omega
 clear h h1;unfold Zav at hi;unfold Zav wantF;cases hb:isT (Zv L a) t
 ·rw[hb]at hi
  rw[if_neg (by decide)]at hi ⊢;rw[if_neg (by decide)];clear hb;go_enter Tryz.func190,Tryz.ntmps190;go_wp2_with(first
 |(go_at_call 99;refine hi.mono ?_;rintro e w2 ⟨rfl,m2⟩;have M2:=Hh m2;clear m2)
 |(go_at_call 73;refine(cWrong _ _ _ _ _ _ _ _ M2.out.at_.look).mono ?_;rintro e w3 ⟨rfl,b3⟩;have W3:=Hh ((M2.out.keeps.whole F0.out hpw).below b3 (M2.out.keeps.whole F0.out hpw).inside);obtain⟨k0,k1,k2,f0,f1,f2⟩:=Zy W3.out;have hz:=W3.out.inside;have B3:=Hh b3;clear b3;simp only[Zr]))
  have hF:=Zy (Zf.set3 W3.out (.int .i64 (wrF (Zv L a)).1) (.int .i64 ((wrF (Zv L a)).2.1:Int)) (.int .i64 ((wrF (Zv L a)).2.2:Int)));refine bodyPost_ret (v:=Zr (wrF (Zv L a))) (by simp[results,Tryz.results190,go_sem,hF,Zr]) rfl ⟨rfl,?_⟩;exact(((Jh.start HC.out).next (Zi _ _)).then (M2.out.next B3.out)).on (Zdf _ _ _ _ _) (Nat.le_refl _) pin rin
 ·rw[hb]at hi
  rw[if_pos rfl]at hi ⊢;rw[if_pos rfl];clear hb;go_enter Tryz.func190,Tryz.ntmps190;go_wp2_with(go_at_call 99;refine hi.mono ?_;rintro e w2 ⟨rfl,m2⟩;have M2:=Hh m2;have W3:=Hh (M2.out.keeps.whole F0.out hpw);obtain⟨k0,k1,k2,f0,f1,f2⟩:=Zy W3.out;have hz:=W3.out.inside;clear m2)
  have hF:=Zy (Zf.set3 W3.out (.int .i64 0) (.int .i64 0) (.int .i64 0));refine bodyPost_ret (v:=Zr okF) (by simp[results,Tryz.results190,go_sem,hF,Zr,okF]) rfl ⟨rfl,?_⟩;exact(((Jh.start HC.out).next (Zi _ _)).then M2.out).on (Zdf _ _ _ _ _) (Nat.le_refl _) pin rin
theorem two_set{y:World}{g:Nat}{t u:TypeId}{a b c d e f h i:Value}(w0:Zf y g t #[a,b,c,d,e])(w1:Zf y (g+1) u #[f,h,i])(x0 x1 x2 x3 x4 y0 y1 y2:Value) :
  Zf ((((((((y.setCell ⟨g,0,none⟩ x0).setCell ⟨g,1,none⟩ x1).setCell ⟨g,2,none⟩ x2).setCell ⟨g,3,none⟩ x3).setCell ⟨g,4,none⟩ x4).setCell ⟨g+1,0,none⟩ y0).setCell ⟨g+1,1,none⟩ y1).setCell ⟨g+1,2,none⟩ y2) g t #[x0,x1,x2,x3,x4] ∧
  Zf ((((((((y.setCell ⟨g,0,none⟩ x0).setCell ⟨g,1,none⟩ x1).setCell ⟨g,2,none⟩ x2).setCell ⟨g,3,none⟩ x3).setCell ⟨g,4,none⟩ x4).setCell ⟨g+1,0,none⟩ y0).setCell ⟨g+1,1,none⟩ y1).setCell ⟨g+1,2,none⟩ y2) (g+1) u #[y0,y1,y2]:=by
 have n1:g≠g+1:=by omega
 have n2:g+1≠g:=by omega
 exact⟨(((w0.set5 x0 x1 x2 x3 x4).aside n1 y0).aside n1 y1).aside n1 y2,Zf.set3 (((((w1.aside n2 x0).aside n2 x1).aside n2 x2).aside n2 x3).aside n2 x4) y0 y1 y2⟩
def Zmg(L:List TokV)(a:Nat)(k:Int):TokV:=if(Zv L a).k=k then Zv L a else zTok
theorem cKind(w:World)(p r K:Nat)(L:List TokV)(a d:Nat)(k:Int)(h:Vp w p r K L a d) :
  Calls Tryz.prog 186 #[.pointer (some ⟨p,0,none⟩),.int .i64 k] w (Zgd w p r K L (Vj L a k) d (.tuple #[Vd (Zmg L a k),Zr (Xz L a k)])):=by
 have nb1:=Zi w (.cells #[.int .i64 0,.string ⟨#[]⟩,.int .i64 0,.int .i64 0,.int .i64 0] 69);have nb2:=Zi (w.alloc (.cells #[.int .i64 0,.string ⟨#[]⟩,.int .i64 0,.int .i64 0,.int .i64 0] 69)) (.cells #[.int .i64 0,.int .i64 0,.int .i64 0] 29);have T0:=Two.start w 69 #[.int .i64 0,.string ⟨#[]⟩,.int .i64 0,.int .i64 0,.int .i64 0] 29 #[.int .i64 0,.int .i64 0,.int .i64 0];have H2:=Hh ((h.below nb1).below nb2);have HM:=Hh (((Jh.start h).next nb1).next nb2);have T:=Hh T0;have hfd:=fun w=>Zee (Zv L a).k (Zv L a).n ((Zv L a).line:Int) ((Zv L a).col:Int) (Zv L a).t w
 have pin:=h.whole.inside;have rin:=h.rin;have hpw:¬(w.heap.size=p):=by omega
 have hpv:¬(w.heap.size+1=p):=by omega
 clear h nb1 nb2 T0;unfold Vj Xz Zmg;by_cases hk:(Zv L a).k=k
 ·have q0:((Zv L a).k != k)=false:=by rw[bne_eq_false_iff_eq];exact hk
  rw[if_pos hk,if_pos hk,if_pos hk];clear hk;go_enter Tryz.func186,Tryz.ntmps186;go_wp2_with(first
 |(go_at_call 71;refine(Zkx _ _ _ _ _ _ _ _ H2.out.look).mono ?_;rintro e w3 ⟨rfl,b3⟩;have T3:=Hh (T.out.next b3);have M3:=Hh (HM.out.next b3);clear b3;simp only[Vd])
 |(go_at_call 135;refine(cNext _ _ _ _ _ _ _ M3.out.at_).mono ?_;rintro e w4 ⟨rfl,m4⟩;have W0:=Hh (m4.keeps.whole T3.out.k0 hpw);have W1:=Hh (m4.keeps.whole T3.out.k1 hpv);obtain⟨k0,k1,k2,k3,k4,f0,f1,f2,f3,f4⟩:=Zac W0.out;obtain⟨g0,g1,g2,z0,z1,z2⟩:=Zy W1.out;have hz:=W1.out.inside;have M4:=Hh (M3.out.then m4);clear m4;simp only[Vd]))
  have hFG:=two_set W0.out W1.out (.int .i64 (Zv L a).k) (.string (Zv L a).t) (.int .i64 (Zv L a).n) (.int .i64 ((Zv L a).line:Int)) (.int .i64 ((Zv L a).col:Int)) (.int .i64 0) (.int .i64 0) (.int .i64 0);have hF:=Zan hFG.1;have hG:=Zy hFG.2;refine bodyPost_ret (v:=.tuple #[Vd (Zv L a),Zr okF]) (by simp[results,Tryz.results186,go_sem,hF,hG,Zr,okF,Vd]) rfl ⟨rfl,?_⟩;exact(M4.out.on (keeps5 _ _ _ _ _ _ _) (Nat.le_refl _) pin rin).on (Zdf _ _ _ _ _) (by omega) pin rin
 ·have q0:((Zv L a).k != k)=true:=by rw[bne_iff_ne];exact hk
  rw[if_neg hk,if_neg hk,if_neg hk];clear hk;go_enter Tryz.func186,Tryz.ntmps186;go_wp2_with(first
 |(go_at_call 71;refine(Zkx _ _ _ _ _ _ _ _ H2.out.look).mono ?_;rintro e w3 ⟨rfl,b3⟩;have T3:=Hh (T.out.next b3);have M3:=Hh (HM.out.next b3);clear b3;simp only[Vd])
 |(go_at_call 73;refine(cWrong _ _ _ _ _ _ _ _ M3.out.at_.look).mono ?_;rintro e w4 ⟨rfl,b4⟩;have W0:=Hh (T3.out.next b4).k0;have W1:=Hh (T3.out.next b4).k1;obtain⟨k0,k1,k2,k3,k4,f0,f1,f2,f3,f4⟩:=Zac W0.out;obtain⟨g0,g1,g2,z0,z1,z2⟩:=Zy W1.out;have hz:=W1.out.inside;have M4:=Hh (M3.out.next b4);clear b4;simp only[Zr]))
  have hFG:=two_set W0.out W1.out (.int .i64 0) (.string ⟨#[]⟩) (.int .i64 0) (.int .i64 0) (.int .i64 0) (.int .i64 (wrF (Zv L a)).1) (.int .i64 ((wrF (Zv L a)).2.1:Int)) (.int .i64 ((wrF (Zv L a)).2.2:Int));have hF:=Zan hFG.1;have hG:=Zy hFG.2;refine bodyPost_ret (v:=.tuple #[Vd zTok,Zr (wrF (Zv L a))]) (by simp[results,Tryz.results186,go_sem,hF,hG,Zr,zTok,Vd]) rfl ⟨rfl,?_⟩;exact(M4.out.on (keeps5 _ _ _ _ _ _ _) (Nat.le_refl _) pin rin).on (Zdf _ _ _ _ _) (by omega) pin rin
theorem kindT_n(L:List TokV)(a:Nat):(Zmg L a 2).n=Zhf L a:=by unfold Zmg Zhf;split<;>rfl
theorem kindT_t(L:List TokV)(a:Nat):(Zmg L a 3).t=Ziz L a:=by unfold Zmg Ziz;split<;>rfl
theorem cInt(w:World)(p r K:Nat)(L:List TokV)(a d:Nat)(h:Vp w p r K L a d) :
  Calls Tryz.prog 168 #[.pointer (some ⟨p,0,none⟩)] w (Zgd w p r K L (Vj L a 2) d (.tuple #[.int .i64 (Zhf L a),Zr (Xz L a 2)])):=by
 have nb1:=Zi w (.cells #[.int .i64 0,.int .i64 0,.int .i64 0] 29);have H1:=Hh (h.below nb1);have F0:=Hh (Zf.made w 29 #[.int .i64 0,.int .i64 0,.int .i64 0]);have HM:=Hh ((Jh.start h).next nb1);have pin:=h.whole.inside;have rin:=h.rin;have hpw:¬(w.heap.size=p):=by omega
 clear h nb1;rw[←kindT_n];generalize hv:Zmg L a 2=v at *;generalize hf:Xz L a 2=f at *;have HV:=Hh (And.intro hv hf)
 have hi:Calls Tryz.prog 186 #[.pointer (some ⟨p,0,none⟩),.int .i64 2] (w.alloc (.cells #[.int .i64 0,.int .i64 0,.int .i64 0] 29)) (Zgd (w.alloc (.cells #[.int .i64 0,.int .i64 0,.int .i64 0] 29)) p r K L (Vj L a 2) d (.tuple #[Vd v,Zr f])):=by
  have:=cKind _ p r K L a d 2 H1.out;rw[hv,hf]at this;exact this
 clear hv hf;obtain⟨f1,f2,f3⟩:=f;go_enter Tryz.func168,Tryz.ntmps168;go_wp2_with(go_at_call 186;refine hi.mono ?_;rintro e w3 ⟨rfl,m3⟩;have W0:=Hh (m3.keeps.whole F0.out hpw);obtain⟨g0,g1,g2,z0,z1,z2⟩:=Zy W0.out;have hz:=W0.out.inside;have M3:=Hh (HM.out.then m3);clear m3;simp only[Vd,Zr])
 go_region
 all_goals
  go_wp2
  have hF:=Zy ((((Zf.set3 W0.out (.int .i64 f1) (.int .i64 (f2:Int)) (.int .i64 (f3:Int))).alloc (.cells #[.int .i64 v.k,.string v.t,.int .i64 v.n,.int .i64 (v.line:Int),.int .i64 (v.col:Int)] 69)).alloc (.cells #[.int .i64 f1,.int .i64 (f2:Int),.int .i64 (f3:Int)] 29)).drew);refine bodyPost_ret (v:=.tuple #[.int .i64 v.n,Zr (f1,f2,f3)]) (by simp[results,Tryz.results168,go_sem,hF,Zr]) rfl ⟨rfl,?_⟩;exact M3.out.on ((((Zdf _ _ _ _ _).alloc _).alloc _).drew) (Nat.le_refl _) pin rin
theorem cName(w:World)(p r K:Nat)(L:List TokV)(a d:Nat)(h:Vp w p r K L a d) :
  Calls Tryz.prog 189 #[.pointer (some ⟨p,0,none⟩)] w (Zgd w p r K L (Vj L a 3) d (.tuple #[.string (Ziz L a),Zr (Xz L a 3)])):=by
 have nb1:=Zi w (.cells #[.int .i64 0,.int .i64 0,.int .i64 0] 29);have H1:=Hh (h.below nb1);have F0:=Hh (Zf.made w 29 #[.int .i64 0,.int .i64 0,.int .i64 0]);have HM:=Hh ((Jh.start h).next nb1);have pin:=h.whole.inside;have rin:=h.rin;have hpw:¬(w.heap.size=p):=by omega
 clear h nb1;rw[←kindT_t];generalize hv:Zmg L a 3=v at *;generalize hf:Xz L a 3=f at *;have HV:=Hh (And.intro hv hf)
 have hi:Calls Tryz.prog 186 #[.pointer (some ⟨p,0,none⟩),.int .i64 3] (w.alloc (.cells #[.int .i64 0,.int .i64 0,.int .i64 0] 29)) (Zgd (w.alloc (.cells #[.int .i64 0,.int .i64 0,.int .i64 0] 29)) p r K L (Vj L a 3) d (.tuple #[Vd v,Zr f])):=by
  have:=cKind _ p r K L a d 3 H1.out;rw[hv,hf]at this;exact this
 clear hv hf;obtain⟨f1,f2,f3⟩:=f;go_enter Tryz.func189,Tryz.ntmps189;go_wp2_with(go_at_call 186;refine hi.mono ?_;rintro e w3 ⟨rfl,m3⟩;have W0:=Hh (m3.keeps.whole F0.out hpw);obtain⟨g0,g1,g2,z0,z1,z2⟩:=Zy W0.out;have hz:=W0.out.inside;have M3:=Hh (HM.out.then m3);clear m3;simp only[Vd,Zr])
 go_region
 all_goals
  go_wp2
  have hF:=Zy ((((Zf.set3 W0.out (.int .i64 f1) (.int .i64 (f2:Int)) (.int .i64 (f3:Int))).alloc (.cells #[.int .i64 v.k,.string v.t,.int .i64 v.n,.int .i64 (v.line:Int),.int .i64 (v.col:Int)] 69)).alloc (.cells #[.int .i64 f1,.int .i64 (f2:Int),.int .i64 (f3:Int)] 29)).drew);refine bodyPost_ret (v:=.tuple #[.string v.t,Zr (f1,f2,f3)]) (by simp[results,Tryz.results189,go_sem,hF,Zr]) rfl ⟨rfl,?_⟩;exact M3.out.on ((((Zdf _ _ _ _ _).alloc _).alloc _).drew) (Nat.le_refl _) pin rin
theorem cUp(w:World)(p r K:Nat)(L:List TokV)(a d:Nat)(h:Vp w p r K L a d) :
  Calls Tryz.prog 185 #[.pointer (some ⟨p,0,none⟩)] w (Zgd w p r K L a (d - 1) (.tuple #[])):=by
 have HC:=Hh h;have c1:=h.look.c1;have z1:=h.whole.thawed 1;have hd:=h.deep;clear h;by_cases h0:0<d
 ·have l0:(0:Int)<(d:Int):=by omega
  have l1:(d:Int)≤8:=by omega
  have H0:=Hh h0;have HD:=Hh hd;clear hd;go_enter Tryz.func185,Tryz.ntmps185;go_wp2
  go_end0
  exact⟨rfl,HC.out.deeper (d - 1) (by have:=HD.out;omega) _ (by have:=H0.out;rw[show((d - 1:Nat):Int)=(d:Int) - 1 from by omega]),Zq.setCell (S:=fun k=>k=p) (Zq.refl _ _) rfl _⟩
 ·obtain rfl:d=0:=by omega
  go_enter Tryz.func185,Tryz.ntmps185;go_wp2
  go_end0
  exact⟨rfl,Jh.start HC.out⟩
theorem cDown(w:World)(p r K:Nat)(L:List TokV)(a d:Nat)(h:Vp w p r K L a d) :
  Calls Tryz.prog 184 #[.pointer (some ⟨p,0,none⟩)] w (Zgd w p r K L a (Zbm d) (Zr (Us L a d))):=by
 have nb1:=Zi w (.cells #[.int .i64 0,.int .i64 0,.int .i64 0] 29);have h1:=h.below nb1;have F0:=Zf.made w 29 #[.int .i64 0,.int .i64 0,.int .i64 0];have HM:=Hh ((Jh.start h).next nb1);have pin:=h.whole.inside;have rin:=h.rin;have hpw:¬(w.heap.size=p):=by omega
 have c1:=h1.look.c1;have z1:=h1.whole.thawed 1;have H1:=Hh h1;have hd:=h.deep;have HC:=Hh h;clear h nb1 h1;unfold Zbm Us;by_cases h0:d=8
 ·subst h0
  rw[if_pos rfl,if_pos rfl];have F0:=Hh F0;clear hd;go_enter Tryz.func184,Tryz.ntmps184;go_wp2_with(first
 |(go_at_call 96;refine(Zni _ _ _ _ _ _ _ _ H1.out.look).mono ?_;rintro e w1 ⟨rfl,rfl⟩)
 |(go_at_call 97;refine(cHere _ _ _ _ _ _ _ _ _ H1.out.look).mono ?_;rintro e w3 ⟨rfl,b3⟩;have W3:=Hh (F0.out.below b3 (by simp));obtain⟨k0,k1,k2,f0,f1,f2⟩:=Zy W3.out;have hz:=W3.out.inside;have B3:=Hh b3;clear b3;simp only[Zr]))
  have hF:=Zy (Zf.set3 W3.out (.int .i64 8) (.int .i64 ((Zv L a).line:Int)) (.int .i64 ((Zv L a).col:Int)));refine bodyPost_ret (v:=Zr (8,(Zv L a).line,(Zv L a).col)) (by simp[results,Tryz.results184,go_sem,hF,Zr]) rfl ⟨rfl,?_⟩;exact(HM.out.next B3.out).on (Zdf _ _ _ _ _) (Nat.le_refl _) pin rin
 ·rw[if_neg h0,if_neg h0]
  have q0:((d:Int) == 8)=false:=by rw[beq_eq_false_iff_ne];omega
  have l1:(d:Int)≤7:=by omega
  have H0:=Hh (And.intro h0 hd);clear h0 hd;go_enter Tryz.func184,Tryz.ntmps184;go_wp2_with(go_at_call 96;refine(Zni _ _ _ _ _ _ _ _ H1.out.look).mono ?_;rintro e w1 ⟨rfl,rfl⟩)
  refine bodyPost_ret (v:=Zr okF) (by simp[results,Tryz.results184,go_sem,Zr,okF]) rfl ⟨rfl,?_⟩
  have m1:Jh w (w.setCell ⟨p,1,none⟩ (.int .i64 ((d:Int)+1))) p r K L a (d+1):=
   ⟨HC.out.deeper (d+1) (by have:=H0.out;omega) _ (by simp),Zq.setCell (S:=fun k=>k=p) (Zq.refl _ _) rfl _⟩
  exact m1.next (Zi _ _)
theorem Vp.copy{w:World}{p r K:Nat}{L:List TokV}{a d:Nat}(h:Vp w p r K L a d)(o n c:Nat)(ho:o=a*5)(hn:n=L.length - a)(hc:c=K - a) :
  Vp (w.alloc (.cells #[.slice (some ⟨r,o,none⟩) n c,.int .i64 (d:Int)] 171)) w.heap.size r K L a d:=by
 subst ho hn hc;have h1:=h.below (Zi w (.cells #[.slice (some ⟨r,a*5,none⟩) (L.length - a) (K - a),.int .i64 (d:Int)] 171));exact⟨Zf.made _ _ _,h1.row,h1.rin,by have:=h.rin;omega,h.ends,h.inn,h.capL,h.capM,h.deep⟩
theorem look2{w:World}{p r K:Nat}{L:List TokV}{a d:Nat}(h:Vp w p r K L a d){o n c:Nat}(ho:o=a*5)(hn:n=L.length - a)(hc:c=K - a) :
  w.cell? ⟨p,0,none⟩=some (.slice (some ⟨r,o,none⟩) n c)∧w.cell? ⟨p,1,none⟩=some (.int .i64 (d:Int)):=by
 subst ho hn hc;exact⟨h.look.c0,h.look.c1⟩
theorem cSigned(w:World)(p r K:Nat)(L:List TokV)(a d:Nat)(h:Vp w p r K L a d) :
  Calls Tryz.prog 134 #[.pointer (some ⟨p,0,none⟩)] w (Zgd w p r K L (Zch L a) d (.tuple #[.int .i64 (Zhc L a),Zr (Zak L a)])):=by
 have nb1:=Zi w (.cells #[.int .i64 0,.int .i64 0,.int .i64 0] 29);have h1:=h.below nb1;have F0:=Hh (Zf.made w 29 #[.int .i64 0,.int .i64 0,.int .i64 0]);have HM:=Hh ((Jh.start h).next nb1);have pin:=h.whole.inside;have rin:=h.rin;have hpw:¬(w.heap.size=p):=by omega
 have hi:=cIs _ p _ _ _ _ _ _ Zko h1.look;have H1:=Hh h1;clear h nb1 h1;unfold Zch Zhc Zak;unfold Zko at hi ⊢;cases hb:isT (Zv L a) ⟨#[45]⟩
 ·rw[hb]at hi
  rw[if_neg (by decide),if_neg (by decide),if_neg (by decide)];clear hb;generalize hf:Xz L a 2=f at *;have hj:=cInt _ p r K L a d H1.out;have HF:=Hh hf;clear hf;have hj:∀ w,Vp w p r K L a d→Calls Tryz.prog 168 #[.pointer (some ⟨p,0,none⟩)] w (Zgd w p r K L (Vj L a 2) d (.tuple #[.int .i64 (Zhf L a),Zr f])):=fun w h=>by rw[←HF.out];exact cInt w p r K L a d h
  obtain⟨f1,f2,f3⟩:=f;go_enter Tryz.func134,Tryz.ntmps134;go_wp2_with(first
 |(go_at_call 128;refine hi.mono ?_;rintro e w2 ⟨rfl,b2⟩;have M2:=Hh (HM.out.next b2);have F2:=Hh (F0.out.below b2 F0.out.inside);clear b2)
 |(go_at_call 168;refine(hj _ M2.out.at_).mono ?_;rintro e w3 ⟨rfl,m3⟩;have W0:=Hh (m3.keeps.whole F2.out hpw);obtain⟨g0,g1,g2,z0,z1,z2⟩:=Zy W0.out;have hz:=W0.out.inside;have M3:=Hh (M2.out.then m3);clear m3;simp only[Zr]))
  have hF:=Zy (Zf.set3 W0.out (.int .i64 f1) (.int .i64 (f2:Int)) (.int .i64 (f3:Int)));refine bodyPost_ret (v:=.tuple #[.int .i64 (Zhf L a),Zr (f1,f2,f3)]) (by simp[results,Tryz.results134,go_sem,hF,Zr]) rfl ⟨rfl,?_⟩;exact M3.out.on (Zdf _ _ _ _ _) (Nat.le_refl _) pin rin
 ·rw[hb]at hi
  rw[if_pos rfl,if_pos rfl,if_pos rfl];clear hb;obtain⟨o,n,c,ho,hn,hc⟩:∃ o n c,o=a*5∧n=L.length - a∧c=K - a:=⟨_,_,_,rfl,rfl,rfl⟩
  have HO:=Hh (And.intro ho (And.intro hn hc));generalize hbn:onA L a=b at *;have HB:=Hh hbn;have hk:Vj L b 2=if(Zv L b).k=2 then onA L b else b:=rfl
  have hv:Zhf L b=if(Zv L b).k=2 then(Zv L b).n else 0:=rfl
  have hf:Xz L b 2=if(Zv L b).k=2 then okF else wrF (Zv L b):=rfl
  have hnx:∀ w q,Vp w q r K L a d→Calls Tryz.prog 135 #[.pointer (some ⟨q,0,none⟩)] w (Zgd w q r K L b d (Vd (Zv L a))):=fun w q h=>by rw[←HB.out];exact cNext w q r K L a d h
  have hj:=fun w q (h:Vp w q r K L b d)=>cInt w q r K L b d h
  have HN:=Hh hnx;clear hnx ho hn hc hbn;rw[hf];by_cases h2:(Zv L b).k=2
  · rw[if_pos h2]at hk hv hf ⊢
    rw[if_pos h2,if_pos h2];have hnum:=H1.out.ends.num b;rw[hk,hv,hf]at hj;have HJ:=Hh hj;clear hj hk hv hf h2;generalize hm:(Zv L b).n=m at *;have HE:=Hh hm;obtain⟨m0,m9⟩:=hnum;clear hm;generalize hbn:onA L b=b2 at *;obtain⟨o2,n2,c2,ho,hn,hc⟩:∃ o n c,o=b2*5∧n=L.length - b2∧c=K - b2:=⟨_,_,_,rfl,rfl,rfl⟩
    have HB2:=Hh (And.intro ho (And.intro hn hc));clear ho hn hc hbn;go_enter Tryz.func134,Tryz.ntmps134;go_wp2_with(first
 |(go_at_call 128;refine hi.mono ?_;rintro e w2 ⟨rfl,b2⟩;have M2:=Hh (HM.out.next b2);have F2:=Hh (F0.out.below b2 F0.out.inside);obtain⟨c0,c1⟩:=look2 M2.out.at_ HO.out.1 HO.out.2.1 HO.out.2.2;have hp2:=M2.out.at_.whole.inside;clear b2)
 |(go_at_call 135;refine(HN.out _ _ (M2.out.at_.copy o n c HO.out.1 HO.out.2.1 HO.out.2.2)).mono ?_;rintro e w3 ⟨rfl,m3⟩;have N3:=Hh m3;clear m3;simp only[Vd])
 |(go_at_call 168;refine(HJ.out _ _ N3.out.at_).mono ?_;rintro e w4 ⟨rfl,m4⟩;have N4:=Hh (N3.out.then m4);have hG:=F2.out.inside;have M4:=Hh ((M2.out.next (Zi _ _)).on N4.out.keeps (Nat.le_of_lt hG) pin rin);have F4:=Hh (N4.out.keeps.whole (F2.out.alloc _) (Nat.ne_of_lt hG));obtain⟨d0,d1⟩:=look2 N4.out.at_ HB2.out.1 HB2.out.2.1 HB2.out.2.2;obtain⟨p0,p1⟩:=look2 M4.out.at_ HO.out.1 HO.out.2.1 HO.out.2.2;have t0:=M4.out.at_.whole.thawed 0;have t1:=M4.out.at_.whole.thawed 1;have hp4:=M4.out.at_.whole.inside;obtain⟨g0,g1,g2,z0,z1,z2⟩:=Zy F4.out;have hz:=F4.out.inside;have hq4:=N4.out.at_.whole.inside;have hN:=Hh hG;clear m4 hG;simp only[Zr,okF]))
    have hne:w.heap.size≠p:=hpw;have hF:=Zy ((Zf.set3 ((F4.out.aside (p:=⟨p,0,none⟩) hne (.slice (some ⟨r,o2,none⟩) n2 c2)).aside (p:=⟨p,1,none⟩) hne (.int .i64 (d:Int))) (.int .i64 0) (.int .i64 0) (.int .i64 0)).alloc (.cells #[.int .i64 0,.int .i64 0,.int .i64 0] 29));refine bodyPost_ret (v:=.tuple #[.int .i64 (-m),Zr okF]) (by simp[results,Tryz.results134,go_sem,hF,Zr,okF]) rfl ⟨rfl,?_⟩;obtain⟨e1,e2,e3⟩:=HB2.out
    have m5:Jh w ((w4.setCell ⟨p,0,none⟩ (.slice (some ⟨r,o2,none⟩) n2 c2)).setCell ⟨p,1,none⟩ (.int .i64 (d:Int))) p r K L b2 d:=
     ⟨(M4.out.at_.moved b2 N4.out.at_.inn _ (by rw[e1,e2,e3])).deeper d M4.out.at_.deep _ rfl,(M4.out.keeps.setCell rfl _).setCell rfl _⟩
    exact m5.on ((Zdf _ _ _ _ _).alloc _) (Nat.le_refl _) pin rin
  · rw[if_neg h2]at hk hv hf ⊢
    rw[if_neg h2,if_neg h2];rw[hk,hv,hf]at hj;have HJ:=Hh hj;have hne:=Zfn (Zv L b);clear hj hk hv hf h2;generalize hm:wrF (Zv L b)=f at *;obtain⟨f1,f2,f3⟩:=f;have HE:=Hh hm;have q0:(f1 != 0)=true:=by rw[bne_iff_ne];exact hne
    clear hm hne;go_enter Tryz.func134,Tryz.ntmps134;go_wp2_with(first
 |(go_at_call 128;refine hi.mono ?_;rintro e w2 ⟨rfl,b2⟩;have M2:=Hh (HM.out.next b2);have F2:=Hh (F0.out.below b2 F0.out.inside);obtain⟨c0,c1⟩:=look2 M2.out.at_ HO.out.1 HO.out.2.1 HO.out.2.2;have hp2:=M2.out.at_.whole.inside;clear b2)
 |(go_at_call 135;refine(HN.out _ _ (M2.out.at_.copy o n c HO.out.1 HO.out.2.1 HO.out.2.2)).mono ?_;rintro e w3 ⟨rfl,m3⟩;have N3:=Hh m3;clear m3;simp only[Vd])
 |(go_at_call 168;refine(HJ.out _ _ N3.out.at_).mono ?_;rintro e w4 ⟨rfl,m4⟩;have N4:=Hh (N3.out.then m4);have hG:=F2.out.inside;have M4:=Hh ((M2.out.next (Zi _ _)).on N4.out.keeps (Nat.le_of_lt hG) pin rin);have F4:=Hh (N4.out.keeps.whole (F2.out.alloc _) (Nat.ne_of_lt hG));obtain⟨g0,g1,g2,z0,z1,z2⟩:=Zy F4.out;have hz:=F4.out.inside;clear m4 hG;simp only[Zr]))
    go_region
    all_goals
     go_wp2
     have hF:=Zy (((Zf.set3 F4.out (.int .i64 f1) (.int .i64 (f2:Int)) (.int .i64 (f3:Int))).alloc (.cells #[.int .i64 f1,.int .i64 (f2:Int),.int .i64 (f3:Int)] 29)).drew);refine bodyPost_ret (v:=.tuple #[.int .i64 0,Zr (f1,f2,f3)]) (by simp[results,Tryz.results134,go_sem,hF,Zr]) rfl ⟨rfl,?_⟩;exact M4.out.on (((Zdf _ _ _ _ _).alloc _).drew) (Nat.le_refl _) pin rin
theorem own5_all{w:World}{base:Nat}{e:TypeId}{v:Value}{xs:List Value}{n:Nat}(h:w.ownsRow base e 5 v n xs)(hn:0<n) :
  ∃ g c,v=.slice (some ⟨g,0,none⟩) n c∧base≤g∧g<w.heap.size∧n≤c∧c≤9223372036854775807∧∀ j,j<xs.length→w.cell? ⟨g,j,none⟩=xs[j]?:=by
 obtain⟨g,c,rfl,hg,hc⟩:=own5_at h hn;obtain⟨A,c',hv,h1,h2,_⟩:=Xd h;injection hv with _ _ e3;subst e3;unfold maxLen at h2;exact⟨g,c,rfl,(h.lt g rfl).1,hg,h1,by omega,hc⟩
theorem Vp.made{w1 y:World}{g K G:Nat}{L:List TokV}(hrow:∀ j,j<(Jb L).length→w1.cell? ⟨g,j,none⟩=(Jb L)[j]?)(hg:g<w1.heap.size)(hk:Zq (fun k=>k=G) w1 y)(hG:g≠G)(hL:Zla L)(h1:L.length≤K)(h2:K≤9223372036854775807) :
  Vp (y.alloc (.cells #[.slice (some ⟨g,0,none⟩) L.length K,.int .i64 0] 171)) y.heap.size g K L 0 0:=by
 have hs:=hk.size;refine⟨by simpa using Zf.made y 171 #[.slice (some ⟨g,0,none⟩) L.length K,.int .i64 0],fun j hj=>?_,by simp;omega,by omega,hL,hL.pos,h1,h2,by omega⟩;have k2:=hk.alloc (.cells #[.slice (some ⟨g,0,none⟩) L.length K,.int .i64 0] 171);exact(World.cell?_of_block (a:=⟨g,j,none⟩) (k2.block g hg hG)).trans (hrow j hj)
def NewPost(L:List TokV)(w:World)(e:Ending)(w':World):Prop:=
 ∃ p r K,e=.returned (.tuple #[.pointer (some ⟨p,0,none⟩),Zr okF])∧Vp w' p r K L 0 0∧w.heap.size≤p∧w.heap.size≤r∧Below w.heap.size w w'
theorem cNew_err(s:ByteArray)(w:World)(hs:s.size≤140737488355328)(E:Int)(l c:Nat)(hv:Zbk s=([],E,l,c))(hE:E≠0) :
  Calls Tryz.prog 70 #[.string s] w fun e w'=>e=.returned (.tuple #[.pointer none,Zr (E,l,c)])∧Below w.heap.size w w':=by
 have HV:=Hh hv;have q0:(E != 0)=true:=by rw[bne_iff_ne];exact hE
 have F0:=Hh (Zf.made w 29 #[.int .i64 0,.int .i64 0,.int .i64 0]);clear hv hE;go_enter Tryz.func70,Tryz.ntmps70;go_wp2_with(go_at_call 95;refine(tkScan s _ (by omega)).mono ?_;rintro e w1 ⟨v,rfl,o1,b1⟩;rw[HV.out]at o1 ⊢;obtain⟨A1,c1,rfl,hl1,_⟩:=own5_reads o1;have F1:=Hh (F0.out.below b1 (by simp));obtain⟨g0,g1,g2,z0,z1,z2⟩:=Zy F1.out;have hz:=F1.out.inside;have B1:=Hh b1;clear o1 b1;simp only[Zr])
 go_region
 all_goals
  go_wp2
  have hF:=Zy (((Zf.set3 F1.out (.int .i64 E) (.int .i64 (l:Int)) (.int .i64 (c:Int))).alloc (.cells #[.int .i64 E,.int .i64 (l:Int),.int .i64 (c:Int)] 29)).drew);refine bodyPost_ret (v:=.tuple #[.pointer none,Zr (E,l,c)]) (by simp[results,Tryz.results70,go_sem,hF,Zr]) rfl ⟨rfl,?_⟩;exact Wa ((Below.set3 (Ue (Zi _ _) B1.out) (Nat.le_refl _) _ _ _).alloc (by simp;omega) _)
theorem cNew_ok(s:ByteArray)(w:World)(hs:s.size≤140737488355328)(L:List TokV)(hv:Zbk s=(L,0,0,0))(hL:Zla L) :
  Calls Tryz.prog 70 #[.string s] w (NewPost L w):=by
 have HV:=Hh hv;have F0:=Hh (Zf.made w 29 #[.int .i64 0,.int .i64 0,.int .i64 0]);have hpos:=hL.pos;have HL:=Hh hL;clear hv hL;go_enter Tryz.func70,Tryz.ntmps70;go_wp2_with(go_at_call 95;refine(tkScan s _ (by omega)).mono ?_;rintro e w1 ⟨v,rfl,o1,b1⟩;rw[HV.out]at o1 ⊢;obtain⟨g,K,rfl,r1,r2,r3,r4,r5⟩:=own5_all o1 hpos;have F1:=Hh (F0.out.below b1 (by simp));obtain⟨g0,g1,g2,z0,z1,z2⟩:=Zy F1.out;have hz:=F1.out.inside;have B1:=Hh b1;have R5:=Hh r5;clear o1 b1 r5;simp only[Zr])
 have hk:Zq (fun k=>k=w.heap.size) w1 ((((w1.setCell ⟨w.heap.size,0,none⟩ (.int .i64 0)).setCell ⟨w.heap.size,1,none⟩ (.int .i64 0)).setCell ⟨w.heap.size,2,none⟩ (.int .i64 0)).alloc (.cells #[.int .i64 0,.int .i64 0,.int .i64 0] 29)):=(Zdf _ _ _ _ _).alloc _;have hF:=Zy (((Zf.set3 F1.out (.int .i64 0) (.int .i64 0) (.int .i64 0)).alloc (.cells #[.int .i64 0,.int .i64 0,.int .i64 0] 29)).alloc (.cells #[.slice (some ⟨g,0,none⟩) L.length K,.int .i64 0] 171));have hgs:w.heap.size+1≤g:=by simpa using r1
 have hc:=Vp.made R5.out r2 hk (by omega) HL.out r3 r4
 have hb:Below w.heap.size w ((((w1.setCell ⟨w.heap.size,0,none⟩ (.int .i64 0)).setCell ⟨w.heap.size,1,none⟩ (.int .i64 0)).setCell ⟨w.heap.size,2,none⟩ (.int .i64 0)).alloc (.cells #[.int .i64 0,.int .i64 0,.int .i64 0] 29)):=
  (Below.set3 (Ue (Zi _ _) B1.out) (Nat.le_refl _) _ _ _).alloc (by simp;omega) _
 refine bodyPost_ret (v:=.tuple #[.pointer (some ⟨w1.heap.size+1,0,none⟩),Zr okF]) (by simp[results,Tryz.results70,go_sem,hF,Zr,okF]) rfl ⟨w1.heap.size+1,g,K,rfl,?_,by omega,by omega,hb.alloc hb.size _⟩;simpa using hc
structure Uw(w:World)(r K:Nat)(L:List TokV):Prop where
 row:∀ j,j<(Jb L).length→w.cell? ⟨r,j,none⟩=(Jb L)[j]?
 rin:r<w.heap.size
 ends:Zla L
 capL:L.length≤K
 capM:K≤9223372036854775807
theorem Uw.keeps{w w':World}{r K:Nat}{L:List TokV}(h:Uw w r K L){S:Nat→Prop}(hk:Zq S w w')(hr:¬ S r):Uw w' r K L:=
 ⟨fun j hj=>(World.cell?_of_block (a:=⟨r,j,none⟩) (hk.block r h.rin hr)).trans (h.row j hj),Nat.lt_of_lt_of_le h.rin hk.size,h.ends,h.capL,h.capM⟩
theorem Uw.below{w w':World}{r K:Nat}{L:List TokV}(h:Uw w r K L)(hb:Below w.heap.size w w'):Uw w' r K L:=
 h.keeps (S:=fun _=>False) (Zq.of_below hb) id
theorem Uw.at_{w:World}{r K:Nat}{L:List TokV}(h:Uw w r K L){a:Nat}(ha:a<L.length) :
  w.cell? ⟨r,a*5,none⟩=some (.int .i64 (Zv L a).k)∧w.cell? ⟨r,a*5+1,none⟩=some (.string (Zv L a).t)∧w.cell? ⟨r,a*5+2,none⟩=some (.int .i64 (Zv L a).n) ∧
  w.cell? ⟨r,a*5+3,none⟩=some (.int .i64 ((Zv L a).line:Int))∧w.cell? ⟨r,a*5+4,none⟩=some (.int .i64 ((Zv L a).col:Int)):=by
 have hl:=Zig L
 have key:∀ j,j<5→w.cell? ⟨r,a*5+j,none⟩=(Zv L a).cells[j]?:=fun j hj=>by
  rw[h.row _ (by omega),tokCs_at L a j ha hj,curT_get L a ha]
 exact⟨key 0 (by omega),key 1 (by omega),key 2 (by omega),key 3 (by omega),key 4 (by omega)⟩
def qA(r K n a d:Nat):Value:=.agg #[.slice (some ⟨r,0,none⟩) n K,.int .i64 (a:Int),.int .i64 (d:Int)]
theorem Ziw(w:World)(r K:Nat)(L:List TokV)(n a d:Nat)(hn:n=L.length)(h:Uw w r K L)(ha:a<L.length) :
  Calls Tryz.prog 19 #[qA r K n a d,.int .i64 0] w fun e w'=>e=.returned (Vd (Zv L a))∧Below w.heap.size w w':=by
 have h1:=h.below (Zi w (.cells #[.slice (some ⟨r,0,none⟩) n K,.int .i64 (a:Int),.int .i64 (d:Int)] 64));have h2:=h1.below (Zi _ (.cells #[.int .i64 0,.string ⟨#[]⟩,.int .i64 0,.int .i64 0,.int .i64 0] 69));obtain⟨t0,t1,t2,t3,t4⟩:=h2.at_ ha;have rin:=h.rin;have l0:a<n:=by omega
 have l1:(n:Int)≤9223372036854775807:=by have:=h.capL;have:=h.capM;omega
 have l2:(a:Int)≤9223372036854775806:=by omega
 have HN:=Hh hn;clear hn h h1 h2 ha;unfold qA Vd;generalize Zv L a=v at *;go_enter Tryz.func19,Tryz.ntmps19;go_wp2
 refine bodyPost_ret (v:=Vd v) (by simp[results,Tryz.results19,go_sem,Vd]) rfl ⟨rfl,?_⟩;exact((Below.refl _ _).alloc (Nat.le_refl _) _).alloc (by simp) _
theorem qOn(w:World)(r K:Nat)(L:List TokV)(n a d:Nat)(hn:n=L.length)(h:Uw w r K L)(ha:a<L.length) :
  Calls Tryz.prog 48 #[qA r K n a d] w fun e w'=>e=.returned (qA r K n (onA L a) d)∧Below w.heap.size w w':=by
 have hon:=h.ends.on' ha;have l0:(a:Int)<(n:Int):=by omega
 have l1:(n:Int)≤9223372036854775807:=by have:=h.capL;have:=h.capM;omega
 rw[hon,←hn];clear hon hn h ha;unfold qA;by_cases hl:(a:Int)<(n:Int) - 1
 ·rw[if_pos hl]
  go_enter Tryz.func48,Tryz.ntmps48;go_wp2
  refine bodyPost_ret (v:=qA r K n (a+1) d) (by simp[results,Tryz.results48,go_sem,qA]) rfl ⟨by simp[qA],?_⟩;exact((Below.refl _ _).alloc (Nat.le_refl _) _).alloc (by simp) _
 ·rw[if_neg hl]
  go_enter Tryz.func48,Tryz.ntmps48;go_wp2
  refine bodyPost_ret (v:=qA r K n a d) (by simp[results,Tryz.results48,go_sem,qA]) rfl ⟨rfl,?_⟩;exact((Below.refl _ _).alloc (Nat.le_refl _) _).alloc (by simp) _
theorem qIs(w:World)(r K:Nat)(L:List TokV)(n a d:Nat)(t:ByteArray)(hn:n=L.length)(h:Uw w r K L)(ha:a<L.length) :
  Calls Tryz.prog 47 #[qA r K n a d,.string t] w fun e w'=>e=.returned (.bool (isT (Zv L a) t))∧Below w.heap.size w w':=by
 have h1:=h.below (Zi w (.cells #[.slice (some ⟨r,0,none⟩) n K,.int .i64 (a:Int),.int .i64 (d:Int)] 64));have hi:=Ziw _ r K L n a d hn h1 ha;clear hn h h1 ha;unfold qA at hi ⊢;generalize Zv L a=v at *;have HT:Hid (isT v t=((v.k == 1 || v.k == 4) && (v.t.toList == t.toList))):=Hh rfl;cases h1:(v.k == 1)<;>cases h4:(v.k == 4)<;>cases ht:(v.t.toList == t.toList)
 all_goals
  have HH:=Hh (And.intro h1 (And.intro h4 ht));go_enter Tryz.func47,Tryz.ntmps47;go_wp2_with(go_at_call 19;refine hi.mono ?_;rintro e w2 ⟨rfl,b2⟩;have B2:=Hh b2;clear b2;simp only[Vd])
  go_ret;have hb:=Ue (Zi _ _) B2.out;exact⟨by rw[HT.out,HH.out.1,HH.out.2.1,HH.out.2.2];rfl,hb.alloc hb.size _⟩
theorem qwrong(w:World)(v:TokV) :
  Calls Tryz.prog 106 #[Vd v] w fun e w'=>e=.returned (Zr (wrF v))∧Below w.heap.size w w':=by
 unfold Vd wrF;by_cases hk:v.k=0
 ·have q0:(v.k == 0)=true:=by rw[hk];rfl
  rw[if_pos hk];clear hk;go_enter Tryz.func106,Tryz.ntmps106;go_wp2
  refine bodyPost_ret (v:=Zr (2,v.line,v.col)) (by simp[results,Tryz.results106,go_sem,Zr]) rfl ⟨rfl,?_⟩;exact((Below.refl _ _).alloc (Nat.le_refl _) _).alloc (by simp) _
 ·have q0:(v.k == 0)=false:=by rw[beq_eq_false_iff_ne];exact hk
  rw[if_neg hk];clear hk;go_enter Tryz.func106,Tryz.ntmps106;go_wp2
  refine bodyPost_ret (v:=Zr (7,v.line,v.col)) (by simp[results,Tryz.results106,go_sem,Zr]) rfl ⟨rfl,?_⟩;exact((Below.refl _ _).alloc (Nat.le_refl _) _).alloc (by simp) _
theorem qWrong(w:World)(r K:Nat)(L:List TokV)(n a d:Nat)(hn:n=L.length)(h:Uw w r K L)(ha:a<L.length) :
  Calls Tryz.prog 82 #[qA r K n a d] w fun e w'=>e=.returned (Zr (wrF (Zv L a)))∧Below w.heap.size w w':=by
 have h1:=h.below (Zi w (.cells #[.slice (some ⟨r,0,none⟩) n K,.int .i64 (a:Int),.int .i64 (d:Int)] 64));have h2:=h1.below (Zi _ (.cells #[.int .i64 0,.int .i64 0,.int .i64 0] 29));have T0:=Hh (Two.start w 64 #[.slice (some ⟨r,0,none⟩) n K,.int .i64 (a:Int),.int .i64 (d:Int)] 29 #[.int .i64 0,.int .i64 0,.int .i64 0]);have hi:=Ziw _ r K L n a d hn h2 ha;clear hn h h1 h2 ha;unfold qA at hi ⊢;generalize Zv L a=v at *;generalize hf:wrF v=f at *;have hj:∀ w,Calls Tryz.prog 106 #[Vd v] w fun e w'=>e=.returned (Zr f)∧Below w.heap.size w w':=fun w=>by rw[←hf];exact qwrong w v
 clear hf;obtain⟨f1,f2,f3⟩:=f;go_enter Tryz.func82,Tryz.ntmps82;go_wp2_with(first
 |(go_at_call 19;refine hi.mono ?_;rintro e w2 ⟨rfl,b2⟩;have T2:=Hh (T0.out.next b2);clear b2)
 |(go_at_call 106;refine(hj _).mono ?_;rintro e w3 ⟨rfl,b3⟩;have T3:=Hh (T2.out.next b3);obtain⟨g0,g1,g2,z0,z1,z2⟩:=Zy T3.out.k1;have hz:=T3.out.k1.inside;clear b3;simp only[Zr]))
 have hF:=Zy (Zf.set3 T3.out.k1 (.int .i64 f1) (.int .i64 (f2:Int)) (.int .i64 (f3:Int)));refine bodyPost_ret (v:=Zr (f1,f2,f3)) (by simp[results,Tryz.results82,go_sem,hF,Zr]) rfl ⟨rfl,?_⟩;exact Below.set3 T3.out.below (Nat.le_succ _) _ _ _
open Go Go.RowKit
inductive Ds where
 |nil
 |int (n:Int) (r:Ds)
 |str (s:ByteArray) (r:Ds)
 |row (n:Nat) (cs r:Ds)
def Ds.app:Ds→Ds→Ds
 |.nil,y=>y
 |.int n r,y=>.int n (r.app y)
 |.str s r,y=>.str s (r.app y)
 |.row n cs r,y=>.row n cs (r.app y)
def Ds.len:Ds→Nat
 |.nil=>0
 |.int _ r=>r.len+1
 |.str _ r=>r.len+1
 |.row _ _ r=>r.len+1
theorem Ds.app_nil:∀ x:Ds,x.app .nil=x
 |.nil=>rfl
 |.int n r=>by rw[Ds.app,Ds.app_nil r]
 |.str s r=>by rw[Ds.app,Ds.app_nil r]
 |.row n cs r=>by rw[Ds.app,Ds.app_nil r]
theorem Ds.app_assoc(y z:Ds):∀ x:Ds,(x.app y).app z=x.app (y.app z)
 |.nil=>rfl
 |.int n r=>by rw[Ds.app,Ds.app,Ds.app,Ds.app_assoc y z r]
 |.str s r=>by rw[Ds.app,Ds.app,Ds.app,Ds.app_assoc y z r]
 |.row n cs r=>by rw[Ds.app,Ds.app,Ds.app,Ds.app_assoc y z r]
theorem Ds.len_app(y:Ds):∀ x:Ds,(x.app y).len=x.len+y.len
 |.nil=>by rw[Ds.app,Ds.len];omega
 |.int n r=>by rw[Ds.app,Ds.len,Ds.len,Ds.len_app y r];omega
 |.str s r=>by rw[Ds.app,Ds.len,Ds.len,Ds.len_app y r];omega
 |.row n cs r=>by rw[Ds.app,Ds.len,Ds.len,Ds.len_app y r];omega
def Vw(N:Nat→Prop)(w:World)(A:Option Addr)(xs:List Value):Prop:=
 xs=[]∨∃ g,A=some ⟨g,0,none⟩∧N g∧g<w.heap.size∧∀ j,j<xs.length→w.cell? ⟨g,j,none⟩=xs[j]?
def Zn(N:Nat→Prop)(w:World):Ds→List Value→Prop
 |.nil,vs=>vs=[]
 |.int n r,vs=>∃ t,vs=.int .i64 n::t∧Zn N w r t
 |.str s r,vs=>∃ t,vs=.string s::t∧Zn N w r t
 |.row n cs r,vs=>∃ A c xs t,vs=.slice A n c::t∧(n≤9223372036854775807∧n≤c)∧Vw N w A xs∧Zn N w cs xs∧Zn N w r t
theorem Vw.keeps{N M S:Nat→Prop}{w w':World}{A:Option Addr}{xs:List Value}(h:Vw N w A xs)(hk:Zq S w w')(hs:∀ k,k<w.heap.size→N k→¬ S k∧M k):Vw M w' A xs:=by
 rcases h with h | ⟨g,e,h1,h2,h3⟩
 ·exact .inl h
 ·exact .inr ⟨g,e,(hs g h2 h1).2,Nat.lt_of_lt_of_le h2 hk.size,fun j hj=>(World.cell?_of_block (a:=⟨g,j,none⟩) (hk.block g h2 (hs g h2 h1).1)).trans (h3 j hj)⟩
theorem Zn.keeps{N M S:Nat→Prop}{w w':World}(hk:Zq S w w')(hs:∀ k,k<w.heap.size→N k→¬ S k∧M k):∀{ds:Ds}{vs:List Value},Zn N w ds vs→Zn M w' ds vs
 |.nil,vs,h=>h
 |.int n r,vs,⟨t,e,h⟩=>⟨t,e,Zn.keeps hk hs h⟩
 |.str s r,vs,⟨t,e,h⟩=>⟨t,e,Zn.keeps hk hs h⟩
 |.row n cs r,vs,⟨A,c,xs,t,e,hn,h1,h2,h3⟩=>⟨A,c,xs,t,e,hn,h1.keeps hk hs,Zn.keeps hk hs h2,Zn.keeps hk hs h3⟩
theorem Zn.mono{N M:Nat→Prop}{w:World}{ds:Ds}{vs:List Value}(h:Zn N w ds vs)(hs:∀ k,k<w.heap.size→N k→M k):Zn M w ds vs:=
 h.keeps (S:=fun _=>False) (Zq.refl _ w) fun k hk hn=>⟨id,hs k hk hn⟩
theorem Zn.below{N:Nat→Prop}{w w':World}{ds:Ds}{vs:List Value}(h:Zn N w ds vs)(hb:Below w.heap.size w w'):Zn N w' ds vs:=
 h.keeps (S:=fun _=>False) (Zq.of_below hb) fun k _ hn=>⟨id,hn⟩
theorem Zn.len{N:Nat→Prop}{w:World}:∀{ds:Ds}{vs:List Value},Zn N w ds vs→vs.length=ds.len
 |.nil,vs,h=>by cases h;rfl
 |.int n r,vs,⟨t,e,h⟩=>by rw[e,List.length_cons,Zn.len h];rfl
 |.str s r,vs,⟨t,e,h⟩=>by rw[e,List.length_cons,Zn.len h];rfl
 |.row n cs r,vs,⟨A,c,xs,t,e,_,_,_,h⟩=>by rw[e,List.length_cons,Zn.len h];rfl
theorem Zn.one{N:Nat→Prop}{w:World}:∀{ds:Ds}{vs:List Value},Zn N w ds vs→∀ v ∈ vs,v.oneCell'=true
 |.nil,vs,h=>by cases h;intro v hv;cases hv
 |.int n r,vs,⟨t,e,h⟩=>by rw[e];intro v hv;rcases List.mem_cons.1 hv with rfl | hv;rfl;exact Zn.one h v hv
 |.str s r,vs,⟨t,e,h⟩=>by rw[e];intro v hv;rcases List.mem_cons.1 hv with rfl | hv;rfl;exact Zn.one h v hv
 |.row n cs r,vs,⟨A,c,xs,t,e,_,_,_,h⟩=>by rw[e];intro v hv;rcases List.mem_cons.1 hv with rfl | hv;rfl;exact Zn.one h v hv
theorem Zn.app{N:Nat→Prop}{w:World}{y:Ds}{us:List Value}(hy:Zn N w y us):∀{x:Ds}{vs:List Value},Zn N w x vs→Zn N w (x.app y) (vs++us)
 |.nil,vs,h=>by cases h;exact hy
 |.int n r,vs,⟨t,e,h⟩=>⟨t++us,by rw[e];rfl,Zn.app hy h⟩
 |.str s r,vs,⟨t,e,h⟩=>⟨t++us,by rw[e];rfl,Zn.app hy h⟩
 |.row n cs r,vs,⟨A,c,xs,t,e,hn,h1,h2,h⟩=>⟨A,c,xs,t++us,by rw[e];rfl,hn,h1,h2,Zn.app hy h⟩
theorem Zn.split{N:Nat→Prop}{w:World}{y:Ds}:∀{x:Ds}{vs:List Value},Zn N w (x.app y) vs→∃ a b,vs=a++b∧Zn N w x a∧Zn N w y b
 |.nil,vs,h=>⟨[],vs,rfl,rfl,h⟩
 |.int n r,vs,⟨t,e,h⟩=>by obtain⟨a,b,e2,h1,h2⟩:=Zn.split (x:=r) h;exact⟨.int .i64 n::a,b,by rw[e,e2];rfl,⟨a,rfl,h1⟩,h2⟩
 |.str s r,vs,⟨t,e,h⟩=>by obtain⟨a,b,e2,h1,h2⟩:=Zn.split (x:=r) h;exact⟨.string s::a,b,by rw[e,e2];rfl,⟨a,rfl,h1⟩,h2⟩
 |.row n cs r,vs,⟨A,c,xs,t,e,hn,g1,g2,h⟩=>by obtain⟨a,b,e2,h1,h2⟩:=Zn.split (x:=r) h;exact⟨.slice A n c::a,b,by rw[e,e2];rfl,⟨A,c,xs,a,rfl,hn,g1,g2,h1⟩,h2⟩
theorem Zjo{w:World}{base:Nat}{e:TypeId}{size:Nat}{v:Value}{n:Nat}{xs:List Value}(h:w.ownsRow base e size v n xs) :
  ∃ A c,v=.slice A n c∧(n≤9223372036854775807∧n≤c)∧Vw (fun k=>base≤k) w A xs:=by
 obtain⟨hl,h⟩:=id h;rcases h with⟨rfl,rfl⟩ | ⟨g,cap,cur,rfl,hb,hw,h1,h2,h3,h4⟩
 ·refine⟨none,0,rfl,by omega,.inl ?_⟩
  rw[Nat.zero_mul]at hl;exact List.length_eq_zero_iff.1 hl
 ·unfold maxLen at h2
  refine⟨some ⟨g,0,none⟩,cap,rfl,by omega,.inr ⟨g,rfl,hb,Zf.inside (cs:=cur) hw,fun j hj=>?_⟩⟩;rw[Zf.read (cs:=cur) hw j,←h4,List.getElem?_take];have hj':j<n*size:=by rw[←hl];exact hj
  rw[if_pos hj',Array.getElem?_toList]
theorem Zn.rowOf{N:Nat→Prop}{w:World}{base:Nat}{e:TypeId}{size:Nat}{v:Value}{n:Nat}{xs:List Value}{ds:Ds}(h:w.ownsRow base e size v n xs)(hb:∀ k,base≤k→N k)(hd:Zn N w ds xs) :
  Zn N w (.row n ds .nil) [v]:=by
 obtain⟨A,c,rfl,hn,hw⟩:=Zjo h;exact⟨A,c,xs,[],rfl,hn,hw.keeps (S:=fun _=>False) (Zq.refl _ w) (fun k _ hk=>⟨id,hb k hk⟩),hd,rfl⟩
theorem Zf.range{w:World}{g:Nat}{t:TypeId}{a b c:List Value}(h:Zf w g t (a++b++c).toArray):w.rangeAt g a.length b:=fun j v hv=>by
 have hj:j<b.length:=(List.getElem?_eq_some_iff.1 hv).1;rw[h.read,List.getElem?_toArray,List.getElem?_append_left (by rw[List.length_append];omega),List.getElem?_append_right (by omega),show a.length+j - a.length=j from by omega,hv]
theorem Zf.there{w:World}{g:Nat}{t:TypeId}{a b c:List Value}(h:Zf w g t (a++b++c).toArray):w.there g a.length b.length:=fun j hj=>
 ⟨h.range.isSome j hj,h.thawed _⟩
theorem Zf.setCells{g:Nat}{t:TypeId}(c:List Value):∀(y b a:List Value)(w:World),y.length=b.length→Zf w g t (a++b++c).toArray→Zf (w.setCells g a.length y) g t (a++y++c).toArray
 |[],b,a,w,hl,h=>by
  have:b=[]:=List.length_eq_zero_iff.1 (by rw[←hl];rfl);rw[this]at h;exact h
 |v::y,[],a,w,hl,h=>by cases hl
 |v::y,u::b,a,w,hl,h=>by
  rw[World.setCells];have h1:=h.write a.length v
  have e:(a++u::b++c).toArray.setIfInBounds a.length v=((a++[v])++b++c).toArray:=by
   simp[List.setIfInBounds_toArray,List.set_append_right]
  rw[e]at h1;have h2:=Zf.setCells c y b (a++[v]) _ (by rw[List.length_cons,List.length_cons]at hl;omega) h1;rw[List.length_append]at h2;have e2:(a++[v]++y++c).toArray=(a++v::y++c).toArray:=by simp
  rw[e2]at h2;exact h2
theorem Zq.setCells{S:Nat→Prop}{g:Nat}(hg:S g):∀(y:List Value)(o:Nat){a b:World},Zq S a b→Zq S a (b.setCells g o y)
 |[],_,_,_,h=>h
 |v::y,o,a,b,h=>Zq.setCells hg y (o+1) (h.setCell (p:=⟨g,o,none⟩) hg v)
theorem Zd{P:Program}{ops:Array Oper}{rest:List Oper}{op:Op}{t:TypeId}{ps:String}{af:Array Edge}{gd:Option (Nat×Bool)}{a:Act}{w:World}{Q:Exit→Act→World→Prop}(d:Nat)
 (h:wpList P ops Q (⟨some d,op,t,ps,af,gd⟩::rest) a w):wpList P ops Q (⟨some d,op,t,ps,af,gd⟩::rest) a w:=h
theorem Zg{P:Program}{ops:Array Oper}{rest:List Oper}{T:TypeId}{t:TypeId}{ps:String}{af:Array Edge}{gd:Option (Nat×Bool)}{a:Act}{w:World}{Q:Exit→Act→World→Prop}(x y:Nat)
 (h:wpList P ops Q (⟨none,.store T (.tmp x) (.tmp y),t,ps,af,gd⟩::rest) a w):wpList P ops Q (⟨none,.store T (.tmp x) (.tmp y),t,ps,af,gd⟩::rest) a w:=h
structure Put(w w':World)(g:Nat)(t:TypeId)(vs:List Value):Prop where
 whole:Zf w' g t vs.toArray
 keeps:Zq (fun k=>k=g) w w'
theorem Xf{P:Program}{ops:Array Oper}{rest:List Oper}{o:Oper}{a:Act}{w:World}{Q:Exit→Act→World→Prop}(T:TypeId)(x y:Operand)(t:TypeId)(g n:Nat)(pre old post ys:List Value)(hW:Zf w g t (pre++old++post).toArray)(hl:ys.length=old.length)
  (hpn:n=pre.length)(hi:(P.info? T).map (·.size)=some ys.length)(h1:∀ v ∈ ys,v.oneCell'=true)
  (hgd:o.guard=none)(ho:o.op=.store T x y)(hd:o.dst=none)
  (hx:a.eval x=.pointer (some ⟨g,n,none⟩))(hy:a.eval y=.agg ys.toArray)
  (h:∀ w',Put w w' g t (pre++ys++post)→wpList P ops Q rest a w'):wpList P ops Q (o::rest) a w:=by
 subst hpn;have ht:w.there g pre.length ys.length:=by rw[hl];exact hW.there
 refine wpList_store_mid hgd T x y ho g pre.length ys.toArray hx hy (by simpa using ht) (by simpa using hi) (all_oneCell_toArray h1) ?_;rw[hd];exact h _ ⟨Zf.setCells post ys old pre w hl hW,Zq.setCells (S:=fun k=>k=g) rfl _ _ (Zq.refl _ _)⟩
theorem Za{P:Program}{ops:Array Oper}{rest:List Oper}{o:Oper}{a:Act}{w:World}{Q:Exit→Act→World→Prop}(T:TypeId)(x y:Operand)(t:TypeId)(g:Nat)(old ys:List Value)(hW:Zf w g t old.toArray)(hl:ys.length=old.length)
  (hi:(P.info? T).map (·.size)=some ys.length)(h1:∀ v ∈ ys,v.oneCell'=true)
  (hgd:o.guard=none)(ho:o.op=.store T x y)(hd:o.dst=none)
  (hx:a.eval x=.pointer (some ⟨g,0,none⟩))(hy:a.eval y=.agg ys.toArray)
  (h:∀ w',Put w w' g t ys→wpList P ops Q rest a w'):wpList P ops Q (o::rest) a w:=
 Xf T x y t g 0 [] old [] ys (by simpa using hW) hl rfl hi h1 hgd ho hd hx hy fun w' p=>h w' ⟨by simpa using p.whole,p.keeps⟩
theorem Zj{P:Program}{ops:Array Oper}{rest:List Oper}{o:Oper}{a:Act}{w:World}{Q:Exit→Act→World→Prop}(T:TypeId)(x y:Operand)(t:TypeId)(g n:Nat)(pre:List Value)(old v:Value)(post:List Value)(hW:Zf w g t (pre++[old]++post).toArray)
  (hpn:n=pre.length)(hi:(P.info? T).map (·.size)=some 1)(h1:v.oneCell'=true)
  (hgd:o.guard=none)(ho:o.op=.store T x y)(hd:o.dst=none)
  (hx:a.eval x=.pointer (some ⟨g,n,none⟩))(hy:a.eval y=v)
  (h:∀ w',Put w w' g t (pre++[v]++post)→wpList P ops Q rest a w'):wpList P ops Q (o::rest) a w:=by
 subst hpn;refine wpList_plain hgd fun K hK=>?_
 have hc:v.cells=#[v]:=by cases v<;>first | rfl | cases h1
 have hst:(storeVar T ⟨g,pre.length,none⟩ v).run P w=.ok () (w.setCells g pre.length [v]):=by
  have:=run_storeCells_cells (P:=P) g pre.length [v] 0 w (fun j hj=>by simpa using(hW.there j hj).1) (fun j hj=>by simpa using(hW.there j hj).2) (fun u hu=>by simp at hu;rw[hu];exact h1);cases hq:P.info? T with
  |none=>simp[hq]at hi
  |some i=>
   have hs:i.size=1:=by simpa[hq]using hi
   simp only[Nat.add_zero]at this;simp[storeVar,sizeOf,typeInfo,hq,hc,hs,this]
 unfold Oper.wp execOp;simp only[ho,hx,hy,Instr.storeAt,Instr.sureAddr,Sem.run_bind,Sem.run_pure,Result.andThen_ok,hst];have hh:=hK _ _ (h _ ⟨Zf.setCells post [v] [old] pre w rfl hW,Zq.setCells (S:=fun k=>k=g) rfl _ _ (Zq.refl _ _)⟩);have e:a.put o.dst undef=a:=by rw[hd];rfl
 show K (a.put o.dst undef) _;rw[e];exact hh
theorem Xn{P:Program}{ops:Array Oper}{rest:List Oper}{o:Oper}{a:Act}{w:World}{Q:Exit→Act→World→Prop}(T:TypeId)(x:Operand)(t:TypeId)(g n:Nat)(pre vs post:List Value)(hW:Zf w g t (pre++vs++post).toArray)(hpn:n=pre.length)
  (hu:(P.underlying T).map TypeDesc.isRow=some true)(hi:(P.info? T).map (·.size)=some vs.length)
  (hgd:o.guard=none)(ho:o.op=.load T x)(hx:a.eval x=.pointer (some ⟨g,n,none⟩))
  (h:wpList P ops Q rest (a.put o.dst (.agg vs.toArray)) w):wpList P ops Q (o::rest) a w:=by
 subst hpn;obtain⟨d,hu,hr⟩:=Option.map_eq_some_iff.1 hu;exact wpList_load_mid hgd T x ho g pre.length hx vs d hW.range hu hr hi h
theorem Zb{P:Program}{ops:Array Oper}{rest:List Oper}{o:Oper}{a:Act}{w:World}{Q:Exit→Act→World→Prop}(T:TypeId)(x:Operand)(t:TypeId)(g:Nat)(vs:List Value)(hW:Zf w g t vs.toArray)
  (hu:(P.underlying T).map TypeDesc.isRow=some true)(hi:(P.info? T).map (·.size)=some vs.length)
  (hgd:o.guard=none)(ho:o.op=.load T x)(hx:a.eval x=.pointer (some ⟨g,0,none⟩))
  (h:wpList P ops Q rest (a.put o.dst (.agg vs.toArray)) w):wpList P ops Q (o::rest) a w:=
 Xn T x t g 0 [] vs [] (by simpa using hW) rfl hu hi hgd ho hx h
theorem Wi{P:Program}{w:World}{ops:Array Oper}{rest:List Oper}{o:Oper}{a:Act}{Q:Exit→Act→World→Prop}(s x:Operand)(t e:TypeId)(sz bytes:Nat)(z:Value)
  (ht:P.underlying t=some (.slice e))(hinfo:(P.info? e).map (fun i=>(i.zero,i.size,i.bytes))=some (some z,sz,bytes))(hzs:z.cells.size=sz)(hpos:0<sz)(hby:bytes≤1024)
  (base:Nat)(v:Value)(n:Nat)(xs news:List Value)(hown:w.ownsRow base e sz v n xs)(g:Nat)(hW:Zf w g e news.toArray)(hnl:news.length=sz)(h1:∀ u ∈ news,u.oneCell'=true)
  (hn:n≤68719476736)(hbase:base≤w.heap.size)
  (hgd:o.guard=none)(ho:o.op=.call { callee:=.builtin .append,args:=#[s,x],argTypes:=#[t,t] })(hs:a.eval s=v)(hx:a.eval x=.slice (some ⟨g,0,none⟩) 1 1)
  (h:∀ v' w',w'.ownsRow base e sz v' (n+1) (xs++news)→w.grownBy w' v.ownBlock→(v'.ownBlock=v.ownBlock∨v'.ownBlock=some w.heap.size)→wpList P ops Q rest (a.put o.dst v') w') :
  wpList P ops Q (o::rest) a w:=by
 obtain⟨i,hi,hz,hsize,hbytes⟩:=info_parts hinfo;refine wpList_append_own_at w hgd s x t ho base e i z sz bytes ht hi hz hsize hbytes hzs hpos v n xs hs hown ⟨g,0,none⟩ 1 1 news hx (by rw[hnl];omega) ?_ h1 (by unfold maxLen;omega) ?_ hbase ?_
 ·intro j u hj
  have hr:=hW.read j;have ha:(⟨g,0,none⟩:Addr).add j=⟨g,j,none⟩:=by simp[Addr.add];omega
  rw[ha,hr,←hj];simp
 ·have:(n+1)*bytes≤(n+1)*1024:=Nat.mul_le_mul_left _ hby
  omega
 ·intro v' w' ho' hg _ hat
  exact h v' w' ho' hg hat
theorem Wg{P:Program}{fn:Func}{R:Ending→World→Prop}{a:Act}{w:World}(s T:Nat)(t:TypeId)(g:Nat)(vs:List Value)(hres:fn.results=#[.cell s T])(hW:Zf w g t vs.toArray)
  (hu:(P.underlying T).map TypeDesc.isRow=some true)(hi:(P.info? T).map (·.size)=some vs.length)
  (hp:a.tmps.getD s undef=.pointer (some ⟨g,0,none⟩))(hd:a.defers=[])(hR:R (.returned (.agg vs.toArray)) w):bodyPost P fn R .ret a w:=by
 obtain⟨d,hu,hr⟩:=Option.map_eq_some_iff.1 hu;refine bodyPost_ret (v:=.agg vs.toArray) ?_ hd hR;have hl:=run_loadVar_mid (P:=P) w g 0 T vs d (by have:=Zf.range (a:=[]) (b:=vs) (c:=[]) (by simpa using hW);exact this) hu hr hi;have hp':a.tmps[s]?.getD undef=.pointer (some ⟨g,0,none⟩):=by simpa using hp
 simp[results,hres,hp',hl,asAddr,Sem.run_bind,Sem.run_pure]
end Go.Proofs.YtdngkgickbaboaaGreat
