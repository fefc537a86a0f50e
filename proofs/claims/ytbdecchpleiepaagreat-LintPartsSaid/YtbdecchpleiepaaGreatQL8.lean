/- Parts of the proof. No conditions but those that each names. -/
import Derived.Deep.QuietTactic
import Derived.BigQuiet
import Derived.Deep.RegionHeld3
import Derived.RegionTactic
import Derived.Deep.MidRow
import Derived.Great.Ranges
import Derived.Great.Walk
import Derived.Test.YtbdecchpleiepaaGreatQL7
set_option maxRecDepth 20000
set_option maxHeartbeats 99000000
set_option linter.unusedVariables false
set_option linter.unusedSimpArgs false
namespace Go.Proofs.YtbdecchpleiepaaGreat
open Go.Value renaming int→I,slice→Λ,pointer→Ω,string→Ψ,oneCell'→Γ
open Go.IntKind renaming i64→J
open _root_.Go.Proofs.Tryz renaming prog→Φ
open Nat renaming le_refl→Θ
open And renaming intro→ζ
open Go.Ending renaming returned→η
open Go.ChangeShapes Go.WideShapes Go.ChangeAt Go.RowKit
theorem add_add'(x:Addr)(n m:Nat):(x.add n).add m=x.add (n+m):=by
 unfold Addr.add;by_cases h:n=0
 ·subst h;simp
 ·by_cases h2:m=0
  ·subst h2;simp
  ·simp[h,h2,Nat.add_assoc]
theorem tokCs_at(L:List TokV):∀(i j:Nat)(h:i<L.length),j<5→(Jd L)[i*5+j]?=(L[i]'h).cells[j]?:=by
 induction L with
 |nil=>intro i j h;simp at h
 |cons v L ih=>
  intro i j h hj;have e:Jd (v::L)=v.cells++Jd L:=rfl;have hl:v.cells.length=5:=rfl;rw[e];cases i with
  |zero=>rw[Nat.zero_mul,Nat.zero_add,List.getElem?_append_left (by omega)];rfl
  |succ i=>
   rw[List.getElem?_append_right (by omega),hl,show(i+1)*5+j - 5=i*5+j from by omega];exact ih i j (by simpa using h) hj
theorem Zbp.tok{w:World}{A:Option Addr}{L:List TokV}(h:Zbp w A (Jd L)){i:Nat}(hi:i<L.length) :
  ∃ x,A=some x∧x.block<w.heap.size∧w.cell? (x.add (i*5))=some (I J (L[i]'hi).k)∧w.cell? ⟨(x.add (i*5)).block,(x.add (i*5)).off+1,none⟩=some (Ψ (L[i]'hi).t) ∧
   w.cell? ⟨(x.add (i*5)).block,(x.add (i*5)).off+2,none⟩=some (I J (L[i]'hi).n)∧w.cell? ⟨(x.add (i*5)).block,(x.add (i*5)).off+3,none⟩=some (I J ((L[i]'hi).line:Int)) ∧
   w.cell? ⟨(x.add (i*5)).block,(x.add (i*5)).off+4,none⟩=some (I J ((L[i]'hi).col:Int)):=by
 have hl:=Zjh L;obtain⟨x,hA,hx,hc⟩:=h.at_ (by omega)
 have key:∀ j,j<5→w.cell? ((x.add (i*5)).add j)=(L[i]'hi).cells[j]?:=fun j hj=>by
  rw[add_add',hc _ (by omega),tokCs_at L i j hi hj]
 exact⟨x,hA,hx,key 0 (by omega),key 1 (by omega),key 2 (by omega),key 3 (by omega),key 4 (by omega)⟩
theorem own5_reads{w:World}{base:Nat}{e:TypeId}{v:Value}{xs:List Value}{n:Nat}(h:w.ownsRow base e 5 v n xs):∃ A c,v=Λ A n c∧n≤9223372036854775807∧Zbp w A xs:=by
 obtain⟨A,c,hv,hn,hm,hc⟩:=Yx h;exact⟨A,c,hv,by unfold maxLen at hm;omega,hc.reads⟩
theorem own5_at{w:World}{base:Nat}{e:TypeId}{v:Value}{xs:List Value}{n:Nat}(h:w.ownsRow base e 5 v n xs)(hn:0<n):∃ g c,v=Λ (some ⟨g,0,none⟩) n c∧g<w.heap.size∧∀ j,j<xs.length→w.cell? ⟨g,j,none⟩=xs[j]?:=by
 obtain⟨hl,h0 | ⟨g,cap,cur,rfl,hb,hg,h1,h2,h3,h4⟩⟩:=h
 ·omega
 ·have hw:Zi w g e cur:=hg
  refine⟨g,cap,rfl,hw.inside,fun j hj=>?_⟩;rw[hw.read j,←h4,List.getElem?_take_of_lt (by omega),Array.getElem?_toList]
structure Uf(w:World)(p r K:Nat)(L:List TokV)(a d:Nat):Prop where
 whole:Zi w p 139 #[Λ (some ⟨r,a*5,none⟩) (L.length - a) (K - a),I J (d:Int)]
 row:∀ j,j<(Jd L).length→w.cell? ⟨r,j,none⟩=(Jd L)[j]?
 rin:r<w.heap.size
 ne:r≠p
 ends:Zml L
 inn:a<L.length
 capL:L.length≤K
 capM:K≤9223372036854775807
 deep:d≤8
theorem Uf.look{w:World}{p r K:Nat}{L:List TokV}{a d:Nat}(h:Uf w p r K L a d):At w p (Yb L a) d r (a*5) (L.length - a) (K - a):=by
 have hi:=h.inn;have hl:=Zjh L
 have key:∀ j,j<5→w.cell? ⟨r,a*5+j,none⟩=(Yb L a).cells[j]?:=fun j hj=>by
  rw[h.row _ (by omega),tokCs_at L a j hi hj,curT_get L a hi]
 exact⟨h.whole.read 0,h.whole.read 1,key 0 (by omega),key 1 (by omega),key 2 (by omega),key 3 (by omega),key 4 (by omega),h.whole.inside,h.rin,by omega,by have:=h.capM;have:=h.capL;omega⟩
theorem Uf.keeps{w w':World}{p r K:Nat}{L:List TokV}{a d:Nat}(h:Uf w p r K L a d){S:Nat→Prop}(hk:Zy S w w')(hp:¬ S p)(hr:¬ S r):Uf w' p r K L a d:=
 ⟨hk.whole h.whole hp,fun j hj=>(World.cell?_of_block (a:=⟨r,j,none⟩) (hk.block r h.rin hr)).trans (h.row j hj),Nat.lt_of_lt_of_le h.rin hk.size,h.ne,h.ends,h.inn,h.capL,h.capM,h.deep⟩
theorem Uf.below{w w':World}{p r K:Nat}{L:List TokV}{a d:Nat}(h:Uf w p r K L a d)(hb:Below w.heap.size w w'):Uf w' p r K L a d:=
 h.keeps (S:=fun _=>False) (Zy.of_below hb) id id
structure Zaf(w w':World)(p r K:Nat)(L:List TokV)(a d:Nat):Prop where
 at_:Uf w' p r K L a d
 keeps:Zy (fun k=>k=p) w w'
theorem Uf.moved{w:World}{p r K:Nat}{L:List TokV}{a d:Nat}(h:Uf w p r K L a d)(b:Nat)(hb:b<L.length)(u:Value)(hu:u=Λ (some ⟨r,b*5,none⟩) (L.length - b) (K - b)):Uf (w.setCell ⟨p,0,none⟩ u) p r K L b d:=by
 subst hu;refine⟨h.whole.write 0 _,fun j hj=>?_,by simp[World.setCell];exact h.rin,h.ne,h.ends,hb,h.capL,h.capM,h.deep⟩;rw[World.cell?_of_block (a:=⟨r,j,none⟩) (w:=w) (Below.heap_setCell _ _ _ _ h.ne)];exact h.row j hj
theorem Uf.deeper{w:World}{p r K:Nat}{L:List TokV}{a d:Nat}(h:Uf w p r K L a d)(e:Nat)(he:e≤8)(u:Value)(hu:u=I J (e:Int)):Uf (w.setCell ⟨p,1,none⟩ u) p r K L a e:=by
 subst hu;refine⟨h.whole.write 1 _,fun j hj=>?_,by simp[World.setCell];exact h.rin,h.ne,h.ends,h.inn,h.capL,h.capM,he⟩;rw[World.cell?_of_block (a:=⟨r,j,none⟩) (w:=w) (Below.heap_setCell _ _ _ _ h.ne)];exact h.row j hj
def Zjf(w:World)(p r K:Nat)(L:List TokV)(a d:Nat)(val:Value)(e:Ending)(w':World):Prop:=e=η val∧Zaf w w' p r K L a d
theorem Zy.inner{S T:Nat→Prop}{a b:World}(h:Zy S a b)(hs:∀ k,k<a.heap.size→S k→T k):Zy T a b:=⟨h.os,h.tape,h.output,h.size,fun k hk hn=>h.block k hk fun c=>hn (hs k hk c)⟩
theorem Zaf.on{w x y:World}{p r K:Nat}{L:List TokV}{a d:Nat}(m:Zaf w x p r K L a d){G:Nat}(hk:Zy (fun k=>k=G) x y)(hG:w.heap.size≤G)(hp:p<w.heap.size)(hr:r<w.heap.size):Zaf w y p r K L a d:=by
 refine⟨m.at_.keeps hk (by omega) (by omega),?_⟩;have h1:Zy (fun k=>k=p∨k=G) w x:=m.keeps.mono fun k h=>.inl h
 have h2:Zy (fun k=>k=p∨k=G) x y:=hk.mono fun k h=>.inr h
 exact(h1.trans h2).inner fun k hk h=>by omega
theorem Zaf.next{w x y:World}{p r K:Nat}{L:List TokV}{a d:Nat}(m:Zaf w x p r K L a d)(hb:Below x.heap.size x y):Zaf w y p r K L a d:=
 ⟨m.at_.below hb,m.keeps.trans (Zy.of_below hb)⟩
theorem Zaf.then{w x y:World}{p r K:Nat}{L:List TokV}{a d b e:Nat}(m:Zaf w x p r K L a d)(h:Zaf x y p r K L b e):Zaf w y p r K L b e:=⟨h.at_,m.keeps.trans h.keeps⟩
theorem Zaf.start{w:World}{p r K:Nat}{L:List TokV}{a d:Nat}(h:Uf w p r K L a d):Zaf w w p r K L a d:=⟨h,Zy.refl _ _⟩
theorem keeps5(x:World)(g:Nat)(a b c d e:Value):Zy (fun k=>k=g) x (((((x.setCell ⟨g,0,none⟩ a).setCell ⟨g,1,none⟩ b).setCell ⟨g,2,none⟩ c).setCell ⟨g,3,none⟩ d).setCell ⟨g,4,none⟩ e):=
 ((((Zy.setCell (S:=fun k=>k=g) (Zy.refl _ x) rfl a).setCell rfl b).setCell rfl c).setCell rfl d).setCell rfl e
theorem Zes(x:World)(g:Nat)(a b c:Value):Zy (fun k=>k=g) x (((x.setCell ⟨g,0,none⟩ a).setCell ⟨g,1,none⟩ b).setCell ⟨g,2,none⟩ c):=
 ((Zy.setCell (S:=fun k=>k=g) (Zy.refl _ x) rfl a).setCell rfl b).setCell rfl c
theorem Zh(w:World)(o:Obj):Below w.heap.size w (w.alloc o):=(Below.refl _ _).alloc (Θ _) o
theorem cNext(w:World)(p r K:Nat)(L:List TokV)(a d:Nat)(h:Uf w p r K L a d) :
  Calls Φ 79 #[Ω (some ⟨p,0,none⟩)] w (Zjf w p r K L (onA L a) d (Wz (Yb L a))):=by
 have h1:=h.below ((Below.refl _ _).alloc (Θ _) (.cells #[I J 0,Ψ ⟨#[]⟩,I J 0,I J 0,I J 0] 54));have F0:=Zi.made w 54 #[I J 0,Ψ ⟨#[]⟩,I J 0,I J 0,I J 0];have H1:=Hh h1;have HL:=Hh h1.look;have hcM:=h.capM;have hcL:=h.capL;have hin:=h.inn;have hon:=h.ends.on h.inn;have hlast:=h.ends.last a h.inn;have pin:=h.whole.inside;have rin:=h.rin;have HC:=Hh h;unfold onA at hon ⊢;clear h h1;unfold Wz;generalize hv:Yb L a=v at *;by_cases hk:v.k=0
 ·have q0:(v.k != 0)=false:=by rw[hk];rfl
  rw[if_pos hk]at hon ⊢;have HH:=Hh (ζ hv (ζ hk (ζ hlast hon)));clear hv hk hlast hon;go_enter Tryz.func79,Tryz.ntmps79;go_wp2_with(go_at_call 55;refine(Zmg _ _ _ _ _ _ _ _ HL.out).mono ?_;rintro e w2 ⟨rfl,b2⟩;have C2:=Hh (H1.out.below b2);have W2:=Hh (F0.below b2 (by simp));have hz:=W2.out.inside;obtain⟨k0,k1,k2,k3,k4,f0,f1,f2,f3,f4⟩:=Zah W2.out;have B2:=Hh b2;clear b2;simp only[Wz])
  have hF:=Zaw ((Zi.set5 W2.out (I J v.k) (Ψ v.t) (I J v.n) (I J (v.line:Int)) (I J (v.col:Int))).alloc (.cells #[I J v.k,Ψ v.t,I J v.n,I J (v.line:Int),I J (v.col:Int)] 54));refine bodyPost_ret (v:=.agg #[I J v.k,Ψ v.t,I J v.n,I J (v.line:Int),I J (v.col:Int)]) (by simp[results,Tryz.results79,go_sem,hF]) rfl ⟨rfl,?_⟩;exact(((Zaf.start HC.out).next (Zh _ _)).next B2.out).on ((keeps5 _ _ _ _ _ _ _).alloc _) (Θ _) pin rin
 ·have q0:(v.k != 0)=true:=by rw[bne_iff_ne];exact hk
  rw[if_neg hk]at hon ⊢;have HH:=Hh (ζ hv (ζ hk (ζ hlast hon)));clear hv hk hlast;have l1:1≤((L.length - a:Nat):Int):=by omega
  have l2:((L.length - a:Nat):Int)≤((K - a:Nat):Int):=by omega
  have l3:((K - a:Nat):Int)≤9223372036854775807:=by omega
  have l4:K - a≠1:=by omega
  generalize hN:L.length - a=n at *;generalize hC:K - a=c at *;generalize hO:a*5=o at *;have HN:=Hh (ζ hN (ζ hC hO));clear hN hC hO hcM hcL hin hon;go_enter Tryz.func79,Tryz.ntmps79;go_wp2_with(go_at_call 55;refine(Zmg _ _ _ _ _ _ _ _ HL.out).mono ?_;rintro e w2 ⟨rfl,b2⟩;have C2:=Hh (H1.out.below b2);have W2:=Hh (F0.below b2 (by simp));have hz:=W2.out.inside;obtain⟨k0,k1,k2,k3,k4,f0,f1,f2,f3,f4⟩:=Zah W2.out;have hp2:=C2.out.whole.inside;have c0:=(HL.out.below b2).c0;have z0:=C2.out.whole.thawed 0;have B2:=Hh b2;clear b2;simp only[Wz])
  have hne:w.heap.size≠p:=by omega
  have hF:=Zaw ((Zi.set5 (W2.out.aside (p:=⟨p,0,none⟩) hne (Λ (some ⟨r,o+5,none⟩) (n - 1) (c - 1))) (I J v.k) (Ψ v.t) (I J v.n) (I J (v.line:Int)) (I J (v.col:Int))).alloc (.cells #[I J v.k,Ψ v.t,I J v.n,I J (v.line:Int),I J (v.col:Int)] 54));refine bodyPost_ret (v:=.agg #[I J v.k,Ψ v.t,I J v.n,I J (v.line:Int),I J (v.col:Int)]) (by simp[results,Tryz.results79,go_sem,hF]) rfl ⟨rfl,?_⟩;have m2:=((Zaf.start HC.out).next (Zh _ _)).next B2.out
  have m3:Zaf w (w2.setCell ⟨p,0,none⟩ (Λ (some ⟨r,o+5,none⟩) (n - 1) (c - 1))) p r K L (a+1) d:=by
   refine⟨m2.at_.moved (a+1) HH.out.2.2.2 _ ?_,m2.keeps.setCell rfl _⟩;obtain⟨e1,e2,e3⟩:=HN.out;rw[←e1,←e2,←e3,show(a+1)*5=a*5+5 from by omega,Nat.sub_sub,Nat.sub_sub]
  exact m3.on ((keeps5 _ _ _ _ _ _ _).alloc _) (Θ _) pin rin
theorem cTake(w:World)(p r K:Nat)(L:List TokV)(a d:Nat)(t:ByteArray)(h:Uf w p r K L a d) :
  Calls Φ 58 #[Ω (some ⟨p,0,none⟩),Ψ t] w (Zjf w p r K L (Zbz L a t) d (.bool (isT (Yb L a) t))):=by
 have hi:=cIs w p _ _ _ _ _ _ t h.look;have HC:=Hh h;clear h;unfold Zbz;cases hb:isT (Yb L a) t
 ·rw[hb]at hi
  rw[if_neg (by decide)];clear hb;go_enter Tryz.func58,Tryz.ntmps58;go_wp2_with(go_at_call 78;refine hi.mono ?_;rintro e w2 ⟨rfl,b2⟩;have B2:=Hh b2;clear b2)
  go_ret;exact⟨rfl,(Zaf.start HC.out).next B2.out⟩
 ·rw[hb]at hi
  rw[if_pos rfl];clear hb;go_enter Tryz.func58,Tryz.ntmps58;go_wp2_with(first
 |(go_at_call 78;refine hi.mono ?_;rintro e w2 ⟨rfl,b2⟩;have B2:=Hh b2;have C2:=Hh (HC.out.below b2);clear b2)
 |(go_at_call 79;refine(cNext _ _ _ _ _ _ _ C2.out).mono ?_;rintro e w3 ⟨rfl,m3⟩;have M3:=Hh m3;clear m3))
  go_ret;exact⟨rfl,((Zaf.start HC.out).next B2.out).then M3.out⟩
theorem cWant(w:World)(p r K:Nat)(L:List TokV)(a d:Nat)(t:ByteArray)(h:Uf w p r K L a d) :
  Calls Φ 107 #[Ω (some ⟨p,0,none⟩),Ψ t] w (Zjf w p r K L (Zbz L a t) d (Zr (wantF L a t))):=by
 have h1:=h.below (Zh w (.cells #[I J 0,I J 0,I J 0] 29));have F0:=Hh (Zi.made w 29 #[I J 0,I J 0,I J 0]);have hi:=cTake _ p r K L a d t h1;have HC:=Hh h;have pin:=h.whole.inside;have rin:=h.rin;have hpw:¬(w.heap.size=p):=by omega
 clear h h1;unfold Zbz at hi;unfold Zbz wantF;cases hb:isT (Yb L a) t
 ·rw[hb]at hi
  rw[if_neg (by decide)]at hi ⊢;rw[if_neg (by decide)];clear hb;go_enter Tryz.func107,Tryz.ntmps107;go_wp2_with(first
 |(go_at_call 58;refine hi.mono ?_;rintro e w2 ⟨rfl,m2⟩;have M2:=Hh m2;clear m2)
 |(go_at_call 57;refine(cWrong _ _ _ _ _ _ _ _ M2.out.at_.look).mono ?_;rintro e w3 ⟨rfl,b3⟩;have W3:=Hh ((M2.out.keeps.whole F0.out hpw).below b3 (M2.out.keeps.whole F0.out hpw).inside);obtain⟨k0,k1,k2,f0,f1,f2⟩:=Zo W3.out;have hz:=W3.out.inside;have B3:=Hh b3;clear b3;simp only[Zr]))
  have hF:=Zo (Zi.set3 W3.out (I J (wrF (Yb L a)).1) (I J ((wrF (Yb L a)).2.1:Int)) (I J ((wrF (Yb L a)).2.2:Int)));refine bodyPost_ret (v:=Zr (wrF (Yb L a))) (by simp[results,Tryz.results107,go_sem,hF,Zr]) rfl ⟨rfl,?_⟩;exact(((Zaf.start HC.out).next (Zh _ _)).then (M2.out.next B3.out)).on (Zes _ _ _ _ _) (Θ _) pin rin
 ·rw[hb]at hi
  rw[if_pos rfl]at hi ⊢;rw[if_pos rfl];clear hb;go_enter Tryz.func107,Tryz.ntmps107;go_wp2_with(go_at_call 58;refine hi.mono ?_;rintro e w2 ⟨rfl,m2⟩;have M2:=Hh m2;have W3:=Hh (M2.out.keeps.whole F0.out hpw);obtain⟨k0,k1,k2,f0,f1,f2⟩:=Zo W3.out;have hz:=W3.out.inside;clear m2)
  have hF:=Zo (Zi.set3 W3.out (I J 0) (I J 0) (I J 0));refine bodyPost_ret (v:=Zr okF) (by simp[results,Tryz.results107,go_sem,hF,Zr,okF]) rfl ⟨rfl,?_⟩;exact(((Zaf.start HC.out).next (Zh _ _)).then M2.out).on (Zes _ _ _ _ _) (Θ _) pin rin
theorem two_set{y:World}{g:Nat}{t u:TypeId}{a b c d e f h i:Value}(w0:Zi y g t #[a,b,c,d,e])(w1:Zi y (g+1) u #[f,h,i])(x0 x1 x2 x3 x4 y0 y1 y2:Value) :
  Zi ((((((((y.setCell ⟨g,0,none⟩ x0).setCell ⟨g,1,none⟩ x1).setCell ⟨g,2,none⟩ x2).setCell ⟨g,3,none⟩ x3).setCell ⟨g,4,none⟩ x4).setCell ⟨g+1,0,none⟩ y0).setCell ⟨g+1,1,none⟩ y1).setCell ⟨g+1,2,none⟩ y2) g t #[x0,x1,x2,x3,x4] ∧
  Zi ((((((((y.setCell ⟨g,0,none⟩ x0).setCell ⟨g,1,none⟩ x1).setCell ⟨g,2,none⟩ x2).setCell ⟨g,3,none⟩ x3).setCell ⟨g,4,none⟩ x4).setCell ⟨g+1,0,none⟩ y0).setCell ⟨g+1,1,none⟩ y1).setCell ⟨g+1,2,none⟩ y2) (g+1) u #[y0,y1,y2]:=by
 have n1:g≠g+1:=by omega
 have n2:g+1≠g:=by omega
 exact⟨(((w0.set5 x0 x1 x2 x3 x4).aside n1 y0).aside n1 y1).aside n1 y2,Zi.set3 (((((w1.aside n2 x0).aside n2 x1).aside n2 x2).aside n2 x3).aside n2 x4) y0 y1 y2⟩
def Znr(L:List TokV)(a:Nat)(k:Int):TokV:=if(Yb L a).k=k then Yb L a else Zhz
theorem cKind(w:World)(p r K:Nat)(L:List TokV)(a d:Nat)(k:Int)(h:Uf w p r K L a d) :
  Calls Φ 106 #[Ω (some ⟨p,0,none⟩),I J k] w (Zjf w p r K L (Up L a k) d (.tuple #[Wz (Znr L a k),Zr (Wd L a k)])):=by
 have nb1:=Zh w (.cells #[I J 0,Ψ ⟨#[]⟩,I J 0,I J 0,I J 0] 54);have nb2:=Zh (w.alloc (.cells #[I J 0,Ψ ⟨#[]⟩,I J 0,I J 0,I J 0] 54)) (.cells #[I J 0,I J 0,I J 0] 29);have T0:=Two.start w 54 #[I J 0,Ψ ⟨#[]⟩,I J 0,I J 0,I J 0] 29 #[I J 0,I J 0,I J 0];have H2:=Hh ((h.below nb1).below nb2);have HM:=Hh (((Zaf.start h).next nb1).next nb2);have T:=Hh T0;have hfd:=fun w=>Zfb (Yb L a).k (Yb L a).n ((Yb L a).line:Int) ((Yb L a).col:Int) (Yb L a).t w
 have pin:=h.whole.inside;have rin:=h.rin;have hpw:¬(w.heap.size=p):=by omega
 have hpv:¬(w.heap.size+1=p):=by omega
 clear h nb1 nb2 T0;unfold Up Wd Znr;by_cases hk:(Yb L a).k=k
 ·have q0:((Yb L a).k != k)=false:=by rw[bne_eq_false_iff_eq];exact hk
  rw[if_pos hk,if_pos hk,if_pos hk];clear hk;go_enter Tryz.func106,Tryz.ntmps106;go_wp2_with(first
 |(go_at_call 55;refine(Zmg _ _ _ _ _ _ _ _ H2.out.look).mono ?_;rintro e w3 ⟨rfl,b3⟩;have T3:=Hh (T.out.next b3);have M3:=Hh (HM.out.next b3);clear b3;simp only[Wz])
 |(go_at_call 79;refine(cNext _ _ _ _ _ _ _ M3.out.at_).mono ?_;rintro e w4 ⟨rfl,m4⟩;have W0:=Hh (m4.keeps.whole T3.out.k0 hpw);have W1:=Hh (m4.keeps.whole T3.out.k1 hpv);obtain⟨k0,k1,k2,k3,k4,f0,f1,f2,f3,f4⟩:=Zah W0.out;obtain⟨g0,g1,g2,z0,z1,z2⟩:=Zo W1.out;have hz:=W1.out.inside;have M4:=Hh (M3.out.then m4);clear m4;simp only[Wz]))
  have hFG:=two_set W0.out W1.out (I J (Yb L a).k) (Ψ (Yb L a).t) (I J (Yb L a).n) (I J ((Yb L a).line:Int)) (I J ((Yb L a).col:Int)) (I J 0) (I J 0) (I J 0);have hF:=Zaw hFG.1;have hG:=Zo hFG.2;refine bodyPost_ret (v:=.tuple #[Wz (Yb L a),Zr okF]) (by simp[results,Tryz.results106,go_sem,hF,hG,Zr,okF,Wz]) rfl ⟨rfl,?_⟩;exact(M4.out.on (keeps5 _ _ _ _ _ _ _) (Θ _) pin rin).on (Zes _ _ _ _ _) (by omega) pin rin
 ·have q0:((Yb L a).k != k)=true:=by rw[bne_iff_ne];exact hk
  rw[if_neg hk,if_neg hk,if_neg hk];clear hk;go_enter Tryz.func106,Tryz.ntmps106;go_wp2_with(first
 |(go_at_call 55;refine(Zmg _ _ _ _ _ _ _ _ H2.out.look).mono ?_;rintro e w3 ⟨rfl,b3⟩;have T3:=Hh (T.out.next b3);have M3:=Hh (HM.out.next b3);clear b3;simp only[Wz])
 |(go_at_call 57;refine(cWrong _ _ _ _ _ _ _ _ M3.out.at_.look).mono ?_;rintro e w4 ⟨rfl,b4⟩;have W0:=Hh (T3.out.next b4).k0;have W1:=Hh (T3.out.next b4).k1;obtain⟨k0,k1,k2,k3,k4,f0,f1,f2,f3,f4⟩:=Zah W0.out;obtain⟨g0,g1,g2,z0,z1,z2⟩:=Zo W1.out;have hz:=W1.out.inside;have M4:=Hh (M3.out.next b4);clear b4;simp only[Zr]))
  have hFG:=two_set W0.out W1.out (I J 0) (Ψ ⟨#[]⟩) (I J 0) (I J 0) (I J 0) (I J (wrF (Yb L a)).1) (I J ((wrF (Yb L a)).2.1:Int)) (I J ((wrF (Yb L a)).2.2:Int));have hF:=Zaw hFG.1;have hG:=Zo hFG.2;refine bodyPost_ret (v:=.tuple #[Wz Zhz,Zr (wrF (Yb L a))]) (by simp[results,Tryz.results106,go_sem,hF,hG,Zr,Zhz,Wz]) rfl ⟨rfl,?_⟩;exact(M4.out.on (keeps5 _ _ _ _ _ _ _) (Θ _) pin rin).on (Zes _ _ _ _ _) (by omega) pin rin
theorem kindT_n(L:List TokV)(a:Nat):(Znr L a 2).n=Zkx L a:=by unfold Znr Zkx;split<;>rfl
theorem kindT_t(L:List TokV)(a:Nat):(Znr L a 3).t=Znn L a:=by unfold Znr Znn;split<;>rfl
theorem cInt(w:World)(p r K:Nat)(L:List TokV)(a d:Nat)(h:Uf w p r K L a d) :
  Calls Φ 84 #[Ω (some ⟨p,0,none⟩)] w (Zjf w p r K L (Up L a 2) d (.tuple #[I J (Zkx L a),Zr (Wd L a 2)])):=by
 have nb1:=Zh w (.cells #[I J 0,I J 0,I J 0] 29);have H1:=Hh (h.below nb1);have F0:=Hh (Zi.made w 29 #[I J 0,I J 0,I J 0]);have HM:=Hh ((Zaf.start h).next nb1);have pin:=h.whole.inside;have rin:=h.rin;have hpw:¬(w.heap.size=p):=by omega
 clear h nb1;rw[←kindT_n];generalize hv:Znr L a 2=v at *;generalize hf:Wd L a 2=f at *;have HV:=Hh (ζ hv hf)
 have hi:Calls Φ 106 #[Ω (some ⟨p,0,none⟩),I J 2] (w.alloc (.cells #[I J 0,I J 0,I J 0] 29)) (Zjf (w.alloc (.cells #[I J 0,I J 0,I J 0] 29)) p r K L (Up L a 2) d (.tuple #[Wz v,Zr f])):=by
  have:=cKind _ p r K L a d 2 H1.out;rw[hv,hf]at this;exact this
 clear hv hf;obtain⟨f1,f2,f3⟩:=f;go_enter Tryz.func84,Tryz.ntmps84;go_wp2_with(go_at_call 106;refine hi.mono ?_;rintro e w3 ⟨rfl,m3⟩;have W0:=Hh (m3.keeps.whole F0.out hpw);obtain⟨g0,g1,g2,z0,z1,z2⟩:=Zo W0.out;have hz:=W0.out.inside;have M3:=Hh (HM.out.then m3);clear m3;simp only[Wz,Zr])
 go_region
 all_goals
  go_wp2
  have hF:=Zo ((((Zi.set3 W0.out (I J f1) (I J (f2:Int)) (I J (f3:Int))).alloc (.cells #[I J v.k,Ψ v.t,I J v.n,I J (v.line:Int),I J (v.col:Int)] 54)).alloc (.cells #[I J f1,I J (f2:Int),I J (f3:Int)] 29)).drew);refine bodyPost_ret (v:=.tuple #[I J v.n,Zr (f1,f2,f3)]) (by simp[results,Tryz.results84,go_sem,hF,Zr]) rfl ⟨rfl,?_⟩;exact M3.out.on ((((Zes _ _ _ _ _).alloc _).alloc _).drew) (Θ _) pin rin
theorem cName(w:World)(p r K:Nat)(L:List TokV)(a d:Nat)(h:Uf w p r K L a d) :
  Calls Φ 81 #[Ω (some ⟨p,0,none⟩)] w (Zjf w p r K L (Up L a 3) d (.tuple #[Ψ (Znn L a),Zr (Wd L a 3)])):=by
 have nb1:=Zh w (.cells #[I J 0,I J 0,I J 0] 29);have H1:=Hh (h.below nb1);have F0:=Hh (Zi.made w 29 #[I J 0,I J 0,I J 0]);have HM:=Hh ((Zaf.start h).next nb1);have pin:=h.whole.inside;have rin:=h.rin;have hpw:¬(w.heap.size=p):=by omega
 clear h nb1;rw[←kindT_t];generalize hv:Znr L a 3=v at *;generalize hf:Wd L a 3=f at *;have HV:=Hh (ζ hv hf)
 have hi:Calls Φ 106 #[Ω (some ⟨p,0,none⟩),I J 3] (w.alloc (.cells #[I J 0,I J 0,I J 0] 29)) (Zjf (w.alloc (.cells #[I J 0,I J 0,I J 0] 29)) p r K L (Up L a 3) d (.tuple #[Wz v,Zr f])):=by
  have:=cKind _ p r K L a d 3 H1.out;rw[hv,hf]at this;exact this
 clear hv hf;obtain⟨f1,f2,f3⟩:=f;go_enter Tryz.func81,Tryz.ntmps81;go_wp2_with(go_at_call 106;refine hi.mono ?_;rintro e w3 ⟨rfl,m3⟩;have W0:=Hh (m3.keeps.whole F0.out hpw);obtain⟨g0,g1,g2,z0,z1,z2⟩:=Zo W0.out;have hz:=W0.out.inside;have M3:=Hh (HM.out.then m3);clear m3;simp only[Wz,Zr])
 go_region
 all_goals
  go_wp2
  have hF:=Zo ((((Zi.set3 W0.out (I J f1) (I J (f2:Int)) (I J (f3:Int))).alloc (.cells #[I J v.k,Ψ v.t,I J v.n,I J (v.line:Int),I J (v.col:Int)] 54)).alloc (.cells #[I J f1,I J (f2:Int),I J (f3:Int)] 29)).drew);refine bodyPost_ret (v:=.tuple #[Ψ v.t,Zr (f1,f2,f3)]) (by simp[results,Tryz.results81,go_sem,hF,Zr]) rfl ⟨rfl,?_⟩;exact M3.out.on ((((Zes _ _ _ _ _).alloc _).alloc _).drew) (Θ _) pin rin
theorem Uf.copy{w:World}{p r K:Nat}{L:List TokV}{a d:Nat}(h:Uf w p r K L a d)(o n c:Nat)(ho:o=a*5)(hn:n=L.length - a)(hc:c=K - a) :
  Uf (w.alloc (.cells #[Λ (some ⟨r,o,none⟩) n c,I J (d:Int)] 139)) w.heap.size r K L a d:=by
 subst ho hn hc;have h1:=h.below (Zh w (.cells #[Λ (some ⟨r,a*5,none⟩) (L.length - a) (K - a),I J (d:Int)] 139));exact⟨Zi.made _ _ _,h1.row,h1.rin,by have:=h.rin;omega,h.ends,h.inn,h.capL,h.capM,h.deep⟩
theorem look2{w:World}{p r K:Nat}{L:List TokV}{a d:Nat}(h:Uf w p r K L a d){o n c:Nat}(ho:o=a*5)(hn:n=L.length - a)(hc:c=K - a) :
  w.cell? ⟨p,0,none⟩=some (Λ (some ⟨r,o,none⟩) n c)∧w.cell? ⟨p,1,none⟩=some (I J (d:Int)):=by
 subst ho hn hc;exact⟨h.look.c0,h.look.c1⟩
theorem cSigned(w:World)(p r K:Nat)(L:List TokV)(a d:Nat)(h:Uf w p r K L a d) :
  Calls Φ 85 #[Ω (some ⟨p,0,none⟩)] w (Zjf w p r K L (Zfj L a) d (.tuple #[I J (Znj L a),Zr (Zbf L a)])):=by
 have nb1:=Zh w (.cells #[I J 0,I J 0,I J 0] 29);have h1:=h.below nb1;have F0:=Hh (Zi.made w 29 #[I J 0,I J 0,I J 0]);have HM:=Hh ((Zaf.start h).next nb1);have pin:=h.whole.inside;have rin:=h.rin;have hpw:¬(w.heap.size=p):=by omega
 have hi:=cIs _ p _ _ _ _ _ _ Zno h1.look;have H1:=Hh h1;clear h nb1 h1;unfold Zfj Znj Zbf;unfold Zno at hi ⊢;cases hb:isT (Yb L a) ⟨#[45]⟩
 ·rw[hb]at hi
  rw[if_neg (by decide),if_neg (by decide),if_neg (by decide)];clear hb;generalize hf:Wd L a 2=f at *;have hj:=cInt _ p r K L a d H1.out;have HF:=Hh hf;clear hf;have hj:∀ w,Uf w p r K L a d→Calls Φ 84 #[Ω (some ⟨p,0,none⟩)] w (Zjf w p r K L (Up L a 2) d (.tuple #[I J (Zkx L a),Zr f])):=fun w h=>by rw[←HF.out];exact cInt w p r K L a d h
  obtain⟨f1,f2,f3⟩:=f;go_enter Tryz.func85,Tryz.ntmps85;go_wp2_with(first
 |(go_at_call 78;refine hi.mono ?_;rintro e w2 ⟨rfl,b2⟩;have M2:=Hh (HM.out.next b2);have F2:=Hh (F0.out.below b2 F0.out.inside);clear b2)
 |(go_at_call 84;refine(hj _ M2.out.at_).mono ?_;rintro e w3 ⟨rfl,m3⟩;have W0:=Hh (m3.keeps.whole F2.out hpw);obtain⟨g0,g1,g2,z0,z1,z2⟩:=Zo W0.out;have hz:=W0.out.inside;have M3:=Hh (M2.out.then m3);clear m3;simp only[Zr]))
  have hF:=Zo (Zi.set3 W0.out (I J f1) (I J (f2:Int)) (I J (f3:Int)));refine bodyPost_ret (v:=.tuple #[I J (Zkx L a),Zr (f1,f2,f3)]) (by simp[results,Tryz.results85,go_sem,hF,Zr]) rfl ⟨rfl,?_⟩;exact M3.out.on (Zes _ _ _ _ _) (Θ _) pin rin
 ·rw[hb]at hi
  rw[if_pos rfl,if_pos rfl,if_pos rfl];clear hb;obtain⟨o,n,c,ho,hn,hc⟩:∃ o n c,o=a*5∧n=L.length - a∧c=K - a:=⟨_,_,_,rfl,rfl,rfl⟩
  have HO:=Hh (ζ ho (ζ hn hc));generalize hbn:onA L a=b at *;have HB:=Hh hbn;have hk:Up L b 2=if(Yb L b).k=2 then onA L b else b:=rfl
  have hv:Zkx L b=if(Yb L b).k=2 then(Yb L b).n else 0:=rfl
  have hf:Wd L b 2=if(Yb L b).k=2 then okF else wrF (Yb L b):=rfl
  have hnx:∀ w q,Uf w q r K L a d→Calls Φ 79 #[Ω (some ⟨q,0,none⟩)] w (Zjf w q r K L b d (Wz (Yb L a))):=fun w q h=>by rw[←HB.out];exact cNext w q r K L a d h
  have hj:=fun w q (h:Uf w q r K L b d)=>cInt w q r K L b d h
  have HN:=Hh hnx;clear hnx ho hn hc hbn;rw[hf];by_cases h2:(Yb L b).k=2
  · rw[if_pos h2]at hk hv hf ⊢
    rw[if_pos h2,if_pos h2];have hnum:=H1.out.ends.num b;rw[hk,hv,hf]at hj;have HJ:=Hh hj;clear hj hk hv hf h2;generalize hm:(Yb L b).n=m at *;have HE:=Hh hm;obtain⟨m0,m9⟩:=hnum;clear hm;generalize hbn:onA L b=b2 at *;obtain⟨o2,n2,c2,ho,hn,hc⟩:∃ o n c,o=b2*5∧n=L.length - b2∧c=K - b2:=⟨_,_,_,rfl,rfl,rfl⟩
    have HB2:=Hh (ζ ho (ζ hn hc));clear ho hn hc hbn;go_enter Tryz.func85,Tryz.ntmps85;go_wp2_with(first
 |(go_at_call 78;refine hi.mono ?_;rintro e w2 ⟨rfl,b2⟩;have M2:=Hh (HM.out.next b2);have F2:=Hh (F0.out.below b2 F0.out.inside);obtain⟨c0,c1⟩:=look2 M2.out.at_ HO.out.1 HO.out.2.1 HO.out.2.2;have hp2:=M2.out.at_.whole.inside;clear b2)
 |(go_at_call 79;refine(HN.out _ _ (M2.out.at_.copy o n c HO.out.1 HO.out.2.1 HO.out.2.2)).mono ?_;rintro e w3 ⟨rfl,m3⟩;have N3:=Hh m3;clear m3;simp only[Wz])
 |(go_at_call 84;refine(HJ.out _ _ N3.out.at_).mono ?_;rintro e w4 ⟨rfl,m4⟩;have N4:=Hh (N3.out.then m4);have hG:=F2.out.inside;have M4:=Hh ((M2.out.next (Zh _ _)).on N4.out.keeps (Nat.le_of_lt hG) pin rin);have F4:=Hh (N4.out.keeps.whole (F2.out.alloc _) (Nat.ne_of_lt hG));obtain⟨d0,d1⟩:=look2 N4.out.at_ HB2.out.1 HB2.out.2.1 HB2.out.2.2;obtain⟨p0,p1⟩:=look2 M4.out.at_ HO.out.1 HO.out.2.1 HO.out.2.2;have t0:=M4.out.at_.whole.thawed 0;have t1:=M4.out.at_.whole.thawed 1;have hp4:=M4.out.at_.whole.inside;obtain⟨g0,g1,g2,z0,z1,z2⟩:=Zo F4.out;have hz:=F4.out.inside;have hq4:=N4.out.at_.whole.inside;have hN:=Hh hG;clear m4 hG;simp only[Zr,okF]))
    have hne:w.heap.size≠p:=hpw;have hF:=Zo ((Zi.set3 ((F4.out.aside (p:=⟨p,0,none⟩) hne (Λ (some ⟨r,o2,none⟩) n2 c2)).aside (p:=⟨p,1,none⟩) hne (I J (d:Int))) (I J 0) (I J 0) (I J 0)).alloc (.cells #[I J 0,I J 0,I J 0] 29));refine bodyPost_ret (v:=.tuple #[I J (-m),Zr okF]) (by simp[results,Tryz.results85,go_sem,hF,Zr,okF]) rfl ⟨rfl,?_⟩;obtain⟨e1,e2,e3⟩:=HB2.out
    have m5:Zaf w ((w4.setCell ⟨p,0,none⟩ (Λ (some ⟨r,o2,none⟩) n2 c2)).setCell ⟨p,1,none⟩ (I J (d:Int))) p r K L b2 d:=
     ⟨(M4.out.at_.moved b2 N4.out.at_.inn _ (by rw[e1,e2,e3])).deeper d M4.out.at_.deep _ rfl,(M4.out.keeps.setCell rfl _).setCell rfl _⟩
    exact m5.on ((Zes _ _ _ _ _).alloc _) (Θ _) pin rin
  · rw[if_neg h2]at hk hv hf ⊢
    rw[if_neg h2,if_neg h2];rw[hk,hv,hf]at hj;have HJ:=Hh hj;have hne:=Zhb (Yb L b);clear hj hk hv hf h2;generalize hm:wrF (Yb L b)=f at *;obtain⟨f1,f2,f3⟩:=f;have HE:=Hh hm;have q0:(f1 != 0)=true:=by rw[bne_iff_ne];exact hne
    clear hm hne;go_enter Tryz.func85,Tryz.ntmps85;go_wp2_with(first
 |(go_at_call 78;refine hi.mono ?_;rintro e w2 ⟨rfl,b2⟩;have M2:=Hh (HM.out.next b2);have F2:=Hh (F0.out.below b2 F0.out.inside);obtain⟨c0,c1⟩:=look2 M2.out.at_ HO.out.1 HO.out.2.1 HO.out.2.2;have hp2:=M2.out.at_.whole.inside;clear b2)
 |(go_at_call 79;refine(HN.out _ _ (M2.out.at_.copy o n c HO.out.1 HO.out.2.1 HO.out.2.2)).mono ?_;rintro e w3 ⟨rfl,m3⟩;have N3:=Hh m3;clear m3;simp only[Wz])
 |(go_at_call 84;refine(HJ.out _ _ N3.out.at_).mono ?_;rintro e w4 ⟨rfl,m4⟩;have N4:=Hh (N3.out.then m4);have hG:=F2.out.inside;have M4:=Hh ((M2.out.next (Zh _ _)).on N4.out.keeps (Nat.le_of_lt hG) pin rin);have F4:=Hh (N4.out.keeps.whole (F2.out.alloc _) (Nat.ne_of_lt hG));obtain⟨g0,g1,g2,z0,z1,z2⟩:=Zo F4.out;have hz:=F4.out.inside;clear m4 hG;simp only[Zr]))
    go_region
    all_goals
     go_wp2
     have hF:=Zo (((Zi.set3 F4.out (I J f1) (I J (f2:Int)) (I J (f3:Int))).alloc (.cells #[I J f1,I J (f2:Int),I J (f3:Int)] 29)).drew);refine bodyPost_ret (v:=.tuple #[I J 0,Zr (f1,f2,f3)]) (by simp[results,Tryz.results85,go_sem,hF,Zr]) rfl ⟨rfl,?_⟩;exact M4.out.on (((Zes _ _ _ _ _).alloc _).drew) (Θ _) pin rin
theorem own5_all{w:World}{base:Nat}{e:TypeId}{v:Value}{xs:List Value}{n:Nat}(h:w.ownsRow base e 5 v n xs)(hn:0<n) :
  ∃ g c,v=Λ (some ⟨g,0,none⟩) n c∧base≤g∧g<w.heap.size∧n≤c∧c≤9223372036854775807∧∀ j,j<xs.length→w.cell? ⟨g,j,none⟩=xs[j]?:=by
 obtain⟨g,c,rfl,hg,hc⟩:=own5_at h hn;obtain⟨A,c',hv,h1,h2,_⟩:=Yx h;injection hv with _ _ e3;subst e3;unfold maxLen at h2;exact⟨g,c,rfl,(h.lt g rfl).1,hg,h1,by omega,hc⟩
theorem Uf.made{w1 y:World}{g K G:Nat}{L:List TokV}(hrow:∀ j,j<(Jd L).length→w1.cell? ⟨g,j,none⟩=(Jd L)[j]?)(hg:g<w1.heap.size)(hk:Zy (fun k=>k=G) w1 y)(hG:g≠G)(hL:Zml L)(h1:L.length≤K)(h2:K≤9223372036854775807) :
  Uf (y.alloc (.cells #[Λ (some ⟨g,0,none⟩) L.length K,I J 0] 139)) y.heap.size g K L 0 0:=by
 have hs:=hk.size;refine⟨by simpa using Zi.made y 139 #[Λ (some ⟨g,0,none⟩) L.length K,I J 0],fun j hj=>?_,by simp;omega,by omega,hL,hL.pos,h1,h2,by omega⟩;have k2:=hk.alloc (.cells #[Λ (some ⟨g,0,none⟩) L.length K,I J 0] 139);exact(World.cell?_of_block (a:=⟨g,j,none⟩) (k2.block g hg hG)).trans (hrow j hj)
def NewPost(L:List TokV)(w:World)(e:Ending)(w':World):Prop:=
 ∃ p r K,e=η (.tuple #[Ω (some ⟨p,0,none⟩),Zr okF])∧Uf w' p r K L 0 0∧w.heap.size≤p∧w.heap.size≤r∧Below w.heap.size w w'
theorem cNew_err(s:ByteArray)(w:World)(hs:s.size≤140737488355328)(E:Int)(l c:Nat)(hv:Zbv s=([],E,l,c))(hE:E≠0) :
  Calls Φ 54 #[Ψ s] w fun e w'=>e=η (.tuple #[Ω none,Zr (E,l,c)])∧Below w.heap.size w w':=by
 have HV:=Hh hv;have q0:(E != 0)=true:=by rw[bne_iff_ne];exact hE
 have F0:=Hh (Zi.made w 29 #[I J 0,I J 0,I J 0]);clear hv hE;go_enter Tryz.func54,Tryz.ntmps54;go_wp2_with(go_at_call 75;refine(tkScan s _ (by omega)).mono ?_;rintro e w1 ⟨v,rfl,o1,b1⟩;rw[HV.out]at o1 ⊢;obtain⟨A1,c1,rfl,hl1,_⟩:=own5_reads o1;have F1:=Hh (F0.out.below b1 (by simp));obtain⟨g0,g1,g2,z0,z1,z2⟩:=Zo F1.out;have hz:=F1.out.inside;have B1:=Hh b1;clear o1 b1;simp only[Zr])
 go_region
 all_goals
  go_wp2
  have hF:=Zo (((Zi.set3 F1.out (I J E) (I J (l:Int)) (I J (c:Int))).alloc (.cells #[I J E,I J (l:Int),I J (c:Int)] 29)).drew);refine bodyPost_ret (v:=.tuple #[Ω none,Zr (E,l,c)]) (by simp[results,Tryz.results54,go_sem,hF,Zr]) rfl ⟨rfl,?_⟩;exact Xv ((Below.set3 (Wg (Zh _ _) B1.out) (Θ _) _ _ _).alloc (by simp;omega) _)
theorem cNew_ok(s:ByteArray)(w:World)(hs:s.size≤140737488355328)(L:List TokV)(hv:Zbv s=(L,0,0,0))(hL:Zml L) :
  Calls Φ 54 #[Ψ s] w (NewPost L w):=by
 have HV:=Hh hv;have F0:=Hh (Zi.made w 29 #[I J 0,I J 0,I J 0]);have hpos:=hL.pos;have HL:=Hh hL;clear hv hL;go_enter Tryz.func54,Tryz.ntmps54;go_wp2_with(go_at_call 75;refine(tkScan s _ (by omega)).mono ?_;rintro e w1 ⟨v,rfl,o1,b1⟩;rw[HV.out]at o1 ⊢;obtain⟨g,K,rfl,r1,r2,r3,r4,r5⟩:=own5_all o1 hpos;have F1:=Hh (F0.out.below b1 (by simp));obtain⟨g0,g1,g2,z0,z1,z2⟩:=Zo F1.out;have hz:=F1.out.inside;have B1:=Hh b1;have R5:=Hh r5;clear o1 b1 r5;simp only[Zr])
 have hk:Zy (fun k=>k=w.heap.size) w1 ((((w1.setCell ⟨w.heap.size,0,none⟩ (I J 0)).setCell ⟨w.heap.size,1,none⟩ (I J 0)).setCell ⟨w.heap.size,2,none⟩ (I J 0)).alloc (.cells #[I J 0,I J 0,I J 0] 29)):=(Zes _ _ _ _ _).alloc _;have hF:=Zo (((Zi.set3 F1.out (I J 0) (I J 0) (I J 0)).alloc (.cells #[I J 0,I J 0,I J 0] 29)).alloc (.cells #[Λ (some ⟨g,0,none⟩) L.length K,I J 0] 139));have hgs:w.heap.size+1≤g:=by simpa using r1
 have hc:=Uf.made R5.out r2 hk (by omega) HL.out r3 r4
 have hb:Below w.heap.size w ((((w1.setCell ⟨w.heap.size,0,none⟩ (I J 0)).setCell ⟨w.heap.size,1,none⟩ (I J 0)).setCell ⟨w.heap.size,2,none⟩ (I J 0)).alloc (.cells #[I J 0,I J 0,I J 0] 29)):=
  (Below.set3 (Wg (Zh _ _) B1.out) (Θ _) _ _ _).alloc (by simp;omega) _
 refine bodyPost_ret (v:=.tuple #[Ω (some ⟨w1.heap.size+1,0,none⟩),Zr okF]) (by simp[results,Tryz.results54,go_sem,hF,Zr,okF]) rfl ⟨w1.heap.size+1,g,K,rfl,?_,by omega,by omega,hb.alloc hb.size _⟩;simpa using hc
structure Uw(w:World)(r K:Nat)(L:List TokV):Prop where
 row:∀ j,j<(Jd L).length→w.cell? ⟨r,j,none⟩=(Jd L)[j]?
 rin:r<w.heap.size
 ends:Zml L
 capL:L.length≤K
 capM:K≤9223372036854775807
theorem Uw.keeps{w w':World}{r K:Nat}{L:List TokV}(h:Uw w r K L){S:Nat→Prop}(hk:Zy S w w')(hr:¬ S r):Uw w' r K L:=
 ⟨fun j hj=>(World.cell?_of_block (a:=⟨r,j,none⟩) (hk.block r h.rin hr)).trans (h.row j hj),Nat.lt_of_lt_of_le h.rin hk.size,h.ends,h.capL,h.capM⟩
theorem Uw.below{w w':World}{r K:Nat}{L:List TokV}(h:Uw w r K L)(hb:Below w.heap.size w w'):Uw w' r K L:=
 h.keeps (S:=fun _=>False) (Zy.of_below hb) id
theorem Uw.at_{w:World}{r K:Nat}{L:List TokV}(h:Uw w r K L){a:Nat}(ha:a<L.length) :
  w.cell? ⟨r,a*5,none⟩=some (I J (Yb L a).k)∧w.cell? ⟨r,a*5+1,none⟩=some (Ψ (Yb L a).t)∧w.cell? ⟨r,a*5+2,none⟩=some (I J (Yb L a).n) ∧
  w.cell? ⟨r,a*5+3,none⟩=some (I J ((Yb L a).line:Int))∧w.cell? ⟨r,a*5+4,none⟩=some (I J ((Yb L a).col:Int)):=by
 have hl:=Zjh L
 have key:∀ j,j<5→w.cell? ⟨r,a*5+j,none⟩=(Yb L a).cells[j]?:=fun j hj=>by
  rw[h.row _ (by omega),tokCs_at L a j ha hj,curT_get L a ha]
 exact⟨key 0 (by omega),key 1 (by omega),key 2 (by omega),key 3 (by omega),key 4 (by omega)⟩
def qA(r K n a d:Nat):Value:=.agg #[Λ (some ⟨r,0,none⟩) n K,I J (a:Int),I J (d:Int)]
theorem Zkc(w:World)(r K:Nat)(L:List TokV)(n a d:Nat)(hn:n=L.length)(h:Uw w r K L)(ha:a<L.length) :
  Calls Φ 17 #[qA r K n a d,I J 0] w fun e w'=>e=η (Wz (Yb L a))∧Below w.heap.size w w':=by
 have h1:=h.below (Zh w (.cells #[Λ (some ⟨r,0,none⟩) n K,I J (a:Int),I J (d:Int)] 49));have h2:=h1.below (Zh _ (.cells #[I J 0,Ψ ⟨#[]⟩,I J 0,I J 0,I J 0] 54));obtain⟨t0,t1,t2,t3,t4⟩:=h2.at_ ha;have rin:=h.rin;have l0:a<n:=by omega
 have l1:(n:Int)≤9223372036854775807:=by have:=h.capL;have:=h.capM;omega
 have l2:(a:Int)≤9223372036854775806:=by omega
 have HN:=Hh hn;clear hn h h1 h2 ha;unfold qA Wz;generalize Yb L a=v at *;go_enter Tryz.func17,Tryz.ntmps17;go_wp2
 refine bodyPost_ret (v:=Wz v) (by simp[results,Tryz.results17,go_sem,Wz]) rfl ⟨rfl,?_⟩;exact((Below.refl _ _).alloc (Θ _) _).alloc (by simp) _
theorem qOn(w:World)(r K:Nat)(L:List TokV)(n a d:Nat)(hn:n=L.length)(h:Uw w r K L)(ha:a<L.length) :
  Calls Φ 40 #[qA r K n a d] w fun e w'=>e=η (qA r K n (onA L a) d)∧Below w.heap.size w w':=by
 have hon:=h.ends.on' ha;have l0:(a:Int)<(n:Int):=by omega
 have l1:(n:Int)≤9223372036854775807:=by have:=h.capL;have:=h.capM;omega
 rw[hon,←hn];clear hon hn h ha;unfold qA;by_cases hl:(a:Int)<(n:Int) - 1
 ·rw[if_pos hl]
  go_enter Tryz.func40,Tryz.ntmps40;go_wp2
  refine bodyPost_ret (v:=qA r K n (a+1) d) (by simp[results,Tryz.results40,go_sem,qA]) rfl ⟨by simp[qA],?_⟩;exact((Below.refl _ _).alloc (Θ _) _).alloc (by simp) _
 ·rw[if_neg hl]
  go_enter Tryz.func40,Tryz.ntmps40;go_wp2
  refine bodyPost_ret (v:=qA r K n a d) (by simp[results,Tryz.results40,go_sem,qA]) rfl ⟨rfl,?_⟩;exact((Below.refl _ _).alloc (Θ _) _).alloc (by simp) _
theorem qIs(w:World)(r K:Nat)(L:List TokV)(n a d:Nat)(t:ByteArray)(hn:n=L.length)(h:Uw w r K L)(ha:a<L.length) :
  Calls Φ 39 #[qA r K n a d,Ψ t] w fun e w'=>e=η (.bool (isT (Yb L a) t))∧Below w.heap.size w w':=by
 have h1:=h.below (Zh w (.cells #[Λ (some ⟨r,0,none⟩) n K,I J (a:Int),I J (d:Int)] 49));have hi:=Zkc _ r K L n a d hn h1 ha;clear hn h h1 ha;unfold qA at hi ⊢;generalize Yb L a=v at *;have HT:Hid (isT v t=((v.k == 1 || v.k == 4) && (v.t.toList == t.toList))):=Hh rfl;cases h1:(v.k == 1)<;>cases h4:(v.k == 4)<;>cases ht:(v.t.toList == t.toList)
 all_goals
  have HH:=Hh (ζ h1 (ζ h4 ht));go_enter Tryz.func39,Tryz.ntmps39;go_wp2_with(go_at_call 17;refine hi.mono ?_;rintro e w2 ⟨rfl,b2⟩;have B2:=Hh b2;clear b2;simp only[Wz])
  go_ret;have hb:=Wg (Zh _ _) B2.out;exact⟨by rw[HT.out,HH.out.1,HH.out.2.1,HH.out.2.2];rfl,hb.alloc hb.size _⟩
theorem qwrong(w:World)(v:TokV) :
  Calls Φ 90 #[Wz v] w fun e w'=>e=η (Zr (wrF v))∧Below w.heap.size w w':=by
 unfold Wz wrF;by_cases hk:v.k=0
 ·have q0:(v.k == 0)=true:=by rw[hk];rfl
  rw[if_pos hk];clear hk;go_enter Tryz.func90,Tryz.ntmps90;go_wp2
  refine bodyPost_ret (v:=Zr (2,v.line,v.col)) (by simp[results,Tryz.results90,go_sem,Zr]) rfl ⟨rfl,?_⟩;exact((Below.refl _ _).alloc (Θ _) _).alloc (by simp) _
 ·have q0:(v.k == 0)=false:=by rw[beq_eq_false_iff_ne];exact hk
  rw[if_neg hk];clear hk;go_enter Tryz.func90,Tryz.ntmps90;go_wp2
  refine bodyPost_ret (v:=Zr (7,v.line,v.col)) (by simp[results,Tryz.results90,go_sem,Zr]) rfl ⟨rfl,?_⟩;exact((Below.refl _ _).alloc (Θ _) _).alloc (by simp) _
theorem qWrong(w:World)(r K:Nat)(L:List TokV)(n a d:Nat)(hn:n=L.length)(h:Uw w r K L)(ha:a<L.length) :
  Calls Φ 62 #[qA r K n a d] w fun e w'=>e=η (Zr (wrF (Yb L a)))∧Below w.heap.size w w':=by
 have h1:=h.below (Zh w (.cells #[Λ (some ⟨r,0,none⟩) n K,I J (a:Int),I J (d:Int)] 49));have h2:=h1.below (Zh _ (.cells #[I J 0,I J 0,I J 0] 29));have T0:=Hh (Two.start w 49 #[Λ (some ⟨r,0,none⟩) n K,I J (a:Int),I J (d:Int)] 29 #[I J 0,I J 0,I J 0]);have hi:=Zkc _ r K L n a d hn h2 ha;clear hn h h1 h2 ha;unfold qA at hi ⊢;generalize Yb L a=v at *;generalize hf:wrF v=f at *;have hj:∀ w,Calls Φ 90 #[Wz v] w fun e w'=>e=η (Zr f)∧Below w.heap.size w w':=fun w=>by rw[←hf];exact qwrong w v
 clear hf;obtain⟨f1,f2,f3⟩:=f;go_enter Tryz.func62,Tryz.ntmps62;go_wp2_with(first
 |(go_at_call 17;refine hi.mono ?_;rintro e w2 ⟨rfl,b2⟩;have T2:=Hh (T0.out.next b2);clear b2)
 |(go_at_call 90;refine(hj _).mono ?_;rintro e w3 ⟨rfl,b3⟩;have T3:=Hh (T2.out.next b3);obtain⟨g0,g1,g2,z0,z1,z2⟩:=Zo T3.out.k1;have hz:=T3.out.k1.inside;clear b3;simp only[Zr]))
 have hF:=Zo (Zi.set3 T3.out.k1 (I J f1) (I J (f2:Int)) (I J (f3:Int)));refine bodyPost_ret (v:=Zr (f1,f2,f3)) (by simp[results,Tryz.results62,go_sem,hF,Zr]) rfl ⟨rfl,?_⟩;exact Below.set3 T3.out.below (Nat.le_succ _) _ _ _
open Go Go.RowKit
inductive Ds where
 |nil
 |int (n:Int) (r:Ds)
 |str (s:ByteArray) (r:Ds)
 |row (n:Nat) (cs r:Ds)
def Ds.app:Ds→Ds→Ds
 |.nil,y=>y
 |.int n r,y=>.int n (r.app y)
 |.str s r,y=>.str s (r.app y)
 |.row n cs r,y=>.row n cs (r.app y)
def Ds.len:Ds→Nat
 |.nil=>0
 |.int _ r=>r.len+1
 |.str _ r=>r.len+1
 |.row _ _ r=>r.len+1
theorem Ds.app_nil:∀ x:Ds,x.app .nil=x
 |.nil=>rfl
 |.int n r=>by rw[Ds.app,Ds.app_nil r]
 |.str s r=>by rw[Ds.app,Ds.app_nil r]
 |.row n cs r=>by rw[Ds.app,Ds.app_nil r]
theorem Ds.app_assoc(y z:Ds):∀ x:Ds,(x.app y).app z=x.app (y.app z)
 |.nil=>rfl
 |.int n r=>by rw[Ds.app,Ds.app,Ds.app,Ds.app_assoc y z r]
 |.str s r=>by rw[Ds.app,Ds.app,Ds.app,Ds.app_assoc y z r]
 |.row n cs r=>by rw[Ds.app,Ds.app,Ds.app,Ds.app_assoc y z r]
theorem Ds.len_app(y:Ds):∀ x:Ds,(x.app y).len=x.len+y.len
 |.nil=>by rw[Ds.app,Ds.len];omega
 |.int n r=>by rw[Ds.app,Ds.len,Ds.len,Ds.len_app y r];omega
 |.str s r=>by rw[Ds.app,Ds.len,Ds.len,Ds.len_app y r];omega
 |.row n cs r=>by rw[Ds.app,Ds.len,Ds.len,Ds.len_app y r];omega
def Zbo(N:Nat→Prop)(w:World)(A:Option Addr)(xs:List Value):Prop:=
 xs=[]∨∃ g,A=some ⟨g,0,none⟩∧N g∧g<w.heap.size∧∀ j,j<xs.length→w.cell? ⟨g,j,none⟩=xs[j]?
def Zs(N:Nat→Prop)(w:World):Ds→List Value→Prop
 |.nil,vs=>vs=[]
 |.int n r,vs=>∃ t,vs=I J n::t∧Zs N w r t
 |.str s r,vs=>∃ t,vs=Ψ s::t∧Zs N w r t
 |.row n cs r,vs=>∃ A c xs t,vs=Λ A n c::t∧(n≤9223372036854775807∧n≤c)∧Zbo N w A xs∧Zs N w cs xs∧Zs N w r t
theorem Zbo.keeps{N M S:Nat→Prop}{w w':World}{A:Option Addr}{xs:List Value}(h:Zbo N w A xs)(hk:Zy S w w')(hs:∀ k,k<w.heap.size→N k→¬ S k∧M k):Zbo M w' A xs:=by
 rcases h with h | ⟨g,e,h1,h2,h3⟩
 ·exact .inl h
 ·exact .inr ⟨g,e,(hs g h2 h1).2,Nat.lt_of_lt_of_le h2 hk.size,fun j hj=>(World.cell?_of_block (a:=⟨g,j,none⟩) (hk.block g h2 (hs g h2 h1).1)).trans (h3 j hj)⟩
theorem Zs.keeps{N M S:Nat→Prop}{w w':World}(hk:Zy S w w')(hs:∀ k,k<w.heap.size→N k→¬ S k∧M k):∀{ds:Ds}{vs:List Value},Zs N w ds vs→Zs M w' ds vs
 |.nil,vs,h=>h
 |.int n r,vs,⟨t,e,h⟩=>⟨t,e,Zs.keeps hk hs h⟩
 |.str s r,vs,⟨t,e,h⟩=>⟨t,e,Zs.keeps hk hs h⟩
 |.row n cs r,vs,⟨A,c,xs,t,e,hn,h1,h2,h3⟩=>⟨A,c,xs,t,e,hn,h1.keeps hk hs,Zs.keeps hk hs h2,Zs.keeps hk hs h3⟩
theorem Zs.mono{N M:Nat→Prop}{w:World}{ds:Ds}{vs:List Value}(h:Zs N w ds vs)(hs:∀ k,k<w.heap.size→N k→M k):Zs M w ds vs:=
 h.keeps (S:=fun _=>False) (Zy.refl _ w) fun k hk hn=>⟨id,hs k hk hn⟩
theorem Zs.below{N:Nat→Prop}{w w':World}{ds:Ds}{vs:List Value}(h:Zs N w ds vs)(hb:Below w.heap.size w w'):Zs N w' ds vs:=
 h.keeps (S:=fun _=>False) (Zy.of_below hb) fun k _ hn=>⟨id,hn⟩
theorem Zs.len{N:Nat→Prop}{w:World}:∀{ds:Ds}{vs:List Value},Zs N w ds vs→vs.length=ds.len
 |.nil,vs,h=>by cases h;rfl
 |.int n r,vs,⟨t,e,h⟩=>by rw[e,List.length_cons,Zs.len h];rfl
 |.str s r,vs,⟨t,e,h⟩=>by rw[e,List.length_cons,Zs.len h];rfl
 |.row n cs r,vs,⟨A,c,xs,t,e,_,_,_,h⟩=>by rw[e,List.length_cons,Zs.len h];rfl
theorem Zs.one{N:Nat→Prop}{w:World}:∀{ds:Ds}{vs:List Value},Zs N w ds vs→∀ v ∈ vs,v.oneCell'=true
 |.nil,vs,h=>by cases h;intro v hv;cases hv
 |.int n r,vs,⟨t,e,h⟩=>by rw[e];intro v hv;rcases List.mem_cons.1 hv with rfl | hv;rfl;exact Zs.one h v hv
 |.str s r,vs,⟨t,e,h⟩=>by rw[e];intro v hv;rcases List.mem_cons.1 hv with rfl | hv;rfl;exact Zs.one h v hv
 |.row n cs r,vs,⟨A,c,xs,t,e,_,_,_,h⟩=>by rw[e];intro v hv;rcases List.mem_cons.1 hv with rfl | hv;rfl;exact Zs.one h v hv
theorem Zs.app{N:Nat→Prop}{w:World}{y:Ds}{us:List Value}(hy:Zs N w y us):∀{x:Ds}{vs:List Value},Zs N w x vs→Zs N w (x.app y) (vs++us)
 |.nil,vs,h=>by cases h;exact hy
 |.int n r,vs,⟨t,e,h⟩=>⟨t++us,by rw[e];rfl,Zs.app hy h⟩
 |.str s r,vs,⟨t,e,h⟩=>⟨t++us,by rw[e];rfl,Zs.app hy h⟩
 |.row n cs r,vs,⟨A,c,xs,t,e,hn,h1,h2,h⟩=>⟨A,c,xs,t++us,by rw[e];rfl,hn,h1,h2,Zs.app hy h⟩
theorem Zs.split{N:Nat→Prop}{w:World}{y:Ds}:∀{x:Ds}{vs:List Value},Zs N w (x.app y) vs→∃ a b,vs=a++b∧Zs N w x a∧Zs N w y b
 |.nil,vs,h=>⟨[],vs,rfl,rfl,h⟩
 |.int n r,vs,⟨t,e,h⟩=>by obtain⟨a,b,e2,h1,h2⟩:=Zs.split (x:=r) h;exact⟨I J n::a,b,by rw[e,e2];rfl,⟨a,rfl,h1⟩,h2⟩
 |.str s r,vs,⟨t,e,h⟩=>by obtain⟨a,b,e2,h1,h2⟩:=Zs.split (x:=r) h;exact⟨Ψ s::a,b,by rw[e,e2];rfl,⟨a,rfl,h1⟩,h2⟩
 |.row n cs r,vs,⟨A,c,xs,t,e,hn,g1,g2,h⟩=>by obtain⟨a,b,e2,h1,h2⟩:=Zs.split (x:=r) h;exact⟨Λ A n c::a,b,by rw[e,e2];rfl,⟨A,c,xs,a,rfl,hn,g1,g2,h1⟩,h2⟩
theorem own_within{w:World}{base:Nat}{e:TypeId}{size:Nat}{v:Value}{n:Nat}{xs:List Value}(h:w.ownsRow base e size v n xs) :
  ∃ A c,v=Λ A n c∧(n≤9223372036854775807∧n≤c)∧Zbo (fun k=>base≤k) w A xs:=by
 obtain⟨hl,h⟩:=id h;rcases h with⟨rfl,rfl⟩ | ⟨g,cap,cur,rfl,hb,hw,h1,h2,h3,h4⟩
 ·refine⟨none,0,rfl,by omega,.inl ?_⟩
  rw[Nat.zero_mul]at hl;exact List.length_eq_zero_iff.1 hl
 ·unfold maxLen at h2
  refine⟨some ⟨g,0,none⟩,cap,rfl,by omega,.inr ⟨g,rfl,hb,Zi.inside (cs:=cur) hw,fun j hj=>?_⟩⟩;rw[Zi.read (cs:=cur) hw j,←h4,List.getElem?_take];have hj':j<n*size:=by rw[←hl];exact hj
  rw[if_pos hj',Array.getElem?_toList]
theorem Zs.rowOf{N:Nat→Prop}{w:World}{base:Nat}{e:TypeId}{size:Nat}{v:Value}{n:Nat}{xs:List Value}{ds:Ds}(h:w.ownsRow base e size v n xs)(hb:∀ k,base≤k→N k)(hd:Zs N w ds xs) :
  Zs N w (.row n ds .nil) [v]:=by
 obtain⟨A,c,rfl,hn,hw⟩:=own_within h;exact⟨A,c,xs,[],rfl,hn,hw.keeps (S:=fun _=>False) (Zy.refl _ w) (fun k _ hk=>⟨id,hb k hk⟩),hd,rfl⟩
theorem Zi.range{w:World}{g:Nat}{t:TypeId}{a b c:List Value}(h:Zi w g t (a++b++c).toArray):w.rangeAt g a.length b:=fun j v hv=>by
 have hj:j<b.length:=(List.getElem?_eq_some_iff.1 hv).1;rw[h.read,List.getElem?_toArray,List.getElem?_append_left (by rw[List.length_append];omega),List.getElem?_append_right (by omega),show a.length+j - a.length=j from by omega,hv]
theorem Zi.there{w:World}{g:Nat}{t:TypeId}{a b c:List Value}(h:Zi w g t (a++b++c).toArray):w.there g a.length b.length:=fun j hj=>
 ⟨h.range.isSome j hj,h.thawed _⟩
theorem Zi.setCells{g:Nat}{t:TypeId}(c:List Value):∀(y b a:List Value)(w:World),y.length=b.length→Zi w g t (a++b++c).toArray→Zi (w.setCells g a.length y) g t (a++y++c).toArray
 |[],b,a,w,hl,h=>by
  have:b=[]:=List.length_eq_zero_iff.1 (by rw[←hl];rfl);rw[this]at h;exact h
 |v::y,[],a,w,hl,h=>by cases hl
 |v::y,u::b,a,w,hl,h=>by
  rw[World.setCells];have h1:=h.write a.length v
  have e:(a++u::b++c).toArray.setIfInBounds a.length v=((a++[v])++b++c).toArray:=by
   simp[List.setIfInBounds_toArray,List.set_append_right]
  rw[e]at h1;have h2:=Zi.setCells c y b (a++[v]) _ (by rw[List.length_cons,List.length_cons]at hl;omega) h1;rw[List.length_append]at h2;have e2:(a++[v]++y++c).toArray=(a++v::y++c).toArray:=by simp
  rw[e2]at h2;exact h2
theorem Zy.setCells{S:Nat→Prop}{g:Nat}(hg:S g):∀(y:List Value)(o:Nat){a b:World},Zy S a b→Zy S a (b.setCells g o y)
 |[],_,_,_,h=>h
 |v::y,o,a,b,h=>Zy.setCells hg y (o+1) (h.setCell (p:=⟨g,o,none⟩) hg v)
theorem Zd{P:Program}{ops:Array Oper}{rest:List Oper}{op:Op}{t:TypeId}{ps:String}{af:Array Edge}{gd:Option (Nat×Bool)}{a:Act}{w:World}{Q:Exit→Act→World→Prop}(d:Nat)
 (h:wpList P ops Q (⟨some d,op,t,ps,af,gd⟩::rest) a w):wpList P ops Q (⟨some d,op,t,ps,af,gd⟩::rest) a w:=h
theorem Zg{P:Program}{ops:Array Oper}{rest:List Oper}{T:TypeId}{t:TypeId}{ps:String}{af:Array Edge}{gd:Option (Nat×Bool)}{a:Act}{w:World}{Q:Exit→Act→World→Prop}(x y:Nat)
 (h:wpList P ops Q (⟨none,.store T (.tmp x) (.tmp y),t,ps,af,gd⟩::rest) a w):wpList P ops Q (⟨none,.store T (.tmp x) (.tmp y),t,ps,af,gd⟩::rest) a w:=h
structure Put(w w':World)(g:Nat)(t:TypeId)(vs:List Value):Prop where
 whole:Zi w' g t vs.toArray
 keeps:Zy (fun k=>k=g) w w'
theorem Xs{P:Program}{ops:Array Oper}{rest:List Oper}{o:Oper}{a:Act}{w:World}{Q:Exit→Act→World→Prop}(T:TypeId)(x y:Operand)(t:TypeId)(g n:Nat)(pre old post ys:List Value)(hW:Zi w g t (pre++old++post).toArray)(hl:ys.length=old.length)
  (hpn:n=pre.length)(hi:(P.info? T).map (·.size)=some ys.length)(h1:∀ v ∈ ys,v.oneCell'=true)
  (hgd:o.guard=none)(ho:o.op=.store T x y)(hd:o.dst=none)
  (hx:a.eval x=Ω (some ⟨g,n,none⟩))(hy:a.eval y=.agg ys.toArray)
  (h:∀ w',Put w w' g t (pre++ys++post)→wpList P ops Q rest a w'):wpList P ops Q (o::rest) a w:=by
 subst hpn;have ht:w.there g pre.length ys.length:=by rw[hl];exact hW.there
 refine wpList_store_mid hgd T x y ho g pre.length ys.toArray hx hy (by simpa using ht) (by simpa using hi) (all_oneCell_toArray h1) ?_;rw[hd];exact h _ ⟨Zi.setCells post ys old pre w hl hW,Zy.setCells (S:=fun k=>k=g) rfl _ _ (Zy.refl _ _)⟩
theorem Za{P:Program}{ops:Array Oper}{rest:List Oper}{o:Oper}{a:Act}{w:World}{Q:Exit→Act→World→Prop}(T:TypeId)(x y:Operand)(t:TypeId)(g:Nat)(old ys:List Value)(hW:Zi w g t old.toArray)(hl:ys.length=old.length)
  (hi:(P.info? T).map (·.size)=some ys.length)(h1:∀ v ∈ ys,v.oneCell'=true)
  (hgd:o.guard=none)(ho:o.op=.store T x y)(hd:o.dst=none)
  (hx:a.eval x=Ω (some ⟨g,0,none⟩))(hy:a.eval y=.agg ys.toArray)
  (h:∀ w',Put w w' g t ys→wpList P ops Q rest a w'):wpList P ops Q (o::rest) a w:=
 Xs T x y t g 0 [] old [] ys (by simpa using hW) hl rfl hi h1 hgd ho hd hx hy fun w' p=>h w' ⟨by simpa using p.whole,p.keeps⟩
theorem Zp{P:Program}{ops:Array Oper}{rest:List Oper}{o:Oper}{a:Act}{w:World}{Q:Exit→Act→World→Prop}(T:TypeId)(x y:Operand)(t:TypeId)(g n:Nat)(pre:List Value)(old v:Value)(post:List Value)(hW:Zi w g t (pre++[old]++post).toArray)
  (hpn:n=pre.length)(hi:(P.info? T).map (·.size)=some 1)(h1:v.oneCell'=true)
  (hgd:o.guard=none)(ho:o.op=.store T x y)(hd:o.dst=none)
  (hx:a.eval x=Ω (some ⟨g,n,none⟩))(hy:a.eval y=v)
  (h:∀ w',Put w w' g t (pre++[v]++post)→wpList P ops Q rest a w'):wpList P ops Q (o::rest) a w:=by
 subst hpn;refine wpList_plain hgd fun K hK=>?_
 have hc:v.cells=#[v]:=by cases v<;>first | rfl | cases h1
 have hst:(storeVar T ⟨g,pre.length,none⟩ v).run P w=.ok () (w.setCells g pre.length [v]):=by
  have:=run_storeCells_cells (P:=P) g pre.length [v] 0 w (fun j hj=>by simpa using(hW.there j hj).1) (fun j hj=>by simpa using(hW.there j hj).2) (fun u hu=>by simp at hu;rw[hu];exact h1);cases hq:P.info? T with
  |none=>simp[hq]at hi
  |some i=>
   have hs:i.size=1:=by simpa[hq]using hi
   simp only[Nat.add_zero]at this;simp[storeVar,sizeOf,typeInfo,hq,hc,hs,this]
 unfold Oper.wp execOp;simp only[ho,hx,hy,Instr.storeAt,Instr.sureAddr,Sem.run_bind,Sem.run_pure,Result.andThen_ok,hst];have hh:=hK _ _ (h _ ⟨Zi.setCells post [v] [old] pre w rfl hW,Zy.setCells (S:=fun k=>k=g) rfl _ _ (Zy.refl _ _)⟩);have e:a.put o.dst undef=a:=by rw[hd];rfl
 show K (a.put o.dst undef) _;rw[e];exact hh
theorem Xn{P:Program}{ops:Array Oper}{rest:List Oper}{o:Oper}{a:Act}{w:World}{Q:Exit→Act→World→Prop}(T:TypeId)(x:Operand)(t:TypeId)(g n:Nat)(pre vs post:List Value)(hW:Zi w g t (pre++vs++post).toArray)(hpn:n=pre.length)
  (hu:(P.underlying T).map TypeDesc.isRow=some true)(hi:(P.info? T).map (·.size)=some vs.length)
  (hgd:o.guard=none)(ho:o.op=.load T x)(hx:a.eval x=Ω (some ⟨g,n,none⟩))
  (h:wpList P ops Q rest (a.put o.dst (.agg vs.toArray)) w):wpList P ops Q (o::rest) a w:=by
 subst hpn;obtain⟨d,hu,hr⟩:=Option.map_eq_some_iff.1 hu;exact wpList_load_mid hgd T x ho g pre.length hx vs d hW.range hu hr hi h
theorem Zc{P:Program}{ops:Array Oper}{rest:List Oper}{o:Oper}{a:Act}{w:World}{Q:Exit→Act→World→Prop}(T:TypeId)(x:Operand)(t:TypeId)(g:Nat)(vs:List Value)(hW:Zi w g t vs.toArray)
  (hu:(P.underlying T).map TypeDesc.isRow=some true)(hi:(P.info? T).map (·.size)=some vs.length)
  (hgd:o.guard=none)(ho:o.op=.load T x)(hx:a.eval x=Ω (some ⟨g,0,none⟩))
  (h:wpList P ops Q rest (a.put o.dst (.agg vs.toArray)) w):wpList P ops Q (o::rest) a w:=
 Xn T x t g 0 [] vs [] (by simpa using hW) rfl hu hi hgd ho hx h
theorem Wf{P:Program}{w:World}{ops:Array Oper}{rest:List Oper}{o:Oper}{a:Act}{Q:Exit→Act→World→Prop}(s x:Operand)(t e:TypeId)(sz bytes:Nat)(z:Value)
  (ht:P.underlying t=some (.slice e))(hinfo:(P.info? e).map (fun i=>(i.zero,i.size,i.bytes))=some (some z,sz,bytes))(hzs:z.cells.size=sz)(hpos:0<sz)(hby:bytes≤1024)
  (base:Nat)(v:Value)(n:Nat)(xs news:List Value)(hown:w.ownsRow base e sz v n xs)(g:Nat)(hW:Zi w g e news.toArray)(hnl:news.length=sz)(h1:∀ u ∈ news,u.oneCell'=true)
  (hn:n≤68719476736)(hbase:base≤w.heap.size)
  (hgd:o.guard=none)(ho:o.op=.call { callee:=.builtin .append,args:=#[s,x],argTypes:=#[t,t] })(hs:a.eval s=v)(hx:a.eval x=Λ (some ⟨g,0,none⟩) 1 1)
  (h:∀ v' w',w'.ownsRow base e sz v' (n+1) (xs++news)→w.grownBy w' v.ownBlock→(v'.ownBlock=v.ownBlock∨v'.ownBlock=some w.heap.size)→wpList P ops Q rest (a.put o.dst v') w') :
  wpList P ops Q (o::rest) a w:=by
 obtain⟨i,hi,hz,hsize,hbytes⟩:=info_parts hinfo;refine wpList_append_own_at w hgd s x t ho base e i z sz bytes ht hi hz hsize hbytes hzs hpos v n xs hs hown ⟨g,0,none⟩ 1 1 news hx (by rw[hnl];omega) ?_ h1 (by unfold maxLen;omega) ?_ hbase ?_
 ·intro j u hj
  have hr:=hW.read j;have ha:(⟨g,0,none⟩:Addr).add j=⟨g,j,none⟩:=by simp[Addr.add];omega
  rw[ha,hr,←hj];simp
 ·have:(n+1)*bytes≤(n+1)*1024:=Nat.mul_le_mul_left _ hby
  omega
 ·intro v' w' ho' hg _ hat
  exact h v' w' ho' hg hat
theorem Ya{P:Program}{fn:Func}{R:Ending→World→Prop}{a:Act}{w:World}(s T:Nat)(t:TypeId)(g:Nat)(vs:List Value)(hres:fn.results=#[.cell s T])(hW:Zi w g t vs.toArray)
  (hu:(P.underlying T).map TypeDesc.isRow=some true)(hi:(P.info? T).map (·.size)=some vs.length)
  (hp:a.tmps.getD s undef=Ω (some ⟨g,0,none⟩))(hd:a.defers=[])(hR:R (η (.agg vs.toArray)) w):bodyPost P fn R .ret a w:=by
 obtain⟨d,hu,hr⟩:=Option.map_eq_some_iff.1 hu;refine bodyPost_ret (v:=.agg vs.toArray) ?_ hd hR;have hl:=run_loadVar_mid (P:=P) w g 0 T vs d (by have:=Zi.range (a:=[]) (b:=vs) (c:=[]) (by simpa using hW);exact this) hu hr hi;have hp':a.tmps[s]?.getD undef=Ω (some ⟨g,0,none⟩):=by simpa using hp
 simp[results,hres,hp',hl,asAddr,Sem.run_bind,Sem.run_pure]
open Go
structure Sc where
 place:Bool
 whn:Int
 each:Bool
abbrev Fa:=Int×Int×Int
def faV(F:Fa):Value:=.agg #[I J F.1,I J F.2.1,I J F.2.2]
def orE(a b:Int):Int:=if a=0 then b else a
def orF(a b:Fa):Fa:=if a.1=0∧a.2.1=0∧a.2.2=0 then b else a
def atF(e l c:Int):Fa:=if e=0 then(0,0,0)else(e,l,c)
def Zew(n lo hi:Int):Bool:=decide (n<lo) || decide (hi<n)
def Sc.entered(c:Sc):Bool:=c.place && (c.whn == 6)
def Uo(c:Sc)(n:Int):Int:=if(c.place && !c.entered && (n == 1 || n == 2))=true then 24 else 0
def lTo(tk tl:Int):Int:=if(tk == 4 && Zew tl 1 3)=true then 20 else 0
def Zak(s:Se)(k f:Int):Bool:=s.fs.any (fun x=>x.kind == f) || (s.kind == k)
def Jy(c:Sc)(s:Se):Int:=
 if(!(c.each || c.entered) && Zak s 2 5)=true then 24
 else if(c.place && Zak s 1 4)=true then 24
 else if Uo c s.side≠0 then Uo c s.side
 else if(s.wh == 3 && Zew s.lane 1 3)=true then 20
 else if 4<s.fs.length then 9 else 0
def Ub(c:Sc):Ex→Int
 |.leaf k n s sd tk tl=>if k=2∨k=3 then Jy c s else if k=5 then Uo c sd else if k=6 then orE (Uo c sd) (lTo tk tl)else 0
 |.bin op l r=>orE (Ub c l) (Ub c r)
def Zax(c:Sc)(h:AH):Int:=
 if h.kind=1∨h.kind=2∨h.kind=12 then orE (Jy c h.sel) (Ub c h.num)
 else if h.kind=3∨h.kind=5∨h.kind=14∨h.kind=11 then Jy c h.sel
 else if h.kind=4 then orE (Jy c h.sel) (lTo h.tk h.tl)
 else if h.kind=6 then orE (Uo c h.side) (orE (lTo h.tk h.tl) (Ub c h.num))
 else if h.kind=7∨h.kind=9 then orE (Uo c h.side) (Ub c h.num)
 else if h.kind=8 then Uo c h.side
 else if h.kind=13∨h.kind=15 then orE (Uo c h.side) (lTo h.tk h.tl)
 else if h.kind=10 then orE (Ub c h.cl) (Ub c h.cr)
 else 0
def Zgb(c:Sc)(k:Int):Bool:=if k=10 then true else if k=12∨k=13∨k=14∨k=15 then c.whn == 5 else !(c.whn == 5)
def Zea(c:Sc)(i k:Int):Int:=if 12≤i then 9 else if Zgb c k=false then 13 else if(k == 11 && c.each)=true then 8 else 0
def Vf(c:Sc)(i:Nat):Acs→Fa
 |.nil=>(0,0,0)
 |.cons h t e r=>
  if(if orE (Zea c i h.kind) (Zax c h)≠0 then(orE (Zea c i h.kind) (Zax c h),h.line,h.col)else if h.kind=10 then orF (Vf c 0 t) (Vf c 0 e)else if h.kind=11 then Vf ⟨c.place,c.whn,true⟩ 0 t else(0,0,0)).1=0 then Vf c (i+1) r
  else if orE (Zea c i h.kind) (Zax c h)≠0 then(orE (Zea c i h.kind) (Zax c h),h.line,h.col)else if h.kind=10 then orF (Vf c 0 t) (Vf c 0 e)else if h.kind=11 then Vf ⟨c.place,c.whn,true⟩ 0 t else(0,0,0)
def lAct(c:Sc)(i:Int)(h:AH)(t e:Acs):Fa:=
 if orE (Zea c i h.kind) (Zax c h)≠0 then(orE (Zea c i h.kind) (Zax c h),h.line,h.col)else if h.kind=10 then orF (Vf c 0 t) (Vf c 0 e)else if h.kind=11 then Vf ⟨c.place,c.whn,true⟩ 0 t else(0,0,0)
theorem lActs_cons(c:Sc)(i:Nat)(h:AH)(t e r:Acs):Vf c i (.cons h t e r)=if(lAct c i h t e).1=0 then Vf c (i+1) r else lAct c i h t e:=rfl
def exZ:Ex→Int
 |.leaf .. =>1
 |.bin _ l r=>1+exZ l+exZ r
def acZ(h:AH)(t e:Int)(en:Nat):Int:=
 if h.kind=1∨h.kind=2∨h.kind=6∨h.kind=7∨h.kind=9∨h.kind=12 then exZ h.num+1
 else if h.kind=10 then exZ h.cl+exZ h.cr+t+1+(if 0<en then e+1 else 0)
 else if h.kind=11 then t+2 else 1
def We:Acs→Int
 |.nil=>0
 |.cons h t e r=>acZ h (We t) (We e) e.len+We r
def wr(n:Int):Int:=IntKind.i64.wrap n
theorem wr_eq(n:Int):wr n=if 9223372036854775808≤n % 18446744073709551616 then n % 18446744073709551616 - 18446744073709551616 else n % 18446744073709551616:=by
 unfold wr;simp[IntKind.wrap,IntKind.bits,IntKind.signed]
theorem Zmn(a b:Int):wr (wr a+wr b)=wr (a+b):=by
 simp only[wr_eq];split<;>split<;>split<;>split<;>omega
theorem Zbq(a b:Int):wr (wr a+b)=wr (a+b):=by
 simp only[wr_eq];split<;>split<;>split<;>omega
theorem wr_small{n:Int}(h0 : -9223372036854775808≤n)(h1:n<9223372036854775808):wr n=n:=by
 rw[wr_eq];split<;>omega
def Zap(place:Bool)(i:Int)(r:Ru):Int:=
 if 4≤i then 9 else if(if r.when_=6 then place else if r.when_=2∨r.when_=3 then !place else true)=false then 13
 else if(r.when_ == 5 && Zew r.stratum 1 3)=true then 12 else 0
def lBehind(r:Ru):Int:=if 96<wr (We r.acts)then 3 else 0
def Zgo(place:Bool)(i:Int)(r:Ru):Fa:=orF (atF (Zap place i r) r.line r.col) (orF (Vf ⟨place,r.when_,false⟩ 0 r.acts) (atF (lBehind r) r.line r.col))
def Uy(place:Bool):Nat→List Ru→Fa
 |_,[]=>(0,0,0)
 |i,r::l=>if(Zgo place i r).1=0 then Uy place (i+1) l else Zgo place i r
def Zfr(c:Ca):Fa:=if(Zew c.cost 0 9 || Zew c.power (-20) 20)=true then(12,c.line,c.col)else Uy false 0 c.rules
def Zfq(p:Pl):Fa:=Uy true 0 p.rules
def Zjx(most tw i:Int)(l c:Int)(f:Fa):Fa:=if most≤i then(9,l,c)else if i=tw then(11,l,c)else f
def Zay(tw:Int):Nat→List Ca→Fa
 |_,[]=>(0,0,0)
 |i,c::l=>if(Zjx 128 tw i c.line c.col (Zfr c)).1=0 then Zay tw (i+1) l else Zjx 128 tw i c.line c.col (Zfr c)
def Zao(tw:Int):Nat→List Pl→Fa
 |_,[]=>(0,0,0)
 |i,p::l=>if(Zjx 32 tw i p.line p.col (Zfq p)).1=0 then Zao tw (i+1) l else Zjx 32 tw i p.line p.col (Zfq p)
def scL(c:Sc)(st ln cl:Int)(A:Option Addr)(n k:Nat):List Value:=[I J c.whn,I J st,I J ln,I J cl,Λ A n k,.bool c.place,.bool c.each]
theorem Vm{w:World}{g:Nat}{t:TypeId}{a b c d e f:Value}(h:Zi w g t #[a,b,c,d,e,f]):w.cell? ⟨g,0,none⟩=some a∧w.cell? ⟨g,1,none⟩=some b∧w.cell? ⟨g,2,none⟩=some c∧w.cell? ⟨g,3,none⟩=some d∧w.cell? ⟨g,4,none⟩=some e∧w.cell? ⟨g,5,none⟩=some f:=
 ⟨by rw[h.read];rfl,by rw[h.read];rfl,by rw[h.read];rfl,by rw[h.read];rfl,by rw[h.read];rfl,by rw[h.read];rfl⟩
theorem Yo{w:World}{g:Nat}{t:TypeId}{a b c d e f h:Value}(W:Zi w g t #[a,b,c,d,e,f,h]) :
  w.cell? ⟨g,0,none⟩=some a∧w.cell? ⟨g,1,none⟩=some b∧w.cell? ⟨g,2,none⟩=some c∧w.cell? ⟨g,3,none⟩=some d∧w.cell? ⟨g,4,none⟩=some e∧w.cell? ⟨g,5,none⟩=some f∧w.cell? ⟨g,6,none⟩=some h:=
 ⟨W.read 0,W.read 1,W.read 2,W.read 3,W.read 4,W.read 5,W.read 6⟩
theorem Yf:(Tryz.prog.underlying 29).map TypeDesc.isRow=some true:=by kernel_rfl
theorem Zj:(Tryz.prog.info? 29).map (·.size)=some 3:=by kernel_rfl
theorem Ziv(n lo hi:Int)(w:World):Calls Φ 30 #[I J n,I J lo,I J hi] w fun e w'=>e=η (.bool (Zew n lo hi))∧Below w.heap.size w w':=by
 go_enter Tryz.func30,Tryz.ntmps30;by_cases h1:n<lo
 ·go_wp2
  go_ret;exact⟨by simp[Zew,h1],Below.refl _ _⟩
 ·by_cases h2:hi<n
  ·go_wp2
   go_ret;exact⟨by simp[Zew,h1,h2],Below.refl _ _⟩
  ·go_wp2
   go_ret;exact⟨by simp[Zew,h1,h2],Below.refl _ _⟩
theorem lFaultAt(e l c:Int)(w:World):Calls Φ 66 #[I J e,I J l,I J c] w fun r w'=>r=η (faV (atF e l c))∧Below w.heap.size w w':=by
 go_enter Tryz.func66,Tryz.ntmps66;by_cases h:e=0
 ·subst h
  go_wp2
  exact Ya 6 29 29 _ [I J 0,I J 0,I J 0] rfl (Zi.made _ _ _) Yf Zj rfl rfl ⟨rfl,Zh _ _⟩
 ·have hb:(e == 0)=false:=by simpa using h
  go_wp2
  exact Ya 6 29 29 _ [I J e,I J l,I J c] rfl (Zi.made _ _ _) Yf Zj rfl rfl ⟨by simp[faV,atF,h],Zh _ _⟩
section
variable (c:Sc) (st ln cl:Int) (A:Option Addr) (rn rk:Nat)
theorem lEntered(w:World):Calls Φ 154 #[.agg (scL c st ln cl A rn rk).toArray] w fun e w'=>e=η (.bool c.entered)∧Below w.heap.size w w':=by
 obtain⟨pl,wh,ea⟩:=c;simp only[scL];go_enter Tryz.func154,Tryz.ntmps154;cases pl
 ·go_wp2
  go_ret;exact⟨rfl,Zh _ _⟩
 ·go_wp2
  go_ret;exact⟨by simp[Sc.entered],Zh _ _⟩
theorem lAlways(w:World):Calls Φ 68 #[.agg (scL c st ln cl A rn rk).toArray] w fun e w'=>e=η (.bool (c.whn == 5))∧Below w.heap.size w w':=by
 obtain⟨pl,wh,ea⟩:=c;simp only[scL];go_enter Tryz.func68,Tryz.ntmps68;go_wp2
 go_ret;exact⟨rfl,Zh _ _⟩
theorem lTriggered(w:World):Calls Φ 67 #[.agg (scL c st ln cl A rn rk).toArray] w fun e w'=>e=η (.bool (if c.whn=6 then c.place else if c.whn=2∨c.whn=3 then !c.place else true))∧Below w.heap.size w w':=by
 obtain⟨pl,wh,ea⟩:=c;simp only[scL];go_enter Tryz.func67,Tryz.ntmps67;by_cases h6:wh=6
 ·subst h6
  go_wp2
  go_ret;exact⟨rfl,Zh _ _⟩
 ·have b6:(wh == 6)=false:=by simpa using h6
  by_cases h2:wh=2
  ·subst h2
   go_wp2
   go_ret;exact⟨rfl,Zh _ _⟩
  ·have b2:(wh == 2)=false:=by simpa using h2
   by_cases h3:wh=3
   ·subst h3
    go_wp2
    go_ret;exact⟨rfl,Zh _ _⟩
   ·have b3:(wh == 3)=false:=by simpa using h3
    go_wp2
    go_ret;exact⟨by simp[h6,h2,h3],Zh _ _⟩
theorem lTo_any(tk tl:Int)(w:World):Calls Φ 131 #[.agg [I J tk,I J tl].toArray] w fun e w'=>e=η (I J (lTo tk tl))∧Below w.heap.size w w':=by
 have ho:=fun w=>Ziv tl 1 3 w
 have hv:lTo tk tl=if(tk == 4 && Zew tl 1 3)=true then 20 else 0:=rfl
 generalize Zew tl 1 3=q at *;go_enter Tryz.func131,Tryz.ntmps131;by_cases h4:tk=4
 ·subst h4
  cases q <;>
  ·go_wp2_with(go_at_call 30;refine(ho _).mono ?_;rintro e w1 ⟨rfl,b1⟩)
   go_ret;exact⟨by first | rfl | (rw[hv];rfl),Wg (Zh _ _) b1⟩
 ·have b4:(tk == 4)=false:=by simpa using h4
  go_wp2
  go_ret;exact⟨by rw[hv];simp[h4],Zh _ _⟩
theorem Zmy(n:Int)(w:World):Calls Φ 132 #[.agg (scL c st ln cl A rn rk).toArray,I J n] w fun e w'=>e=η (I J (Uo c n))∧Below w.heap.size w w':=by
 have ho:=fun w=>lEntered c st ln cl A rn rk w
 have hv:Uo c n=if(c.place && !c.entered && (n == 1 || n == 2))=true then 24 else 0:=rfl
 generalize c.entered=q at *;obtain⟨pl,wh,ea⟩:=c;simp only[scL]at *;go_enter Tryz.func132,Tryz.ntmps132;cases pl
 ·go_wp2
  go_ret;exact⟨by rw[hv];simp,Zh _ _⟩
 ·cases q
  ·by_cases h1:n=1
   ·subst h1
    go_wp2_with(go_at_call 154;refine(ho _).mono ?_;rintro e w1 ⟨rfl,b1⟩)
    go_ret;exact⟨by first | rfl | (rw[hv];rfl),Wg (Zh _ _) b1⟩
   ·have e1:(n == 1)=false:=by simpa using h1
    by_cases h2:n=2
    ·subst h2
     go_wp2_with(go_at_call 154;refine(ho _).mono ?_;rintro e w1 ⟨rfl,b1⟩)
     go_ret;exact⟨by first | rfl | (rw[hv];rfl),Wg (Zh _ _) b1⟩
    ·have e2:(n == 2)=false:=by simpa using h2
     go_wp2_with(go_at_call 154;refine(ho _).mono ?_;rintro e w1 ⟨rfl,b1⟩)
     go_ret;exact⟨by rw[hv];simp[h1,h2],Wg (Zh _ _) b1⟩
  ·go_wp2_with(go_at_call 154;refine(ho _).mono ?_;rintro e w1 ⟨rfl,b1⟩)
   go_ret;exact⟨by rw[hv];simp,Wg (Zh _ _) b1⟩
theorem lAllows_any(k:Int)(w:World):Calls Φ 128 #[.agg (scL c st ln cl A rn rk).toArray,I J k] w fun e w'=>e=η (.bool (Zgb c k))∧Below w.heap.size w w':=by
 have ho:=fun w=>lAlways c st ln cl A rn rk w
 have hv:Zgb c k=if k=10 then true else if k=12∨k=13∨k=14∨k=15 then c.whn == 5 else !(c.whn == 5):=rfl
 generalize(c.whn == 5)=q at *;obtain⟨pl,wh,ea⟩:=c;simp only[scL]at *;go_enter Tryz.func128,Tryz.ntmps128;by_cases h0:k=10
 ·subst h0
  go_wp2
  go_ret;exact⟨by first | rfl | (rw[hv];rfl),Zh _ _⟩
 ·have b0:(k == 10)=false:=by simpa using h0
  by_cases hk:k=12∨k=13∨k=14∨k=15
  ·rcases hk with rfl | rfl | rfl | rfl <;>
   ·go_wp2_with(go_at_call 68;refine(ho _).mono ?_;rintro e w1 ⟨rfl,b1⟩)
    go_ret;exact⟨by first | rfl | (rw[hv];rfl),Wg (Zh _ _) b1⟩
  ·have b2:(k == 12)=false:=by rw[beq_eq_false_iff_ne];omega
   have b3:(k == 13)=false:=by rw[beq_eq_false_iff_ne];omega
   have b4:(k == 14)=false:=by rw[beq_eq_false_iff_ne];omega
   have b5:(k == 15)=false:=by rw[beq_eq_false_iff_ne];omega
   rw[if_neg h0,if_neg hk]at hv;clear hk h0;go_wp2_with(go_at_call 68;refine(ho _).mono ?_;rintro e w1 ⟨rfl,b1⟩)
   go_ret;exact⟨by rw[hv];rfl,Wg (Zh _ _) b1⟩
theorem lStand_any(i k:Int)(w:World):Calls Φ 100 #[.agg (scL c st ln cl A rn rk).toArray,I J i,I J k] w fun e w'=>e=η (I J (Zea c i k))∧Below w.heap.size w w':=by
 have ho:=fun w=>lAllows_any c st ln cl A rn rk k w
 have hv:Zea c i k=if 12≤i then 9 else if Zgb c k=false then 13 else if(k == 11 && c.each)=true then 8 else 0:=rfl
 generalize Zgb c k=q at *;obtain⟨pl,wh,ea⟩:=c;simp only[scL]at *;go_enter Tryz.func100,Tryz.ntmps100;by_cases h0:12≤i
 ·go_wp2
  go_ret;exact⟨by rw[hv];simp[h0],Zh _ _⟩
 ·cases q
  ·go_wp2_with(go_at_call 128;refine(ho _).mono ?_;rintro e w1 ⟨rfl,b1⟩)
   go_ret;exact⟨by rw[hv];simp[h0],Wg (Zh _ _) b1⟩
  ·by_cases h1:k=11
   ·subst h1
    cases ea <;>
    ·go_wp2_with(go_at_call 128;refine(ho _).mono ?_;rintro e w1 ⟨rfl,b1⟩;have W:=(Zi.made w 107 #[_,_,_,_,_,_,_]).below b1 (Zi.made w 107 _).inside;obtain⟨c0,c1,c2,c3,c4,c5,c6⟩:=Yo W)
     go_ret;exact⟨by rw[hv];simp[h0],Wg (Zh _ _) b1⟩
   ·have b1:(k == 11)=false:=by simpa using h1
    go_wp2_with(go_at_call 128;refine(ho _).mono ?_;rintro e w1 ⟨rfl,b1⟩)
    go_ret;exact⟨by rw[hv];simp[h0,h1],Wg (Zh _ _) b1⟩
end
def Wm:List Int→Int
 |[]=>0
 |a::r=>if a=0 then Wm r else a
theorem Zmb:∀{l:List Int},(∀ j,j<l.length→l.getD j 0=0)→Wm l=0
 |[],_=>rfl
 |a::r,h=>by
  have h0:a=0:=h 0 (by simp);unfold Wm;rw[if_pos h0];exact Zmb fun j hj=>by have:=h (j+1) (by simpa using hj);simpa using this
theorem firstNZ_at:∀{l:List Int}{k:Nat},k<l.length→(∀ j,j<k→l.getD j 0=0)→l.getD k 0≠0→Wm l=l.getD k 0
 |[],k,hk,_,_=>by cases hk
 |a::r,0,_,_,h=>by
  have h0:a≠0:=h;unfold Wm;rw[if_neg h0];rfl
 |a::r,k+1,hk,h,hn=>by
  have h0:a=0:=h 0 (by omega);unfold Wm;rw[if_pos h0];have:=firstNZ_at (l:=r) (k:=k) (by simpa using hk) (fun j hj=>by have:=h (j+1) (by omega);simpa using this) (by simpa using hn);simpa using this
theorem orE2(a b:Int):Wm [a,b]=orE a b:=by simp only[orE,Wm];split<;>(try split)<;>omega
theorem orE3(a b c:Int):Wm [a,b,c]=orE a (orE b c):=by simp only[orE,Wm];split<;>(try split)<;>(try split)<;>omega
theorem cell_ints{w:World}{g:Nat}{t:TypeId}{l:List Int}(h:Zi w g t (l.map (I J)).toArray){k:Nat}(hk:k<l.length):w.cell? ⟨g,k,none⟩=some (I J (l.getD k 0)):=by
 rw[Zi.read h k];simp[List.getD,hk]
theorem Zod(l:List Int)(n m g:Nat)(w:World)(hn:l.length=n)(h64:n≤64)(hW:Zi w g 27 (l.map (I J)).toArray) :
  Calls Φ 99 #[Λ (some ⟨g,0,none⟩) n m] w fun e w'=>e=η (I J (Wm l))∧Below w.heap.size w w':=by
 have HW:=Hh hW;have HN:=Hh hn;clear hW hn;have l64:(n:Int)≤64:=by omega
 obtain⟨V,hV⟩:∃ V,V=Wm l:=⟨_,rfl⟩
 rw[←hV];have HV:=Hh hV;clear hV;go_enter Tryz.func99,Tryz.ntmps99;go_wp2
 go_loopw [8] (fun i wr=>∃ k:Nat,i=I J k∧k≤n∧Below w.heap.size w wr∧Hid (∀ j,j<k→l.getD j 0=0)) (fun i _=>n - (intOf i).toNat)
 case atStart=>exact⟨0,by go_num,Nat.zero_le _,Below.refl _ _,Hh fun j hj=>by omega⟩
 case round=>
  obtain⟨k,rfl,hk,hb,hz⟩:=hrel;by_cases hlt:k<n
  ·have hW:=HW.out.below hb HW.out.inside
   have hin:=hW.inside;have hc:=cell_ints hW (k:=k) (by have:=HN.out;omega);have hnz:=fun q=>firstNZ_at (l:=l) (k:=k) (by have:=HN.out;omega) hz.out q
   rw[←HV.out]at hnz
   have hs:l.getD k 0=0→Hid (∀ j,j<k+1→l.getD j 0=0):=fun q=>Hh fun j hj=>by
    rcases Nat.lt_succ_iff_lt_or_eq.1 hj with r | rfl
    ·exact hz.out j r
    ·exact q
   generalize l.getD k 0=v at *;have lk:(k:Int)<(n:Int):=by omega
   clear hW;by_cases h0:v=0
   ·have hs2:=hs h0
    clear hs;subst h0;clear hnz;go_wp2
    go_roundw
    case rel=>exact⟨k+1,by go_num,by omega,hb,hs2⟩
    case measure=>simp[intOf];omega
   ·have hb0:(v == 0)=false:=by simpa using h0
    have hx:=hnz h0;subst hx;clear hnz hs;go_wp2
    go_ret;exact⟨rfl,hb⟩
  ·have hx:=Zmb (l:=l) fun j hj=>hz.out j (by have:=HN.out;omega)
   rw[←HV.out]at hx;subst hx;go_wp2
   go_ret;exact⟨rfl,hb⟩
def faL(F:Fa):List Value:=[I J F.1,I J F.2.1,I J F.2.2]
def isZ(F:Fa):Prop:=F.1=0∧F.2.1=0∧F.2.2=0
instance (F:Fa):Decidable (isZ F):=by unfold isZ;exact inferInstance
def Jl:List Fa→Fa
 |[]=>(0,0,0)
 |a::r=>if isZ a then Jl r else a
theorem Zmc:∀{l:List Fa},(∀ j,j<l.length→isZ (l.getD j (0,0,0)))→Jl l=(0,0,0)
 |[],_=>rfl
 |a::r,h=>by
  have h0:isZ a:=h 0 (by simp);unfold Jl;rw[if_pos h0];exact Zmc fun j hj=>by have:=h (j+1) (by simpa using hj);simpa using this
theorem firstNF_at:∀{l:List Fa}{k:Nat},k<l.length→(∀ j,j<k→isZ (l.getD j (0,0,0)))→¬ isZ (l.getD k (0,0,0))→Jl l=l.getD k (0,0,0)
 |[],k,hk,_,_=>by cases hk
 |a::r,0,_,_,h=>by
  have h0:¬ isZ a:=h;unfold Jl;rw[if_neg h0];rfl
 |a::r,k+1,hk,h,hn=>by
  have h0:isZ a:=h 0 (by omega);unfold Jl;rw[if_pos h0];have:=firstNF_at (l:=r) (k:=k) (by simpa using hk) (fun j hj=>by have:=h (j+1) (by omega);simpa using this) (by simpa using hn);simpa using this
theorem orF_if(a b:Fa):orF a b=if isZ a then b else a:=rfl
theorem isZ_eq{a:Fa}(h:isZ a):a=(0,0,0):=by obtain⟨x,y,z⟩:=a;obtain⟨h1,h2,h3⟩:=h;dsimp only at *;subst h1 h2 h3;rfl
theorem orF2(a b:Fa):Jl [a,b]=orF a b:=by
 simp only[orF_if,Jl];split<;>(try split)<;>first | rfl | (rename_i h;exact(isZ_eq h).symm)
theorem orF3(a b c:Fa):Jl [a,b,c]=orF a (orF b c):=by
 rw[orF_if a,←orF2 b c];rfl
theorem fa_at:∀{l:List Fa}{k:Nat},k<l.length→∀ j,j<3→(l.flatMap faL)[k*3+j]?=(faL (l.getD k (0,0,0)))[j]?
 |a::r,0,_,j,hj=>by
  rcases(show j=0∨j=1∨j=2 by omega)with rfl | rfl | rfl<;>rfl
 |a::r,k+1,hk,j,hj=>by
  have:=fa_at (l:=r) (k:=k) (by simpa using hk) j hj;rw[show(k+1)*3+j=(k*3+j)+3 by omega];simpa[List.flatMap_cons,faL]using this
theorem cell_fas{w:World}{g:Nat}{t:TypeId}{l:List Fa}(h:Zi w g t (l.flatMap faL).toArray){k:Nat}(hk:k<l.length) :
  w.cell? ⟨g,k*3,none⟩=some (I J (l.getD k (0,0,0)).1)∧w.cell? ⟨g,k*3+1,none⟩=some (I J (l.getD k (0,0,0)).2.1) ∧
   w.cell? ⟨g,k*3+2,none⟩=some (I J (l.getD k (0,0,0)).2.2):=by
 have key:∀ j,j<3→w.cell? ⟨g,k*3+j,none⟩=(faL (l.getD k (0,0,0)))[j]?:=fun j hj=>by
  rw[Zi.read h,←fa_at hk j hj];simp
 exact⟨key 0 (by omega),key 1 (by omega),key 2 (by omega)⟩
theorem made2(w:World)(o:Obj)(t:TypeId)(cs:Array Value):Zi ((w.alloc o).alloc (.cells cs t)) (w.heap.size+1) t cs:=by
 have:=Zi.made (w.alloc o) t cs;simpa using this
structure Fz(w:World)(wr:World):Prop where
 a:Zi wr w.heap.size 29 #[I J 0,I J 0,I J 0]
 b:Zi wr (w.heap.size+1) 29 #[I J 0,I J 0,I J 0]
 below:Below w.heap.size w wr
theorem Fz.alloc{w wr:World}(h:Fz w wr)(o:Obj):Fz w (wr.alloc o):=⟨h.a.alloc _,h.b.alloc _,h.below.trans ((Zh _ _).mono h.below.size)⟩
theorem lOrF(l:List Fa)(n m g:Nat)(w:World)(hn:l.length=n)(h64:n≤64)(hW:Zi w g 29 (l.flatMap faL).toArray) :
  Calls Φ 27 #[Λ (some ⟨g,0,none⟩) n m] w fun e w'=>e=η (faV (Jl l))∧Below w.heap.size w w':=by
 have HW:=Hh hW;have HN:=Hh hn;have HV:Hid (∃ V,V=Jl l):=Hh ⟨_,rfl⟩;clear hW hn;have l64:(n:Int)≤64:=by omega
 obtain⟨V,hV⟩:=HV.out;rw[←hV];have HV:=Hh hV;clear hV;go_enter Tryz.func27,Tryz.ntmps27;go_wp2
 go_loopw [8] (fun i wr=>∃ k:Nat,i=I J k∧k≤n∧Fz w wr∧Hid (∀ j,j<k→isZ (l.getD j (0,0,0)))) (fun i _=>n - (intOf i).toNat)
 case atStart=>exact⟨0,by go_num,Nat.zero_le _,⟨(Zi.made _ _ _).alloc _,made2 _ _ _ _,(Zh _ _).trans ((Zh _ _).mono (Zh _ _).size)⟩,Hh fun j hj=>by omega⟩
 case round=>
  obtain⟨k,rfl,hk,hF,hz⟩:=hrel;obtain⟨a0,a1,a2,f0,f1,f2⟩:=Zo hF.a;obtain⟨b0,b1,b2,_,_,_⟩:=Zo hF.b;have hsz:=hF.b.inside;by_cases hlt:k<n
  ·have hW:=HW.out.below hF.below HW.out.inside
   have hin:=hW.inside;have hgw:=HW.out.inside;obtain⟨d0,d1,d2⟩:=cell_fas hW (k:=k) (by have:=HN.out;omega);have hnz:=fun q=>firstNF_at (l:=l) (k:=k) (by have:=HN.out;omega) hz.out q
   rw[←HV.out]at hnz
   have hs:isZ (l.getD k (0,0,0))→Hid (∀ j,j<k+1→isZ (l.getD j (0,0,0))):=fun q=>Hh fun j hj=>by
    rcases Nat.lt_succ_iff_lt_or_eq.1 hj with r | rfl
    ·exact hz.out j r
    ·exact q
   generalize l.getD k (0,0,0)=v at *;obtain⟨v0,v1,v2⟩:=v;dsimp only at d0 d1 d2;have lk:(k:Int)<(n:Int):=by omega
   clear hW hz;by_cases h0:isZ (v0,v1,v2)
   ·have hs2:=hs h0
    clear hs hnz;obtain⟨q0,q1,q2⟩:=h0;dsimp only at q0 q1 q2;subst q0 q1 q2;go_wp2
    go_roundw
    case rel=>exact⟨k+1,by go_num,by omega,hF.alloc _,hs2⟩
    case measure=>simp[intOf];omega
   ·have hx:=hnz h0
    subst hx;clear hnz hs;have hs0:w.heap.size<wr.heap.size:=by omega
    have hs0':¬ w.heap.size=wr.heap.size:=by omega
    by_cases q0:v0=0
    ·by_cases q1:v1=0
     ·have q2:v2≠0:=fun c=>h0 ⟨q0,q1,c⟩
      have e2:(v2 == 0)=false:=by simpa using q2
      subst q0 q1;clear h0;go_wp2
      exact Ya 2 29 29 _ [_,_,_] rfl ((hF.a.set3 _ _ _).alloc _) Yf Zj rfl rfl ⟨rfl,(Below.set3 hF.below (Θ _) _ _ _).alloc (by simpa using hF.below.size) _⟩
     ·have e1:(v1 == 0)=false:=by simpa using q1
      subst q0;clear h0;go_wp2
      exact Ya 2 29 29 _ [_,_,_] rfl ((hF.a.set3 _ _ _).alloc _) Yf Zj rfl rfl ⟨rfl,(Below.set3 hF.below (Θ _) _ _ _).alloc (by simpa using hF.below.size) _⟩
    ·have e0:(v0 == 0)=false:=by simpa using q0
     clear h0;go_wp2
     exact Ya 2 29 29 _ [_,_,_] rfl ((hF.a.set3 _ _ _).alloc _) Yf Zj rfl rfl ⟨rfl,(Below.set3 hF.below (Θ _) _ _ _).alloc (by simpa using hF.below.size) _⟩
  ·have hx:=Zmc (l:=l) fun j hj=>hz.out j (by have:=HN.out;omega)
   rw[←HV.out]at hx;subst hx;go_wp2_with((with_reducible refine Zg 2 17 ?_);refine Za 29 _ _ 29 w.heap.size _ [I J 0,I J 0,I J 0] hF.a rfl Zj (by simp[Γ]) rfl rfl rfl rfl rfl ?_;intro w9 p9;have P9:=Hh p9;clear p9)
   exact Ya 2 29 29 _ [I J 0,I J 0,I J 0] rfl P9.out.whole Yf Zj rfl rfl ⟨rfl,hF.below.trans (P9.out.keeps.below hF.below.size fun q e=>by omega)⟩
open Go Go.RowKit Go.Great
abbrev Bk:=Nat×TypeId×List Value
structure Rw where
 v:Value
 e:TypeId
 sz:Nat
 n:Nat
 xs:List Value
def Zld(w:World)(bs:List Bk)(rs:List Rw)(k:Nat):Prop:=w.heap.size≤k∧(∀ b ∈ bs,b.1≠k)∧∀ r ∈ rs,r.v.ownBlock≠some k
structure Env(w:World)(bs:List Bk)(rs:List Rw)(ts:List (Ds×List Value))(x:World):Prop where
 at_:∀ b ∈ bs,Zi x b.1 b.2.1 b.2.2.toArray
 lo:∀ b ∈ bs,w.heap.size≤b.1
 nod:(bs.map (·.1)).Nodup
 row:∀ r ∈ rs,x.ownsRow w.heap.size r.e r.sz r.v r.n r.xs
 apart:∀ r ∈ rs,∀ b ∈ bs,r.v.ownBlock≠some b.1
 rapart:rs.Pairwise fun a b=>∀ k,a.v.ownBlock=some k→b.v.ownBlock≠some k
 deep:∀ t ∈ ts,Zs (Zld w bs rs) x t.1 t.2
 below:Below w.heap.size w x
section
variable {w x y:World} {bs:List Bk} {rs:List Rw} {ts:List (Ds×List Value)}
theorem Env.start(w:World):Env w [] [] [] w:=
 ⟨(fun _ h=>nomatch h),(fun _ h=>nomatch h),List.nodup_nil,(fun _ h=>nomatch h),(fun _ h=>nomatch h),List.Pairwise.nil,(fun _ h=>nomatch h),Below.refl _ _⟩
theorem Env.box(h:Env w bs rs ts x)(t:TypeId)(vs:List Value):Env w (bs++[(x.heap.size,t,vs)]) rs ts (x.alloc (.cells vs.toArray t)):=by
 have hk:Zy (fun _=>False) x (x.alloc (.cells vs.toArray t)):=Zy.of_below (Zh x _);refine⟨fun b hb=>?_,fun b hb=>?_,?_,fun r hr=>hk.owns (h.row r hr) (fun _ _=>id),fun r hr b hb=>?_,h.rapart,fun u hu=>?_,h.below.alloc h.below.size _⟩
 ·rcases List.mem_append.1 hb with hb | hb
  ·exact(h.at_ b hb).alloc _
  ·cases List.mem_singleton.1 hb;exact Zi.made x t vs.toArray
 ·rcases List.mem_append.1 hb with hb | hb
  ·exact h.lo b hb
  ·cases List.mem_singleton.1 hb;exact h.below.size
 ·rw[List.map_append,List.nodup_append]
  refine⟨h.nod,by simp,fun a ha b hb=>?_⟩;obtain⟨c,hc,rfl⟩:=List.mem_map.1 ha;simp at hb;subst hb;have:=(h.at_ c hc).inside;omega
 ·rcases List.mem_append.1 hb with hb | hb
  ·exact h.apart r hr b hb
  ·cases List.mem_singleton.1 hb
   intro c;have:=((h.row r hr).lt _ c).2;exact Nat.lt_irrefl _ this
 ·refine(h.deep u hu).keeps hk fun k hk hn=>⟨id,hn.1,fun b hb=>?_,hn.2.2⟩
  rcases List.mem_append.1 hb with hb | hb
  ·exact hn.2.1 b hb
  ·cases List.mem_singleton.1 hb
   show x.heap.size≠k;omega
theorem Env.call(h:Env w bs rs ts x)(b:Below x.heap.size x y):Env w bs rs ts y:=
 ⟨fun c hc=>(h.at_ c hc).below b (h.at_ c hc).inside,h.lo,h.nod,fun r hr=>(Zy.of_below (S:=fun _=>False) b).owns (h.row r hr) (fun _ _=>id),h.apart,h.rapart,fun t ht=>(h.deep t ht).below b,h.below.trans (b.mono h.below.size)⟩
theorem Env.tree(h:Env w bs rs ts x)(b:Below x.heap.size x y){ds:Ds}{vs:List Value}(d:Zs (fun k=>x.heap.size≤k) y ds vs):Env w bs rs (ts++[(ds,vs)]) y:=by
 have h':=h.call b;refine⟨h'.at_,h'.lo,h'.nod,h'.row,h'.apart,h'.rapart,fun u hu=>?_,h'.below⟩;rcases List.mem_append.1 hu with hu | hu
 ·exact h'.deep u hu
 ·cases List.mem_singleton.1 hu
  refine d.mono fun k hk hn=>⟨?_,fun c hc=>?_,fun r hr c=>?_⟩
  ·have:=h.below.size;omega
  ·have:=(h.at_ c hc).inside;omega
  ·have:=((h.row r hr).lt _ c).2;omega
theorem Env.drew(h:Env w bs rs ts x):Env w bs rs ts x.drew:=h.call ⟨rfl,rfl,rfl,Θ _,fun _ _=>rfl⟩
theorem Env.drewN(h:Env w bs rs ts x)(n:Nat):Env w bs rs ts (x.drewN n):=h.call ⟨rfl,rfl,rfl,Θ _,fun _ _=>rfl⟩
theorem Env.get(h:Env w bs rs ts x)(i:Nat){g:Nat}{t:TypeId}{vs:List Value}(hi:bs[i]?=some (g,t,vs)):Zi x g t vs.toArray:=
 h.at_ (g,t,vs) (List.mem_of_getElem? hi)
theorem Env.leaf(h:Env w bs rs ts x)(i:Nat){ds:Ds}{vs:List Value}(hi:ts[i]?=some (ds,vs)):Zs (fun k=>w.heap.size≤k) x ds vs:=
 (h.deep (ds,vs) (List.mem_of_getElem? hi)).mono fun k _ hn=>hn.1
theorem Zls{bs:List Bk}{i g:Nat}{t:TypeId}{old ys:List Value}(hi:bs[i]?=some (g,t,old)):(bs.set i (g,t,ys)).map (·.1)=bs.map (·.1):=by
 apply List.ext_getElem?;intro j;rw[List.getElem?_map,List.getElem?_map,List.getElem?_set];by_cases hj:i=j
 ·subst hj
  have hlt:=(List.getElem?_eq_some_iff.1 hi).1;rw[if_pos rfl,if_pos hlt,hi];rfl
 ·rw[if_neg hj]
theorem free_set{bs:List Bk}{rs:List Rw}{i g:Nat}{t:TypeId}{old ys:List Value}(hi:bs[i]?=some (g,t,old)){k:Nat}(h:Zld w bs rs k):Zld w (bs.set i (g,t,ys)) rs k:=by
 refine⟨h.1,fun b hb=>?_,h.2.2⟩;have:b.1 ∈ (bs.set i (g,t,ys)).map (·.1):=List.mem_map_of_mem hb;rw[Zls hi]at this;obtain⟨c,hc,e⟩:=List.mem_map.1 this;rw[←e];exact h.2.1 c hc
theorem Env.put(h:Env w bs rs ts x)(i:Nat){g:Nat}{t:TypeId}{old ys:List Value}(hi:bs[i]?=some (g,t,old))(p:Put x y g t ys):Env w (bs.set i (g,t,ys)) rs ts y:=by
 have hm:=Zls (ys:=ys) hi;have hmem:=List.mem_of_getElem? hi
 have hin:∀ b ∈ bs.set i (g,t,ys),∃ c ∈ bs,c.1=b.1:=fun b hb=>by
  have:b.1 ∈ (bs.set i (g,t,ys)).map (·.1):=List.mem_map_of_mem hb;rw[hm]at this;exact List.mem_map.1 this
 refine⟨fun b hb=>?_,fun b hb=>?_,by rw[hm];exact h.nod,fun r hr=>p.keeps.owns (h.row r hr) (fun k hk e=>?_),fun r hr b hb=>?_,h.rapart,fun u hu=>?_,h.below.trans (p.keeps.below h.below.size fun k e=>by rw[e];exact h.lo _ hmem)⟩
 ·obtain⟨j,hj,hb'⟩:=List.getElem_of_mem hb
  rw[List.getElem_set]at hb';rw[List.length_set]at hj;by_cases e:i=j
  ·rw[if_pos e]at hb'
   rw[←hb'];exact p.whole
  ·rw[if_neg e]at hb'
   rw[←hb'];refine p.keeps.whole (h.at_ _ (List.getElem_mem hj)) fun c=>e ?_
   obtain⟨hlt,hge⟩:=List.getElem?_eq_some_iff.1 hi;have h1:(bs.map (·.1))[i]'(by simpa using hlt)=(bs.map (·.1))[j]'(by simpa using hj):=by simp[hge,c]
   have hp:=List.pairwise_iff_getElem.1 h.nod;rcases Nat.lt_trichotomy i j with q | q | q
   ·exact absurd h1 (hp i j _ _ q)
   ·exact q
   ·exact absurd h1.symm (hp j i _ _ q)
 ·obtain⟨c,hc,e⟩:=hin b hb
  rw[←e];exact h.lo c hc
 ·exact h.apart r hr _ hmem (by rw[hk,e])
 ·obtain⟨c,hc,e⟩:=hin b hb
  rw[←e];exact h.apart r hr c hc
 ·exact(h.deep u hu).keeps p.keeps fun k _ hn=>⟨fun e=>hn.2.1 _ hmem e.symm,free_set hi hn⟩
theorem Env.push{v':Value}{e:TypeId}{sz n:Nat}{xs news:List Value}{v:Value}(h:Env w bs [⟨v,e,sz,n,xs⟩] ts x)(ho:y.ownsRow w.heap.size e sz v' (n+1) (xs++news))(hg:x.grownBy y v.ownBlock)
  (hat:v'.ownBlock=v.ownBlock∨v'.ownBlock=some x.heap.size):Env w bs [⟨v',e,sz,n+1,xs++news⟩] ts y:=by
 have hk:Zy (fun k=>v.ownBlock=some k) x y:=Zy.grown (Zy.refl _ _) hg fun k hk=>hk
 have hr:=h.row _ (List.mem_singleton.2 rfl);have ha:=h.apart _ (List.mem_singleton.2 rfl);refine⟨fun b hb=>hk.whole (h.at_ b hb) (ha b hb),h.lo,h.nod,fun r hr=>?_,fun r hr b hb=>?_,List.pairwise_singleton _ _,fun u hu=>?_,h.below.trans (hk.below h.below.size fun k e=>(hr.lt k e).1)⟩
 ·cases List.mem_singleton.1 hr;exact ho
 ·cases List.mem_singleton.1 hr
  rcases hat with e | e
  ·show v'.ownBlock≠_
   rw[e];exact ha b hb
  ·show v'.ownBlock≠_
   rw[e];intro c;have:=(h.at_ b hb).inside;injection c with c;omega
 ·refine(h.deep u hu).keeps hk fun k hk' hn=>⟨hn.2.2 _ (List.mem_singleton.2 rfl),hn.1,hn.2.1,fun r hr=>?_⟩
  cases List.mem_singleton.1 hr
  rcases hat with e | e
  ·show v'.ownBlock≠_
   rw[e];exact hn.2.2 _ (List.mem_singleton.2 rfl)
  ·show v'.ownBlock≠_
   rw[e];intro c;injection c with c;omega
theorem Env.row1(h:Env w bs [] ts x)(e:TypeId)(sz:Nat):Env w bs [⟨Λ none 0 0,e,sz,0,[]⟩] ts x:=
 ⟨h.at_,h.lo,h.nod,(fun r hr=>by cases List.mem_singleton.1 hr;exact⟨by simp,.inl ⟨rfl,rfl⟩⟩),(fun r hr b hb=>by cases List.mem_singleton.1 hr;simp[Value.ownBlock]),List.pairwise_singleton _ _,
   fun u hu=>(h.deep u hu).mono fun k _ hn=>⟨hn.1,hn.2.1,(fun r hr=>by cases List.mem_singleton.1 hr;simp[Value.ownBlock])⟩,h.below⟩
variable {P:Program} {ops:Array Oper} {rest:List Oper} {o:Oper} {a:Act} {Q:Exit→Act→World→Prop}
theorem Zf(h:Env w bs rs ts x)(t:TypeId)(v:Operand)(vs:List Value)(hg:o.guard=none)(ho:o.op=.box t v)(hv:a.eval v=.agg vs.toArray)
  (hn:∀ y g,Env w (bs++[(g,t,vs)]) rs ts y→wpList P ops Q rest (a.put o.dst (Ω (some ⟨g,0,none⟩))) y):wpList P ops Q (o::rest) a x:=
 wpList_boxTo hg t v ho o.dst rfl x.heap.size rfl vs.toArray (by rw[hv];rfl) (hn _ _ (h.box t vs))
theorem Zb(h:Env w bs rs ts x)(t:TypeId)(vs:List Value)(hg:o.guard=none)(ho:o.op=.alloc t)(hz:(P.info? t).map (fun i=>i.zero.map Value.cells)=some (some vs.toArray))
  (hn:∀ y g,Env w (bs++[(g,t,vs)]) rs ts y→wpList P ops Q rest (a.put o.dst (Ω (some ⟨g,0,none⟩))) y):wpList P ops Q (o::rest) a x:=by
 obtain⟨i,hi,hzz⟩:=Option.map_eq_some_iff.1 hz;obtain⟨z,hz1,hz2⟩:=Option.map_eq_some_iff.1 hzz;refine wpList_runTo hg o.dst rfl (Ω (some ⟨x.heap.size,0,none⟩)) (x.alloc (.cells vs.toArray t)) ?_ (hn _ _ (h.box t vs));unfold execOp;rw[ho];simp[Instr.alloc,zeroValue,typeInfo,hi,hz1,newVar,newRow,hz2,Sem.run_bind,Sem.run_pure,run_newObj_alloc]
end
theorem Env.less{w x:World}{bs cs:List Bk}{rs:List Rw}{ts us:List (Ds×List Value)}(h:Env w (bs++cs) rs (ts++us) x):Env w bs rs ts x:=
 ⟨fun b hb=>h.at_ b (List.mem_append_left _ hb),fun b hb=>h.lo b (List.mem_append_left _ hb),by have:=h.nod;rw[List.map_append,List.nodup_append]at this;exact this.1,h.row,fun r hr b hb=>h.apart r hr b (List.mem_append_left _ hb),h.rapart,
   fun u hu=>(h.deep u (List.mem_append_left _ hu)).mono fun k _ hn=>⟨hn.1,fun b hb=>hn.2.1 b (List.mem_append_left _ hb),hn.2.2⟩,h.below⟩
theorem Env.cell{w x:World}{bs:List Bk}{rs:List Rw}{ts:List (Ds×List Value)}(h:Env w bs rs ts x)(i n:Nat){g:Nat}{t:TypeId}{vs:List Value}{v:Value}(hi:bs[i]?=some (g,t,vs))(hv:vs[n]?=some v):x.cell? ⟨g,n,none⟩=some v:=by
 rw[(h.get i hi).read n,List.getElem?_toArray,hv]
theorem Env.perm{w x:World}{bs cs:List Bk}{rs:List Rw}{ts:List (Ds×List Value)}(h:Env w bs rs ts x)(p:bs.Perm cs):Env w cs rs ts x:=
 ⟨fun b hb=>h.at_ b (p.mem_iff.2 hb),fun b hb=>h.lo b (p.mem_iff.2 hb),(p.map _).nodup_iff.1 h.nod,h.row,fun r hr b hb=>h.apart r hr b (p.mem_iff.2 hb),h.rapart,
   fun t ht=>(h.deep t ht).mono fun k _ hn=>⟨hn.1,fun b hb=>hn.2.1 b (p.mem_iff.2 hb),hn.2.2⟩,h.below⟩
end Go.Proofs.YtbdecchpleiepaaGreat
