/- Parts of the proof. No conditions but those that each names. -/
import Derived.Deep.QuietTactic
import Derived.BigQuiet
import Derived.Deep.RegionHeld3
import Derived.RegionTactic
import Derived.Deep.MidRow
import Derived.Great.Ranges
import Derived.Great.Walk
import Derived.StillTailTactics
import Derived.Laws.Concat
import Derived.Laws.Strings
import Derived.Deep.RegionWith
import Derived.Deep.DeepCutAuto
import Derived.Lib.Builder
import Derived.Lib.UnsafeStr
import Derived.Lib.Hide
import Derived.IntWalk
import Derived.Test.YtdngkgickbaboaaGreatQF7
set_option maxRecDepth 20000
set_option maxHeartbeats 12800000
set_option linter.unusedVariables false
set_option linter.unusedSimpArgs false
namespace Go.Proofs.YtdngkgickbaboaaGreat
open Go.Value renaming int→I,slice→Λ,pointer→Ω,string→Ψ,oneCell'→Γ
open Go.IntKind renaming i64→J
open _root_.Go.Proofs.Tryz renaming prog→Φ
open Nat renaming le_refl→Θ
open Nat renaming le_trans→Ξ
open _root_.ByteArray renaming size_append→Δ
open And renaming intro→ζ
open Go.Ending renaming returned→η
open Go.ChangeShapes Go.WideShapes Go.ChangeAt Go.RowKit
theorem add_add'(x:Addr)(n m:Nat):(x.add n).add m=x.add (n+m):=by
 unfold Addr.add;by_cases h:n=0
 ·subst h;simp
 ·by_cases h2:m=0
  ·subst h2;simp
  ·simp[h,h2,Nat.add_assoc]
theorem tokCs_at(L:List TokV):∀(i j:Nat)(h:i<L.length),j<5→(Zaj L)[i*5+j]?=(L[i]'h).cells[j]?:=by
 induction L with
 |nil=>intro i j h;simp at h
 |cons v L ih=>
  intro i j h hj;have e:Zaj (v::L)=v.cells++Zaj L:=rfl;have hl:v.cells.length=5:=rfl;rw[e];cases i with
  |zero=>rw[Nat.zero_mul,Nat.zero_add,List.getElem?_append_left (by omega)];rfl
  |succ i=>
   rw[List.getElem?_append_right (by omega),hl,show(i+1)*5+j - 5=i*5+j from by omega];exact ih i j (by simpa using h) hj
theorem Zia.tok{w:World}{A:Option Addr}{L:List TokV}(h:Zia w A (Zaj L)){i:Nat}(hi:i<L.length) :
  ∃ x,A=some x∧x.block<w.heap.size∧w.cell? (x.add (i*5))=some (I J (L[i]'hi).k)∧w.cell? ⟨(x.add (i*5)).block,(x.add (i*5)).off+1,none⟩=some (Ψ (L[i]'hi).t) ∧
   w.cell? ⟨(x.add (i*5)).block,(x.add (i*5)).off+2,none⟩=some (I J (L[i]'hi).n)∧w.cell? ⟨(x.add (i*5)).block,(x.add (i*5)).off+3,none⟩=some (I J ((L[i]'hi).line:Int)) ∧
   w.cell? ⟨(x.add (i*5)).block,(x.add (i*5)).off+4,none⟩=some (I J ((L[i]'hi).col:Int)):=by
 have hl:=Zll L;obtain⟨x,hA,hx,hc⟩:=h.at_ (by omega)
 have key:∀ j,j<5→w.cell? ((x.add (i*5)).add j)=(L[i]'hi).cells[j]?:=fun j hj=>by
  rw[add_add',hc _ (by omega),tokCs_at L i j hi hj]
 exact⟨x,hA,hx,key 0 (by omega),key 1 (by omega),key 2 (by omega),key 3 (by omega),key 4 (by omega)⟩
theorem own5_reads{w:World}{base:Nat}{e:TypeId}{v:Value}{xs:List Value}{n:Nat}(h:w.ownsRow base e 5 v n xs):∃ A c,v=Λ A n c∧n≤9223372036854775807∧Zia w A xs:=by
 obtain⟨A,c,hv,hn,hm,hc⟩:=Xq h;exact⟨A,c,hv,by unfold maxLen at hm;omega,hc.reads⟩
theorem own5_at{w:World}{base:Nat}{e:TypeId}{v:Value}{xs:List Value}{n:Nat}(h:w.ownsRow base e 5 v n xs)(hn:0<n):∃ g c,v=Λ (some ⟨g,0,none⟩) n c∧g<w.heap.size∧∀ j,j<xs.length→w.cell? ⟨g,j,none⟩=xs[j]?:=by
 obtain⟨hl,h0 | ⟨g,cap,cur,rfl,hb,hg,h1,h2,h3,h4⟩⟩:=h
 ·omega
 ·have hw:Ze w g e cur:=hg
  refine⟨g,cap,rfl,hw.inside,fun j hj=>?_⟩;rw[hw.read j,←h4,List.getElem?_take_of_lt (by omega),Array.getElem?_toList]
structure Ja(w:World)(p r K:Nat)(L:List TokV)(a d:Nat):Prop where
 whole:Ze w p 171 #[Λ (some ⟨r,a*5,none⟩) (L.length - a) (K - a),I J (d:Int)]
 row:∀ j,j<(Zaj L).length→w.cell? ⟨r,j,none⟩=(Zaj L)[j]?
 rin:r<w.heap.size
 ne:r≠p
 ends:Zog L
 inn:a<L.length
 capL:L.length≤K
 capM:K≤9223372036854775807
 deep:d≤8
theorem Ja.look{w:World}{p r K:Nat}{L:List TokV}{a d:Nat}(h:Ja w p r K L a d):At w p (Zx L a) d r (a*5) (L.length - a) (K - a):=by
 have hi:=h.inn;have hl:=Zll L
 have key:∀ j,j<5→w.cell? ⟨r,a*5+j,none⟩=(Zx L a).cells[j]?:=fun j hj=>by
  rw[h.row _ (by omega),tokCs_at L a j hi hj,curT_get L a hi]
 exact⟨h.whole.read 0,h.whole.read 1,key 0 (by omega),key 1 (by omega),key 2 (by omega),key 3 (by omega),key 4 (by omega),h.whole.inside,h.rin,by omega,by have:=h.capM;have:=h.capL;omega⟩
theorem Ja.keeps{w w':World}{p r K:Nat}{L:List TokV}{a d:Nat}(h:Ja w p r K L a d){S:Nat→Prop}(hk:Zy S w w')(hp:¬ S p)(hr:¬ S r):Ja w' p r K L a d:=
 ⟨hk.whole h.whole hp,fun j hj=>(World.cell?_of_block (a:=⟨r,j,none⟩) (hk.block r h.rin hr)).trans (h.row j hj),Nat.lt_of_lt_of_le h.rin hk.size,h.ne,h.ends,h.inn,h.capL,h.capM,h.deep⟩
theorem Ja.below{w w':World}{p r K:Nat}{L:List TokV}{a d:Nat}(h:Ja w p r K L a d)(hb:Below w.heap.size w w'):Ja w' p r K L a d:=
 h.keeps (S:=fun _=>False) (Zy.of_below hb) id id
structure Zap(w w':World)(p r K:Nat)(L:List TokV)(a d:Nat):Prop where
 at_:Ja w' p r K L a d
 keeps:Zy (fun k=>k=p) w w'
theorem Ja.moved{w:World}{p r K:Nat}{L:List TokV}{a d:Nat}(h:Ja w p r K L a d)(b:Nat)(hb:b<L.length)(u:Value)(hu:u=Λ (some ⟨r,b*5,none⟩) (L.length - b) (K - b)):Ja (w.setCell ⟨p,0,none⟩ u) p r K L b d:=by
 subst hu;refine⟨h.whole.write 0 _,fun j hj=>?_,by simp[World.setCell];exact h.rin,h.ne,h.ends,hb,h.capL,h.capM,h.deep⟩;rw[World.cell?_of_block (a:=⟨r,j,none⟩) (w:=w) (Below.heap_setCell _ _ _ _ h.ne)];exact h.row j hj
theorem Ja.deeper{w:World}{p r K:Nat}{L:List TokV}{a d:Nat}(h:Ja w p r K L a d)(e:Nat)(he:e≤8)(u:Value)(hu:u=I J (e:Int)):Ja (w.setCell ⟨p,1,none⟩ u) p r K L a e:=by
 subst hu;refine⟨h.whole.write 1 _,fun j hj=>?_,by simp[World.setCell];exact h.rin,h.ne,h.ends,h.inn,h.capL,h.capM,he⟩;rw[World.cell?_of_block (a:=⟨r,j,none⟩) (w:=w) (Below.heap_setCell _ _ _ _ h.ne)];exact h.row j hj
def Ziz(w:World)(p r K:Nat)(L:List TokV)(a d:Nat)(val:Value)(e:Ending)(w':World):Prop:=e=η val∧Zap w w' p r K L a d
theorem Zy.inner{S T:Nat→Prop}{a b:World}(h:Zy S a b)(hs:∀ k,k<a.heap.size→S k→T k):Zy T a b:=⟨h.os,h.tape,h.output,h.size,fun k hk hn=>h.block k hk fun c=>hn (hs k hk c)⟩
theorem Zap.on{w x y:World}{p r K:Nat}{L:List TokV}{a d:Nat}(m:Zap w x p r K L a d){G:Nat}(hk:Zy (fun k=>k=G) x y)(hG:w.heap.size≤G)(hp:p<w.heap.size)(hr:r<w.heap.size):Zap w y p r K L a d:=by
 refine⟨m.at_.keeps hk (by omega) (by omega),?_⟩;have h1:Zy (fun k=>k=p∨k=G) w x:=m.keeps.mono fun k h=>.inl h
 have h2:Zy (fun k=>k=p∨k=G) x y:=hk.mono fun k h=>.inr h
 exact(h1.trans h2).inner fun k hk h=>by omega
theorem Zap.next{w x y:World}{p r K:Nat}{L:List TokV}{a d:Nat}(m:Zap w x p r K L a d)(hb:Below x.heap.size x y):Zap w y p r K L a d:=
 ⟨m.at_.below hb,m.keeps.trans (Zy.of_below hb)⟩
theorem Zap.then{w x y:World}{p r K:Nat}{L:List TokV}{a d b e:Nat}(m:Zap w x p r K L a d)(h:Zap x y p r K L b e):Zap w y p r K L b e:=⟨h.at_,m.keeps.trans h.keeps⟩
theorem Zap.start{w:World}{p r K:Nat}{L:List TokV}{a d:Nat}(h:Ja w p r K L a d):Zap w w p r K L a d:=⟨h,Zy.refl _ _⟩
theorem keeps5(x:World)(g:Nat)(a b c d e:Value):Zy (fun k=>k=g) x (((((x.setCell ⟨g,0,none⟩ a).setCell ⟨g,1,none⟩ b).setCell ⟨g,2,none⟩ c).setCell ⟨g,3,none⟩ d).setCell ⟨g,4,none⟩ e):=
 ((((Zy.setCell (S:=fun k=>k=g) (Zy.refl _ x) rfl a).setCell rfl b).setCell rfl c).setCell rfl d).setCell rfl e
theorem Zfn(x:World)(g:Nat)(a b c:Value):Zy (fun k=>k=g) x (((x.setCell ⟨g,0,none⟩ a).setCell ⟨g,1,none⟩ b).setCell ⟨g,2,none⟩ c):=
 ((Zy.setCell (S:=fun k=>k=g) (Zy.refl _ x) rfl a).setCell rfl b).setCell rfl c
theorem Zj(w:World)(o:Obj):Below w.heap.size w (w.alloc o):=(Below.refl _ _).alloc (Θ _) o
theorem cNext(w:World)(p r K:Nat)(L:List TokV)(a d:Nat)(h:Ja w p r K L a d) :
  Calls Φ 135 #[Ω (some ⟨p,0,none⟩)] w (Ziz w p r K L (onA L a) d (Vt (Zx L a))):=by
 have h1:=h.below ((Below.refl _ _).alloc (Θ _) (.cells #[I J 0,Ψ ⟨#[]⟩,I J 0,I J 0,I J 0] 69));have F0:=Ze.made w 69 #[I J 0,Ψ ⟨#[]⟩,I J 0,I J 0,I J 0];have H1:=Hh h1;have HL:=Hh h1.look;have hcM:=h.capM;have hcL:=h.capL;have hin:=h.inn;have hon:=h.ends.on h.inn;have hlast:=h.ends.last a h.inn;have pin:=h.whole.inside;have rin:=h.rin;have HC:=Hh h;unfold onA at hon ⊢;clear h h1;unfold Vt;generalize hv:Zx L a=v at *;by_cases hk:v.k=0
 ·have q0:(v.k != 0)=false:=by rw[hk];rfl
  rw[if_pos hk]at hon ⊢;have HH:=Hh (ζ hv (ζ hk (ζ hlast hon)));clear hv hk hlast hon;go_enter Tryz.func135,Tryz.ntmps135;go_wp2_with(go_at_call 71;refine(Zof _ _ _ _ _ _ _ _ HL.out).mono ?_;rintro e w2 ⟨rfl,b2⟩;have C2:=Hh (H1.out.below b2);have W2:=Hh (F0.below b2 (by simp));have hz:=W2.out.inside;obtain⟨k0,k1,k2,k3,k4,f0,f1,f2,f3,f4⟩:=Zbi W2.out;have B2:=Hh b2;clear b2;simp only[Vt])
  have hF:=Zcc ((Ze.set5 W2.out (I J v.k) (Ψ v.t) (I J v.n) (I J (v.line:Int)) (I J (v.col:Int))).alloc (.cells #[I J v.k,Ψ v.t,I J v.n,I J (v.line:Int),I J (v.col:Int)] 69));refine bodyPost_ret (v:=.agg #[I J v.k,Ψ v.t,I J v.n,I J (v.line:Int),I J (v.col:Int)]) (by simp[results,Tryz.results135,go_sem,hF]) rfl ⟨rfl,?_⟩;exact(((Zap.start HC.out).next (Zj _ _)).next B2.out).on ((keeps5 _ _ _ _ _ _ _).alloc _) (Θ _) pin rin
 ·have q0:(v.k != 0)=true:=by rw[bne_iff_ne];exact hk
  rw[if_neg hk]at hon ⊢;have HH:=Hh (ζ hv (ζ hk (ζ hlast hon)));clear hv hk hlast;have l1:1≤((L.length - a:Nat):Int):=by omega
  have l2:((L.length - a:Nat):Int)≤((K - a:Nat):Int):=by omega
  have l3:((K - a:Nat):Int)≤9223372036854775807:=by omega
  have l4:K - a≠1:=by omega
  generalize hN:L.length - a=n at *;generalize hC:K - a=c at *;generalize hO:a*5=o at *;have HN:=Hh (ζ hN (ζ hC hO));clear hN hC hO hcM hcL hin hon;go_enter Tryz.func135,Tryz.ntmps135;go_wp2_with(go_at_call 71;refine(Zof _ _ _ _ _ _ _ _ HL.out).mono ?_;rintro e w2 ⟨rfl,b2⟩;have C2:=Hh (H1.out.below b2);have W2:=Hh (F0.below b2 (by simp));have hz:=W2.out.inside;obtain⟨k0,k1,k2,k3,k4,f0,f1,f2,f3,f4⟩:=Zbi W2.out;have hp2:=C2.out.whole.inside;have c0:=(HL.out.below b2).c0;have z0:=C2.out.whole.thawed 0;have B2:=Hh b2;clear b2;simp only[Vt])
  have hne:w.heap.size≠p:=by omega
  have hF:=Zcc ((Ze.set5 (W2.out.aside (p:=⟨p,0,none⟩) hne (Λ (some ⟨r,o+5,none⟩) (n - 1) (c - 1))) (I J v.k) (Ψ v.t) (I J v.n) (I J (v.line:Int)) (I J (v.col:Int))).alloc (.cells #[I J v.k,Ψ v.t,I J v.n,I J (v.line:Int),I J (v.col:Int)] 69));refine bodyPost_ret (v:=.agg #[I J v.k,Ψ v.t,I J v.n,I J (v.line:Int),I J (v.col:Int)]) (by simp[results,Tryz.results135,go_sem,hF]) rfl ⟨rfl,?_⟩;have m2:=((Zap.start HC.out).next (Zj _ _)).next B2.out
  have m3:Zap w (w2.setCell ⟨p,0,none⟩ (Λ (some ⟨r,o+5,none⟩) (n - 1) (c - 1))) p r K L (a+1) d:=by
   refine⟨m2.at_.moved (a+1) HH.out.2.2.2 _ ?_,m2.keeps.setCell rfl _⟩;obtain⟨e1,e2,e3⟩:=HN.out;rw[←e1,←e2,←e3,show(a+1)*5=a*5+5 from by omega,Nat.sub_sub,Nat.sub_sub]
  exact m3.on ((keeps5 _ _ _ _ _ _ _).alloc _) (Θ _) pin rin
theorem cTake(w:World)(p r K:Nat)(L:List TokV)(a d:Nat)(t:ByteArray)(h:Ja w p r K L a d) :
  Calls Φ 99 #[Ω (some ⟨p,0,none⟩),Ψ t] w (Ziz w p r K L (Zck L a t) d (.bool (isT (Zx L a) t))):=by
 have hi:=cIs w p _ _ _ _ _ _ t h.look;have HC:=Hh h;clear h;unfold Zck;cases hb:isT (Zx L a) t
 ·rw[hb]at hi
  rw[if_neg (by decide)];clear hb;go_enter Tryz.func99,Tryz.ntmps99;go_wp2_with(go_at_call 128;refine hi.mono ?_;rintro e w2 ⟨rfl,b2⟩;have B2:=Hh b2;clear b2)
  go_ret;exact⟨rfl,(Zap.start HC.out).next B2.out⟩
 ·rw[hb]at hi
  rw[if_pos rfl];clear hb;go_enter Tryz.func99,Tryz.ntmps99;go_wp2_with(first
 |(go_at_call 128;refine hi.mono ?_;rintro e w2 ⟨rfl,b2⟩;have B2:=Hh b2;have C2:=Hh (HC.out.below b2);clear b2)
 |(go_at_call 135;refine(cNext _ _ _ _ _ _ _ C2.out).mono ?_;rintro e w3 ⟨rfl,m3⟩;have M3:=Hh m3;clear m3))
  go_ret;exact⟨rfl,((Zap.start HC.out).next B2.out).then M3.out⟩
theorem cWant(w:World)(p r K:Nat)(L:List TokV)(a d:Nat)(t:ByteArray)(h:Ja w p r K L a d) :
  Calls Φ 190 #[Ω (some ⟨p,0,none⟩),Ψ t] w (Ziz w p r K L (Zck L a t) d (Zq (wantF L a t))):=by
 have h1:=h.below (Zj w (.cells #[I J 0,I J 0,I J 0] 29));have F0:=Hh (Ze.made w 29 #[I J 0,I J 0,I J 0]);have hi:=cTake _ p r K L a d t h1;have HC:=Hh h;have pin:=h.whole.inside;have rin:=h.rin;have hpw:¬(w.heap.size=p):=by omega
 clear h h1;unfold Zck at hi;unfold Zck wantF;cases hb:isT (Zx L a) t
 ·rw[hb]at hi
  rw[if_neg (by decide)]at hi ⊢;rw[if_neg (by decide)];clear hb;go_enter Tryz.func190,Tryz.ntmps190;go_wp2_with(first
 |(go_at_call 99;refine hi.mono ?_;rintro e w2 ⟨rfl,m2⟩;have M2:=Hh m2;clear m2)
 |(go_at_call 73;refine(cWrong _ _ _ _ _ _ _ _ M2.out.at_.look).mono ?_;rintro e w3 ⟨rfl,b3⟩;have W3:=Hh ((M2.out.keeps.whole F0.out hpw).below b3 (M2.out.keeps.whole F0.out hpw).inside);obtain⟨k0,k1,k2,f0,f1,f2⟩:=Yc W3.out;have hz:=W3.out.inside;have B3:=Hh b3;clear b3;simp only[Zq]))
  have hF:=Yc (Ze.set3 W3.out (I J (wrF (Zx L a)).1) (I J ((wrF (Zx L a)).2.1:Int)) (I J ((wrF (Zx L a)).2.2:Int)));refine bodyPost_ret (v:=Zq (wrF (Zx L a))) (by simp[results,Tryz.results190,go_sem,hF,Zq]) rfl ⟨rfl,?_⟩;exact(((Zap.start HC.out).next (Zj _ _)).then (M2.out.next B3.out)).on (Zfn _ _ _ _ _) (Θ _) pin rin
 ·rw[hb]at hi
  rw[if_pos rfl]at hi ⊢;rw[if_pos rfl];clear hb;go_enter Tryz.func190,Tryz.ntmps190;go_wp2_with(go_at_call 99;refine hi.mono ?_;rintro e w2 ⟨rfl,m2⟩;have M2:=Hh m2;have W3:=Hh (M2.out.keeps.whole F0.out hpw);obtain⟨k0,k1,k2,f0,f1,f2⟩:=Yc W3.out;have hz:=W3.out.inside;clear m2)
  have hF:=Yc (Ze.set3 W3.out (I J 0) (I J 0) (I J 0));refine bodyPost_ret (v:=Zq okF) (by simp[results,Tryz.results190,go_sem,hF,Zq,okF]) rfl ⟨rfl,?_⟩;exact(((Zap.start HC.out).next (Zj _ _)).then M2.out).on (Zfn _ _ _ _ _) (Θ _) pin rin
theorem two_set{y:World}{g:Nat}{t u:TypeId}{a b c d e f h i:Value}(w0:Ze y g t #[a,b,c,d,e])(w1:Ze y (g+1) u #[f,h,i])(x0 x1 x2 x3 x4 y0 y1 y2:Value) :
  Ze ((((((((y.setCell ⟨g,0,none⟩ x0).setCell ⟨g,1,none⟩ x1).setCell ⟨g,2,none⟩ x2).setCell ⟨g,3,none⟩ x3).setCell ⟨g,4,none⟩ x4).setCell ⟨g+1,0,none⟩ y0).setCell ⟨g+1,1,none⟩ y1).setCell ⟨g+1,2,none⟩ y2) g t #[x0,x1,x2,x3,x4] ∧
  Ze ((((((((y.setCell ⟨g,0,none⟩ x0).setCell ⟨g,1,none⟩ x1).setCell ⟨g,2,none⟩ x2).setCell ⟨g,3,none⟩ x3).setCell ⟨g,4,none⟩ x4).setCell ⟨g+1,0,none⟩ y0).setCell ⟨g+1,1,none⟩ y1).setCell ⟨g+1,2,none⟩ y2) (g+1) u #[y0,y1,y2]:=by
 have n1:g≠g+1:=by omega
 have n2:g+1≠g:=by omega
 exact⟨(((w0.set5 x0 x1 x2 x3 x4).aside n1 y0).aside n1 y1).aside n1 y2,Ze.set3 (((((w1.aside n2 x0).aside n2 x1).aside n2 x2).aside n2 x3).aside n2 x4) y0 y1 y2⟩
def Zpp(L:List TokV)(a:Nat)(k:Int):TokV:=if(Zx L a).k=k then Zx L a else zTok
theorem cKind(w:World)(p r K:Nat)(L:List TokV)(a d:Nat)(k:Int)(h:Ja w p r K L a d) :
  Calls Φ 186 #[Ω (some ⟨p,0,none⟩),I J k] w (Ziz w p r K L (Vz L a k) d (.tuple #[Vt (Zpp L a k),Zq (Wl L a k)])):=by
 have nb1:=Zj w (.cells #[I J 0,Ψ ⟨#[]⟩,I J 0,I J 0,I J 0] 69);have nb2:=Zj (w.alloc (.cells #[I J 0,Ψ ⟨#[]⟩,I J 0,I J 0,I J 0] 69)) (.cells #[I J 0,I J 0,I J 0] 29);have T0:=Two.start w 69 #[I J 0,Ψ ⟨#[]⟩,I J 0,I J 0,I J 0] 29 #[I J 0,I J 0,I J 0];have H2:=Hh ((h.below nb1).below nb2);have HM:=Hh (((Zap.start h).next nb1).next nb2);have T:=Hh T0;have hfd:=fun w=>Zgr (Zx L a).k (Zx L a).n ((Zx L a).line:Int) ((Zx L a).col:Int) (Zx L a).t w
 have pin:=h.whole.inside;have rin:=h.rin;have hpw:¬(w.heap.size=p):=by omega
 have hpv:¬(w.heap.size+1=p):=by omega
 clear h nb1 nb2 T0;unfold Vz Wl Zpp;by_cases hk:(Zx L a).k=k
 ·have q0:((Zx L a).k != k)=false:=by rw[bne_eq_false_iff_eq];exact hk
  rw[if_pos hk,if_pos hk,if_pos hk];clear hk;go_enter Tryz.func186,Tryz.ntmps186;go_wp2_with(first
 |(go_at_call 71;refine(Zof _ _ _ _ _ _ _ _ H2.out.look).mono ?_;rintro e w3 ⟨rfl,b3⟩;have T3:=Hh (T.out.next b3);have M3:=Hh (HM.out.next b3);clear b3;simp only[Vt])
 |(go_at_call 135;refine(cNext _ _ _ _ _ _ _ M3.out.at_).mono ?_;rintro e w4 ⟨rfl,m4⟩;have W0:=Hh (m4.keeps.whole T3.out.k0 hpw);have W1:=Hh (m4.keeps.whole T3.out.k1 hpv);obtain⟨k0,k1,k2,k3,k4,f0,f1,f2,f3,f4⟩:=Zbi W0.out;obtain⟨g0,g1,g2,z0,z1,z2⟩:=Yc W1.out;have hz:=W1.out.inside;have M4:=Hh (M3.out.then m4);clear m4;simp only[Vt]))
  have hFG:=two_set W0.out W1.out (I J (Zx L a).k) (Ψ (Zx L a).t) (I J (Zx L a).n) (I J ((Zx L a).line:Int)) (I J ((Zx L a).col:Int)) (I J 0) (I J 0) (I J 0);have hF:=Zcc hFG.1;have hG:=Yc hFG.2;refine bodyPost_ret (v:=.tuple #[Vt (Zx L a),Zq okF]) (by simp[results,Tryz.results186,go_sem,hF,hG,Zq,okF,Vt]) rfl ⟨rfl,?_⟩;exact(M4.out.on (keeps5 _ _ _ _ _ _ _) (Θ _) pin rin).on (Zfn _ _ _ _ _) (by omega) pin rin
 ·have q0:((Zx L a).k != k)=true:=by rw[bne_iff_ne];exact hk
  rw[if_neg hk,if_neg hk,if_neg hk];clear hk;go_enter Tryz.func186,Tryz.ntmps186;go_wp2_with(first
 |(go_at_call 71;refine(Zof _ _ _ _ _ _ _ _ H2.out.look).mono ?_;rintro e w3 ⟨rfl,b3⟩;have T3:=Hh (T.out.next b3);have M3:=Hh (HM.out.next b3);clear b3;simp only[Vt])
 |(go_at_call 73;refine(cWrong _ _ _ _ _ _ _ _ M3.out.at_.look).mono ?_;rintro e w4 ⟨rfl,b4⟩;have W0:=Hh (T3.out.next b4).k0;have W1:=Hh (T3.out.next b4).k1;obtain⟨k0,k1,k2,k3,k4,f0,f1,f2,f3,f4⟩:=Zbi W0.out;obtain⟨g0,g1,g2,z0,z1,z2⟩:=Yc W1.out;have hz:=W1.out.inside;have M4:=Hh (M3.out.next b4);clear b4;simp only[Zq]))
  have hFG:=two_set W0.out W1.out (I J 0) (Ψ ⟨#[]⟩) (I J 0) (I J 0) (I J 0) (I J (wrF (Zx L a)).1) (I J ((wrF (Zx L a)).2.1:Int)) (I J ((wrF (Zx L a)).2.2:Int));have hF:=Zcc hFG.1;have hG:=Yc hFG.2;refine bodyPost_ret (v:=.tuple #[Vt zTok,Zq (wrF (Zx L a))]) (by simp[results,Tryz.results186,go_sem,hF,hG,Zq,zTok,Vt]) rfl ⟨rfl,?_⟩;exact(M4.out.on (keeps5 _ _ _ _ _ _ _) (Θ _) pin rin).on (Zfn _ _ _ _ _) (by omega) pin rin
theorem kindT_n(L:List TokV)(a:Nat):(Zpp L a 2).n=Zkh L a:=by unfold Zpp Zkh;split<;>rfl
theorem kindT_t(L:List TokV)(a:Nat):(Zpp L a 3).t=Zmd L a:=by unfold Zpp Zmd;split<;>rfl
theorem cInt(w:World)(p r K:Nat)(L:List TokV)(a d:Nat)(h:Ja w p r K L a d) :
  Calls Φ 168 #[Ω (some ⟨p,0,none⟩)] w (Ziz w p r K L (Vz L a 2) d (.tuple #[I J (Zkh L a),Zq (Wl L a 2)])):=by
 have nb1:=Zj w (.cells #[I J 0,I J 0,I J 0] 29);have H1:=Hh (h.below nb1);have F0:=Hh (Ze.made w 29 #[I J 0,I J 0,I J 0]);have HM:=Hh ((Zap.start h).next nb1);have pin:=h.whole.inside;have rin:=h.rin;have hpw:¬(w.heap.size=p):=by omega
 clear h nb1;rw[←kindT_n];generalize hv:Zpp L a 2=v at *;generalize hf:Wl L a 2=f at *;have HV:=Hh (ζ hv hf)
 have hi:Calls Φ 186 #[Ω (some ⟨p,0,none⟩),I J 2] (w.alloc (.cells #[I J 0,I J 0,I J 0] 29)) (Ziz (w.alloc (.cells #[I J 0,I J 0,I J 0] 29)) p r K L (Vz L a 2) d (.tuple #[Vt v,Zq f])):=by
  have:=cKind _ p r K L a d 2 H1.out;rw[hv,hf]at this;exact this
 clear hv hf;obtain⟨f1,f2,f3⟩:=f;go_enter Tryz.func168,Tryz.ntmps168;go_wp2_with(go_at_call 186;refine hi.mono ?_;rintro e w3 ⟨rfl,m3⟩;have W0:=Hh (m3.keeps.whole F0.out hpw);obtain⟨g0,g1,g2,z0,z1,z2⟩:=Yc W0.out;have hz:=W0.out.inside;have M3:=Hh (HM.out.then m3);clear m3;simp only[Vt,Zq])
 go_region
 all_goals
  go_wp2
  have hF:=Yc ((((Ze.set3 W0.out (I J f1) (I J (f2:Int)) (I J (f3:Int))).alloc (.cells #[I J v.k,Ψ v.t,I J v.n,I J (v.line:Int),I J (v.col:Int)] 69)).alloc (.cells #[I J f1,I J (f2:Int),I J (f3:Int)] 29)).drew);refine bodyPost_ret (v:=.tuple #[I J v.n,Zq (f1,f2,f3)]) (by simp[results,Tryz.results168,go_sem,hF,Zq]) rfl ⟨rfl,?_⟩;exact M3.out.on ((((Zfn _ _ _ _ _).alloc _).alloc _).drew) (Θ _) pin rin
theorem cName(w:World)(p r K:Nat)(L:List TokV)(a d:Nat)(h:Ja w p r K L a d) :
  Calls Φ 189 #[Ω (some ⟨p,0,none⟩)] w (Ziz w p r K L (Vz L a 3) d (.tuple #[Ψ (Zmd L a),Zq (Wl L a 3)])):=by
 have nb1:=Zj w (.cells #[I J 0,I J 0,I J 0] 29);have H1:=Hh (h.below nb1);have F0:=Hh (Ze.made w 29 #[I J 0,I J 0,I J 0]);have HM:=Hh ((Zap.start h).next nb1);have pin:=h.whole.inside;have rin:=h.rin;have hpw:¬(w.heap.size=p):=by omega
 clear h nb1;rw[←kindT_t];generalize hv:Zpp L a 3=v at *;generalize hf:Wl L a 3=f at *;have HV:=Hh (ζ hv hf)
 have hi:Calls Φ 186 #[Ω (some ⟨p,0,none⟩),I J 3] (w.alloc (.cells #[I J 0,I J 0,I J 0] 29)) (Ziz (w.alloc (.cells #[I J 0,I J 0,I J 0] 29)) p r K L (Vz L a 3) d (.tuple #[Vt v,Zq f])):=by
  have:=cKind _ p r K L a d 3 H1.out;rw[hv,hf]at this;exact this
 clear hv hf;obtain⟨f1,f2,f3⟩:=f;go_enter Tryz.func189,Tryz.ntmps189;go_wp2_with(go_at_call 186;refine hi.mono ?_;rintro e w3 ⟨rfl,m3⟩;have W0:=Hh (m3.keeps.whole F0.out hpw);obtain⟨g0,g1,g2,z0,z1,z2⟩:=Yc W0.out;have hz:=W0.out.inside;have M3:=Hh (HM.out.then m3);clear m3;simp only[Vt,Zq])
 go_region
 all_goals
  go_wp2
  have hF:=Yc ((((Ze.set3 W0.out (I J f1) (I J (f2:Int)) (I J (f3:Int))).alloc (.cells #[I J v.k,Ψ v.t,I J v.n,I J (v.line:Int),I J (v.col:Int)] 69)).alloc (.cells #[I J f1,I J (f2:Int),I J (f3:Int)] 29)).drew);refine bodyPost_ret (v:=.tuple #[Ψ v.t,Zq (f1,f2,f3)]) (by simp[results,Tryz.results189,go_sem,hF,Zq]) rfl ⟨rfl,?_⟩;exact M3.out.on ((((Zfn _ _ _ _ _).alloc _).alloc _).drew) (Θ _) pin rin
theorem cUp(w:World)(p r K:Nat)(L:List TokV)(a d:Nat)(h:Ja w p r K L a d) :
  Calls Φ 185 #[Ω (some ⟨p,0,none⟩)] w (Ziz w p r K L a (d - 1) (.tuple #[])):=by
 have HC:=Hh h;have c1:=h.look.c1;have z1:=h.whole.thawed 1;have hd:=h.deep;clear h;by_cases h0:0<d
 ·have l0:(0:Int)<(d:Int):=by omega
  have l1:(d:Int)≤8:=by omega
  have H0:=Hh h0;have HD:=Hh hd;clear hd;go_enter Tryz.func185,Tryz.ntmps185;go_wp2
  go_end0
  exact⟨rfl,HC.out.deeper (d - 1) (by have:=HD.out;omega) _ (by have:=H0.out;rw[show((d - 1:Nat):Int)=(d:Int) - 1 from by omega]),Zy.setCell (S:=fun k=>k=p) (Zy.refl _ _) rfl _⟩
 ·obtain rfl:d=0:=by omega
  go_enter Tryz.func185,Tryz.ntmps185;go_wp2
  go_end0
  exact⟨rfl,Zap.start HC.out⟩
theorem cDown(w:World)(p r K:Nat)(L:List TokV)(a d:Nat)(h:Ja w p r K L a d) :
  Calls Φ 184 #[Ω (some ⟨p,0,none⟩)] w (Ziz w p r K L a (Zdd d) (Zq (Zab L a d))):=by
 have nb1:=Zj w (.cells #[I J 0,I J 0,I J 0] 29);have h1:=h.below nb1;have F0:=Ze.made w 29 #[I J 0,I J 0,I J 0];have HM:=Hh ((Zap.start h).next nb1);have pin:=h.whole.inside;have rin:=h.rin;have hpw:¬(w.heap.size=p):=by omega
 have c1:=h1.look.c1;have z1:=h1.whole.thawed 1;have H1:=Hh h1;have hd:=h.deep;have HC:=Hh h;clear h nb1 h1;unfold Zdd Zab;by_cases h0:d=8
 ·subst h0
  rw[if_pos rfl,if_pos rfl];have F0:=Hh F0;clear hd;go_enter Tryz.func184,Tryz.ntmps184;go_wp2_with(first
 |(go_at_call 96;refine(Zqv _ _ _ _ _ _ _ _ H1.out.look).mono ?_;rintro e w1 ⟨rfl,rfl⟩)
 |(go_at_call 97;refine(cHere _ _ _ _ _ _ _ _ _ H1.out.look).mono ?_;rintro e w3 ⟨rfl,b3⟩;have W3:=Hh (F0.out.below b3 (by simp));obtain⟨k0,k1,k2,f0,f1,f2⟩:=Yc W3.out;have hz:=W3.out.inside;have B3:=Hh b3;clear b3;simp only[Zq]))
  have hF:=Yc (Ze.set3 W3.out (I J 8) (I J ((Zx L a).line:Int)) (I J ((Zx L a).col:Int)));refine bodyPost_ret (v:=Zq (8,(Zx L a).line,(Zx L a).col)) (by simp[results,Tryz.results184,go_sem,hF,Zq]) rfl ⟨rfl,?_⟩;exact(HM.out.next B3.out).on (Zfn _ _ _ _ _) (Θ _) pin rin
 ·rw[if_neg h0,if_neg h0]
  have q0:((d:Int) == 8)=false:=by rw[beq_eq_false_iff_ne];omega
  have l1:(d:Int)≤7:=by omega
  have H0:=Hh (ζ h0 hd);clear h0 hd;go_enter Tryz.func184,Tryz.ntmps184;go_wp2_with(go_at_call 96;refine(Zqv _ _ _ _ _ _ _ _ H1.out.look).mono ?_;rintro e w1 ⟨rfl,rfl⟩)
  refine bodyPost_ret (v:=Zq okF) (by simp[results,Tryz.results184,go_sem,Zq,okF]) rfl ⟨rfl,?_⟩
  have m1:Zap w (w.setCell ⟨p,1,none⟩ (I J ((d:Int)+1))) p r K L a (d+1):=
   ⟨HC.out.deeper (d+1) (by have:=H0.out;omega) _ (by simp),Zy.setCell (S:=fun k=>k=p) (Zy.refl _ _) rfl _⟩
  exact m1.next (Zj _ _)
theorem Ja.copy{w:World}{p r K:Nat}{L:List TokV}{a d:Nat}(h:Ja w p r K L a d)(o n c:Nat)(ho:o=a*5)(hn:n=L.length - a)(hc:c=K - a) :
  Ja (w.alloc (.cells #[Λ (some ⟨r,o,none⟩) n c,I J (d:Int)] 171)) w.heap.size r K L a d:=by
 subst ho hn hc;have h1:=h.below (Zj w (.cells #[Λ (some ⟨r,a*5,none⟩) (L.length - a) (K - a),I J (d:Int)] 171));exact⟨Ze.made _ _ _,h1.row,h1.rin,by have:=h.rin;omega,h.ends,h.inn,h.capL,h.capM,h.deep⟩
theorem look2{w:World}{p r K:Nat}{L:List TokV}{a d:Nat}(h:Ja w p r K L a d){o n c:Nat}(ho:o=a*5)(hn:n=L.length - a)(hc:c=K - a) :
  w.cell? ⟨p,0,none⟩=some (Λ (some ⟨r,o,none⟩) n c)∧w.cell? ⟨p,1,none⟩=some (I J (d:Int)):=by
 subst ho hn hc;exact⟨h.look.c0,h.look.c1⟩
theorem cSigned(w:World)(p r K:Nat)(L:List TokV)(a d:Nat)(h:Ja w p r K L a d) :
  Calls Φ 134 #[Ω (some ⟨p,0,none⟩)] w (Ziz w p r K L (Zem L a) d (.tuple #[I J (Zkc L a),Zq (Zbp L a)])):=by
 have nb1:=Zj w (.cells #[I J 0,I J 0,I J 0] 29);have h1:=h.below nb1;have F0:=Hh (Ze.made w 29 #[I J 0,I J 0,I J 0]);have HM:=Hh ((Zap.start h).next nb1);have pin:=h.whole.inside;have rin:=h.rin;have hpw:¬(w.heap.size=p):=by omega
 have hi:=cIs _ p _ _ _ _ _ _ Znt h1.look;have H1:=Hh h1;clear h nb1 h1;unfold Zem Zkc Zbp;unfold Znt at hi ⊢;cases hb:isT (Zx L a) ⟨#[45]⟩
 ·rw[hb]at hi
  rw[if_neg (by decide),if_neg (by decide),if_neg (by decide)];clear hb;generalize hf:Wl L a 2=f at *;have hj:=cInt _ p r K L a d H1.out;have HF:=Hh hf;clear hf;have hj:∀ w,Ja w p r K L a d→Calls Φ 168 #[Ω (some ⟨p,0,none⟩)] w (Ziz w p r K L (Vz L a 2) d (.tuple #[I J (Zkh L a),Zq f])):=fun w h=>by rw[←HF.out];exact cInt w p r K L a d h
  obtain⟨f1,f2,f3⟩:=f;go_enter Tryz.func134,Tryz.ntmps134;go_wp2_with(first
 |(go_at_call 128;refine hi.mono ?_;rintro e w2 ⟨rfl,b2⟩;have M2:=Hh (HM.out.next b2);have F2:=Hh (F0.out.below b2 F0.out.inside);clear b2)
 |(go_at_call 168;refine(hj _ M2.out.at_).mono ?_;rintro e w3 ⟨rfl,m3⟩;have W0:=Hh (m3.keeps.whole F2.out hpw);obtain⟨g0,g1,g2,z0,z1,z2⟩:=Yc W0.out;have hz:=W0.out.inside;have M3:=Hh (M2.out.then m3);clear m3;simp only[Zq]))
  have hF:=Yc (Ze.set3 W0.out (I J f1) (I J (f2:Int)) (I J (f3:Int)));refine bodyPost_ret (v:=.tuple #[I J (Zkh L a),Zq (f1,f2,f3)]) (by simp[results,Tryz.results134,go_sem,hF,Zq]) rfl ⟨rfl,?_⟩;exact M3.out.on (Zfn _ _ _ _ _) (Θ _) pin rin
 ·rw[hb]at hi
  rw[if_pos rfl,if_pos rfl,if_pos rfl];clear hb;obtain⟨o,n,c,ho,hn,hc⟩:∃ o n c,o=a*5∧n=L.length - a∧c=K - a:=⟨_,_,_,rfl,rfl,rfl⟩
  have HO:=Hh (ζ ho (ζ hn hc));generalize hbn:onA L a=b at *;have HB:=Hh hbn;have hk:Vz L b 2=if(Zx L b).k=2 then onA L b else b:=rfl
  have hv:Zkh L b=if(Zx L b).k=2 then(Zx L b).n else 0:=rfl
  have hf:Wl L b 2=if(Zx L b).k=2 then okF else wrF (Zx L b):=rfl
  have hnx:∀ w q,Ja w q r K L a d→Calls Φ 135 #[Ω (some ⟨q,0,none⟩)] w (Ziz w q r K L b d (Vt (Zx L a))):=fun w q h=>by rw[←HB.out];exact cNext w q r K L a d h
  have hj:=fun w q (h:Ja w q r K L b d)=>cInt w q r K L b d h
  have HN:=Hh hnx;clear hnx ho hn hc hbn;rw[hf];by_cases h2:(Zx L b).k=2
  · rw[if_pos h2]at hk hv hf ⊢
    rw[if_pos h2,if_pos h2];have hnum:=H1.out.ends.num b;rw[hk,hv,hf]at hj;have HJ:=Hh hj;clear hj hk hv hf h2;generalize hm:(Zx L b).n=m at *;have HE:=Hh hm;obtain⟨m0,m9⟩:=hnum;clear hm;generalize hbn:onA L b=b2 at *;obtain⟨o2,n2,c2,ho,hn,hc⟩:∃ o n c,o=b2*5∧n=L.length - b2∧c=K - b2:=⟨_,_,_,rfl,rfl,rfl⟩
    have HB2:=Hh (ζ ho (ζ hn hc));clear ho hn hc hbn;go_enter Tryz.func134,Tryz.ntmps134;go_wp2_with(first
 |(go_at_call 128;refine hi.mono ?_;rintro e w2 ⟨rfl,b2⟩;have M2:=Hh (HM.out.next b2);have F2:=Hh (F0.out.below b2 F0.out.inside);obtain⟨c0,c1⟩:=look2 M2.out.at_ HO.out.1 HO.out.2.1 HO.out.2.2;have hp2:=M2.out.at_.whole.inside;clear b2)
 |(go_at_call 135;refine(HN.out _ _ (M2.out.at_.copy o n c HO.out.1 HO.out.2.1 HO.out.2.2)).mono ?_;rintro e w3 ⟨rfl,m3⟩;have N3:=Hh m3;clear m3;simp only[Vt])
 |(go_at_call 168;refine(HJ.out _ _ N3.out.at_).mono ?_;rintro e w4 ⟨rfl,m4⟩;have N4:=Hh (N3.out.then m4);have hG:=F2.out.inside;have M4:=Hh ((M2.out.next (Zj _ _)).on N4.out.keeps (Nat.le_of_lt hG) pin rin);have F4:=Hh (N4.out.keeps.whole (F2.out.alloc _) (Nat.ne_of_lt hG));obtain⟨d0,d1⟩:=look2 N4.out.at_ HB2.out.1 HB2.out.2.1 HB2.out.2.2;obtain⟨p0,p1⟩:=look2 M4.out.at_ HO.out.1 HO.out.2.1 HO.out.2.2;have t0:=M4.out.at_.whole.thawed 0;have t1:=M4.out.at_.whole.thawed 1;have hp4:=M4.out.at_.whole.inside;obtain⟨g0,g1,g2,z0,z1,z2⟩:=Yc F4.out;have hz:=F4.out.inside;have hq4:=N4.out.at_.whole.inside;have hN:=Hh hG;clear m4 hG;simp only[Zq,okF]))
    have hne:w.heap.size≠p:=hpw;have hF:=Yc ((Ze.set3 ((F4.out.aside (p:=⟨p,0,none⟩) hne (Λ (some ⟨r,o2,none⟩) n2 c2)).aside (p:=⟨p,1,none⟩) hne (I J (d:Int))) (I J 0) (I J 0) (I J 0)).alloc (.cells #[I J 0,I J 0,I J 0] 29));refine bodyPost_ret (v:=.tuple #[I J (-m),Zq okF]) (by simp[results,Tryz.results134,go_sem,hF,Zq,okF]) rfl ⟨rfl,?_⟩;obtain⟨e1,e2,e3⟩:=HB2.out
    have m5:Zap w ((w4.setCell ⟨p,0,none⟩ (Λ (some ⟨r,o2,none⟩) n2 c2)).setCell ⟨p,1,none⟩ (I J (d:Int))) p r K L b2 d:=
     ⟨(M4.out.at_.moved b2 N4.out.at_.inn _ (by rw[e1,e2,e3])).deeper d M4.out.at_.deep _ rfl,(M4.out.keeps.setCell rfl _).setCell rfl _⟩
    exact m5.on ((Zfn _ _ _ _ _).alloc _) (Θ _) pin rin
  · rw[if_neg h2]at hk hv hf ⊢
    rw[if_neg h2,if_neg h2];rw[hk,hv,hf]at hj;have HJ:=Hh hj;have hne:=Zid (Zx L b);clear hj hk hv hf h2;generalize hm:wrF (Zx L b)=f at *;obtain⟨f1,f2,f3⟩:=f;have HE:=Hh hm;have q0:(f1 != 0)=true:=by rw[bne_iff_ne];exact hne
    clear hm hne;go_enter Tryz.func134,Tryz.ntmps134;go_wp2_with(first
 |(go_at_call 128;refine hi.mono ?_;rintro e w2 ⟨rfl,b2⟩;have M2:=Hh (HM.out.next b2);have F2:=Hh (F0.out.below b2 F0.out.inside);obtain⟨c0,c1⟩:=look2 M2.out.at_ HO.out.1 HO.out.2.1 HO.out.2.2;have hp2:=M2.out.at_.whole.inside;clear b2)
 |(go_at_call 135;refine(HN.out _ _ (M2.out.at_.copy o n c HO.out.1 HO.out.2.1 HO.out.2.2)).mono ?_;rintro e w3 ⟨rfl,m3⟩;have N3:=Hh m3;clear m3;simp only[Vt])
 |(go_at_call 168;refine(HJ.out _ _ N3.out.at_).mono ?_;rintro e w4 ⟨rfl,m4⟩;have N4:=Hh (N3.out.then m4);have hG:=F2.out.inside;have M4:=Hh ((M2.out.next (Zj _ _)).on N4.out.keeps (Nat.le_of_lt hG) pin rin);have F4:=Hh (N4.out.keeps.whole (F2.out.alloc _) (Nat.ne_of_lt hG));obtain⟨g0,g1,g2,z0,z1,z2⟩:=Yc F4.out;have hz:=F4.out.inside;clear m4 hG;simp only[Zq]))
    go_region
    all_goals
     go_wp2
     have hF:=Yc (((Ze.set3 F4.out (I J f1) (I J (f2:Int)) (I J (f3:Int))).alloc (.cells #[I J f1,I J (f2:Int),I J (f3:Int)] 29)).drew);refine bodyPost_ret (v:=.tuple #[I J 0,Zq (f1,f2,f3)]) (by simp[results,Tryz.results134,go_sem,hF,Zq]) rfl ⟨rfl,?_⟩;exact M4.out.on (((Zfn _ _ _ _ _).alloc _).drew) (Θ _) pin rin
theorem own5_all{w:World}{base:Nat}{e:TypeId}{v:Value}{xs:List Value}{n:Nat}(h:w.ownsRow base e 5 v n xs)(hn:0<n) :
  ∃ g c,v=Λ (some ⟨g,0,none⟩) n c∧base≤g∧g<w.heap.size∧n≤c∧c≤9223372036854775807∧∀ j,j<xs.length→w.cell? ⟨g,j,none⟩=xs[j]?:=by
 obtain⟨g,c,rfl,hg,hc⟩:=own5_at h hn;obtain⟨A,c',hv,h1,h2,_⟩:=Xq h;injection hv with _ _ e3;subst e3;unfold maxLen at h2;exact⟨g,c,rfl,(h.lt g rfl).1,hg,h1,by omega,hc⟩
theorem Ja.made{w1 y:World}{g K G:Nat}{L:List TokV}(hrow:∀ j,j<(Zaj L).length→w1.cell? ⟨g,j,none⟩=(Zaj L)[j]?)(hg:g<w1.heap.size)(hk:Zy (fun k=>k=G) w1 y)(hG:g≠G)(hL:Zog L)(h1:L.length≤K)(h2:K≤9223372036854775807) :
  Ja (y.alloc (.cells #[Λ (some ⟨g,0,none⟩) L.length K,I J 0] 171)) y.heap.size g K L 0 0:=by
 have hs:=hk.size;refine⟨by simpa using Ze.made y 171 #[Λ (some ⟨g,0,none⟩) L.length K,I J 0],fun j hj=>?_,by simp;omega,by omega,hL,hL.pos,h1,h2,by omega⟩;have k2:=hk.alloc (.cells #[Λ (some ⟨g,0,none⟩) L.length K,I J 0] 171);exact(World.cell?_of_block (a:=⟨g,j,none⟩) (k2.block g hg hG)).trans (hrow j hj)
def NewPost(L:List TokV)(w:World)(e:Ending)(w':World):Prop:=
 ∃ p r K,e=η (.tuple #[Ω (some ⟨p,0,none⟩),Zq okF])∧Ja w' p r K L 0 0∧w.heap.size≤p∧w.heap.size≤r∧Below w.heap.size w w'
theorem cNew_err(s:ByteArray)(w:World)(hs:s.size≤140737488355328)(E:Int)(l c:Nat)(hv:Zdb s=([],E,l,c))(hE:E≠0) :
  Calls Φ 70 #[Ψ s] w fun e w'=>e=η (.tuple #[Ω none,Zq (E,l,c)])∧Below w.heap.size w w':=by
 have HV:=Hh hv;have q0:(E != 0)=true:=by rw[bne_iff_ne];exact hE
 have F0:=Hh (Ze.made w 29 #[I J 0,I J 0,I J 0]);clear hv hE;go_enter Tryz.func70,Tryz.ntmps70;go_wp2_with(go_at_call 95;refine(tkScan s _ (by omega)).mono ?_;rintro e w1 ⟨v,rfl,o1,b1⟩;rw[HV.out]at o1 ⊢;obtain⟨A1,c1,rfl,hl1,_⟩:=own5_reads o1;have F1:=Hh (F0.out.below b1 (by simp));obtain⟨g0,g1,g2,z0,z1,z2⟩:=Yc F1.out;have hz:=F1.out.inside;have B1:=Hh b1;clear o1 b1;simp only[Zq])
 go_region
 all_goals
  go_wp2
  have hF:=Yc (((Ze.set3 F1.out (I J E) (I J (l:Int)) (I J (c:Int))).alloc (.cells #[I J E,I J (l:Int),I J (c:Int)] 29)).drew);refine bodyPost_ret (v:=.tuple #[Ω none,Zq (E,l,c)]) (by simp[results,Tryz.results70,go_sem,hF,Zq]) rfl ⟨rfl,?_⟩;exact Wm ((Below.set3 (Jm (Zj _ _) B1.out) (Θ _) _ _ _).alloc (by simp;omega) _)
theorem cNew_ok(s:ByteArray)(w:World)(hs:s.size≤140737488355328)(L:List TokV)(hv:Zdb s=(L,0,0,0))(hL:Zog L) :
  Calls Φ 70 #[Ψ s] w (NewPost L w):=by
 have HV:=Hh hv;have F0:=Hh (Ze.made w 29 #[I J 0,I J 0,I J 0]);have hpos:=hL.pos;have HL:=Hh hL;clear hv hL;go_enter Tryz.func70,Tryz.ntmps70;go_wp2_with(go_at_call 95;refine(tkScan s _ (by omega)).mono ?_;rintro e w1 ⟨v,rfl,o1,b1⟩;rw[HV.out]at o1 ⊢;obtain⟨g,K,rfl,r1,r2,r3,r4,r5⟩:=own5_all o1 hpos;have F1:=Hh (F0.out.below b1 (by simp));obtain⟨g0,g1,g2,z0,z1,z2⟩:=Yc F1.out;have hz:=F1.out.inside;have B1:=Hh b1;have R5:=Hh r5;clear o1 b1 r5;simp only[Zq])
 have hk:Zy (fun k=>k=w.heap.size) w1 ((((w1.setCell ⟨w.heap.size,0,none⟩ (I J 0)).setCell ⟨w.heap.size,1,none⟩ (I J 0)).setCell ⟨w.heap.size,2,none⟩ (I J 0)).alloc (.cells #[I J 0,I J 0,I J 0] 29)):=(Zfn _ _ _ _ _).alloc _;have hF:=Yc (((Ze.set3 F1.out (I J 0) (I J 0) (I J 0)).alloc (.cells #[I J 0,I J 0,I J 0] 29)).alloc (.cells #[Λ (some ⟨g,0,none⟩) L.length K,I J 0] 171));have hgs:w.heap.size+1≤g:=by simpa using r1
 have hc:=Ja.made R5.out r2 hk (by omega) HL.out r3 r4
 have hb:Below w.heap.size w ((((w1.setCell ⟨w.heap.size,0,none⟩ (I J 0)).setCell ⟨w.heap.size,1,none⟩ (I J 0)).setCell ⟨w.heap.size,2,none⟩ (I J 0)).alloc (.cells #[I J 0,I J 0,I J 0] 29)):=
  (Below.set3 (Jm (Zj _ _) B1.out) (Θ _) _ _ _).alloc (by simp;omega) _
 refine bodyPost_ret (v:=.tuple #[Ω (some ⟨w1.heap.size+1,0,none⟩),Zq okF]) (by simp[results,Tryz.results70,go_sem,hF,Zq,okF]) rfl ⟨w1.heap.size+1,g,K,rfl,?_,by omega,by omega,hb.alloc hb.size _⟩;simpa using hc
structure Zaf(w:World)(r K:Nat)(L:List TokV):Prop where
 row:∀ j,j<(Zaj L).length→w.cell? ⟨r,j,none⟩=(Zaj L)[j]?
 rin:r<w.heap.size
 ends:Zog L
 capL:L.length≤K
 capM:K≤9223372036854775807
theorem Zaf.keeps{w w':World}{r K:Nat}{L:List TokV}(h:Zaf w r K L){S:Nat→Prop}(hk:Zy S w w')(hr:¬ S r):Zaf w' r K L:=
 ⟨fun j hj=>(World.cell?_of_block (a:=⟨r,j,none⟩) (hk.block r h.rin hr)).trans (h.row j hj),Nat.lt_of_lt_of_le h.rin hk.size,h.ends,h.capL,h.capM⟩
theorem Zaf.below{w w':World}{r K:Nat}{L:List TokV}(h:Zaf w r K L)(hb:Below w.heap.size w w'):Zaf w' r K L:=
 h.keeps (S:=fun _=>False) (Zy.of_below hb) id
theorem Zaf.at_{w:World}{r K:Nat}{L:List TokV}(h:Zaf w r K L){a:Nat}(ha:a<L.length) :
  w.cell? ⟨r,a*5,none⟩=some (I J (Zx L a).k)∧w.cell? ⟨r,a*5+1,none⟩=some (Ψ (Zx L a).t)∧w.cell? ⟨r,a*5+2,none⟩=some (I J (Zx L a).n) ∧
  w.cell? ⟨r,a*5+3,none⟩=some (I J ((Zx L a).line:Int))∧w.cell? ⟨r,a*5+4,none⟩=some (I J ((Zx L a).col:Int)):=by
 have hl:=Zll L
 have key:∀ j,j<5→w.cell? ⟨r,a*5+j,none⟩=(Zx L a).cells[j]?:=fun j hj=>by
  rw[h.row _ (by omega),tokCs_at L a j ha hj,curT_get L a ha]
 exact⟨key 0 (by omega),key 1 (by omega),key 2 (by omega),key 3 (by omega),key 4 (by omega)⟩
def qA(r K n a d:Nat):Value:=.agg #[Λ (some ⟨r,0,none⟩) n K,I J (a:Int),I J (d:Int)]
theorem Zma(w:World)(r K:Nat)(L:List TokV)(n a d:Nat)(hn:n=L.length)(h:Zaf w r K L)(ha:a<L.length) :
  Calls Φ 19 #[qA r K n a d,I J 0] w fun e w'=>e=η (Vt (Zx L a))∧Below w.heap.size w w':=by
 have h1:=h.below (Zj w (.cells #[Λ (some ⟨r,0,none⟩) n K,I J (a:Int),I J (d:Int)] 64));have h2:=h1.below (Zj _ (.cells #[I J 0,Ψ ⟨#[]⟩,I J 0,I J 0,I J 0] 69));obtain⟨t0,t1,t2,t3,t4⟩:=h2.at_ ha;have rin:=h.rin;have l0:a<n:=by omega
 have l1:(n:Int)≤9223372036854775807:=by have:=h.capL;have:=h.capM;omega
 have l2:(a:Int)≤9223372036854775806:=by omega
 have HN:=Hh hn;clear hn h h1 h2 ha;unfold qA Vt;generalize Zx L a=v at *;go_enter Tryz.func19,Tryz.ntmps19;go_wp2
 refine bodyPost_ret (v:=Vt v) (by simp[results,Tryz.results19,go_sem,Vt]) rfl ⟨rfl,?_⟩;exact((Below.refl _ _).alloc (Θ _) _).alloc (by simp) _
theorem qOn(w:World)(r K:Nat)(L:List TokV)(n a d:Nat)(hn:n=L.length)(h:Zaf w r K L)(ha:a<L.length) :
  Calls Φ 48 #[qA r K n a d] w fun e w'=>e=η (qA r K n (onA L a) d)∧Below w.heap.size w w':=by
 have hon:=h.ends.on' ha;have l0:(a:Int)<(n:Int):=by omega
 have l1:(n:Int)≤9223372036854775807:=by have:=h.capL;have:=h.capM;omega
 rw[hon,←hn];clear hon hn h ha;unfold qA;by_cases hl:(a:Int)<(n:Int) - 1
 ·rw[if_pos hl]
  go_enter Tryz.func48,Tryz.ntmps48;go_wp2
  refine bodyPost_ret (v:=qA r K n (a+1) d) (by simp[results,Tryz.results48,go_sem,qA]) rfl ⟨by simp[qA],?_⟩;exact((Below.refl _ _).alloc (Θ _) _).alloc (by simp) _
 ·rw[if_neg hl]
  go_enter Tryz.func48,Tryz.ntmps48;go_wp2
  refine bodyPost_ret (v:=qA r K n a d) (by simp[results,Tryz.results48,go_sem,qA]) rfl ⟨rfl,?_⟩;exact((Below.refl _ _).alloc (Θ _) _).alloc (by simp) _
theorem qIs(w:World)(r K:Nat)(L:List TokV)(n a d:Nat)(t:ByteArray)(hn:n=L.length)(h:Zaf w r K L)(ha:a<L.length) :
  Calls Φ 47 #[qA r K n a d,Ψ t] w fun e w'=>e=η (.bool (isT (Zx L a) t))∧Below w.heap.size w w':=by
 have h1:=h.below (Zj w (.cells #[Λ (some ⟨r,0,none⟩) n K,I J (a:Int),I J (d:Int)] 64));have hi:=Zma _ r K L n a d hn h1 ha;clear hn h h1 ha;unfold qA at hi ⊢;generalize Zx L a=v at *;have HT:Hid (isT v t=((v.k == 1 || v.k == 4) && (v.t.toList == t.toList))):=Hh rfl;cases h1:(v.k == 1)<;>cases h4:(v.k == 4)<;>cases ht:(v.t.toList == t.toList)
 all_goals
  have HH:=Hh (ζ h1 (ζ h4 ht));go_enter Tryz.func47,Tryz.ntmps47;go_wp2_with(go_at_call 19;refine hi.mono ?_;rintro e w2 ⟨rfl,b2⟩;have B2:=Hh b2;clear b2;simp only[Vt])
  go_ret;have hb:=Jm (Zj _ _) B2.out;exact⟨by rw[HT.out,HH.out.1,HH.out.2.1,HH.out.2.2];rfl,hb.alloc hb.size _⟩
theorem qwrong(w:World)(v:TokV) :
  Calls Φ 106 #[Vt v] w fun e w'=>e=η (Zq (wrF v))∧Below w.heap.size w w':=by
 unfold Vt wrF;by_cases hk:v.k=0
 ·have q0:(v.k == 0)=true:=by rw[hk];rfl
  rw[if_pos hk];clear hk;go_enter Tryz.func106,Tryz.ntmps106;go_wp2
  refine bodyPost_ret (v:=Zq (2,v.line,v.col)) (by simp[results,Tryz.results106,go_sem,Zq]) rfl ⟨rfl,?_⟩;exact((Below.refl _ _).alloc (Θ _) _).alloc (by simp) _
 ·have q0:(v.k == 0)=false:=by rw[beq_eq_false_iff_ne];exact hk
  rw[if_neg hk];clear hk;go_enter Tryz.func106,Tryz.ntmps106;go_wp2
  refine bodyPost_ret (v:=Zq (7,v.line,v.col)) (by simp[results,Tryz.results106,go_sem,Zq]) rfl ⟨rfl,?_⟩;exact((Below.refl _ _).alloc (Θ _) _).alloc (by simp) _
theorem qWrong(w:World)(r K:Nat)(L:List TokV)(n a d:Nat)(hn:n=L.length)(h:Zaf w r K L)(ha:a<L.length) :
  Calls Φ 82 #[qA r K n a d] w fun e w'=>e=η (Zq (wrF (Zx L a)))∧Below w.heap.size w w':=by
 have h1:=h.below (Zj w (.cells #[Λ (some ⟨r,0,none⟩) n K,I J (a:Int),I J (d:Int)] 64));have h2:=h1.below (Zj _ (.cells #[I J 0,I J 0,I J 0] 29));have T0:=Hh (Two.start w 64 #[Λ (some ⟨r,0,none⟩) n K,I J (a:Int),I J (d:Int)] 29 #[I J 0,I J 0,I J 0]);have hi:=Zma _ r K L n a d hn h2 ha;clear hn h h1 h2 ha;unfold qA at hi ⊢;generalize Zx L a=v at *;generalize hf:wrF v=f at *;have hj:∀ w,Calls Φ 106 #[Vt v] w fun e w'=>e=η (Zq f)∧Below w.heap.size w w':=fun w=>by rw[←hf];exact qwrong w v
 clear hf;obtain⟨f1,f2,f3⟩:=f;go_enter Tryz.func82,Tryz.ntmps82;go_wp2_with(first
 |(go_at_call 19;refine hi.mono ?_;rintro e w2 ⟨rfl,b2⟩;have T2:=Hh (T0.out.next b2);clear b2)
 |(go_at_call 106;refine(hj _).mono ?_;rintro e w3 ⟨rfl,b3⟩;have T3:=Hh (T2.out.next b3);obtain⟨g0,g1,g2,z0,z1,z2⟩:=Yc T3.out.k1;have hz:=T3.out.k1.inside;clear b3;simp only[Zq]))
 have hF:=Yc (Ze.set3 T3.out.k1 (I J f1) (I J (f2:Int)) (I J (f3:Int)));refine bodyPost_ret (v:=Zq (f1,f2,f3)) (by simp[results,Tryz.results82,go_sem,hF,Zq]) rfl ⟨rfl,?_⟩;exact Below.set3 T3.out.below (Nat.le_succ _) _ _ _
open Go Go.RowKit
inductive Ds where
 |nil
 |int (n:Int) (r:Ds)
 |str (s:ByteArray) (r:Ds)
 |row (n:Nat) (cs r:Ds)
def Ds.app:Ds→Ds→Ds
 |.nil,y=>y
 |.int n r,y=>.int n (r.app y)
 |.str s r,y=>.str s (r.app y)
 |.row n cs r,y=>.row n cs (r.app y)
def Ds.len:Ds→Nat
 |.nil=>0
 |.int _ r=>r.len+1
 |.str _ r=>r.len+1
 |.row _ _ r=>r.len+1
theorem Ds.app_nil:∀ x:Ds,x.app .nil=x
 |.nil=>rfl
 |.int n r=>by rw[Ds.app,Ds.app_nil r]
 |.str s r=>by rw[Ds.app,Ds.app_nil r]
 |.row n cs r=>by rw[Ds.app,Ds.app_nil r]
theorem Ds.app_assoc(y z:Ds):∀ x:Ds,(x.app y).app z=x.app (y.app z)
 |.nil=>rfl
 |.int n r=>by rw[Ds.app,Ds.app,Ds.app,Ds.app_assoc y z r]
 |.str s r=>by rw[Ds.app,Ds.app,Ds.app,Ds.app_assoc y z r]
 |.row n cs r=>by rw[Ds.app,Ds.app,Ds.app,Ds.app_assoc y z r]
theorem Ds.len_app(y:Ds):∀ x:Ds,(x.app y).len=x.len+y.len
 |.nil=>by rw[Ds.app,Ds.len];omega
 |.int n r=>by rw[Ds.app,Ds.len,Ds.len,Ds.len_app y r];omega
 |.str s r=>by rw[Ds.app,Ds.len,Ds.len,Ds.len_app y r];omega
 |.row n cs r=>by rw[Ds.app,Ds.len,Ds.len,Ds.len_app y r];omega
def Zfc(N:Nat→Prop)(w:World)(A:Option Addr)(xs:List Value):Prop:=
 xs=[]∨∃ g,A=some ⟨g,0,none⟩∧N g∧g<w.heap.size∧∀ j,j<xs.length→w.cell? ⟨g,j,none⟩=xs[j]?
def Zt(N:Nat→Prop)(w:World):Ds→List Value→Prop
 |.nil,vs=>vs=[]
 |.int n r,vs=>∃ t,vs=I J n::t∧Zt N w r t
 |.str s r,vs=>∃ t,vs=Ψ s::t∧Zt N w r t
 |.row n cs r,vs=>∃ A c xs t,vs=Λ A n c::t∧(n≤9223372036854775807∧n≤c)∧Zfc N w A xs∧Zt N w cs xs∧Zt N w r t
theorem Zfc.keeps{N M S:Nat→Prop}{w w':World}{A:Option Addr}{xs:List Value}(h:Zfc N w A xs)(hk:Zy S w w')(hs:∀ k,k<w.heap.size→N k→¬ S k∧M k):Zfc M w' A xs:=by
 rcases h with h | ⟨g,e,h1,h2,h3⟩
 ·exact .inl h
 ·exact .inr ⟨g,e,(hs g h2 h1).2,Nat.lt_of_lt_of_le h2 hk.size,fun j hj=>(World.cell?_of_block (a:=⟨g,j,none⟩) (hk.block g h2 (hs g h2 h1).1)).trans (h3 j hj)⟩
theorem Zt.keeps{N M S:Nat→Prop}{w w':World}(hk:Zy S w w')(hs:∀ k,k<w.heap.size→N k→¬ S k∧M k):∀{ds:Ds}{vs:List Value},Zt N w ds vs→Zt M w' ds vs
 |.nil,vs,h=>h
 |.int n r,vs,⟨t,e,h⟩=>⟨t,e,Zt.keeps hk hs h⟩
 |.str s r,vs,⟨t,e,h⟩=>⟨t,e,Zt.keeps hk hs h⟩
 |.row n cs r,vs,⟨A,c,xs,t,e,hn,h1,h2,h3⟩=>⟨A,c,xs,t,e,hn,h1.keeps hk hs,Zt.keeps hk hs h2,Zt.keeps hk hs h3⟩
theorem Zt.mono{N M:Nat→Prop}{w:World}{ds:Ds}{vs:List Value}(h:Zt N w ds vs)(hs:∀ k,k<w.heap.size→N k→M k):Zt M w ds vs:=
 h.keeps (S:=fun _=>False) (Zy.refl _ w) fun k hk hn=>⟨id,hs k hk hn⟩
theorem Zt.below{N:Nat→Prop}{w w':World}{ds:Ds}{vs:List Value}(h:Zt N w ds vs)(hb:Below w.heap.size w w'):Zt N w' ds vs:=
 h.keeps (S:=fun _=>False) (Zy.of_below hb) fun k _ hn=>⟨id,hn⟩
theorem Zt.len{N:Nat→Prop}{w:World}:∀{ds:Ds}{vs:List Value},Zt N w ds vs→vs.length=ds.len
 |.nil,vs,h=>by cases h;rfl
 |.int n r,vs,⟨t,e,h⟩=>by rw[e,List.length_cons,Zt.len h];rfl
 |.str s r,vs,⟨t,e,h⟩=>by rw[e,List.length_cons,Zt.len h];rfl
 |.row n cs r,vs,⟨A,c,xs,t,e,_,_,_,h⟩=>by rw[e,List.length_cons,Zt.len h];rfl
theorem Zt.one{N:Nat→Prop}{w:World}:∀{ds:Ds}{vs:List Value},Zt N w ds vs→∀ v ∈ vs,v.oneCell'=true
 |.nil,vs,h=>by cases h;intro v hv;cases hv
 |.int n r,vs,⟨t,e,h⟩=>by rw[e];intro v hv;rcases List.mem_cons.1 hv with rfl | hv;rfl;exact Zt.one h v hv
 |.str s r,vs,⟨t,e,h⟩=>by rw[e];intro v hv;rcases List.mem_cons.1 hv with rfl | hv;rfl;exact Zt.one h v hv
 |.row n cs r,vs,⟨A,c,xs,t,e,_,_,_,h⟩=>by rw[e];intro v hv;rcases List.mem_cons.1 hv with rfl | hv;rfl;exact Zt.one h v hv
theorem Zt.app{N:Nat→Prop}{w:World}{y:Ds}{us:List Value}(hy:Zt N w y us):∀{x:Ds}{vs:List Value},Zt N w x vs→Zt N w (x.app y) (vs++us)
 |.nil,vs,h=>by cases h;exact hy
 |.int n r,vs,⟨t,e,h⟩=>⟨t++us,by rw[e];rfl,Zt.app hy h⟩
 |.str s r,vs,⟨t,e,h⟩=>⟨t++us,by rw[e];rfl,Zt.app hy h⟩
 |.row n cs r,vs,⟨A,c,xs,t,e,hn,h1,h2,h⟩=>⟨A,c,xs,t++us,by rw[e];rfl,hn,h1,h2,Zt.app hy h⟩
theorem Zt.split{N:Nat→Prop}{w:World}{y:Ds}:∀{x:Ds}{vs:List Value},Zt N w (x.app y) vs→∃ a b,vs=a++b∧Zt N w x a∧Zt N w y b
 |.nil,vs,h=>⟨[],vs,rfl,rfl,h⟩
 |.int n r,vs,⟨t,e,h⟩=>by obtain⟨a,b,e2,h1,h2⟩:=Zt.split (x:=r) h;exact⟨I J n::a,b,by rw[e,e2];rfl,⟨a,rfl,h1⟩,h2⟩
 |.str s r,vs,⟨t,e,h⟩=>by obtain⟨a,b,e2,h1,h2⟩:=Zt.split (x:=r) h;exact⟨Ψ s::a,b,by rw[e,e2];rfl,⟨a,rfl,h1⟩,h2⟩
 |.row n cs r,vs,⟨A,c,xs,t,e,hn,g1,g2,h⟩=>by obtain⟨a,b,e2,h1,h2⟩:=Zt.split (x:=r) h;exact⟨Λ A n c::a,b,by rw[e,e2];rfl,⟨A,c,xs,a,rfl,hn,g1,g2,h1⟩,h2⟩
theorem Zmu{w:World}{base:Nat}{e:TypeId}{size:Nat}{v:Value}{n:Nat}{xs:List Value}(h:w.ownsRow base e size v n xs) :
  ∃ A c,v=Λ A n c∧(n≤9223372036854775807∧n≤c)∧Zfc (fun k=>base≤k) w A xs:=by
 obtain⟨hl,h⟩:=id h;rcases h with⟨rfl,rfl⟩ | ⟨g,cap,cur,rfl,hb,hw,h1,h2,h3,h4⟩
 ·refine⟨none,0,rfl,by omega,.inl ?_⟩
  rw[Nat.zero_mul]at hl;exact List.length_eq_zero_iff.1 hl
 ·unfold maxLen at h2
  refine⟨some ⟨g,0,none⟩,cap,rfl,by omega,.inr ⟨g,rfl,hb,Ze.inside (cs:=cur) hw,fun j hj=>?_⟩⟩;rw[Ze.read (cs:=cur) hw j,←h4,List.getElem?_take];have hj':j<n*size:=by rw[←hl];exact hj
  rw[if_pos hj',Array.getElem?_toList]
theorem Zt.rowOf{N:Nat→Prop}{w:World}{base:Nat}{e:TypeId}{size:Nat}{v:Value}{n:Nat}{xs:List Value}{ds:Ds}(h:w.ownsRow base e size v n xs)(hb:∀ k,base≤k→N k)(hd:Zt N w ds xs) :
  Zt N w (.row n ds .nil) [v]:=by
 obtain⟨A,c,rfl,hn,hw⟩:=Zmu h;exact⟨A,c,xs,[],rfl,hn,hw.keeps (S:=fun _=>False) (Zy.refl _ w) (fun k _ hk=>⟨id,hb k hk⟩),hd,rfl⟩
theorem Ze.range{w:World}{g:Nat}{t:TypeId}{a b c:List Value}(h:Ze w g t (a++b++c).toArray):w.rangeAt g a.length b:=fun j v hv=>by
 have hj:j<b.length:=(List.getElem?_eq_some_iff.1 hv).1;rw[h.read,List.getElem?_toArray,List.getElem?_append_left (by rw[List.length_append];omega),List.getElem?_append_right (by omega),show a.length+j - a.length=j from by omega,hv]
theorem Ze.there{w:World}{g:Nat}{t:TypeId}{a b c:List Value}(h:Ze w g t (a++b++c).toArray):w.there g a.length b.length:=fun j hj=>
 ⟨h.range.isSome j hj,h.thawed _⟩
theorem Ze.setCells{g:Nat}{t:TypeId}(c:List Value):∀(y b a:List Value)(w:World),y.length=b.length→Ze w g t (a++b++c).toArray→Ze (w.setCells g a.length y) g t (a++y++c).toArray
 |[],b,a,w,hl,h=>by
  have:b=[]:=List.length_eq_zero_iff.1 (by rw[←hl];rfl);rw[this]at h;exact h
 |v::y,[],a,w,hl,h=>by cases hl
 |v::y,u::b,a,w,hl,h=>by
  rw[World.setCells];have h1:=h.write a.length v
  have e:(a++u::b++c).toArray.setIfInBounds a.length v=((a++[v])++b++c).toArray:=by
   simp[List.setIfInBounds_toArray,List.set_append_right]
  rw[e]at h1;have h2:=Ze.setCells c y b (a++[v]) _ (by rw[List.length_cons,List.length_cons]at hl;omega) h1;rw[List.length_append]at h2;have e2:(a++[v]++y++c).toArray=(a++v::y++c).toArray:=by simp
  rw[e2]at h2;exact h2
theorem Zy.setCells{S:Nat→Prop}{g:Nat}(hg:S g):∀(y:List Value)(o:Nat){a b:World},Zy S a b→Zy S a (b.setCells g o y)
 |[],_,_,_,h=>h
 |v::y,o,a,b,h=>Zy.setCells hg y (o+1) (h.setCell (p:=⟨g,o,none⟩) hg v)
theorem Zd{P:Program}{ops:Array Oper}{rest:List Oper}{op:Op}{t:TypeId}{ps:String}{af:Array Edge}{gd:Option (Nat×Bool)}{a:Act}{w:World}{Q:Exit→Act→World→Prop}(d:Nat)
 (h:wpList P ops Q (⟨some d,op,t,ps,af,gd⟩::rest) a w):wpList P ops Q (⟨some d,op,t,ps,af,gd⟩::rest) a w:=h
theorem Zi{P:Program}{ops:Array Oper}{rest:List Oper}{T:TypeId}{t:TypeId}{ps:String}{af:Array Edge}{gd:Option (Nat×Bool)}{a:Act}{w:World}{Q:Exit→Act→World→Prop}(x y:Nat)
 (h:wpList P ops Q (⟨none,.store T (.tmp x) (.tmp y),t,ps,af,gd⟩::rest) a w):wpList P ops Q (⟨none,.store T (.tmp x) (.tmp y),t,ps,af,gd⟩::rest) a w:=h
structure Put(w w':World)(g:Nat)(t:TypeId)(vs:List Value):Prop where
 whole:Ze w' g t vs.toArray
 keeps:Zy (fun k=>k=g) w w'
theorem Xo{P:Program}{ops:Array Oper}{rest:List Oper}{o:Oper}{a:Act}{w:World}{Q:Exit→Act→World→Prop}(T:TypeId)(x y:Operand)(t:TypeId)(g n:Nat)(pre old post ys:List Value)(hW:Ze w g t (pre++old++post).toArray)(hl:ys.length=old.length)
  (hpn:n=pre.length)(hi:(P.info? T).map (·.size)=some ys.length)(h1:∀ v ∈ ys,v.oneCell'=true)
  (hgd:o.guard=none)(ho:o.op=.store T x y)(hd:o.dst=none)
  (hx:a.eval x=Ω (some ⟨g,n,none⟩))(hy:a.eval y=.agg ys.toArray)
  (h:∀ w',Put w w' g t (pre++ys++post)→wpList P ops Q rest a w'):wpList P ops Q (o::rest) a w:=by
 subst hpn;have ht:w.there g pre.length ys.length:=by rw[hl];exact hW.there
 refine wpList_store_mid hgd T x y ho g pre.length ys.toArray hx hy (by simpa using ht) (by simpa using hi) (all_oneCell_toArray h1) ?_;rw[hd];exact h _ ⟨Ze.setCells post ys old pre w hl hW,Zy.setCells (S:=fun k=>k=g) rfl _ _ (Zy.refl _ _)⟩
theorem Za{P:Program}{ops:Array Oper}{rest:List Oper}{o:Oper}{a:Act}{w:World}{Q:Exit→Act→World→Prop}(T:TypeId)(x y:Operand)(t:TypeId)(g:Nat)(old ys:List Value)(hW:Ze w g t old.toArray)(hl:ys.length=old.length)
  (hi:(P.info? T).map (·.size)=some ys.length)(h1:∀ v ∈ ys,v.oneCell'=true)
  (hgd:o.guard=none)(ho:o.op=.store T x y)(hd:o.dst=none)
  (hx:a.eval x=Ω (some ⟨g,0,none⟩))(hy:a.eval y=.agg ys.toArray)
  (h:∀ w',Put w w' g t ys→wpList P ops Q rest a w'):wpList P ops Q (o::rest) a w:=
 Xo T x y t g 0 [] old [] ys (by simpa using hW) hl rfl hi h1 hgd ho hd hx hy fun w' p=>h w' ⟨by simpa using p.whole,p.keeps⟩
theorem Zm{P:Program}{ops:Array Oper}{rest:List Oper}{o:Oper}{a:Act}{w:World}{Q:Exit→Act→World→Prop}(T:TypeId)(x y:Operand)(t:TypeId)(g n:Nat)(pre:List Value)(old v:Value)(post:List Value)(hW:Ze w g t (pre++[old]++post).toArray)
  (hpn:n=pre.length)(hi:(P.info? T).map (·.size)=some 1)(h1:v.oneCell'=true)
  (hgd:o.guard=none)(ho:o.op=.store T x y)(hd:o.dst=none)
  (hx:a.eval x=Ω (some ⟨g,n,none⟩))(hy:a.eval y=v)
  (h:∀ w',Put w w' g t (pre++[v]++post)→wpList P ops Q rest a w'):wpList P ops Q (o::rest) a w:=by
 subst hpn;refine wpList_plain hgd fun K hK=>?_
 have hc:v.cells=#[v]:=by cases v<;>first | rfl | cases h1
 have hst:(storeVar T ⟨g,pre.length,none⟩ v).run P w=.ok () (w.setCells g pre.length [v]):=by
  have:=run_storeCells_cells (P:=P) g pre.length [v] 0 w (fun j hj=>by simpa using(hW.there j hj).1) (fun j hj=>by simpa using(hW.there j hj).2) (fun u hu=>by simp at hu;rw[hu];exact h1);cases hq:P.info? T with
  |none=>simp[hq]at hi
  |some i=>
   have hs:i.size=1:=by simpa[hq]using hi
   simp only[Nat.add_zero]at this;simp[storeVar,sizeOf,typeInfo,hq,hc,hs,this]
 unfold Oper.wp execOp;simp only[ho,hx,hy,Instr.storeAt,Instr.sureAddr,Sem.run_bind,Sem.run_pure,Result.andThen_ok,hst];have hh:=hK _ _ (h _ ⟨Ze.setCells post [v] [old] pre w rfl hW,Zy.setCells (S:=fun k=>k=g) rfl _ _ (Zy.refl _ _)⟩);have e:a.put o.dst undef=a:=by rw[hd];rfl
 show K (a.put o.dst undef) _;rw[e];exact hh
theorem Xx{P:Program}{ops:Array Oper}{rest:List Oper}{o:Oper}{a:Act}{w:World}{Q:Exit→Act→World→Prop}(T:TypeId)(x:Operand)(t:TypeId)(g n:Nat)(pre vs post:List Value)(hW:Ze w g t (pre++vs++post).toArray)(hpn:n=pre.length)
  (hu:(P.underlying T).map TypeDesc.isRow=some true)(hi:(P.info? T).map (·.size)=some vs.length)
  (hgd:o.guard=none)(ho:o.op=.load T x)(hx:a.eval x=Ω (some ⟨g,n,none⟩))
  (h:wpList P ops Q rest (a.put o.dst (.agg vs.toArray)) w):wpList P ops Q (o::rest) a w:=by
 subst hpn;obtain⟨d,hu,hr⟩:=Option.map_eq_some_iff.1 hu;exact wpList_load_mid hgd T x ho g pre.length hx vs d hW.range hu hr hi h
theorem Zb{P:Program}{ops:Array Oper}{rest:List Oper}{o:Oper}{a:Act}{w:World}{Q:Exit→Act→World→Prop}(T:TypeId)(x:Operand)(t:TypeId)(g:Nat)(vs:List Value)(hW:Ze w g t vs.toArray)
  (hu:(P.underlying T).map TypeDesc.isRow=some true)(hi:(P.info? T).map (·.size)=some vs.length)
  (hgd:o.guard=none)(ho:o.op=.load T x)(hx:a.eval x=Ω (some ⟨g,0,none⟩))
  (h:wpList P ops Q rest (a.put o.dst (.agg vs.toArray)) w):wpList P ops Q (o::rest) a w:=
 Xx T x t g 0 [] vs [] (by simpa using hW) rfl hu hi hgd ho hx h
theorem Wv{P:Program}{w:World}{ops:Array Oper}{rest:List Oper}{o:Oper}{a:Act}{Q:Exit→Act→World→Prop}(s x:Operand)(t e:TypeId)(sz bytes:Nat)(z:Value)
  (ht:P.underlying t=some (.slice e))(hinfo:(P.info? e).map (fun i=>(i.zero,i.size,i.bytes))=some (some z,sz,bytes))(hzs:z.cells.size=sz)(hpos:0<sz)(hby:bytes≤1024)
  (base:Nat)(v:Value)(n:Nat)(xs news:List Value)(hown:w.ownsRow base e sz v n xs)(g:Nat)(hW:Ze w g e news.toArray)(hnl:news.length=sz)(h1:∀ u ∈ news,u.oneCell'=true)
  (hn:n≤68719476736)(hbase:base≤w.heap.size)
  (hgd:o.guard=none)(ho:o.op=.call { callee:=.builtin .append,args:=#[s,x],argTypes:=#[t,t] })(hs:a.eval s=v)(hx:a.eval x=Λ (some ⟨g,0,none⟩) 1 1)
  (h:∀ v' w',w'.ownsRow base e sz v' (n+1) (xs++news)→w.grownBy w' v.ownBlock→(v'.ownBlock=v.ownBlock∨v'.ownBlock=some w.heap.size)→wpList P ops Q rest (a.put o.dst v') w') :
  wpList P ops Q (o::rest) a w:=by
 obtain⟨i,hi,hz,hsize,hbytes⟩:=info_parts hinfo;refine wpList_append_own_at w hgd s x t ho base e i z sz bytes ht hi hz hsize hbytes hzs hpos v n xs hs hown ⟨g,0,none⟩ 1 1 news hx (by rw[hnl];omega) ?_ h1 (by unfold maxLen;omega) ?_ hbase ?_
 ·intro j u hj
  have hr:=hW.read j;have ha:(⟨g,0,none⟩:Addr).add j=⟨g,j,none⟩:=by simp[Addr.add];omega
  rw[ha,hr,←hj];simp
 ·have:(n+1)*bytes≤(n+1)*1024:=Nat.mul_le_mul_left _ hby
  omega
 ·intro v' w' ho' hg _ hat
  exact h v' w' ho' hg hat
theorem Wu{P:Program}{fn:Func}{R:Ending→World→Prop}{a:Act}{w:World}(s T:Nat)(t:TypeId)(g:Nat)(vs:List Value)(hres:fn.results=#[.cell s T])(hW:Ze w g t vs.toArray)
  (hu:(P.underlying T).map TypeDesc.isRow=some true)(hi:(P.info? T).map (·.size)=some vs.length)
  (hp:a.tmps.getD s undef=Ω (some ⟨g,0,none⟩))(hd:a.defers=[])(hR:R (η (.agg vs.toArray)) w):bodyPost P fn R .ret a w:=by
 obtain⟨d,hu,hr⟩:=Option.map_eq_some_iff.1 hu;refine bodyPost_ret (v:=.agg vs.toArray) ?_ hd hR;have hl:=run_loadVar_mid (P:=P) w g 0 T vs d (by have:=Ze.range (a:=[]) (b:=vs) (c:=[]) (by simpa using hW);exact this) hu hr hi;have hp':a.tmps[s]?.getD undef=Ω (some ⟨g,0,none⟩):=by simpa using hp
 simp[results,hres,hp',hl,asAddr,Sem.run_bind,Sem.run_pure]
open Go Go.RowKit Go.Great
abbrev Bk:=Nat×TypeId×List Value
structure Rw where
 v:Value
 e:TypeId
 sz:Nat
 n:Nat
 xs:List Value
def Zmz(w:World)(bs:List Bk)(rs:List Rw)(k:Nat):Prop:=w.heap.size≤k∧(∀ b ∈ bs,b.1≠k)∧∀ r ∈ rs,r.v.ownBlock≠some k
structure Env(w:World)(bs:List Bk)(rs:List Rw)(ts:List (Ds×List Value))(x:World):Prop where
 at_:∀ b ∈ bs,Ze x b.1 b.2.1 b.2.2.toArray
 lo:∀ b ∈ bs,w.heap.size≤b.1
 nod:(bs.map (·.1)).Nodup
 row:∀ r ∈ rs,x.ownsRow w.heap.size r.e r.sz r.v r.n r.xs
 apart:∀ r ∈ rs,∀ b ∈ bs,r.v.ownBlock≠some b.1
 rapart:rs.Pairwise fun a b=>∀ k,a.v.ownBlock=some k→b.v.ownBlock≠some k
 deep:∀ t ∈ ts,Zt (Zmz w bs rs) x t.1 t.2
 below:Below w.heap.size w x
section
variable {w x y:World} {bs:List Bk} {rs:List Rw} {ts:List (Ds×List Value)}
theorem Env.start(w:World):Env w [] [] [] w:=
 ⟨(fun _ h=>nomatch h),(fun _ h=>nomatch h),List.nodup_nil,(fun _ h=>nomatch h),(fun _ h=>nomatch h),List.Pairwise.nil,(fun _ h=>nomatch h),Below.refl _ _⟩
theorem Env.box(h:Env w bs rs ts x)(t:TypeId)(vs:List Value):Env w (bs++[(x.heap.size,t,vs)]) rs ts (x.alloc (.cells vs.toArray t)):=by
 have hk:Zy (fun _=>False) x (x.alloc (.cells vs.toArray t)):=Zy.of_below (Zj x _);refine⟨fun b hb=>?_,fun b hb=>?_,?_,fun r hr=>hk.owns (h.row r hr) (fun _ _=>id),fun r hr b hb=>?_,h.rapart,fun u hu=>?_,h.below.alloc h.below.size _⟩
 ·rcases List.mem_append.1 hb with hb | hb
  ·exact(h.at_ b hb).alloc _
  ·cases List.mem_singleton.1 hb;exact Ze.made x t vs.toArray
 ·rcases List.mem_append.1 hb with hb | hb
  ·exact h.lo b hb
  ·cases List.mem_singleton.1 hb;exact h.below.size
 ·rw[List.map_append,List.nodup_append]
  refine⟨h.nod,by simp,fun a ha b hb=>?_⟩;obtain⟨c,hc,rfl⟩:=List.mem_map.1 ha;simp at hb;subst hb;have:=(h.at_ c hc).inside;omega
 ·rcases List.mem_append.1 hb with hb | hb
  ·exact h.apart r hr b hb
  ·cases List.mem_singleton.1 hb
   intro c;have:=((h.row r hr).lt _ c).2;exact Nat.lt_irrefl _ this
 ·refine(h.deep u hu).keeps hk fun k hk hn=>⟨id,hn.1,fun b hb=>?_,hn.2.2⟩
  rcases List.mem_append.1 hb with hb | hb
  ·exact hn.2.1 b hb
  ·cases List.mem_singleton.1 hb
   show x.heap.size≠k;omega
theorem Env.call(h:Env w bs rs ts x)(b:Below x.heap.size x y):Env w bs rs ts y:=
 ⟨fun c hc=>(h.at_ c hc).below b (h.at_ c hc).inside,h.lo,h.nod,fun r hr=>(Zy.of_below (S:=fun _=>False) b).owns (h.row r hr) (fun _ _=>id),h.apart,h.rapart,fun t ht=>(h.deep t ht).below b,h.below.trans (b.mono h.below.size)⟩
theorem Env.tree(h:Env w bs rs ts x)(b:Below x.heap.size x y){ds:Ds}{vs:List Value}(d:Zt (fun k=>x.heap.size≤k) y ds vs):Env w bs rs (ts++[(ds,vs)]) y:=by
 have h':=h.call b;refine⟨h'.at_,h'.lo,h'.nod,h'.row,h'.apart,h'.rapart,fun u hu=>?_,h'.below⟩;rcases List.mem_append.1 hu with hu | hu
 ·exact h'.deep u hu
 ·cases List.mem_singleton.1 hu
  refine d.mono fun k hk hn=>⟨?_,fun c hc=>?_,fun r hr c=>?_⟩
  ·have:=h.below.size;omega
  ·have:=(h.at_ c hc).inside;omega
  ·have:=((h.row r hr).lt _ c).2;omega
theorem Env.drew(h:Env w bs rs ts x):Env w bs rs ts x.drew:=h.call ⟨rfl,rfl,rfl,Θ _,fun _ _=>rfl⟩
theorem Env.drewN(h:Env w bs rs ts x)(n:Nat):Env w bs rs ts (x.drewN n):=h.call ⟨rfl,rfl,rfl,Θ _,fun _ _=>rfl⟩
theorem Env.get(h:Env w bs rs ts x)(i:Nat){g:Nat}{t:TypeId}{vs:List Value}(hi:bs[i]?=some (g,t,vs)):Ze x g t vs.toArray:=
 h.at_ (g,t,vs) (List.mem_of_getElem? hi)
theorem Env.leaf(h:Env w bs rs ts x)(i:Nat){ds:Ds}{vs:List Value}(hi:ts[i]?=some (ds,vs)):Zt (fun k=>w.heap.size≤k) x ds vs:=
 (h.deep (ds,vs) (List.mem_of_getElem? hi)).mono fun k _ hn=>hn.1
theorem Znu{bs:List Bk}{i g:Nat}{t:TypeId}{old ys:List Value}(hi:bs[i]?=some (g,t,old)):(bs.set i (g,t,ys)).map (·.1)=bs.map (·.1):=by
 apply List.ext_getElem?;intro j;rw[List.getElem?_map,List.getElem?_map,List.getElem?_set];by_cases hj:i=j
 ·subst hj
  have hlt:=(List.getElem?_eq_some_iff.1 hi).1;rw[if_pos rfl,if_pos hlt,hi];rfl
 ·rw[if_neg hj]
theorem free_set{bs:List Bk}{rs:List Rw}{i g:Nat}{t:TypeId}{old ys:List Value}(hi:bs[i]?=some (g,t,old)){k:Nat}(h:Zmz w bs rs k):Zmz w (bs.set i (g,t,ys)) rs k:=by
 refine⟨h.1,fun b hb=>?_,h.2.2⟩;have:b.1 ∈ (bs.set i (g,t,ys)).map (·.1):=List.mem_map_of_mem hb;rw[Znu hi]at this;obtain⟨c,hc,e⟩:=List.mem_map.1 this;rw[←e];exact h.2.1 c hc
theorem Env.put(h:Env w bs rs ts x)(i:Nat){g:Nat}{t:TypeId}{old ys:List Value}(hi:bs[i]?=some (g,t,old))(p:Put x y g t ys):Env w (bs.set i (g,t,ys)) rs ts y:=by
 have hm:=Znu (ys:=ys) hi;have hmem:=List.mem_of_getElem? hi
 have hin:∀ b ∈ bs.set i (g,t,ys),∃ c ∈ bs,c.1=b.1:=fun b hb=>by
  have:b.1 ∈ (bs.set i (g,t,ys)).map (·.1):=List.mem_map_of_mem hb;rw[hm]at this;exact List.mem_map.1 this
 refine⟨fun b hb=>?_,fun b hb=>?_,by rw[hm];exact h.nod,fun r hr=>p.keeps.owns (h.row r hr) (fun k hk e=>?_),fun r hr b hb=>?_,h.rapart,fun u hu=>?_,h.below.trans (p.keeps.below h.below.size fun k e=>by rw[e];exact h.lo _ hmem)⟩
 ·obtain⟨j,hj,hb'⟩:=List.getElem_of_mem hb
  rw[List.getElem_set]at hb';rw[List.length_set]at hj;by_cases e:i=j
  ·rw[if_pos e]at hb'
   rw[←hb'];exact p.whole
  ·rw[if_neg e]at hb'
   rw[←hb'];refine p.keeps.whole (h.at_ _ (List.getElem_mem hj)) fun c=>e ?_
   obtain⟨hlt,hge⟩:=List.getElem?_eq_some_iff.1 hi;have h1:(bs.map (·.1))[i]'(by simpa using hlt)=(bs.map (·.1))[j]'(by simpa using hj):=by simp[hge,c]
   have hp:=List.pairwise_iff_getElem.1 h.nod;rcases Nat.lt_trichotomy i j with q | q | q
   ·exact absurd h1 (hp i j _ _ q)
   ·exact q
   ·exact absurd h1.symm (hp j i _ _ q)
 ·obtain⟨c,hc,e⟩:=hin b hb
  rw[←e];exact h.lo c hc
 ·exact h.apart r hr _ hmem (by rw[hk,e])
 ·obtain⟨c,hc,e⟩:=hin b hb
  rw[←e];exact h.apart r hr c hc
 ·exact(h.deep u hu).keeps p.keeps fun k _ hn=>⟨fun e=>hn.2.1 _ hmem e.symm,free_set hi hn⟩
theorem Env.push{v':Value}{e:TypeId}{sz n:Nat}{xs news:List Value}{v:Value}(h:Env w bs [⟨v,e,sz,n,xs⟩] ts x)(ho:y.ownsRow w.heap.size e sz v' (n+1) (xs++news))(hg:x.grownBy y v.ownBlock)
  (hat:v'.ownBlock=v.ownBlock∨v'.ownBlock=some x.heap.size):Env w bs [⟨v',e,sz,n+1,xs++news⟩] ts y:=by
 have hk:Zy (fun k=>v.ownBlock=some k) x y:=Zy.grown (Zy.refl _ _) hg fun k hk=>hk
 have hr:=h.row _ (List.mem_singleton.2 rfl);have ha:=h.apart _ (List.mem_singleton.2 rfl);refine⟨fun b hb=>hk.whole (h.at_ b hb) (ha b hb),h.lo,h.nod,fun r hr=>?_,fun r hr b hb=>?_,List.pairwise_singleton _ _,fun u hu=>?_,h.below.trans (hk.below h.below.size fun k e=>(hr.lt k e).1)⟩
 ·cases List.mem_singleton.1 hr;exact ho
 ·cases List.mem_singleton.1 hr
  rcases hat with e | e
  ·show v'.ownBlock≠_
   rw[e];exact ha b hb
  ·show v'.ownBlock≠_
   rw[e];intro c;have:=(h.at_ b hb).inside;injection c with c;omega
 ·refine(h.deep u hu).keeps hk fun k hk' hn=>⟨hn.2.2 _ (List.mem_singleton.2 rfl),hn.1,hn.2.1,fun r hr=>?_⟩
  cases List.mem_singleton.1 hr
  rcases hat with e | e
  ·show v'.ownBlock≠_
   rw[e];exact hn.2.2 _ (List.mem_singleton.2 rfl)
  ·show v'.ownBlock≠_
   rw[e];intro c;injection c with c;omega
theorem Env.row1(h:Env w bs [] ts x)(e:TypeId)(sz:Nat):Env w bs [⟨Λ none 0 0,e,sz,0,[]⟩] ts x:=
 ⟨h.at_,h.lo,h.nod,(fun r hr=>by cases List.mem_singleton.1 hr;exact⟨by simp,.inl ⟨rfl,rfl⟩⟩),(fun r hr b hb=>by cases List.mem_singleton.1 hr;simp[Value.ownBlock]),List.pairwise_singleton _ _,
   fun u hu=>(h.deep u hu).mono fun k _ hn=>⟨hn.1,hn.2.1,(fun r hr=>by cases List.mem_singleton.1 hr;simp[Value.ownBlock])⟩,h.below⟩
variable {P:Program} {ops:Array Oper} {rest:List Oper} {o:Oper} {a:Act} {Q:Exit→Act→World→Prop}
theorem Zk(h:Env w bs rs ts x)(t:TypeId)(v:Operand)(vs:List Value)(hg:o.guard=none)(ho:o.op=.box t v)(hv:a.eval v=.agg vs.toArray)
  (hn:∀ y g,Env w (bs++[(g,t,vs)]) rs ts y→wpList P ops Q rest (a.put o.dst (Ω (some ⟨g,0,none⟩))) y):wpList P ops Q (o::rest) a x:=
 wpList_boxTo hg t v ho o.dst rfl x.heap.size rfl vs.toArray (by rw[hv];rfl) (hn _ _ (h.box t vs))
theorem Zc(h:Env w bs rs ts x)(t:TypeId)(vs:List Value)(hg:o.guard=none)(ho:o.op=.alloc t)(hz:(P.info? t).map (fun i=>i.zero.map Value.cells)=some (some vs.toArray))
  (hn:∀ y g,Env w (bs++[(g,t,vs)]) rs ts y→wpList P ops Q rest (a.put o.dst (Ω (some ⟨g,0,none⟩))) y):wpList P ops Q (o::rest) a x:=by
 obtain⟨i,hi,hzz⟩:=Option.map_eq_some_iff.1 hz;obtain⟨z,hz1,hz2⟩:=Option.map_eq_some_iff.1 hzz;refine wpList_runTo hg o.dst rfl (Ω (some ⟨x.heap.size,0,none⟩)) (x.alloc (.cells vs.toArray t)) ?_ (hn _ _ (h.box t vs));unfold execOp;rw[ho];simp[Instr.alloc,zeroValue,typeInfo,hi,hz1,newVar,newRow,hz2,Sem.run_bind,Sem.run_pure,run_newObj_alloc]
end
theorem Env.less{w x:World}{bs cs:List Bk}{rs:List Rw}{ts us:List (Ds×List Value)}(h:Env w (bs++cs) rs (ts++us) x):Env w bs rs ts x:=
 ⟨fun b hb=>h.at_ b (List.mem_append_left _ hb),fun b hb=>h.lo b (List.mem_append_left _ hb),by have:=h.nod;rw[List.map_append,List.nodup_append]at this;exact this.1,h.row,fun r hr b hb=>h.apart r hr b (List.mem_append_left _ hb),h.rapart,
   fun u hu=>(h.deep u (List.mem_append_left _ hu)).mono fun k _ hn=>⟨hn.1,fun b hb=>hn.2.1 b (List.mem_append_left _ hb),hn.2.2⟩,h.below⟩
theorem Env.cell{w x:World}{bs:List Bk}{rs:List Rw}{ts:List (Ds×List Value)}(h:Env w bs rs ts x)(i n:Nat){g:Nat}{t:TypeId}{vs:List Value}{v:Value}(hi:bs[i]?=some (g,t,vs))(hv:vs[n]?=some v):x.cell? ⟨g,n,none⟩=some v:=by
 rw[(h.get i hi).read n,List.getElem?_toArray,hv]
theorem Env.perm{w x:World}{bs cs:List Bk}{rs:List Rw}{ts:List (Ds×List Value)}(h:Env w bs rs ts x)(p:bs.Perm cs):Env w cs rs ts x:=
 ⟨fun b hb=>h.at_ b (p.mem_iff.2 hb),fun b hb=>h.lo b (p.mem_iff.2 hb),(p.map _).nodup_iff.1 h.nod,h.row,fun r hr b hb=>h.apart r hr b (p.mem_iff.2 hb),h.rapart,
   fun t ht=>(h.deep t ht).mono fun k _ hn=>⟨hn.1,fun b hb=>hn.2.1 b (p.mem_iff.2 hb),hn.2.2⟩,h.below⟩
theorem Wk{w:World}{g:Nat}{t:TypeId}{a b c d e f:Value}(h:Ze w g t #[a,b,c,d,e,f]):w.cell? ⟨g,0,none⟩=some a∧w.cell? ⟨g,1,none⟩=some b∧w.cell? ⟨g,2,none⟩=some c∧w.cell? ⟨g,3,none⟩=some d∧w.cell? ⟨g,4,none⟩=some e∧w.cell? ⟨g,5,none⟩=some f:=
 ⟨by rw[h.read];rfl,by rw[h.read];rfl,by rw[h.read];rfl,by rw[h.read];rfl,by rw[h.read];rfl,by rw[h.read];rfl⟩
theorem Jt{o:Oper}{xs:Nat→Option Bool}(h:o.guard=none):Region.wanted o xs=true:=by unfold Region.wanted;rw[h]
section
variable {P:Program} {ops:Array Oper} {S:World→Prop} {o:Oper} {a:Act}
theorem yield_move{x:Operand}{v:Value}(g:o.guard=none)(ho:o.op=.move x)(e:a.eval x=v):YieldsIf P ops S o v a:=
 .inl ⟨(by unfold Region.wanted;rw[g]),fun w _=>by unfold execOp;rw[ho];simp[e,Sem.run_pure]⟩
theorem Zdt{T:TypeId}{x:Operand}{b k:Nat}{ys:List Value}(g:o.guard=none)(ho:o.op=.load T x)(hx:a.eval x=Ω (some ⟨b,k,none⟩))(hS:∀ w,S w→w.rangeAt b k ys)
  (hu:(P.underlying T).map TypeDesc.isRow=some true)(hi:(P.info? T).map (·.size)=some ys.length):YieldsIf P ops S o (.agg ys.toArray) a:=by
 obtain⟨d,hu,hr⟩:=Option.map_eq_some_iff.1 hu;exact yieldsIf_load_mid ((by unfold Region.wanted;rw[g])) T x ho b k hx ys d hS hu hr hi
end
theorem Zbg{w y:World}{b k:Nat}{ys:List Value}(h:w.rangeAt b k ys)(hb:b<w.heap.size)(hy:Below w.heap.size w y):y.rangeAt b k ys:=fun j v hv=>by
 have:=h j v hv;rw[←this];exact hy.cell (p:=⟨b,k+j,none⟩) hb
def Ext(x y:World):Prop:=Below x.heap.size x y
theorem Ext.refl(x:World):Ext x x:=Below.refl _ _
theorem Ext.trans{x y z:World}(h:Ext x y)(g:Ext y z):Ext x z:=Below.trans h (Below.mono g (Below.size h))
def Zdp(S:World→Prop):Prop:=∀ x y,S x→Ext x y→S y
theorem Zdp.and{S T:World→Prop}(h:Zdp S)(g:Zdp T):Zdp fun x=>S x∧T x:=fun x y a e=>⟨h x y a.1 e,g x y a.2 e⟩
section
variable {P:Program} {ops:Array Oper} {Q:Exit→Act→World→Prop} {md:Region.Mode}
def AB(P:Program)(md:Region.Mode)(ops:Array Oper)(Q:Exit→Act→World→Prop):Nat→(World→Prop)→Array Bool→Act→Prop
 |0,S,listed,a=>Region.ready md ops listed=[]∧∀ w,S w→Q .normal a w
 |n+1,S,listed,a=>(Region.ready md ops listed=[]→∀ w,S w→Q .normal a w) ∧
  ∀ i ∈ Region.ready md ops listed,∀ w,S w→wpOp P ops Q i (fun a' w'=>∃ S',S' w'∧Zdp S'∧(∀ x,S' x→S x)∧AB P md ops Q n S' (listed.setIfInBounds i true) a') a w
theorem AB.any:∀(n:Nat)(S:World→Prop)(listed:Array Bool)(a:Act)(w:World),AB P md ops Q n S listed a→S w→wpAny P md ops Q n listed a w
 |0,_,_,_,w,h,hS=>⟨h.1,h.2 w hS⟩
 |n+1,_,_,_,w,h,hS=>⟨fun e=>h.1 e w hS,fun i hi=>wpOp_mono (fun a' w' ⟨S',s,_,_,h'⟩=>AB.any n S' _ a' w' h' s) (h.2 i hi w hS)⟩
def Wx(P:Program)(ops:Array Oper)(S:World→Prop)(o:Oper)(v:Value)(a:Act):Prop:=
 (Region.wanted o (yielded ops a.tmps)=true∧∀ w,S w→(execOp a.eval o).run P w=.ok (.value v) w∨∃ f args,(execOp a.eval o).run P w=.ok (.enter f args) w∧Calls P f args w fun e w'=>e=η v∧Ext w w') ∨
 (Region.wanted o (yielded ops a.tmps)=false∧v=undef)
theorem YieldsIf.gives{S:World→Prop}{o:Oper}{v:Value}{a:Act}(h:YieldsIf P ops S o v a):Wx P ops S o v a:=h.imp (fun⟨hw,hv⟩=>⟨hw,fun w s=>.inl (hv w s)⟩) id
theorem Wx.mono{S T:World→Prop}{o:Oper}{v:Value}{a:Act}(h:Wx P ops S o v a)(hs:∀ x,T x→S x):Wx P ops T o v a:=h.imp (fun⟨hw,hv⟩=>⟨hw,fun w s=>hv w (hs w s)⟩) id
theorem Wx.same{S:World→Prop}{o:Oper}{v:Value}{a b:Act}(h:Wx P ops S o v a)(he:execOp b.eval o=execOp a.eval o)(hw:Region.wanted o (yielded ops b.tmps)=Region.wanted o (yielded ops a.tmps)):Wx P ops S o v b:=by
 unfold Wx at *;rw[he,hw];exact h
theorem Wx.op{S:World→Prop}{i:Nat}{o:Oper}{v:Value}{a:Act}(hi:ops[i]?=some o)(h:Wx P ops S o v a){K:Act→World→Prop}{w:World}(hS:S w)(hK:∀ w',Ext w w'→K (a.put o.dst v) w'):wpOp P ops Q i K a w:=by
 unfold wpOp;rw[hi];rcases h with⟨hw,hv⟩ | ⟨hw,rfl⟩
 ·simp only[hw,if_true]
  refine .inl ?_;unfold Oper.wp;rcases hv w hS with e | ⟨f,args,e,hc⟩
  ·rw[e];exact hK w (Ext.refl w)
  ·rw[e]
   refine Calls.mono hc fun e' w' he=>?_
   obtain⟨rfl,hx⟩:=he;exact hK w' hx
 ·simp only[hw,Bool.false_eq_true,if_false];exact hK w (Ext.refl w)
theorem Wx.past{S:World→Prop}{j:Nat}{oi oj:Oper}{v:Value}(hj:ops[j]?=some oj)(hap:oi.apart ops oj=true)(hsi:∀ cs b,oi.op≠.select cs b)(hsj:∀ cs b,oj.op≠.select cs b)
  (hQ:∀ c a w,Q (.panic c) (a.put oi.dst v) w→Q (.panic c) a w){K:Act→World→Prop}{a:Act}{w:World}(hy:Wx P ops S oi v a)(h:wpOp P ops Q j K (a.put oi.dst v) w) :
  wpOp P ops Q j (fun a' w'=>Wx P ops S oi v a'∧K (a'.put oi.dst v) w') a w:=by
 obtain⟨h1,h2,h3⟩:=Oper.apart_spec hap;have keep:∀(b:Act),Wx P ops S oi v b→∀ u,Wx P ops S oi v (b.put oj.dst u):=fun b hb u=>hb.same (execOp_put oi hsi b oj.dst u h3) (wanted_put oi b oj.dst u h3)
 have swap:∀(b:Act) u,(b.put oi.dst v).put oj.dst u=(b.put oj.dst u).put oi.dst v:=fun b u=>Act.put_comm b v u h2
 have hx:=execOp_put oj hsj a oi.dst v h1;unfold wpOp at *;simp only[hj]at *;rw[wanted_put oj a oi.dst v h1]at h;by_cases hw:Region.wanted oj (yielded ops a.tmps)=true
 ·simp only[hw,if_true]at h ⊢
  rcases h with h | ⟨ha,hl⟩
  ·refine .inl ?_
   unfold Oper.wp at *;rw[hx]at h;revert h
   cases(execOp a.eval oj).run P w with
   |ok n x=>
    cases n with
    |value u=>intro h;exact⟨keep a hy u,by rw[←swap];exact h⟩
    |skip=>intro h;exact⟨keep a hy _,by rw[←swap];exact h⟩
    |defer d=>
     intro h;refine⟨keep _ (hy.same (b:= { a with defers:=d::a.defers }) rfl rfl) _,?_⟩;rw[←swap,←Act.put_defers];exact h
    |enter f args=>
     intro h;refine Calls.mono h fun e y he=>?_
     cases e with
     |returned u=>exact⟨keep a hy u,by rw[←swap];exact he⟩
     |panicked c=>exact hQ _ _ _ he
     |outgrown=>exact he
    |row r args=>intro h;exact Rows.mono h fun u y he=>⟨keep a hy u,by rw[←swap];exact he⟩
    |_=>intro h;exact h
   |halt x y=>
    cases x with
    |panic u=>intro h;exact hQ _ _ _ h
    |_=>intro h;exact h
  ·exact .inr ⟨by unfold Oper.asks at *;rw[hx]at ha;exact ha,hl⟩
 ·have hw:Region.wanted oj (yielded ops a.tmps)=false:=by simpa using hw
  simp only[hw,Bool.false_eq_true,if_false]at h ⊢;exact⟨keep a hy _,by rw[←swap];exact h⟩
theorem AB.first{i:Nat}{oi:Oper}{v:Value}(hi:ops[i]?=some oi)(hsel:∀(j:Nat)(o:Oper) cs b,ops[j]?=some o→o.op≠.select cs b)(hQ:∀ c a w,Q (.panic c) (a.put oi.dst v) w→Q (.panic c) a w) :
  ∀(n:Nat)(S:World→Prop)(listed:Array Bool)(a:Act),(∀ j oj,ops[j]?=some oj→j≠i→listed.getD j true=false→(∀ e ∈ oj.after,Region.binds md e=true→e.on≠i)→oi.apart ops oj=true) →
   i ∈ Region.ready md ops listed→Zdp S→Wx P ops S oi v a→AB P md ops Q n S (listed.setIfInBounds i true) (a.put oi.dst v)→AB P md ops Q (n+1) S listed a:=by
 intro n;induction n with
 |zero=>
  intro S listed a _ hr hst hy H;refine⟨fun e=>(by rw[e]at hr;cases hr),fun j hj w hS=>?_⟩;by_cases hji:j=i
  ·subst hji;exact hy.op hi hS fun w' e=>⟨S,hst _ _ hS e,hst,fun _ h=>h,H⟩
  ·have:=ready_mono hj hji
   rw[H.1]at this;cases this
 |succ n ih=>
  intro S listed a hfree hr hst hy H;refine⟨fun e=>(by rw[e]at hr;cases hr),fun j hj w hS=>?_⟩;by_cases hji:j=i
  ·subst hji;exact hy.op hi hS fun w' e=>⟨S,hst _ _ hS e,hst,fun _ h=>h,H⟩
  ·have h1:=H.2 j (ready_mono hj hji) w hS
   obtain⟨hjun,oj,hoj,hall⟩:=mem_ready.1 hj
   have hnot:∀ e ∈ oj.after,Region.binds md e=true→e.on≠i:=fun e he hb heq=>by
    have h1:=hall e he hb;have h0:=(mem_ready.1 hr).1;rw[heq]at h1;rcases Nat.lt_or_ge i listed.size with h' | h'
    ·simp[h']at h0 h1;rw[h0]at h1;cases h1
    ·simp[Array.getElem?_eq_none h']at h1
   have h2:=Wx.past hoj (hfree j oj hoj hji hjun hnot) (fun cs b=>hsel i oi cs b hi) (fun cs b=>hsel j oj cs b hoj) hQ hy h1;refine wpOp_mono (fun a' w' h3=>?_) h2;obtain⟨hg,S',hs',st',sub,hab⟩:=h3;refine⟨S',hs',st',sub,ih S' (listed.setIfInBounds j true) a' (fun k ok hk hki hun hno=>hfree k ok hk hki ?_ hno) (ready_mono hr (Ne.symm hji)) st' (hg.mono sub) ?_⟩
   ·by_cases hjk:j=k
    ·subst hjk;exact hjun
    ·rw[getD_set_ne true hjk]at hun;exact hun
   ·rw[Array.setIfInBounds_comm _ _ hji]
    exact hab
theorem AB.take{i k n:Nat}{oi:Oper}{v:Value}{S:World→Prop}{listed:Array Bool}{l:List Value}{d:List Deferred}(hi:ops[i]?=some oi)(hd:oi.dst=some k)
  (hs:Region.noSelect ops=true)(hf:Region.free md ops listed i=true)(hr:(Region.ready md ops listed).contains i=true)
  (hQ:∀ c a w,Q (.panic c) (a.put oi.dst v) w→Q (.panic c) a w)(hst:Zdp S)(hy:Wx P ops S oi v ⟨l.toArray,d⟩)
  (h:AB P md ops Q n S (listed.setIfInBounds i true) ⟨(l.set k v).toArray,d⟩):AB P md ops Q (n+1) S listed ⟨l.toArray,d⟩:=by
 refine AB.first hi (Region.noSelect_spec hs) hQ n S listed _ (Region.free_spec hi hf) (by simpa using hr) hst hy ?_;rw[hd];simpa[Act.put]using h
theorem AB.tk{k n:Nat}{oi:Oper}(i:Nat)(v:Value){S:World→Prop}{listed:Array Bool}{l:List Value}{d:List Deferred}(hi:ops[i]?=some oi)(hd:oi.dst=some k)
  (hb:(Region.noSelect ops&&Region.free md ops listed i&&(Region.ready md ops listed).contains i)=true)
  (hQ:∀ c a w,Q (.panic c) (a.put oi.dst v) w→Q (.panic c) a w)(hst:Zdp S)(hy:Wx P ops S oi v ⟨l.toArray,d⟩)
  (h:AB P md ops Q n S (listed.setIfInBounds i true) ⟨(l.set k v).toArray,d⟩):AB P md ops Q (n+1) S listed ⟨l.toArray,d⟩:=by
 simp only[Bool.and_eq_true] at hb
 exact AB.take hi hd hb.1.1 hb.1.2 hb.2 hQ hst hy h
def Zeg(P:Program)(md:Region.Mode)(ops:Array Oper)(Q:Exit→Act→World→Prop)(n:Nat)(S:World→Prop)(listed:Array Bool)(a:Act)(i:Nat):Prop:=
 ∀ w,S w→wpOp P ops Q i (fun a' w'=>∃ S',S' w'∧Zdp S'∧(∀ x,S' x→S x)∧AB P md ops Q n S' (listed.setIfInBounds i true) a') a w
theorem Zeg.some{ι : Type}{i k n f:Nat}{args:Array Value}{oi:Oper}{val : ι → Value}{φ : ι → World→Prop}{S:World→Prop}{listed:Array Bool}{l:List Value}{d:List Deferred}(hi:ops[i]?=some oi)(hd:oi.dst=some k)
  (hg:oi.guard=none)(hst:Zdp S)(he:∀ w,S w→(execOp (⟨l.toArray,d⟩:Act).eval oi).run P w=.ok (.enter f args) w)
  (hc:∀ w,S w→Calls P f args w fun e w'=>∃ g,e=η (val g) ∧ φ g w'∧Ext w w')(hφ : ∀ g,Zdp (φ g))
  (h:∀ g,AB P md ops Q n (fun x=>S x ∧ φ g x) (listed.setIfInBounds i true) ⟨(l.set k (val g)).toArray,d⟩):Zeg P md ops Q n S listed ⟨l.toArray,d⟩ i:=by
 intro w hS;unfold wpOp;rw[hi];have hw:Region.wanted oi (yielded ops (⟨l.toArray,d⟩:Act).tmps)=true:=by unfold Region.wanted;rw[hg]
 simp only[hw,if_true];refine .inl ?_;unfold Oper.wp;rw[he w hS];refine Calls.mono (hc w hS) fun e w' hh=>?_
 obtain⟨g,rfl,hp,hx⟩:=hh;refine⟨fun x=>S x ∧ φ g x,⟨hst _ _ hS hx,hp⟩,hst.and (hφ g),fun _ h=>h.1,?_⟩;have:=h g;rw[hd];simpa[Act.put]using this
theorem AB.one{i n:Nat}{S:World→Prop}{listed:Array Bool}{a:Act}(hr:Region.ready md ops listed=[i])(h:Zeg P md ops Q n S listed a i):AB P md ops Q (n+1) S listed a:=
 ⟨fun e=>(by rw[hr]at e;cases e),fun j hj=>by
   rw[hr,List.mem_singleton]at hj;subst hj;exact h⟩
theorem AB.done{n:Nat}{S:World→Prop}{listed:Array Bool}{a:Act}(hr:Region.ready md ops listed=[])(h:∀ w,S w→Q .normal a w):AB P md ops Q n S listed a:=by
 cases n with
 |zero=>exact⟨hr,h⟩
 |succ n=>exact⟨fun _=>h,by rw[hr];simp⟩
theorem Wx.call{S:World→Prop}{o:Oper}{a:Act}{f:Nat}{args:Array Value}{v:Value}(g:o.guard=none)(he:∀ w,(execOp a.eval o).run P w=.ok (.enter f args) w)(hc:∀ w,S w→Calls P f args w fun e w'=>e=η v∧Below w.heap.size w w'):Wx P ops S o v a:=
 .inl ⟨by unfold Region.wanted;rw[g],fun w hS=>.inr ⟨f,args,he w,hc w hS⟩⟩
theorem Yi{S:World→Prop}{o:Oper}{a:Act}{t u:TypeId}{x y:Operand}{s r:ByteArray}(g:o.guard=none)(ho:o.op=.binOp .add t x y u)(hx:a.eval x=Ψ s)(hy:a.eval y=Ψ r)(hz:s.size+r.size≤9223372036854775807):Wx P ops S o (Ψ (s++r)) a:=
 .inl ⟨by unfold Region.wanted;rw[g],fun w _=>.inl (by
  unfold execOp;rw[ho];have h:=run_string_add_sum (P:=P) (w:=w) s r hz;simp[hx,hy,eqGuard,Sem.run_bind,Sem.run_pure,binOp_string_add,h])⟩
theorem Vn{S:World→Prop}{o:Oper}{a:Act}{x:Operand}{v:Value}(g:o.guard=none)(ho:o.op=.move x)(e:a.eval x=v):Wx P ops S o v a:=YieldsIf.gives (yield_move g ho e)
theorem Zn{S:World→Prop}{o:Oper}{a:Act}{v:Value}(g:o.guard=none)(h:∀ w,S w→(execOp a.eval o).run P w=.ok (.value v) w):Wx P ops S o v a:=.inl ⟨by unfold Region.wanted;rw[g],fun w s=>.inl (h w s)⟩
theorem Wx.callG{S:World→Prop}{o:Oper}{a:Act}{f:Nat}{args:Array Value}{v:Value}(g:Region.wanted o (yielded ops a.tmps)=true)(he:∀ w,(execOp a.eval o).run P w=.ok (.enter f args) w)(hc:∀ w,S w→Calls P f args w fun e w'=>e=η v∧Below w.heap.size w w'):Wx P ops S o v a:=
 .inl ⟨g,fun w hS=>.inr ⟨f,args,he w,hc w hS⟩⟩
theorem Jy{S:World→Prop}{o:Oper}{a:Act}{v:Value}(g:Region.wanted o (yielded ops a.tmps)=true)(h:∀ w,S w→(execOp a.eval o).run P w=.ok (.value v) w):Wx P ops S o v a:=.inl ⟨g,fun w s=>.inl (h w s)⟩
theorem Zgd{S:World→Prop}{o:Oper}{a:Act}{x:Operand}{v:Value}(g:Region.wanted o (yielded ops a.tmps)=true)(ho:o.op=.move x)(e:a.eval x=v):Wx P ops S o v a:=
 .inl ⟨g,fun w _=>.inl (by unfold execOp;rw[ho];simp[e,Sem.run_pure])⟩
theorem Zee{S:World→Prop}{o:Oper}{a:Act}{T:TypeId}{x:Operand}{b k:Nat}{ys:List Value}(g:Region.wanted o (yielded ops a.tmps)=true)(ho:o.op=.load T x)(hx:a.eval x=Ω (some ⟨b,k,none⟩))(hS:∀ w,S w→w.rangeAt b k ys)
  (hu:(P.underlying T).map TypeDesc.isRow=some true)(hi:(P.info? T).map (·.size)=some ys.length):Wx P ops S o (.agg ys.toArray) a:=by
 obtain⟨d,hu,hr⟩:=Option.map_eq_some_iff.1 hu;exact YieldsIf.gives (yieldsIf_load_mid g T x ho b k hx ys d hS hu hr hi)
theorem Zge{S:World→Prop}{o:Oper}{a:Act}{t e:TypeId}{x y:Operand}{b n c k sz:Nat}(g:Region.wanted o (yielded ops a.tmps)=true)(ho:o.op=.indexAddr t x y)(hx:a.eval x=Λ (some ⟨b,0,none⟩) n c)(hy:a.eval y=I J (k:Int))(hk:k<n)
  (hu:P.underlying t=some (.slice e))(hs:(P.info? e).map (·.size)=some sz):Wx P ops S o (Ω (some ⟨b,k*sz,none⟩)) a:=
 .inl ⟨g,fun w _=>.inl (by
  obtain⟨i,hi,hz⟩:=Option.map_eq_some_iff.1 hs;unfold execOp;rw[ho];have h0:(0:Int)≤(k:Int):=by omega
  have h1:(k:Int)<(n:Int):=by omega
  have h2:((k:Int)).toNat=k:=by omega
  simp[hx,hy,Instr.indexAt,asIntOf,run_underlying hu,sizeOf,typeInfo,hi,hz,h1,Addr.add_lit,Sem.run_bind,Sem.run_pure];intro hle;omega)⟩
theorem Xg{id:Nat}{a:Act}{w:World}(S:World→Prop)(hm:P.follows .mixedOrders=true)(hS:S w.drew)(h:AB P .any ops Q ops.size S (Array.replicate ops.size false) a):(Code.region id ops true).wp P Q a w:=
 wp_region_any hm (AB.any _ S _ _ _ h hS)
end
open Go.ChangeShapes Go.WideShapes Go.ChangeAt Go.RowKit Go.Great
def Zlg(w:World)(L:List ByteArray)(n:Nat)(e:Ending)(w':World):Prop:=∃ g,e=η (Λ (some ⟨g,0,none⟩) n n)∧Ze w' g 9 (L.map Value.string).toArray∧Below w.heap.size w w'
def Zgy:List ByteArray:=⟨#[]⟩::Zg
def wWheres:List ByteArray:=⟨#[]⟩::Zz
def wPicks:List ByteArray:=⟨#[]⟩::Wo
def wTos:List ByteArray:=⟨#[]⟩::wTo
def wOps:List ByteArray:=⟨#[]⟩::wOp
def wHows:List ByteArray:=⟨#[]⟩::Zde
def wWhens:List ByteArray:=⟨#[]⟩::Yx
def wActs:List ByteArray:=⟨#[]⟩::Xr
theorem Wi{w:World}{g:Nat}{L:List ByteArray}(h:Ze w g 9 ((⟨#[]⟩::L).map Value.string).toArray){k:Nat}(h1:1≤k)(h2:k≤L.length):w.cell? ⟨g,k,none⟩=some (Ψ (wd L (k:Int))):=by
 rw[h.read];obtain⟨j,rfl⟩:∃ j,k=j+1:=⟨k - 1,by omega⟩
 have hj:j<L.length:=by omega
 have e:(((j+1:Nat):Int)).toNat - 1=j:=by omega
 unfold wd;rw[e,List.getElem?_eq_getElem hj];simp[hj]
theorem Yr{L:List ByteArray}(h:(L.all fun t=>decide (t.size≤10))=true)(k:Int):(wd L k).size≤10:=by
 unfold wd;cases e:L[k.toNat - 1]? with
 |none=>show(0:Nat)≤10;omega
 |some t=>
  have:=List.all_eq_true.1 h t (List.mem_of_getElem? e);simpa using this
theorem Zen(w:World):Calls Φ 119 #[] w (Zlg w Zgy 4):=by
 go_enter Tryz.func119,Tryz.ntmps119;go_wp2
 go_ret;exact⟨w.heap.size,rfl,Ze.made w 9 (Zgy.map Value.string).toArray,(Below.refl _ _).alloc (Θ _) _⟩
theorem rz_wheres(w:World):Calls Φ 151 #[] w (Zlg w wWheres 5):=by
 go_enter Tryz.func151,Tryz.ntmps151;go_wp2
 go_ret;exact⟨w.heap.size,rfl,Ze.made w 9 (wWheres.map Value.string).toArray,(Below.refl _ _).alloc (Θ _) _⟩
theorem rz_picks(w:World):Calls Φ 152 #[] w (Zlg w wPicks 6):=by
 go_enter Tryz.func152,Tryz.ntmps152;go_wp2
 go_ret;exact⟨w.heap.size,rfl,Ze.made w 9 (wPicks.map Value.string).toArray,(Below.refl _ _).alloc (Θ _) _⟩
theorem rz_tos(w:World):Calls Φ 153 #[] w (Zlg w wTos 5):=by
 go_enter Tryz.func153,Tryz.ntmps153;go_wp2
 go_ret;exact⟨w.heap.size,rfl,Ze.made w 9 (wTos.map Value.string).toArray,(Below.refl _ _).alloc (Θ _) _⟩
theorem rz_ops(w:World):Calls Φ 117 #[] w (Zlg w wOps 7):=by
 go_enter Tryz.func117,Tryz.ntmps117;go_wp2
 go_ret;exact⟨w.heap.size,rfl,Ze.made w 9 (wOps.map Value.string).toArray,(Below.refl _ _).alloc (Θ _) _⟩
theorem rz_hows(w:World):Calls Φ 121 #[] w (Zlg w wHows 5):=by
 go_enter Tryz.func121,Tryz.ntmps121;go_wp2
 go_ret;exact⟨w.heap.size,rfl,Ze.made w 9 (wHows.map Value.string).toArray,(Below.refl _ _).alloc (Θ _) _⟩
theorem rz_whens(w:World):Calls Φ 61 #[] w (Zlg w wWhens 7):=by
 go_enter Tryz.func61,Tryz.ntmps61;go_wp2
 go_ret;exact⟨w.heap.size,rfl,Ze.made w 9 (wWhens.map Value.string).toArray,(Below.refl _ _).alloc (Θ _) _⟩
theorem Zas(w:World):Calls Φ 115 #[] w (Zlg w wActs 16):=by
 go_enter Tryz.func115,Tryz.ntmps115;go_wp2
 go_ret;exact⟨w.heap.size,rfl,Ze.made w 9 (wActs.map Value.string).toArray,(Below.refl _ _).alloc (Θ _) _⟩
theorem Zjg(n:Int)(w:World)(h1 : -9223372036854775808≤n)(h2:n≤9223372036854775807):Calls Φ 29 #[I J n] w fun e w'=>e=η (Ψ (Xf n))∧Below w.heap.size w w':=by
 go_enter Tryz.func29,Tryz.ntmps29;go_wp2_with(go_at_call 60;refine(drPut_any _ n _ (Θ _) h1 h2).mono ?_;rintro e w1 ⟨rfl,b1⟩)
 go_ret;exact⟨rfl,b1⟩
theorem rz_lane4(l:Int)(h0:0≤l)(h9:l≤99)(w:World):Calls Φ 120 #[.agg #[I J 4,I J l]] w fun e w'=>e=η (Ψ (Zon 4 l))∧Below w.heap.size w w':=by
 have T:=Hh (Env.start w);have hz:=Zaw l (by omega) (by omega);have e:Zon 4 l=⟨#[108,97,110,101,32]⟩++Xf l:=if_pos rfl;rw[e];clear e;have hn:=fun x=>Zjg l x (by omega) (by omega)
 generalize Xf l=t at *;go_enter Tryz.func120,Tryz.ntmps120;go_wp2_with(first
 |((with_reducible refine Zd 1 ?_);refine Zk T.out 51 _ ([I J 4,I J l]) rfl rfl rfl ?_;intro wn g0 tn;have T:=Hh tn;clear tn;have c0:=T.out.cell 0 0 rfl rfl;have c1:=T.out.cell 0 1 rfl rfl)
 |(go_at_call 29;refine(hn _).mono ?_;rintro e wn ⟨rfl,bn⟩;have T:=Hh (T.out.call bn);clear bn))
 go_ret;exact⟨rfl,T.out.below⟩
theorem rz_lane(k:Nat)(h1:1≤k)(h3:k≤3)(l:Int)(w:World):Calls Φ 120 #[.agg #[I J (k:Int),I J l]] w fun e w'=>e=η (Ψ (Zon (k:Int) l))∧Below w.heap.size w w':=by
 have T:=Hh (Env.start w);have e:Zon (k:Int) l=wd wTo (k:Int):=if_neg (by omega);rw[e];clear e;have hw:=fun(x:World)(g:Nat)(h:Ze x g 9 (wTos.map Value.string).toArray)=>Wi h h1 (show k≤wTo.length by show k≤4;omega)
 have b4:((k:Int) == 4)=false:=by simp;omega
 have l0:(0:Int)≤(k:Int):=by omega
 have l5:(k:Int)<5:=by omega
 generalize wd wTo (k:Int)=t at *;have HW:=Hh hw;clear hw;go_enter Tryz.func120,Tryz.ntmps120;go_upto_region 3 with((with_reducible refine Zd 1 ?_);refine Zk T.out 51 _ ([I J (k:Int),I J l]) rfl rfl rfl ?_;intro wn g0 tn;have T:=Hh tn;clear tn;have c0:=T.out.cell 0 0 rfl rfl)
 have T2:=Hh T.out.drew;have c2:=T2.out.cell 0 0 rfl rfl;go_region_with(go_at_call 153;refine(rz_tos _).mono ?_;rintro e wn ⟨g,rfl,hg,bn⟩;have T:=Hh (T2.out.call bn);clear bn;have c0:=T.out.cell 0 0 rfl rfl;have cg:=HW.out _ _ hg;clear hg)
 all_goals
  go_wp2
  go_ret;exact⟨rfl,T.out.below⟩
theorem Zpm{k l:Int}(hv:VTo k l)(w:World):Calls Φ 120 #[.agg #[I J k,I J l]] w fun e w'=>e=η (Ψ (Zon k l))∧Below w.heap.size w w':=by
 rcases hv with⟨hk,_⟩ | ⟨hk,h0,h9⟩
 ·obtain⟨j,rfl⟩:∃ j:Nat,k=j:=⟨k.toNat,by omega⟩
  exact rz_lane j (by omega) (by omega) l w
 ·subst hk
  exact rz_lane4 l h0 h9 w
theorem push_at{P:Program}{w w':World}(base:Nat)(t u ty e:TypeId)(i:TypeInfo)(ht:P.underlying t=some (.slice e))(hu:P.underlying u=some .string)(hi:P.info? e=some i)(hz:i.zero=some (.int .u8 0))
  (hsize:i.size=1)(hby:i.bytes=1)(v v':Value)(n:Nat)(xs:List Value)(hown:w.ownsRow base e 1 v n xs)(s:ByteArray)(h63:n+s.size≤maxLen)(hbytes:n+s.size≤140737488355328)
  (hr:(Builtin.append_ #[t,u] ty #[v,Ψ s]).run P w=.ok v' w'):v'.ownBlock=v.ownBlock∨v'.ownBlock=some w.heap.size:=by
 have hsmall:n+s.size≤9223372036854775807:=by simp only[maxLen]at h63;omega
 have hxl:xs.length=n:=by simpa using hown.1
 rcases hown.2 with⟨rfl,rfl⟩ | ⟨g,cap,cur,rfl,hbg,hg,hnc,hcm,hcs,htake⟩
 ·by_cases hm:s.size=0
  ·have hf:=Lib.run_firstCells_string (P:=P) w 1 s
   rw[hm]at hf
   have h2:(Builtin.append_ #[t,u] ty #[Λ none 0 0,Ψ s]).run P w=.ok (Λ none 0 0) w:=by
    simp[Builtin.append_,run_underlying ht,run_underlying hu,sizeOf,typeInfo,hi,hsize,Builtin.lenOf,hm,hf]
   rw[h2]at hr;injection hr with e1 e2;subst e1;exact .inl rfl
  ·have h2:=run_append_nil_string (P:=P) w t u ty e i (.int .u8 0) ht hu hi hz s (by omega) (by omega) (by rw[hby];omega)
   rw[h2]at hr;injection hr with e1 e2;subst e1;exact .inr rfl
 ·by_cases hroom:n+s.size≤cap
  ·have hcs':cur.size=cap:=by simpa using hcs
   have h2:=Lib.run_append_room_string (P:=P) w t u ty e i ht hu hi hsize g n cap cur hg s hroom (by omega);rw[h2]at hr;injection hr with e1 e2;subst e1;exact .inl rfl
  ·have holds:∀ j u,xs[j]?=some u→w.cell? ((⟨g,0,none⟩:Addr).add j)=some u:=hown.cells (g:=g) rfl
   have h2:=Lib.run_append_grow_string (P:=P) w t u ty e i (.int .u8 0) ht hu hi hz ⟨g,0,none⟩ n cap xs (by rw[hsize];simpa using hxl) holds s (by omega) (by omega) (by rw[hby];exact growslice_fits (by omega) (by omega));rw[h2]at hr;injection hr with e1 e2;subst e1;exact .inr rfl
theorem wpList_pushAt{P:Program}{w:World}{ops:Array Oper}{rest:List Oper}{o:Oper}{a:Act}{Q:Exit→Act→World→Prop}(sl x:Operand)(t u e:TypeId)
  (ht:P.underlying t=some (.slice e))(hu:P.underlying u=some .string)(hinfo:(P.info? e).map (fun i=>(i.zero,i.size,i.bytes))=some (some (.int .u8 0),1,1))
  (hgd:o.guard=none)(ho:o.op=.call { callee:=.builtin .append,args:=#[sl,x],argTypes:=#[t,u] })
  (base:Nat)(v:Value)(n:Nat)(l m:List Int)(hs:a.eval sl=v)(hown:w.ownsRow base e 1 v n (l.map (Value.int .u8)))(hx:a.eval x=Ψ (strOfNums m))(hm:∀ x ∈ m,0≤x∧x<256)
  (hn:n+m.length≤1099511627776)(hbase:base≤w.heap.size)
  (h:∀ v' w',w'.ownsRow base e 1 v' (n+m.length) ((l++m).map (Value.int .u8))→w.grownBy w' v.ownBlock→(v'.ownBlock=v.ownBlock∨v'.ownBlock=some w.heap.size)→wpList P ops Q rest (a.put o.dst v') w'):wpList P ops Q (o::rest) a w:=by
 obtain⟨i,hi,hz,hsize,hbytes⟩:=info_parts hinfo;have hsz:(strOfNums m).size=m.length:=strOfNums_size m;refine wpList_plain hgd fun K hK=>?_
 obtain⟨v',w',hr,h2,h3,h4⟩:=Lib.run_append_own_string (P:=P) w base t u o.type e i ht hu hi hz hsize hbytes v n _ hown (strOfNums m) (by rw[hsz];unfold maxLen;omega) (by rw[hsz];omega) hbase;have h5:=push_at base t u o.type e i ht hu hi hz hsize hbytes v v' n _ hown (strOfNums m) (by rw[hsz];unfold maxLen;omega) (by rw[hsz];omega) hr;unfold Oper.wp execOp;simp only[ho,resolve,invoke,builtin,Sem.run_bind,Sem.run_pure,Result.andThen_ok,List.map_toArray,List.map_cons,List.map_nil,hs,hx,hr];rw[hsz,strCells_str m hm,←List.map_append]at h2;exact hK _ _ (h v' w' h2 h3 h5)
theorem Ze.shape{w:World}{g:Nat}{t:TypeId}{cs:Array Value}(h:Ze w g t cs):w.shape? g=some (t,cs.size):=by
 unfold Ze at h;simp[World.shape?,h]
theorem bd_size:∃ j,Tryz.prog.info? 119=some j∧j.size≠0:=by
 have h:(Tryz.prog.info? 119).map (fun i=>decide (i.size≠0))=some true:=by kernel_rfl
 obtain⟨j,hj,hz⟩:=Option.map_eq_some_iff.1 h;exact⟨j,hj,by simpa using hz⟩
theorem bd_used(b:Nat)(w:World)(h0:w.cell? ⟨b,0,none⟩=some (Ω (some ⟨b,0,none⟩))) :
  Calls Φ 113 #[Ω (some ⟨b,0,none⟩)] w fun e w'=>e=η (.tuple #[])∧w=w':=by
 obtain⟨j,hj,hz⟩:=bd_size;have hq:=Lib.run_neq_ptr_same (P:=Φ) w ⟨b,0,none⟩ Tryz.underlying116 hj;go_enter Tryz.func113,Tryz.ntmps113;go_wp2
 go_end0
 exact⟨rfl,rfl⟩
theorem bd_fresh(T:TypeId)(n:Nat)(b:Nat)(w:World)(h0:w.cell? ⟨b,0,none⟩=some (Ω none))(hsh:w.shape? b=some (T,n))(hn:0<n)(hl:liesAt Φ Tryz.prog.depth T (n / Tryz.prog.cellsOf T) 0 119 1=true)(hfz:w.frozen? ⟨b,0,none⟩=false) :
  Calls Φ 113 #[Ω (some ⟨b,0,none⟩)] w fun e w'=>e=η (.tuple #[])∧w'=w.setCell ⟨b,0,none⟩ (Ω (some ⟨b,0,none⟩)):=by
 obtain⟨j,hj,hz⟩:=bd_size;have q1:=Lib.run_to_unsafe (P:=Φ) w ⟨b,0,none⟩ Tryz.underlying116 Tryz.underlying219 hj hz hsh hn;have q2:=Lib.run_from_unsafe (P:=Φ) w ⟨b,0,none⟩ Tryz.underlying219 Tryz.underlying116 hj hsh hl
 have q3:∀ y,(callFunc 148 #[Ω (some ⟨b,0,none⟩)]).run Φ y=.ok (.value (Ω (some ⟨b,0,none⟩))) y:=fun y=>by
  rw[run_callFunc_extern Tryz.func148 (by kernel_rfl) (by kernel_rfl) (by kernel_rfl) (e:=Extern.AbiNoEscape.same) (by kernel_rfl),Lib.run_noEscape];rfl
 have q4:=Lib.run_neq_ptr_same (P:=Φ) (w.setCell ⟨b,0,none⟩ (Ω (some ⟨b,0,none⟩))) ⟨b,0,none⟩ Tryz.underlying116 hj;clear hsh hl;go_enter Tryz.func113,Tryz.ntmps113;go_wp2
 go_end0
 exact⟨rfl,rfl⟩
structure Zbc(T:TypeId)(rest:List Value)(B:Nat)(w:World)(b:Nat)(a v:Value)(bs:List Int):Prop where
 whole:Ze w b T (a::v::rest).toArray
 row:w.ownsRow B 5 1 v bs.length (bs.map (Value.int .u8))
 lo:B≤b
 far:v.ownBlock≠some b
 used:a=Ω none∨a=Ω (some ⟨b,0,none⟩)
structure Jc(b:Nat)(v:Value)(w:World)(v':Value)(w':World):Prop where
 keeps:Zy (fun k=>k=b∨v.ownBlock=some k) w w'
 fresh:∀ k,v'.ownBlock=some k→v.ownBlock=some k∨w.heap.size≤k
theorem Jc.refl(b:Nat)(v:Value)(w:World):Jc b v w v w:=⟨Zy.refl _ _,fun _ h=>.inl h⟩
theorem Jc.of_below{b:Nat}{v:Value}{w w':World}(h:Below w.heap.size w w'):Jc b v w v w':=⟨Zy.of_below h,fun _ h=>.inl h⟩
theorem Jc.trans{b:Nat}{v v1 v2:Value}{x y z:World}(h:Jc b v x v1 y)(k:Jc b v1 y v2 z):Jc b v x v2 z:=by
 refine⟨⟨k.keeps.os.trans h.keeps.os,k.keeps.tape.trans h.keeps.tape,k.keeps.output.trans h.keeps.output,Ξ h.keeps.size k.keeps.size,fun i hi hn=>?_⟩,fun i hi=>?_⟩
 ·refine(k.keeps.block i (Nat.lt_of_lt_of_le hi h.keeps.size) (fun c=>?_)).trans (h.keeps.block i hi hn)
  rcases c with c | c
  ·exact hn (.inl c)
  ·rcases h.fresh i c with e | e
   ·exact hn (.inr e)
   ·omega
 ·rcases k.fresh i hi with e | e
  ·exact h.fresh i e
  ·exact .inr (Ξ h.keeps.size e)
theorem Zbc.below{T:TypeId}{rest:List Value}{B:Nat}{w w':World}{b:Nat}{a v:Value}{bs:List Int}(h:Zbc T rest B w b a v bs)(hb:Below w.heap.size w w'):Zbc T rest B w' b a v bs:=
 ⟨h.whole.below hb h.whole.inside,Jw h.row hb,h.lo,h.far,h.used⟩
theorem Zbc.self{T:TypeId}{rest:List Value}{B:Nat}{w:World}{b:Nat}{a v:Value}{bs:List Int}(h:Zbc T rest B w b a v bs):Zbc T rest B (w.setCell ⟨b,0,none⟩ (Ω (some ⟨b,0,none⟩))) b (Ω (some ⟨b,0,none⟩)) v bs:=
 ⟨by have:=h.whole.write 0 (Ω (some ⟨b,0,none⟩));simpa using this,Zbj h.row h.far _,h.lo,h.far,.inr rfl⟩
theorem bdCheck{T:TypeId}{rest:List Value}{B:Nat}{w:World}{b:Nat}{a v:Value}{bs:List Int}(h:Zbc T rest B w b a v bs)(hl:liesAt Φ Tryz.prog.depth T ((rest.length+2) / Tryz.prog.cellsOf T) 0 119 1=true) :
  Calls Φ 113 #[Ω (some ⟨b,0,none⟩)] w fun e w'=>e=η (.tuple #[])∧Zbc T rest B w' b (Ω (some ⟨b,0,none⟩)) v bs∧Jc b v w v w':=by
 have c0:w.cell? ⟨b,0,none⟩=some a:=by rw[h.whole.read];rfl
 rcases h.used with hu | hu
 ·rw[hu]at c0
  refine(bd_fresh T (rest.length+2) b w c0 (by rw[h.whole.shape];simp) (by omega) hl (h.whole.thawed 0)).mono ?_;rintro e w' ⟨rfl,rfl⟩;exact⟨rfl,h.self,(Zy.refl _ w).setCell (p:=⟨b,0,none⟩) (.inl rfl) _,fun k hk=>.inl hk⟩
 ·rw[hu]at c0
  refine(bd_used b w c0).mono ?_;rintro e w' ⟨rfl,rfl⟩;subst hu;exact⟨rfl,h,Jc.refl _ _ _⟩
theorem Zbc.pushed{T:TypeId}{rest:List Value}{B:Nat}{w w':World}{b:Nat}{a v v':Value}{bs m:List Int}(h:Zbc T rest B w b a v bs)(ho:w'.ownsRow B 5 1 v' (bs.length+m.length) ((bs++m).map (Value.int .u8)))(hg:w.grownBy w' v.ownBlock)
  (hat:v'.ownBlock=v.ownBlock∨∃ q,v'.ownBlock=some q∧w.heap.size≤q):Zbc T rest B (w'.setCell ⟨b,1,none⟩ v') b a v' (bs++m)∧Jc b v w v' (w'.setCell ⟨b,1,none⟩ v'):=by
 have hk:Zy (fun k=>v.ownBlock=some k) w w':=Zy.grown (Zy.refl _ _) hg fun k hk=>hk
 have hin:=h.whole.inside
 have n1:v'.ownBlock≠some b:=by
  rcases hat with e | ⟨q,e,hq⟩<;>rw[e]
  ·exact h.far
  ·intro c;injection c with c;omega
 refine⟨⟨by have:=(hk.whole h.whole h.far).write 1 v';simpa using this,?_,h.lo,n1,h.used⟩,(hk.mono fun q hq=>.inr hq).setCell (p:=⟨b,1,none⟩) (.inl rfl) _,fun k hk=>?_⟩
 ·rw[List.length_append];exact Zbj ho n1 _
 ·rcases hat with e | ⟨q,e,hq⟩
  ·exact .inl (by rw[←e];exact hk)
  ·rw[e]at hk;injection hk with hk;exact .inr (by omega)
theorem und_byt:Tryz.prog.underlying 117=some (.slice 5):=by kernel_rfl
theorem info_byt:(Tryz.prog.info? 5).map (fun i=>(i.zero,i.size,i.bytes))=some (some (.int .u8 0),1,1):=by kernel_rfl
theorem Zjw{T:TypeId}{rest:List Value}{B:Nat}{w:World}{b:Nat}{a v:Value}{bs:List Int}(m:List Int)(hm:∀ x ∈ m,0≤x∧x<256)(h:Zbc T rest B w b a v bs)(hl:liesAt Φ Tryz.prog.depth T ((rest.length+2) / Tryz.prog.cellsOf T) 0 119 1=true)
  (hn:bs.length+m.length≤1099511627776)(hB:B≤w.heap.size) :
  Calls Φ 85 #[Ω (some ⟨b,0,none⟩),Ψ (strOfNums m)] w fun e w'=>e=η (.tuple #[I J (m.length:Int),.nilIface])∧∃ v',Zbc T rest B w' b (Ω (some ⟨b,0,none⟩)) v' (bs++m)∧Jc b v w v' w':=by
 have C0:=Hh (bdCheck h hl);have HM:=Hh hm;have HN:=Hh hn;have hms:=strOfNums_size m;clear h hl hm hn;go_enter Tryz.func85,Tryz.ntmps85;go_wp2_with(first
 |(go_at_call 113;refine C0.out.mono ?_;rintro e w1 ⟨rfl,h1,s1⟩
   have H1:=Hh h1;have S1:=Hh s1;have c1:w1.cell? ⟨b,1,none⟩=some v:=by rw[h1.whole.read];rfl
   have z1:=h1.whole.thawed 1;have hsz:=s1.keeps.size;clear h1 s1)
 |(at_builtin;refine wpList_pushAt (.tmp 12) (.tmp 13) 117 9 5 und_byt (by kernel_rfl) info_byt rfl rfl B _ _ bs m rfl H1.out.row rfl HM.out HN.out (Ξ hB hsz) ?_;intro v2 w2 o2 g2 at2
   obtain⟨A2,d2,rfl,_⟩:=Xq o2;have P2:=Hh (H1.out.pushed o2 g2 (at2.elim .inl fun e=>.inr ⟨_,e,Θ _⟩));have hk2:Zy (fun k=>v.ownBlock=some k) w1 w2:=Zy.grown (Zy.refl _ _) g2 fun k hk=>hk
   have z2:=(hk2.whole H1.out.whole H1.out.far).thawed 1;have c2:w2.cell? ⟨b,1,none⟩=some v:=by rw[(hk2.whole H1.out.whole H1.out.far).read];rfl
   clear o2 g2 at2 hk2))
 go_ret2
 exact⟨rfl,_,P2.out.1,S1.out.trans P2.out.2⟩
theorem Zle{T:TypeId}{rest:List Value}{B:Nat}{w:World}{b:Nat}{a v:Value}{bs:List Int}(c:Int)(h:Zbc T rest B w b a v bs)(hl:liesAt Φ Tryz.prog.depth T ((rest.length+2) / Tryz.prog.cellsOf T) 0 119 1=true)
  (hn:bs.length≤68719476736)(hB:B≤w.heap.size) :
  Calls Φ 84 #[Ω (some ⟨b,0,none⟩),.int .u8 c] w fun e w'=>e=η .nilIface∧∃ v',Zbc T rest B w' b (Ω (some ⟨b,0,none⟩)) v' (bs++[c])∧Jc b v w v' w':=by
 have C0:=Hh (bdCheck h hl);have HN:=Hh hn;clear h hl hn;go_enter Tryz.func84,Tryz.ntmps84;go_wp2_with(first
 |(go_at_call 113;refine C0.out.mono ?_;rintro e w1 ⟨rfl,h1,s1⟩
   have H1:=Hh h1;have S1:=Hh s1;have c1:w1.cell? ⟨b,1,none⟩=some v:=by rw[h1.whole.read];rfl
   have z1:=h1.whole.thawed 1;have hsz:=s1.keeps.size;clear h1 s1)
 |(at_builtin;refine Wv (.tmp 11) (.tmp 13) 117 5 1 1 _ und_byt info_byt rfl (by decide) (by decide) B v bs.length (bs.map (Value.int .u8)) [.int .u8 c] (Jw H1.out.row (Zj w1 _)) w1.heap.size (Ze.made _ _ _) rfl (by simp[Γ]) HN.out (by simp;omega) rfl rfl rfl rfl ?_;intro v2 w2 o2 g2 at2
   obtain⟨A2,d2,rfl,_⟩:=Xq o2;have H1':=H1.out.below (Zj w1 (.cells #[.int .u8 c] 5));have P2:=Hh (H1'.pushed (m:=[c]) (by simpa using o2) g2 (at2.elim .inl fun e=>.inr ⟨_,e,Θ _⟩));have S2:=Hh (S1.out.trans (Jc.of_below (Zj w1 (.cells #[.int .u8 c] 5))));have hk2:Zy (fun k=>v.ownBlock=some k) _ w2:=Zy.grown (Zy.refl _ _) g2 fun k hk=>hk
   have z2:=(hk2.whole H1'.whole H1'.far).thawed 1;have c2:w2.cell? ⟨b,1,none⟩=some v:=by rw[(hk2.whole H1'.whole H1'.far).read];rfl
   clear o2 g2 at2 hk2 H1'))
 go_ret;exact⟨rfl,_,P2.out.1,S2.out.trans P2.out.2⟩
set_option maxRecDepth 100000 in
theorem bdText{T:TypeId}{rest:List Value}{B:Nat}{w:World}{b:Nat}{a v:Value}(l:List UInt8)(h0:l≠[])(h:Zbc T rest B w b a v (l.map fun x=>(x.toNat:Int))) :
  Calls Φ 55 #[Ω (some ⟨b,0,none⟩)] w fun e w'=>e=η (Ψ ⟨l.toArray⟩)∧Below B w w':=by
 have hown:=h.row;have c1:w.cell? ⟨b,1,none⟩=some v:=by rw[h.whole.read];rfl
 have hl0:l.length≠0:=by simpa using h0
 rw[List.length_map]at hown
 obtain⟨g,cap,cur,rfl,hbg,hg,hnc,hcm,hcs,htake⟩:∃ g cap cur,v=Λ (some ⟨g,0,none⟩) l.length cap∧B≤g∧w.heap[g]?=some (.cells cur 5 (0,0))∧l.length≤cap∧cap≤maxLen∧cur.size=cap*1∧cur.toList.take (l.length*1)=(l.map fun x=>(x.toNat:Int)).map (Value.int .u8):=by
  rcases hown.2 with⟨_,hz⟩ | ⟨g,cap,cur,hv,r⟩
  ·exact absurd hz hl0
  ·exact⟨g,cap,cur,hv,r⟩
 unfold maxLen at hcm
 have hSD:(Builtin.unsafeSliceData_ #[117] 153 #[Λ (some ⟨g,0,none⟩) l.length cap]).run Φ w.drew=.ok (Ω (some ⟨g,0,none⟩)) w.drew:=
  Lib.run_unsafeSliceData_row _ _ _ _ _ _ (by omega)
 have hUS:(Builtin.unsafeString_ #[153,3] 9 #[Ω (some ⟨g,0,none⟩),I J l.length]).run Φ w.drew=.ok (Ψ ⟨l.toArray⟩) (w.drew.freeze ⟨g,0,none⟩ l.length):=by
  refine Lib.run_unsafeString_row w.drew 153 3 9 5 Tryz.underlying153 (by kernel_rfl) g cur.size (by have hg':w.drew.heap[g]?=some (.cells cur 5 (0,0)):=hg;simp[World.shape?,hg']) l h0 (by omega) (by omega) ?_;intro j x hx;have hj:j<l.length:=(List.getElem?_eq_some_iff.1 hx).1;have h3:=World.ownsRow.cellAt hown j (by omega);have h4:w.cell? ⟨g,j,none⟩=some (.int .u8 x.toNat):=by rw[h3];simp[hx]
  have e:(⟨g,0,none⟩:Addr).add j=⟨g,j,none⟩:=by rw[Addr.add_lit,Nat.zero_add]
  rw[e];exact h4
 clear hown htake hcs hg h;go_enter Tryz.func55,Tryz.ntmps55;go_wp2
 go_region
 all_goals(go_wp2;go_ret;exact⟨rfl,Lib.below_freeze (Below.drew (Below.refl B w)) (p:=⟨g,0,none⟩) hbg _⟩)
theorem Zev:liesAt Φ Tryz.prog.depth 121 (3 / Tryz.prog.cellsOf 121) 0 119 1=true:=by kernel_rfl
def spB(lo:Bool)(t:List Int):Bool:=lo && (decide (t≠[59]) && decide (t≠[41]))
def Zfd(s:List Int×Bool)(t:List Int):List Int×Bool:=(s.1++(if spB s.2 t then [32]else [])++t,decide (t≠[40]))
def Zfx(s:List Int×Bool)(ts:List (List Int)):List Int×Bool:=ts.foldl Zfd s
theorem puts_len(ts:List (List Int)):∀ s:List Int×Bool,(Zfx s ts).1.length≤s.1.length+(ts.map fun t=>t.length+1).sum:=by
 induction ts with
 |nil=>intro s;simp[Zfx]
 |cons t r ih=>
  intro s;have h:=ih (Zfd s t);have h2:(Zfd s t).1.length≤s.1.length+(t.length+1):=by unfold Zfd;split<;>simp<;>omega
  simp only[Zfx,List.foldl_cons,List.map_cons,List.sum_cons]at h ⊢;omega
theorem puts_take(ts:List (List Int))(s:List Int×Bool){k:Nat}(hk:k<ts.length):Zfx s (ts.take (k+1))=Zfd (Zfx s (ts.take k)) ts[k]:=by
 unfold Zfx;rw[List.take_succ_eq_append_getElem hk,List.foldl_append];rfl
theorem Zbc.setLo{T:TypeId}{x:Bool}{B:Nat}{w:World}{b:Nat}{a v:Value}{bs:List Int}(h:Zbc T [.bool x] B w b a v bs)(y:Bool):Zbc T [.bool y] B (w.setCell ⟨b,2,none⟩ (.bool y)) b a v bs:=
 ⟨by have:=h.whole.write 2 (.bool y);simpa using this,Zbj h.row h.far _,h.lo,h.far,h.used⟩
theorem Jc.setLo{b:Nat}{v v':Value}{w w':World}(h:Jc b v w v' w')(y:Value):Jc b v w v' (w'.setCell ⟨b,2,none⟩ y):=
 h.trans ⟨(Zy.refl _ _).setCell (p:=⟨b,2,none⟩) (.inl rfl) _,fun _ hk=>.inl hk⟩
theorem byte1(c:Int)(h:0≤c∧c<256)(t:List Int)(ht:∀ x ∈ t,0≤x∧x<256):((strOfNums t).toList == (strOfNums [c]).toList)=decide (t=[c]):=
 Zmi t [c] ht (by intro x hx;cases List.mem_singleton.1 hx;exact h)
theorem s59:(strOfNums [59]).toList=[59]:=by decide +kernel
theorem s41:(strOfNums [41]).toList=[41]:=by decide +kernel
theorem s40:(strOfNums [40]).toList=[40]:=by decide +kernel
theorem prPut(B:Nat)(w:World)(b:Nat)(a v:Value)(s:List Int×Bool)(ts:List (List Int))(q c:Nat)(h:Zbc 121 [.bool s.2] B w b a v s.1)(hB:B≤w.heap.size)(hl:s.1.length+(ts.map fun t=>t.length+1).sum≤10000000000)(ht:ts.length≤1000)
  (hby:∀ t ∈ ts,∀ x ∈ t,0≤x∧x<256)(hq:∀ j t,ts[j]?=some t→w.cell? ⟨q,j,none⟩=some (Ψ (strOfNums t)))(hqs:q<w.heap.size)(hqb:q≠b)(hqv:v.ownBlock≠some q) :
  Calls Φ 56 #[Ω (some ⟨b,0,none⟩),Λ (some ⟨q,0,none⟩) ts.length c] w fun e w'=>e=η (.tuple #[])∧∃ a' v',Zbc 121 [.bool (Zfx s ts).2] B w' b a' v' (Zfx s ts).1∧Jc b v w v' w':=by
 have H0:=Hh h;have HQ:=Hh hq;have HL:=Hh hl;have HBY:=Hh hby;clear h hq hl hby;go_enter Tryz.func56,Tryz.ntmps56;go_wp2
 go_loopw [8] (fun i wr=>∃(k:Nat)(a' v':Value),i=I J (k:Int)∧k≤ts.length∧Zbc 121 [.bool (Zfx s (ts.take k)).2] B wr b a' v' (Zfx s (ts.take k)).1∧Jc b v w v' wr) (fun i _=>ts.length - (intOf i).toNat)
 case atStart=>exact⟨0,a,v,rfl,by omega,H0.out,Jc.refl _ _ _⟩
 case round=>
  obtain⟨k,a',v',rfl,hk,hb,hs⟩:=hrel;have hcq:Zy (fun j=>j=b∨v.ownBlock=some j) w wr:=hs.keeps;by_cases hkn:k<ts.length
  · have l1:decide ((k:Int)<(ts.length:Int))=true:=by simp[hkn]
    have hct:wr.cell? ⟨q,k,none⟩=some (Ψ (strOfNums ts[k])):=by
     rw[World.cell?_of_block (a:=⟨q,k,none⟩) (hcq.block q hqs (fun c=>c.elim hqb hqv))];exact HQ.out k _ (List.getElem?_eq_getElem hkn)
    have hmt:=Hh (HBY.out ts[k] (List.getElem_mem hkn));have hst:=Hh (puts_take ts s hkn)
    have hlk:(Zfx s (ts.take k)).1.length+(ts[k].length+1)≤10000000000:=by
     have h1:=puts_len (ts.take k) s
     have h2:((ts.take k).map fun t=>t.length+1).sum+(ts[k].length+1)≤(ts.map fun t=>t.length+1).sum:=by
      have e:ts=ts.take k++ts[k]::ts.drop (k+1):=by rw[List.getElem_cons_drop,List.take_append_drop]
      conv=>rhs;rw[e]
      rw[List.map_append,List.sum_append,List.map_cons,List.sum_cons];omega
     have:=HL.out;omega
    generalize hsk:Zfx s (ts.take k)=sk at *;generalize ts[k]=t at *;obtain⟨bs,lo⟩:=sk;simp only at hb hlk hst;have HB:=Hh hb;have HS:=Hh hs;have hc2:wr.cell? ⟨b,2,none⟩=some (.bool lo):=by rw[hb.whole.read];rfl
    have hz2:=hb.whole.thawed 2;clear hb hs hcq hsk;have b40:=byte1 40 (by decide) t hmt.out;have b41:=byte1 41 (by decide) t hmt.out;have b59:=byte1 59 (by decide) t hmt.out;rw[s40]at b40;rw[s41]at b41;rw[s59]at b59;have B40:=Hh b40;have hnl:∀ c:List UInt8,((strOfNums t).toList == c)=false→¬(strOfNums t).toList=c:=fun c h=>by simpa using h
    cases lo with
    |false=>
     have HP:Hid (Zfd (bs,false) t=(bs++t,!((strOfNums t).toList == [40]))):=Hh (by rw[B40.out];simp[Zfd,spB]);clear b40 b41 b59 hnl;go_wp2_with(first
 |(go_at_call 84;refine(Zle 32 HB.out Zev (by have:=hlk;omega) (Ξ hB HS.out.keeps.size)).mono ?_;rintro e w1 ⟨rfl,v1,h1,s1⟩
   have H1:=Hh h1;have S1:=Hh (HS.out.trans s1);clear h1 s1)
 |(go_at_call 85;refine(Zjw t hmt.out HB.out Zev (by have:=hlk;simp;omega) (Ξ hB HS.out.keeps.size)).mono ?_;rintro e w2 ⟨rfl,v2,h2,s2⟩
   have H2:=Hh h2;have S2:=Hh (HS.out.trans s2);have c2:w2.cell? ⟨b,2,none⟩=some (.bool false):=by rw[h2.whole.read];rfl
   have z2:=h2.whole.thawed 2
   clear h2 s2))
     go_roundw
     case rel=>exact⟨k+1,_,v2,by go_num,by omega,by rw[hst.out,HP.out];exact H2.out.setLo _,S2.out.setLo _⟩
     case measure=>simp[intOf];omega
    |true=>
     by_cases h59:t=[59]
     ·have HP:Hid (Zfd (bs,true) t=(bs++t,!((strOfNums t).toList == [40]))):=Hh (by rw[B40.out];simp[Zfd,spB,h59])
      have g1:((strOfNums t).toList == [59])=true:=by rw[b59];simpa using h59
      have g2:(strOfNums t).toList=[59]:=by simpa using g1
      have G2:=Hh g2;clear b40 b41 b59 hnl h59 g2;go_wp2_with(first
 |(go_at_call 84;refine(Zle 32 HB.out Zev (by have:=hlk;omega) (Ξ hB HS.out.keeps.size)).mono ?_;rintro e w1 ⟨rfl,v1,h1,s1⟩
   have H1:=Hh h1;have S1:=Hh (HS.out.trans s1);clear h1 s1)
 |(go_at_call 85;refine(Zjw t hmt.out HB.out Zev (by have:=hlk;simp;omega) (Ξ hB HS.out.keeps.size)).mono ?_;rintro e w2 ⟨rfl,v2,h2,s2⟩
   have H2:=Hh h2;have S2:=Hh (HS.out.trans s2);have c2:w2.cell? ⟨b,2,none⟩=some (.bool true):=by rw[h2.whole.read];rfl
   have z2:=h2.whole.thawed 2
   clear h2 s2))
      go_roundw
      case rel=>exact⟨k+1,_,v2,by go_num,by omega,by rw[hst.out,HP.out];exact H2.out.setLo _,S2.out.setLo _⟩
      case measure=>simp[intOf];omega
     ·by_cases h41:t=[41]
      ·have HP:Hid (Zfd (bs,true) t=(bs++t,!((strOfNums t).toList == [40]))):=Hh (by rw[B40.out];simp[Zfd,spB,h41])
       have g1:((strOfNums t).toList == [59])=false:=by rw[b59];simpa using h59
       have g1':=hnl _ g1;have g2:((strOfNums t).toList == [41])=true:=by rw[b41];simpa using h41
       clear b40 b41 b59 hnl h59 h41;go_wp2_with(first
 |(go_at_call 84;refine(Zle 32 HB.out Zev (by have:=hlk;omega) (Ξ hB HS.out.keeps.size)).mono ?_;rintro e w1 ⟨rfl,v1,h1,s1⟩
   have H1:=Hh h1;have S1:=Hh (HS.out.trans s1);clear h1 s1)
 |(go_at_call 85;refine(Zjw t hmt.out HB.out Zev (by have:=hlk;simp;omega) (Ξ hB HS.out.keeps.size)).mono ?_;rintro e w2 ⟨rfl,v2,h2,s2⟩
   have H2:=Hh h2;have S2:=Hh (HS.out.trans s2);have c2:w2.cell? ⟨b,2,none⟩=some (.bool true):=by rw[h2.whole.read];rfl
   have z2:=h2.whole.thawed 2
   clear h2 s2))
       go_roundw
       case rel=>exact⟨k+1,_,v2,by go_num,by omega,by rw[hst.out,HP.out];exact H2.out.setLo _,S2.out.setLo _⟩
       case measure=>simp[intOf];omega
      ·have HP:Hid (Zfd (bs,true) t=(bs++[32]++t,!((strOfNums t).toList == [40]))):=Hh (by rw[B40.out];simp[Zfd,spB,h59,h41])
       have g1:((strOfNums t).toList == [59])=false:=by rw[b59];simpa using h59
       have g1':=hnl _ g1;have g2:((strOfNums t).toList == [41])=false:=by rw[b41];simpa using h41
       have g2':=hnl _ g2;clear b40 b41 b59 hnl h59 h41;go_wp2_with(first
 |(go_at_call 84;refine(Zle 32 HB.out Zev (by have:=hlk;omega) (Ξ hB HS.out.keeps.size)).mono ?_;rintro e w1 ⟨rfl,v1,h1,s1⟩
   have H1:=Hh h1;have S1:=Hh (HS.out.trans s1);clear h1 s1)
 |(go_at_call 85;refine(Zjw t hmt.out H1.out Zev (by have:=hlk;simp;omega) (Ξ hB S1.out.keeps.size)).mono ?_;rintro e w2 ⟨rfl,v2,h2,s2⟩
   have H2:=Hh h2;have S2:=Hh (S1.out.trans s2);have c2:w2.cell? ⟨b,2,none⟩=some (.bool true):=by rw[h2.whole.read];rfl
   have z2:=h2.whole.thawed 2
   clear h2 s2))
       go_roundw
       case rel=>exact⟨k+1,_,v2,by go_num,by omega,by rw[hst.out,HP.out];exact H2.out.setLo _,S2.out.setLo _⟩
       case measure=>simp[intOf];omega
  · obtain rfl:k=ts.length:=by omega
    rw[List.take_length]at hb;have HB:=Hh hb;have HS:=Hh hs;clear hb hs hcq;go_wp2
    go_end0
    exact⟨rfl,_,_,HB.out,HS.out⟩
theorem lastDigit_any(n:Int)(h1 : -9223372036854775808≤n)(h2:n≤9223372036854775807)(w:World):Calls Φ 86 #[I J n] w fun e w'=>e=η (.int .u8 (48+((n.natAbs % 10:Nat):Int)))∧w=w':=by
 have ha:(n.tmod 10).natAbs=n.natAbs % 10:=Int.natAbs_tmod n 10;have hr:n.tmod 10<10 ∧ -10<n.tmod 10:=by omega
 by_cases hn:n.tmod 10<0
 ·go_enter Tryz.func86,Tryz.ntmps86
  go_wp2
  go_ret;refine⟨rI ?_,rfl⟩;omega
 ·go_enter Tryz.func86,Tryz.ntmps86
  go_wp2
  go_ret;refine⟨rI ?_,rfl⟩;omega
theorem slice20(g:Nat)(z:Int)(f:Nat)(hz:z.toNat=f)(h0:0≤z)(h1:f<20)(W:World) :
  (Instr.sliceAt 159 (Ω (some ⟨g,0,none⟩)) (some (I J z)) none none).run Φ W=.ok (Λ (some ⟨g,f,none⟩) (20 - f) (20 - f)) W:=by
 have hu:Tryz.prog.underlying 159=some (.array (Tryz.prog.arrayLen 159) (Tryz.prog.elem 159)):=by kernel_rfl
 have hl:Tryz.prog.arrayLen 159=20:=by kernel_rfl
 have he:Tryz.prog.elem 159=5:=by kernel_rfl
 have hs:(sizeOf 5).run Φ W=.ok 1 W:=by kernel_rfl
 rw[run_sliceAt_array_l W _ _ hu .i64 z h0 (by rw[hl];omega),he,hs,hl,hz];have hne:¬ 20=f:=by omega
 simp[slicedAt,hne,Addr.add_lit]
theorem conv_tail{W:World}{g f len:Nat}{t:TypeId}{cs:Array Value}{l:List Int}(hw:Ze W g t cs)(ht:Zjx cs f l)(hl:len=l.length) :
  ∀ dst,Tryz.prog.underlying dst=some .string→(convert 117 dst (Λ (some ⟨g,f,none⟩) len len)).run Φ W=.ok (Ψ (strOfNums l)) W:=
 run_convert_bytes_arg _ 117 5 (by kernel_rfl) (by kernel_rfl) g f len len l hl.symm (fun i hi=>ht.cells hw i (by omega))
theorem put_done{n m:Int}{k:Nat}{ds:List Int}(hd:k=0∧m=n∧ds=[]∨m≠0∧m.natAbs*10 ^ k≤n.natAbs∧Zei n.natAbs=Zei m.natAbs++ds)(hq:m.natAbs / 10=0):Zei n.natAbs=(48+(m.natAbs:Int) % 10)::ds:=by
 have hm:Zei m.natAbs=[48+(m.natAbs:Int) % 10]:=by rw[Zez (by omega)];congr 1;omega
 rcases hd with⟨_,rfl,rfl⟩ | ⟨_,_,h⟩
 ·exact hm
 ·rw[h,hm];rfl
theorem put_round{n m:Int}{k:Nat}{ds:List Int}(hd:k=0∧m=n∧ds=[]∨m≠0∧m.natAbs*10 ^ k≤n.natAbs∧Zei n.natAbs=Zei m.natAbs++ds)(hq:(m.tdiv 10).natAbs=m.natAbs / 10)(hz:m.tdiv 10≠0) :
  m.tdiv 10≠0∧(m.tdiv 10).natAbs*10 ^ (k+1)≤n.natAbs∧Zei n.natAbs=Zei (m.tdiv 10).natAbs++((48+(m.natAbs:Int) % 10)::ds):=by
 have hm:Zei m.natAbs=Zei (m.tdiv 10).natAbs++[48+(m.natAbs:Int) % 10]:=by rw[Zgp (by omega),hq];congr 2
 refine⟨hz,?_,?_⟩
 ·have h1:m.natAbs*10 ^ k≤n.natAbs:=by
   rcases hd with⟨rfl,rfl,_⟩ | ⟨_,h,_⟩
   ·omega
   ·exact h
  rw[hq,Nat.pow_succ,Nat.mul_comm (10 ^ k) 10,←Nat.mul_assoc];exact Ξ (Nat.mul_le_mul_right _ (Nat.div_mul_le_self _ _)) h1
 ·rcases hd with⟨_,rfl,rfl⟩ | ⟨_,_,h⟩
  ·exact hm
  ·rw[h,hm,List.append_assoc];rfl
theorem putS_neg{n:Int}{l:List Int}(hn:n<0)(h:Zei n.natAbs=l):Xf n=strOfNums (45::l):=by
 unfold Xf;rw[Znq hn,show(-n).toNat=n.natAbs from by omega,h]
theorem putS_pos{n:Int}{l:List Int}(hn:0≤n)(h:Zei n.natAbs=l):Xf n=strOfNums l:=by
 unfold Xf;rw[Zfz hn,show n.toNat=n.natAbs from by omega,h]
theorem tail_len{cs:Array Value}{f:Nat}{l:List Int}(h:Zjx cs f l)(hc:cs.size=20):l.length=20 - f:=by have:=h.1;omega
theorem dPut_any(n:Int)(h1 : -9223372036854775808≤n)(h2:n≤9223372036854775807)(w:World):Calls Φ 58 #[I J n] w fun e w'=>e=η (Ψ (Xf n))∧Below w.heap.size w w':=by
 go_enter Tryz.func58,Tryz.ntmps58;go_wp2
 go_loopw [4,5,7] (fun f r i wr=>∃(k:Nat)(m:Int)(ds:List Int)(cs:Array Value),k≤18∧i=I J k∧f=I J (20 - (k:Int))∧r=I J m ∧ -9223372036854775808≤m∧m≤9223372036854775807∧(k=0∧m=n∧ds=[]∨m≠0∧m.natAbs*10 ^ k≤n.natAbs∧Zei n.natAbs=Zei m.natAbs++ds)∧cs.size=20∧Zjx cs (20 - k) ds∧Ze wr w.heap.size 159 cs∧Below w.heap.size w wr) (fun _ _ i _=>20 - (intOf i).toNat)
 case atStart=>exact⟨0,n,[],_,by omega,rfl,rfl,rfl,h1,h2,.inl ⟨rfl,rfl,rfl⟩,rfl,⟨rfl,fun j hj=>by simp at hj⟩,Ze.made _ _ _,(Below.refl _ _).alloc (Θ _) _⟩
 case round=>
  obtain⟨k,m,ds,cs,hk,rfl,rfl,rfl,hm1,hm2,hd,hc,ht,hw,hb⟩:=hrel;have hi:k<20:=by omega
  have hcell:wr.cell? ⟨w.heap.size,19 - k,none⟩=some (cs[19 - k]'(by omega)):=by rw[hw.read,Array.getElem?_eq_getElem]
  have hfz:=hw.thawed (19 - k);have i0:(0:Int)≤20 - (k:Int) - 1:=by omega
  have i1:(20 - (k:Int) - 1).toNat=19 - k:=by omega
  have HB:=Hh hb;have HW:=Hh hw;have HT:=Hh ht;have HD:=Hh hd;clear hb hw ht hd;have hlast:∀ x,Calls Φ 86 #[I J m] x fun e w'=>e=η (.int .u8 (48+((m.natAbs % 10:Nat):Int)))∧x=w':=fun x=>lastDigit_any m hm1 hm2 x
  have hq:(m.tdiv 10).natAbs=m.natAbs / 10:=Int.natAbs_tdiv m 10;have t0:=HT.out;rw[show 20 - k=19 - k+1 from by omega]at t0;have T1:=Hh (t0.next (48+(m.natAbs:Int) % 10));clear t0;cases hz:(m.tdiv 10 == 0)with
  |true=>
   by_cases hn:n<0
   ·have hcell2:wr.cell? ⟨w.heap.size,19 - k - 1,none⟩=some (cs[19 - k - 1]'(by omega)):=by rw[HW.out.read,Array.getElem?_eq_getElem]
    have hfz2:=HW.out.thawed (19 - k - 1);have hsl:=slice20 w.heap.size (20 - (k:Int) - 1 - 1) (19 - k - 1) (by omega) (by omega) (by omega);have t1:=T1.out;rw[show 19 - k=19 - k - 1+1 from by omega]at t1;have t2:=t1.next 45;rw[show 19 - k - 1+1=19 - k from by omega]at t2;have hcv:=conv_tail (len:=20 - (19 - k - 1)) ((HW.out.write (19 - k) (.int .u8 (48+(m.natAbs:Int) % 10))).write (19 - k - 1) (.int .u8 45)) t2 (by rw[tail_len t2 (by simp[hc])]);clear t1 t2;go_wp2_with(go_at_call 86;refine(hlast _).mono ?_;rintro e w' ⟨rfl,rfl⟩)
    go_ret;refine⟨?_,(HB.out.setCell (Θ _) _).setCell (Θ _) _⟩;rw[putS_neg hn (put_done HD.out (by have:=eq_of_beq hz;omega))];rfl
   ·have hsl:=slice20 w.heap.size (20 - (k:Int) - 1) (19 - k) (by omega) (by omega) (by omega)
    have t1:=T1.out;have hcv:=conv_tail (len:=20 - (19 - k)) (HW.out.write (19 - k) (.int .u8 (48+(m.natAbs:Int) % 10))) t1 (by rw[tail_len t1 (by simp[hc])]);clear t1;go_wp2_with(go_at_call 86;refine(hlast _).mono ?_;rintro e w' ⟨rfl,rfl⟩)
    go_ret;refine⟨?_,HB.out.setCell (Θ _) _⟩;rw[putS_pos (by omega) (put_done HD.out (by have:=eq_of_beq hz;omega))];rfl
  |false=>
   have hr:=Hh (put_round HD.out hq (by intro c;rw[c]at hz;cases hz))
   have hk1:k+1≤18:=by
    apply Nat.le_of_not_lt;intro c;have:10 ^ 19≤10 ^ (k+1):=Nat.pow_le_pow_right (by omega) (by omega);have h0:1≤(m.tdiv 10).natAbs:=by have:=hr.out.1;omega
    have:=Nat.mul_le_mul h0 this;have:=hr.out.2.1;omega
   go_wp2_with(go_at_call 86;refine(hlast _).mono ?_;rintro e w' ⟨rfl,rfl⟩)
   go_roundw
   case rel=>
    have t1:Zjx (cs.setIfInBounds (19 - k) (.int .u8 (48+(m.natAbs:Int) % 10))) (20 - (k+1)) ((48+(m.natAbs:Int) % 10)::ds):=by
     rw[show 20 - (k+1)=19 - k from by omega];exact T1.out
    exact⟨k+1,m.tdiv 10,_,_,hk1,by go_num,by go_num,rfl,by omega,by omega,.inr hr.out,by simp[hc],t1,HW.out.write _ _,HB.out.setCell (Θ _) _⟩
   case measure=>simp[intOf];omega
def Zek(l:List ByteArray):Array Value:=(l.map Value.string).toArray
def Zs(s:List Int×Bool)(ts:List ByteArray):List Int×Bool:=Zfx s (ts.map bL)
theorem Yl(s:List Int×Bool)(a b:List ByteArray):Zs s (a++b)=Zs (Zs s a) b:=by simp[Zs,Zfx,List.foldl_append]
def Vc(ts:List ByteArray):Nat:=(ts.map fun t=>t.size+1).sum
theorem Xu(a b:List ByteArray):Vc (a++b)=Vc a+Vc b:=by simp[Vc]
theorem Zlp(ts:List ByteArray)(s:List Int×Bool):(Zs s ts).1.length≤s.1.length+Vc ts:=by
 have h:=puts_len (ts.map bL) s;have e:((ts.map bL).map fun t=>t.length+1)=ts.map fun t=>t.size+1:=by rw[List.map_map];exact List.map_congr_left fun t _=>by simp[Vs]
 rw[e]at h;exact h
theorem Zmq(B:Nat)(x:World)(b:Nat)(a v:Value)(s:List Int×Bool)(ts:List ByteArray)(q n c:Nat)(h:Zbc 121 [.bool s.2] B x b a v s.1)(hB:B≤x.heap.size)(hl:s.1.length+Vc ts≤10000000000)(ht:ts.length≤1000)(hq:q=x.heap.size)(hn:n=ts.length) :
  Calls Φ 56 #[Ω (some ⟨b,0,none⟩),Λ (some ⟨q,0,none⟩) n c] (x.alloc (.cells (Zek ts) 9)) fun e w'=>e=η (.tuple #[])∧∃ a' v',Zbc 121 [.bool (Zs s ts).2] B w' b a' v' (Zs s ts).1∧Jc b v x v' w':=by
 subst hq hn;have hlen:(ts.map bL).length=ts.length:=by simp
 have e:((ts.map bL).map fun t=>t.length+1)=ts.map fun t=>t.size+1:=by rw[List.map_map];exact List.map_congr_left fun t _=>by simp[Vs]
 have hc:=prPut B (x.alloc (.cells (Zek ts) 9)) b a v s (ts.map bL) x.heap.size c (h.below (Zj x _)) (Ξ hB (Zj x (.cells (Zek ts) 9)).size) (by rw[e];exact hl) (by rw[hlen];exact ht)
  (fun t ht y hy=>by obtain⟨u,_,rfl⟩:=List.mem_map.1 ht;exact Zke u y hy)
  (fun j t hj=>by
    rw[(Ze.made x 9 (Zek ts)).read];rw[List.getElem?_map]at hj;obtain⟨u,hu,rfl⟩:=Option.map_eq_some_iff.1 hj;simp[Zek,hu,Zha])
  (by simp) (by have:=h.whole.inside;omega) (fun c=>by have:=(h.row.lt _ c).2;omega)
 rw[hlen]at hc;refine hc.mono ?_;rintro e w' ⟨rfl,a',v',h1,s1⟩;exact⟨rfl,a',v',h1,(Jc.of_below (Zj x _)).trans s1⟩
theorem uWordL(x:World)(k:Int)(q n c:Nat)(L:List ByteArray)(hq:q=x.heap.size)(hn:n=L.length)(h1:1≤k)(h2:k≤L.length)(h3:L.length≤1000) :
  Calls Φ 87 #[I J k,Λ (some ⟨q,0,none⟩) n c] (x.alloc (.cells (Zek L) 9)) fun e w'=>e=η (Ψ (wd L k))∧x.alloc (.cells (Zek L) 9)=w':=by
 subst hq hn;obtain⟨j,hj⟩:∃ j:Nat,k=(j:Int)+1:=⟨(k - 1).toNat,by omega⟩
 subst hj;have hjl:j<L.length:=by omega
 have hw:wd L ((j:Int)+1)=L[j]:=by
  have e:((j:Int)+1).toNat - 1=j:=by omega
  unfold wd;rw[e,List.getElem?_eq_getElem hjl];rfl
 have hc:(x.alloc (.cells (Zek L) 9)).cell? ⟨x.heap.size,j,none⟩=some (Ψ (wd L ((j:Int)+1))):=by
  rw[(Ze.made x 9 (Zek L)).read,hw];simp[Zek,hjl]
 generalize x.alloc (.cells (Zek L) 9)=y at *;generalize wd L ((j:Int)+1)=t at *;have l1:(1:Int)≤(j:Int)+1:=by omega
 have l2:(j:Int)+1≤(L.length:Int):=by omega
 have l3:((j:Int)+1 - 1).toNat=j:=by omega
 have l4:(j:Int)<(L.length:Int):=by omega
 clear hw h1 h2;go_enter Tryz.func87,Tryz.ntmps87;go_wp2
 go_ret;exact⟨rfl,rfl⟩
theorem uSide(k:Int)(w:World)(h1:1≤k)(h2:k≤3):Calls Φ 78 #[I J k] w fun e w'=>e=η (Ψ (wd Zg k))∧Below w.heap.size w w':=by
 have B1:=Hh (Zj w (.cells (Zek Zg) 9));go_enter Tryz.func78,Tryz.ntmps78;go_wp2_with(go_at_call 87;refine(uWordL w k _ 3 3 Zg rfl rfl h1 h2 (by decide)).mono ?_;rintro e w1 ⟨rfl,rfl⟩)
 go_ret;exact⟨rfl,B1.out⟩
theorem uOp(k:Int)(w:World)(h1:1≤k)(h2:k≤6):Calls Φ 136 #[I J k] w fun e w'=>e=η (Ψ (wd wOp k))∧Below w.heap.size w w':=by
 have B1:=Hh (Zj w (.cells (Zek wOp) 9));go_enter Tryz.func136,Tryz.ntmps136;go_wp2_with(go_at_call 87;refine(uWordL w k _ 6 6 wOp rfl rfl h1 h2 (by decide)).mono ?_;rintro e w1 ⟨rfl,rfl⟩)
 go_ret;exact⟨rfl,B1.out⟩
def qN(s:ByteArray):ByteArray:=⟨#[34]⟩++s++⟨#[34]⟩
theorem Zhr(s:ByteArray):(qN s).size=s.size+2:=by
 unfold qN;rw[Δ,Δ];have e:(⟨#[34]⟩:ByteArray).size=1:=rfl;rw[e];omega
theorem uName(s:ByteArray)(w:World)(hs:s.size≤10000000000):Calls Φ 57 #[Ψ s] w fun e w'=>e=η (Ψ (qN s))∧w=w':=by
 go_enter Tryz.func57,Tryz.ntmps57;go_wp2
 go_ret;exact⟨rfl,rfl⟩
structure PrR(B:Nat)(w:World)(b:Nat)(v:Value)(st:List Int×Bool)(g1:Nat)(t1:TypeId)(xv:List Value)(a' v':Value)(x:World):Prop where
 bd:Zbc 121 [.bool st.2] B x b a' v' st.1
 step:Jc b v w v' x
 box:Ze x g1 t1 xv.toArray
 ne:g1≠b
 far:v'.ownBlock≠some g1
theorem PrR.next{B:Nat}{w x y:World}{b:Nat}{v:Value}{st:List Int×Bool}{g1:Nat}{t1:TypeId}{xv:List Value}{a' v':Value}(h:PrR B w b v st g1 t1 xv a' v' x)(hb:Below x.heap.size x y):PrR B w b v st g1 t1 xv a' v' y:=
 ⟨h.bd.below hb,h.step.trans (Jc.of_below hb),h.box.below hb h.box.inside,h.ne,h.far⟩
theorem PrR.write{B:Nat}{w x y:World}{b:Nat}{v:Value}{st st2:List Int×Bool}{g1:Nat}{t1:TypeId}{xv:List Value}{a' v' a2 v2:Value}(h:PrR B w b v st g1 t1 xv a' v' x)(hb:Zbc 121 [.bool st2.2] B y b a2 v2 st2.1)(hs:Jc b v' x v2 y):PrR B w b v st2 g1 t1 xv a2 v2 y:=
 ⟨hb,h.step.trans hs,hs.keeps.whole h.box (fun c=>c.elim h.ne h.far),h.ne,fun c=>by
   rcases hs.fresh _ c with e | e
   ·exact h.far e
   ·have:=h.box.inside;omega⟩
theorem PrR.start{B:Nat}{w:World}{b:Nat}{a v:Value}{st:List Int×Bool}(h:Zbc 121 [.bool st.2] B w b a v st.1)(t1:TypeId)(xv:List Value):PrR B w b v st w.heap.size t1 xv a v (w.alloc (.cells xv.toArray t1)):=
 ⟨h.below (Zj w _),Jc.of_below (Zj w _),Ze.made _ _ _,by have:=h.whole.inside;omega,fun c=>by have:=(h.row.lt _ c).2;omega⟩
def kFl(f:Fl):List ByteArray:=
 if f.kind=1∨f.kind=2 then [wd Yg f.kind,wd wOp f.op,Xf f.n]else if f.kind=3 then [wd Yg 3,qN f.name]else [wd Yg 4,wd Vk (f.kind - 3)]
def Zka(B:Nat)(w:World)(b:Nat)(v:Value)(st:List Int×Bool)(e:Ending)(w':World):Prop:=
 e=η (.tuple #[])∧∃ a' v',Zbc 121 [.bool st.2] B w' b a' v' st.1∧Jc b v w v' w'
theorem fl_num1(B:Nat)(w:World)(b:Nat)(a v:Value)(st:List Int×Bool)(o n:Int)(nm:ByteArray)(h:Zbc 121 [.bool st.2] B w b a v st.1)(hB:B≤w.heap.size)(hl:st.1.length+Vc [wd Yg 1,wd wOp o,Xf n]≤10000000000)(ho1:1≤o)(ho2:o≤6)(hn1 : -99≤n)(hn2:n≤99) :
  Calls Φ 100 #[Ω (some ⟨b,0,none⟩),.agg #[I J 1,I J o,I J n,Ψ nm]] w (Zka B w b v (Zs st [wd Yg 1,wd wOp o,Xf n])):=by
 have R0:=Hh (PrR.start h 174 [I J 1,I J o,I J n,Ψ nm]);have HL:=Hh hl;have hw:wd Yg 1=⟨#[99,111,115,116]⟩:=by decide +kernel
 have HW:=Hh hw;clear h hl hw;go_enter Tryz.func100,Tryz.ntmps100;go_wp2_with fail
 have R1:=Hh (R0.out.next (y:=(w.alloc (.cells #[I J 1,I J o,I J n,Ψ nm] 174)).drew) ⟨rfl,rfl,rfl,Θ _,fun _ _=>rfl⟩);go_region_with(first
 |(go_at_call 136;refine(uOp o _ ho1 ho2).mono ?_;rintro e w5 ⟨rfl,b5⟩
   have R5:=Hh (R1.out.next b5);have i2:w5.cell? ⟨w.heap.size,2,none⟩=some (I J n):=by rw[R5.out.box.read];rfl
   clear b5)
 |(go_at_call 58;refine(dPut_any n (by omega) (by omega) _).mono ?_;rintro e w6 ⟨rfl,b6⟩
   have R6:=Hh (R5.out.next b6);clear b6)
 |(go_at_call 56;refine(Zmq B w6 b a v st [⟨#[99,111,115,116]⟩,wd wOp o,Xf n] w6.heap.size 3 3 R6.out.bd (Ξ hB R6.out.step.keeps.size) (by have:=HL.out;rw[HW.out]at this;exact this) (by simp) rfl rfl).mono ?_;rintro e w7 ⟨rfl,a7,v7,h7,s7⟩
   have H7:=Hh h7;have S7:=Hh (R6.out.step.trans s7);clear h7 s7))
 all_goals
  go_wp2
  go_end0
  rw[HW.out];exact⟨rfl,a7,v7,H7.out,S7.out⟩
theorem fl_num2(B:Nat)(w:World)(b:Nat)(a v:Value)(st:List Int×Bool)(o n:Int)(nm:ByteArray)(h:Zbc 121 [.bool st.2] B w b a v st.1)(hB:B≤w.heap.size)(hl:st.1.length+Vc [wd Yg 2,wd wOp o,Xf n]≤10000000000)(ho1:1≤o)(ho2:o≤6)(hn1 : -99≤n)(hn2:n≤99) :
  Calls Φ 100 #[Ω (some ⟨b,0,none⟩),.agg #[I J 2,I J o,I J n,Ψ nm]] w (Zka B w b v (Zs st [wd Yg 2,wd wOp o,Xf n])):=by
 have R0:=Hh (PrR.start h 174 [I J 2,I J o,I J n,Ψ nm]);have HL:=Hh hl;have hw:wd Yg 2=⟨#[112,111,119,101,114]⟩:=by decide +kernel
 have HW:=Hh hw;clear h hl hw;go_enter Tryz.func100,Tryz.ntmps100;go_wp2_with fail
 have R1:=Hh (R0.out.next (y:=(w.alloc (.cells #[I J 2,I J o,I J n,Ψ nm] 174)).drew) ⟨rfl,rfl,rfl,Θ _,fun _ _=>rfl⟩);go_region_with(first
 |(go_at_call 136;refine(uOp o _ ho1 ho2).mono ?_;rintro e w5 ⟨rfl,b5⟩
   have R5:=Hh (R1.out.next b5);have i2:w5.cell? ⟨w.heap.size,2,none⟩=some (I J n):=by rw[R5.out.box.read];rfl
   clear b5)
 |(go_at_call 58;refine(dPut_any n (by omega) (by omega) _).mono ?_;rintro e w6 ⟨rfl,b6⟩
   have R6:=Hh (R5.out.next b6);clear b6)
 |(go_at_call 56;refine(Zmq B w6 b a v st [⟨#[112,111,119,101,114]⟩,wd wOp o,Xf n] w6.heap.size 3 3 R6.out.bd (Ξ hB R6.out.step.keeps.size) (by have:=HL.out;rw[HW.out]at this;exact this) (by simp) rfl rfl).mono ?_;rintro e w7 ⟨rfl,a7,v7,h7,s7⟩
   have H7:=Hh h7;have S7:=Hh (R6.out.step.trans s7);clear h7 s7))
 all_goals
  go_wp2
  go_end0
  rw[HW.out];exact⟨rfl,a7,v7,H7.out,S7.out⟩
theorem fl_named(B:Nat)(w:World)(b:Nat)(a v:Value)(st:List Int×Bool)(o n:Int)(nm:ByteArray)(h:Zbc 121 [.bool st.2] B w b a v st.1)(hB:B≤w.heap.size)(hl:st.1.length+Vc [wd Yg 3,qN nm]≤10000000000) :
  Calls Φ 100 #[Ω (some ⟨b,0,none⟩),.agg #[I J 3,I J o,I J n,Ψ nm]] w (Zka B w b v (Zs st [wd Yg 3,qN nm])):=by
 have R0:=Hh (PrR.start h 174 [I J 3,I J o,I J n,Ψ nm]);have HL:=Hh hl;have hw:[wd Yg 3,qN nm]=[⟨#[110,97,109,101,100]⟩,qN nm]:=by rw[show wd Yg 3=⟨#[110,97,109,101,100]⟩ by decide +kernel]
 have HW:=Hh hw;have HNM:Hid (nm.size≤10000000000):=Hh (by have h2:=hl;simp[Vc,Zhr]at h2;omega);clear h hl hw;go_enter Tryz.func100,Tryz.ntmps100;go_wp2_with(first
 |(go_at_call 57;refine(uName nm _ HNM.out).mono ?_;rintro e w5 ⟨rfl,rfl⟩)
 |(go_at_call 56;refine(Zmq B (w.alloc (.cells #[I J 3,I J o,I J n,Ψ nm] 174)) b a v st [⟨#[110,97,109,101,100]⟩,qN nm] (w.heap.size+1) 2 2 R0.out.bd (Ξ hB R0.out.step.keeps.size) (by have:=HL.out;rw[HW.out]at this;exact this) (by simp) (by simp) rfl).mono ?_;rintro e w7 ⟨rfl,a7,v7,h7,s7⟩
   have H7:=Hh h7;have S7:=Hh (R0.out.step.trans s7);clear h7 s7))
 go_end0
 rw[HW.out];exact⟨rfl,a7,v7,H7.out,S7.out⟩
theorem fl_me(B:Nat)(w:World)(b:Nat)(a v:Value)(st:List Int×Bool)(o n:Int)(nm:ByteArray)(h:Zbc 121 [.bool st.2] B w b a v st.1)(hB:B≤w.heap.size)(hl:st.1.length+Vc [wd Yg 4,wd Vk 1]≤10000000000) :
  Calls Φ 100 #[Ω (some ⟨b,0,none⟩),.agg #[I J 4,I J o,I J n,Ψ nm]] w (Zka B w b v (Zs st [wd Yg 4,wd Vk 1])):=by
 have R0:=Hh (PrR.start h 174 [I J 4,I J o,I J n,Ψ nm]);have HL:=Hh hl;have hw:[wd Yg 4,wd Vk 1]=[⟨#[110,111,116]⟩,⟨#[109,101]⟩]:=by rw[show wd Yg 4=⟨#[110,111,116]⟩ by decide +kernel,show wd Vk 1=⟨#[109,101]⟩ by decide +kernel]
 have HW:=Hh hw;clear h hl hw;go_enter Tryz.func100,Tryz.ntmps100;go_wp2_with(first
 |(go_at_call 57;refine(uName nm _ HNM.out).mono ?_;rintro e w5 ⟨rfl,rfl⟩)
 |(go_at_call 56;refine(Zmq B (w.alloc (.cells #[I J 4,I J o,I J n,Ψ nm] 174)) b a v st [⟨#[110,111,116]⟩,⟨#[109,101]⟩] (w.heap.size+1) 2 2 R0.out.bd (Ξ hB R0.out.step.keeps.size) (by have:=HL.out;rw[HW.out]at this;exact this) (by simp) (by simp) rfl).mono ?_;rintro e w7 ⟨rfl,a7,v7,h7,s7⟩
   have H7:=Hh h7;have S7:=Hh (R0.out.step.trans s7);clear h7 s7))
 go_end0
 rw[HW.out];exact⟨rfl,a7,v7,H7.out,S7.out⟩
theorem fl_it(B:Nat)(w:World)(b:Nat)(a v:Value)(st:List Int×Bool)(o n:Int)(nm:ByteArray)(h:Zbc 121 [.bool st.2] B w b a v st.1)(hB:B≤w.heap.size)(hl:st.1.length+Vc [wd Yg 4,wd Vk 2]≤10000000000) :
  Calls Φ 100 #[Ω (some ⟨b,0,none⟩),.agg #[I J 5,I J o,I J n,Ψ nm]] w (Zka B w b v (Zs st [wd Yg 4,wd Vk 2])):=by
 have R0:=Hh (PrR.start h 174 [I J 5,I J o,I J n,Ψ nm]);have HL:=Hh hl;have hw:[wd Yg 4,wd Vk 2]=[⟨#[110,111,116]⟩,⟨#[105,116]⟩]:=by rw[show wd Yg 4=⟨#[110,111,116]⟩ by decide +kernel,show wd Vk 2=⟨#[105,116]⟩ by decide +kernel]
 have HW:=Hh hw;clear h hl hw;go_enter Tryz.func100,Tryz.ntmps100;go_wp2_with(first
 |(go_at_call 57;refine(uName nm _ HNM.out).mono ?_;rintro e w5 ⟨rfl,rfl⟩)
 |(go_at_call 56;refine(Zmq B (w.alloc (.cells #[I J 5,I J o,I J n,Ψ nm] 174)) b a v st [⟨#[110,111,116]⟩,⟨#[105,116]⟩] (w.heap.size+1) 2 2 R0.out.bd (Ξ hB R0.out.step.keeps.size) (by have:=HL.out;rw[HW.out]at this;exact this) (by simp) (by simp) rfl).mono ?_;rintro e w7 ⟨rfl,a7,v7,h7,s7⟩
   have H7:=Hh h7;have S7:=Hh (R0.out.step.trans s7);clear h7 s7))
 go_end0
 rw[HW.out];exact⟨rfl,a7,v7,H7.out,S7.out⟩
theorem prFilter(B:Nat)(w:World)(b:Nat)(a v:Value)(st:List Int×Bool)(f:Fl)(hv:VFl f)(h:Zbc 121 [.bool st.2] B w b a v st.1)(hB:B≤w.heap.size)(hl:st.1.length+Vc (kFl f)≤10000000000) :
  Calls Φ 100 #[Ω (some ⟨b,0,none⟩),.agg #[I J f.kind,I J f.op,I J f.n,Ψ f.name]] w (Zka B w b v (Zs st (kFl f))):=by
 obtain⟨kd,o,n,nm⟩:=f;unfold kFl at hl ⊢;simp only at hl ⊢;rcases hv with⟨hk,ho,hn,_⟩ | ⟨hk,_,_,hm⟩ | ⟨hk,_⟩
 ·simp only at hk ho hn
  rw[if_pos hk]at hl ⊢;rcases hk with rfl | rfl
  ·exact fl_num1 B w b a v st o n nm h hB hl ho.1 ho.2 hn.1 hn.2
  ·exact fl_num2 B w b a v st o n nm h hB hl ho.1 ho.2 hn.1 hn.2
 ·simp only at hk hm
  subst hk;exact fl_named B w b a v st o n nm h hB hl
 ·simp only at hk
  rcases hk with rfl | rfl
  ·exact fl_me B w b a v st o n nm h hB hl
  ·exact fl_it B w b a v st o n nm h hB hl
end Go.Proofs.YtdngkgickbaboaaGreat
