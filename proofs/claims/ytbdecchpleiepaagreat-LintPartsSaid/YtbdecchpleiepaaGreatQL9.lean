/- Parts of the proof. No conditions but those that each names. -/
import Derived.RegionTactic
import Derived.Test.YtbdecchpleiepaaGreatQL8
set_option maxRecDepth 20000
set_option maxHeartbeats 99000000
set_option linter.unusedVariables false
set_option linter.unusedSimpArgs false
namespace Go.Proofs.YtbdecchpleiepaaGreat
open Go.Value renaming int→I,slice→Λ,string→Ψ
open Go.IntKind renaming i64→J
open _root_.Go.Proofs.Tryz renaming prog→Φ
open Go.Ending renaming returned→η
open Go.ChangeShapes Go.WideShapes Go.ChangeAt Go.RowKit
structure Tri(w:World)(t:TypeId)(cs:Array Value)(u:TypeId)(ds:Array Value)(v:TypeId)(es:Array Value)(x:World):Prop where
 k0:Zi x w.heap.size t cs
 k1:Zi x (w.heap.size+1) u ds
 k2:Zi x (w.heap.size+2) v es
 below:Below w.heap.size w x
theorem Tri.start(w:World)(t:TypeId)(cs:Array Value)(u:TypeId)(ds:Array Value)(v:TypeId)(es:Array Value):Tri w t cs u ds v es (((w.alloc (.cells cs t)).alloc (.cells ds u)).alloc (.cells es v)):=by
 have h:=Two.start w t cs u ds;refine⟨h.k0.alloc _,h.k1.alloc _,?_,h.below.alloc h.below.size _⟩;have:=Zi.made ((w.alloc (.cells cs t)).alloc (.cells ds u)) v es;simpa using this
theorem Tri.next{w x y:World}{t u v:TypeId}{cs ds es:Array Value}(h:Tri w t cs u ds v es x)(hb:Below x.heap.size x y):Tri w t cs u ds v es y:=
 ⟨h.k0.below hb h.k0.inside,h.k1.below hb h.k1.inside,h.k2.below hb h.k2.inside,h.below.trans (hb.mono h.below.size)⟩
theorem Tri.drew{w x:World}{t u v:TypeId}{cs ds es:Array Value}(h:Tri w t cs u ds v es x):Tri w t cs u ds v es x.drew:=⟨h.k0,h.k1,h.k2,Xv h.below⟩
theorem Zev{w y:World}{t u v:TypeId}{cs:Array Value}{a b c d e f:Value}(h:Tri w t cs u #[a,b,c] v #[d,e,f] y)(x0 x1 x2 y0 y1 y2:Value) :
  Zi ((((((y.setCell ⟨w.heap.size+1,0,none⟩ x0).setCell ⟨w.heap.size+1,1,none⟩ x1).setCell ⟨w.heap.size+1,2,none⟩ x2).setCell ⟨w.heap.size+2,0,none⟩ y0).setCell ⟨w.heap.size+2,1,none⟩ y1).setCell ⟨w.heap.size+2,2,none⟩ y2) (w.heap.size+1) u #[x0,x1,x2] ∧
  Zi ((((((y.setCell ⟨w.heap.size+1,0,none⟩ x0).setCell ⟨w.heap.size+1,1,none⟩ x1).setCell ⟨w.heap.size+1,2,none⟩ x2).setCell ⟨w.heap.size+2,0,none⟩ y0).setCell ⟨w.heap.size+2,1,none⟩ y1).setCell ⟨w.heap.size+2,2,none⟩ y2) (w.heap.size+2) v #[y0,y1,y2] ∧
  Below w.heap.size w ((((((y.setCell ⟨w.heap.size+1,0,none⟩ x0).setCell ⟨w.heap.size+1,1,none⟩ x1).setCell ⟨w.heap.size+1,2,none⟩ x2).setCell ⟨w.heap.size+2,0,none⟩ y0).setCell ⟨w.heap.size+2,1,none⟩ y1).setCell ⟨w.heap.size+2,2,none⟩ y2):=by
 have n1:w.heap.size+1≠w.heap.size+2:=by omega
 have n2:w.heap.size+2≠w.heap.size+1:=by omega
 exact⟨(((Zi.set3 h.k1 x0 x1 x2).aside n1 y0).aside n1 y1).aside n1 y2,Zi.set3 (((h.k2.aside n2 x0).aside n2 x1).aside n2 x2) y0 y1 y2,
  Below.set3 (Below.set3 h.below (by omega) _ _ _) (by omega) _ _ _⟩
theorem qInt(w:World)(r K:Nat)(L:List TokV)(n a d:Nat)(hn:n=L.length)(h:Uw w r K L)(ha:a<L.length) :
  Calls Φ 42 #[qA r K n a d] w fun e w'=>e=η (.tuple #[qA r K n (Up L a 2) d,I J (Zkx L a),Zr (Wd L a 2)])∧Below w.heap.size w w':=by
 have T0:=Hh (Tri.start w 49 #[Λ (some ⟨r,0,none⟩) n K,I J (a:Int),I J (d:Int)] 49 #[Λ none 0 0,I J 0,I J 0] 29 #[I J 0,I J 0,I J 0]);have hrow:∀ x,Below w.heap.size w x→Uw x r K L:=fun x hb=>h.below hb
 have HR:=Hh hrow;have hi:=Zkc _ r K L n a d hn (hrow _ T0.out.below) ha;have hOn:=fun w h=>qOn w r K L n a d hn h ha
 have hWr:=fun w h=>qWrong w r K L n a d hn h ha
 clear hn h ha hrow;unfold Up Wd Zkx;generalize Yb L a=v at *;generalize onA L a=b at *;generalize wrF v=f at *;unfold qA at hi hOn hWr ⊢;have HO:=Hh hOn;have HW:=Hh hWr;clear hOn hWr;by_cases hk:v.k=2
 ·have q0:(v.k != 2)=false:=by rw[bne_eq_false_iff_eq];exact hk
  rw[if_pos hk,if_pos hk,if_pos hk];clear hk;go_enter Tryz.func42,Tryz.ntmps42;go_wp2_with(go_at_call 17;refine hi.mono ?_;rintro e w2 ⟨rfl,b2⟩;have T2:=Hh (T0.out.next b2);obtain⟨c0,c1,c2,y0,y1,y2⟩:=Zo T2.out.k0;have hz2:=T2.out.k2.inside;have hz1:=T2.out.k1.inside;have hz0:=T2.out.k0.inside;clear b2;simp only[Wz])
  have P2:=Hh (Zi.made w2 54 #[I J v.k,Ψ v.t,I J v.n,I J (v.line:Int),I J (v.col:Int)]);go_region_with(go_at_call 40;refine(HO.out _ (HR.out _ (Xv (T2.out.next (Zh w2 (.cells #[I J v.k,Ψ v.t,I J v.n,I J (v.line:Int),I J (v.col:Int)] 54))).below))).mono ?_;rintro e w3 ⟨rfl,b3⟩;have T3:=Hh ((T2.out.next (Zh w2 (.cells #[I J v.k,Ψ v.t,I J v.n,I J (v.line:Int),I J (v.col:Int)] 54))).drew.next b3);obtain⟨p0,p1,p2,p3,p4⟩:=Zaw (P2.out.drew.below b3 P2.out.drew.inside);obtain⟨a0,a1,a2,v0,v1,v2⟩:=Zo T3.out.k0;obtain⟨d0,d1,d2,e0,e1,e2⟩:=Zo T3.out.k1;obtain⟨g0,g1,g2,z0,z1,z2⟩:=Zo T3.out.k2;have hz:=T3.out.k2.inside;clear b3)
  all_goals
   go_wp2
   obtain⟨hS1,hS2,hB⟩:=Zev T3.out (Λ (some ⟨r,0,none⟩) n K) (I J (b:Int)) (I J (d:Int)) (I J 0) (I J 0) (I J 0);have hF:=Zo hS1;have hG:=Zo hS2;refine bodyPost_ret (v:=.tuple #[qA r K n b d,I J v.n,Zr okF]) (by simp[results,Tryz.results42,go_sem,hF,hG,Zr,okF,qA]) rfl ⟨rfl,hB⟩
 ·have q0:(v.k != 2)=true:=by rw[bne_iff_ne];exact hk
  rw[if_neg hk,if_neg hk,if_neg hk];clear hk;obtain⟨f1,f2,f3⟩:=f;go_enter Tryz.func42,Tryz.ntmps42;go_wp2_with(go_at_call 17;refine hi.mono ?_;rintro e w2 ⟨rfl,b2⟩;have T2:=Hh (T0.out.next b2);obtain⟨c0,c1,c2,y0,y1,y2⟩:=Zo T2.out.k0;have hz2:=T2.out.k2.inside;have hz1:=T2.out.k1.inside;have hz0:=T2.out.k0.inside;clear b2;simp only[Wz])
  go_region_with(go_at_call 62;refine(HW.out _ (HR.out _ (Xv (T2.out.next (Zh w2 (.cells #[I J v.k,Ψ v.t,I J v.n,I J (v.line:Int),I J (v.col:Int)] 54))).below))).mono ?_;rintro e w3 ⟨rfl,b3⟩;have T3:=Hh ((T2.out.next (Zh w2 (.cells #[I J v.k,Ψ v.t,I J v.n,I J (v.line:Int),I J (v.col:Int)] 54))).drew.next b3);obtain⟨a0,a1,a2,v0,v1,v2⟩:=Zo T3.out.k0;obtain⟨d0,d1,d2,e0,e1,e2⟩:=Zo T3.out.k1;obtain⟨g0,g1,g2,z0,z1,z2⟩:=Zo T3.out.k2;have hz:=T3.out.k2.inside;clear b3;simp only[Zr])
  all_goals
   go_wp2
   obtain⟨hS1,hS2,hB⟩:=Zev T3.out (Λ (some ⟨r,0,none⟩) n K) (I J (a:Int)) (I J (d:Int)) (I J f1) (I J (f2:Int)) (I J (f3:Int));have hF:=Zo hS1;have hG:=Zo hS2;refine bodyPost_ret (v:=.tuple #[qA r K n a d,I J 0,Zr (f1,f2,f3)]) (by simp[results,Tryz.results42,go_sem,hF,hG,Zr,qA]) rfl ⟨rfl,hB⟩
theorem qName(w:World)(r K:Nat)(L:List TokV)(n a d:Nat)(hn:n=L.length)(h:Uw w r K L)(ha:a<L.length) :
  Calls Φ 41 #[qA r K n a d] w fun e w'=>e=η (.tuple #[qA r K n (Up L a 3) d,Ψ (Znn L a),Zr (Wd L a 3)])∧Below w.heap.size w w':=by
 have T0:=Hh (Tri.start w 49 #[Λ (some ⟨r,0,none⟩) n K,I J (a:Int),I J (d:Int)] 49 #[Λ none 0 0,I J 0,I J 0] 29 #[I J 0,I J 0,I J 0]);have hrow:∀ x,Below w.heap.size w x→Uw x r K L:=fun x hb=>h.below hb
 have HR:=Hh hrow;have hi:=Zkc _ r K L n a d hn (hrow _ T0.out.below) ha;have hOn:=fun w h=>qOn w r K L n a d hn h ha
 have hWr:=fun w h=>qWrong w r K L n a d hn h ha
 clear hn h ha hrow;unfold Up Wd Znn;generalize Yb L a=v at *;generalize onA L a=b at *;generalize wrF v=f at *;unfold qA at hi hOn hWr ⊢;have HO:=Hh hOn;have HW:=Hh hWr;clear hOn hWr;by_cases hk:v.k=3
 ·have q0:(v.k != 3)=false:=by rw[bne_eq_false_iff_eq];exact hk
  rw[if_pos hk,if_pos hk,if_pos hk];clear hk;go_enter Tryz.func41,Tryz.ntmps41;go_wp2_with(go_at_call 17;refine hi.mono ?_;rintro e w2 ⟨rfl,b2⟩;have T2:=Hh (T0.out.next b2);obtain⟨c0,c1,c2,y0,y1,y2⟩:=Zo T2.out.k0;have hz2:=T2.out.k2.inside;have hz1:=T2.out.k1.inside;have hz0:=T2.out.k0.inside;clear b2;simp only[Wz])
  have P2:=Hh (Zi.made w2 54 #[I J v.k,Ψ v.t,I J v.n,I J (v.line:Int),I J (v.col:Int)]);go_region_with(go_at_call 40;refine(HO.out _ (HR.out _ (Xv (T2.out.next (Zh w2 (.cells #[I J v.k,Ψ v.t,I J v.n,I J (v.line:Int),I J (v.col:Int)] 54))).below))).mono ?_;rintro e w3 ⟨rfl,b3⟩;have T3:=Hh ((T2.out.next (Zh w2 (.cells #[I J v.k,Ψ v.t,I J v.n,I J (v.line:Int),I J (v.col:Int)] 54))).drew.next b3);obtain⟨p0,p1,p2,p3,p4⟩:=Zaw (P2.out.drew.below b3 P2.out.drew.inside);obtain⟨a0,a1,a2,v0,v1,v2⟩:=Zo T3.out.k0;obtain⟨d0,d1,d2,e0,e1,e2⟩:=Zo T3.out.k1;obtain⟨g0,g1,g2,z0,z1,z2⟩:=Zo T3.out.k2;have hz:=T3.out.k2.inside;clear b3)
  all_goals
   go_wp2
   obtain⟨hS1,hS2,hB⟩:=Zev T3.out (Λ (some ⟨r,0,none⟩) n K) (I J (b:Int)) (I J (d:Int)) (I J 0) (I J 0) (I J 0);have hF:=Zo hS1;have hG:=Zo hS2;refine bodyPost_ret (v:=.tuple #[qA r K n b d,Ψ v.t,Zr okF]) (by simp[results,Tryz.results41,go_sem,hF,hG,Zr,okF,qA]) rfl ⟨rfl,hB⟩
 ·have q0:(v.k != 3)=true:=by rw[bne_iff_ne];exact hk
  rw[if_neg hk,if_neg hk,if_neg hk];clear hk;obtain⟨f1,f2,f3⟩:=f;go_enter Tryz.func41,Tryz.ntmps41;go_wp2_with(go_at_call 17;refine hi.mono ?_;rintro e w2 ⟨rfl,b2⟩;have T2:=Hh (T0.out.next b2);obtain⟨c0,c1,c2,y0,y1,y2⟩:=Zo T2.out.k0;have hz2:=T2.out.k2.inside;have hz1:=T2.out.k1.inside;have hz0:=T2.out.k0.inside;clear b2;simp only[Wz])
  go_region_with(go_at_call 62;refine(HW.out _ (HR.out _ (Xv (T2.out.next (Zh w2 (.cells #[I J v.k,Ψ v.t,I J v.n,I J (v.line:Int),I J (v.col:Int)] 54))).below))).mono ?_;rintro e w3 ⟨rfl,b3⟩;have T3:=Hh ((T2.out.next (Zh w2 (.cells #[I J v.k,Ψ v.t,I J v.n,I J (v.line:Int),I J (v.col:Int)] 54))).drew.next b3);obtain⟨a0,a1,a2,v0,v1,v2⟩:=Zo T3.out.k0;obtain⟨d0,d1,d2,e0,e1,e2⟩:=Zo T3.out.k1;obtain⟨g0,g1,g2,z0,z1,z2⟩:=Zo T3.out.k2;have hz:=T3.out.k2.inside;clear b3;simp only[Zr])
  all_goals
   go_wp2
   obtain⟨hS1,hS2,hB⟩:=Zev T3.out (Λ (some ⟨r,0,none⟩) n K) (I J (a:Int)) (I J (d:Int)) (I J f1) (I J (f2:Int)) (I J (f3:Int));have hF:=Zo hS1;have hG:=Zo hS2;refine bodyPost_ret (v:=.tuple #[qA r K n a d,Ψ ⟨#[]⟩,Zr (f1,f2,f3)]) (by simp[results,Tryz.results41,go_sem,hF,hG,Zr,qA]) rfl ⟨rfl,hB⟩
end Go.Proofs.YtbdecchpleiepaaGreat
