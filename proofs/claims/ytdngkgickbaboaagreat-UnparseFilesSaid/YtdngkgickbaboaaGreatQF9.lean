/- Parts of the proof. No conditions but those that each names. -/
import Derived.RegionTactic
import Derived.Test.YtdngkgickbaboaaGreatQF8
set_option maxRecDepth 20000
set_option maxHeartbeats 12800000
set_option linter.unusedVariables false
set_option linter.unusedSimpArgs false
namespace Go.Proofs.YtdngkgickbaboaaGreat
open Go.Value renaming int→I,slice→Λ,string→Ψ
open Go.IntKind renaming i64→J
open _root_.Go.Proofs.Tryz renaming prog→Φ
open Go.Ending renaming returned→η
open Go.ChangeShapes Go.WideShapes Go.ChangeAt Go.RowKit
structure Tri(w:World)(t:TypeId)(cs:Array Value)(u:TypeId)(ds:Array Value)(v:TypeId)(es:Array Value)(x:World):Prop where
 k0:Ze x w.heap.size t cs
 k1:Ze x (w.heap.size+1) u ds
 k2:Ze x (w.heap.size+2) v es
 below:Below w.heap.size w x
theorem Tri.start(w:World)(t:TypeId)(cs:Array Value)(u:TypeId)(ds:Array Value)(v:TypeId)(es:Array Value):Tri w t cs u ds v es (((w.alloc (.cells cs t)).alloc (.cells ds u)).alloc (.cells es v)):=by
 have h:=Two.start w t cs u ds;refine⟨h.k0.alloc _,h.k1.alloc _,?_,h.below.alloc h.below.size _⟩;have:=Ze.made ((w.alloc (.cells cs t)).alloc (.cells ds u)) v es;simpa using this
theorem Tri.next{w x y:World}{t u v:TypeId}{cs ds es:Array Value}(h:Tri w t cs u ds v es x)(hb:Below x.heap.size x y):Tri w t cs u ds v es y:=
 ⟨h.k0.below hb h.k0.inside,h.k1.below hb h.k1.inside,h.k2.below hb h.k2.inside,h.below.trans (hb.mono h.below.size)⟩
theorem Tri.drew{w x:World}{t u v:TypeId}{cs ds es:Array Value}(h:Tri w t cs u ds v es x):Tri w t cs u ds v es x.drew:=⟨h.k0,h.k1,h.k2,Wm h.below⟩
theorem Zgn{w y:World}{t u v:TypeId}{cs:Array Value}{a b c d e f:Value}(h:Tri w t cs u #[a,b,c] v #[d,e,f] y)(x0 x1 x2 y0 y1 y2:Value) :
  Ze ((((((y.setCell ⟨w.heap.size+1,0,none⟩ x0).setCell ⟨w.heap.size+1,1,none⟩ x1).setCell ⟨w.heap.size+1,2,none⟩ x2).setCell ⟨w.heap.size+2,0,none⟩ y0).setCell ⟨w.heap.size+2,1,none⟩ y1).setCell ⟨w.heap.size+2,2,none⟩ y2) (w.heap.size+1) u #[x0,x1,x2] ∧
  Ze ((((((y.setCell ⟨w.heap.size+1,0,none⟩ x0).setCell ⟨w.heap.size+1,1,none⟩ x1).setCell ⟨w.heap.size+1,2,none⟩ x2).setCell ⟨w.heap.size+2,0,none⟩ y0).setCell ⟨w.heap.size+2,1,none⟩ y1).setCell ⟨w.heap.size+2,2,none⟩ y2) (w.heap.size+2) v #[y0,y1,y2] ∧
  Below w.heap.size w ((((((y.setCell ⟨w.heap.size+1,0,none⟩ x0).setCell ⟨w.heap.size+1,1,none⟩ x1).setCell ⟨w.heap.size+1,2,none⟩ x2).setCell ⟨w.heap.size+2,0,none⟩ y0).setCell ⟨w.heap.size+2,1,none⟩ y1).setCell ⟨w.heap.size+2,2,none⟩ y2):=by
 have n1:w.heap.size+1≠w.heap.size+2:=by omega
 have n2:w.heap.size+2≠w.heap.size+1:=by omega
 exact⟨(((Ze.set3 h.k1 x0 x1 x2).aside n1 y0).aside n1 y1).aside n1 y2,Ze.set3 (((h.k2.aside n2 x0).aside n2 x1).aside n2 x2) y0 y1 y2,
  Below.set3 (Below.set3 h.below (by omega) _ _ _) (by omega) _ _ _⟩
theorem qInt(w:World)(r K:Nat)(L:List TokV)(n a d:Nat)(hn:n=L.length)(h:Zaf w r K L)(ha:a<L.length) :
  Calls Φ 50 #[qA r K n a d] w fun e w'=>e=η (.tuple #[qA r K n (Vz L a 2) d,I J (Zkh L a),Zq (Wl L a 2)])∧Below w.heap.size w w':=by
 have T0:=Hh (Tri.start w 64 #[Λ (some ⟨r,0,none⟩) n K,I J (a:Int),I J (d:Int)] 64 #[Λ none 0 0,I J 0,I J 0] 29 #[I J 0,I J 0,I J 0]);have hrow:∀ x,Below w.heap.size w x→Zaf x r K L:=fun x hb=>h.below hb
 have HR:=Hh hrow;have hi:=Zma _ r K L n a d hn (hrow _ T0.out.below) ha;have hOn:=fun w h=>qOn w r K L n a d hn h ha
 have hWr:=fun w h=>qWrong w r K L n a d hn h ha
 clear hn h ha hrow;unfold Vz Wl Zkh;generalize Zx L a=v at *;generalize onA L a=b at *;generalize wrF v=f at *;unfold qA at hi hOn hWr ⊢;have HO:=Hh hOn;have HW:=Hh hWr;clear hOn hWr;by_cases hk:v.k=2
 ·have q0:(v.k != 2)=false:=by rw[bne_eq_false_iff_eq];exact hk
  rw[if_pos hk,if_pos hk,if_pos hk];clear hk;go_enter Tryz.func50,Tryz.ntmps50;go_wp2_with(go_at_call 19;refine hi.mono ?_;rintro e w2 ⟨rfl,b2⟩;have T2:=Hh (T0.out.next b2);obtain⟨c0,c1,c2,y0,y1,y2⟩:=Yc T2.out.k0;have hz2:=T2.out.k2.inside;have hz1:=T2.out.k1.inside;have hz0:=T2.out.k0.inside;clear b2;simp only[Vt])
  have P2:=Hh (Ze.made w2 69 #[I J v.k,Ψ v.t,I J v.n,I J (v.line:Int),I J (v.col:Int)]);go_region_with(go_at_call 48;refine(HO.out _ (HR.out _ (Wm (T2.out.next (Zj w2 (.cells #[I J v.k,Ψ v.t,I J v.n,I J (v.line:Int),I J (v.col:Int)] 69))).below))).mono ?_;rintro e w3 ⟨rfl,b3⟩;have T3:=Hh ((T2.out.next (Zj w2 (.cells #[I J v.k,Ψ v.t,I J v.n,I J (v.line:Int),I J (v.col:Int)] 69))).drew.next b3);obtain⟨p0,p1,p2,p3,p4⟩:=Zcc (P2.out.drew.below b3 P2.out.drew.inside);obtain⟨a0,a1,a2,v0,v1,v2⟩:=Yc T3.out.k0;obtain⟨d0,d1,d2,e0,e1,e2⟩:=Yc T3.out.k1;obtain⟨g0,g1,g2,z0,z1,z2⟩:=Yc T3.out.k2;have hz:=T3.out.k2.inside;clear b3)
  all_goals
   go_wp2
   obtain⟨hS1,hS2,hB⟩:=Zgn T3.out (Λ (some ⟨r,0,none⟩) n K) (I J (b:Int)) (I J (d:Int)) (I J 0) (I J 0) (I J 0);have hF:=Yc hS1;have hG:=Yc hS2;refine bodyPost_ret (v:=.tuple #[qA r K n b d,I J v.n,Zq okF]) (by simp[results,Tryz.results50,go_sem,hF,hG,Zq,okF,qA]) rfl ⟨rfl,hB⟩
 ·have q0:(v.k != 2)=true:=by rw[bne_iff_ne];exact hk
  rw[if_neg hk,if_neg hk,if_neg hk];clear hk;obtain⟨f1,f2,f3⟩:=f;go_enter Tryz.func50,Tryz.ntmps50;go_wp2_with(go_at_call 19;refine hi.mono ?_;rintro e w2 ⟨rfl,b2⟩;have T2:=Hh (T0.out.next b2);obtain⟨c0,c1,c2,y0,y1,y2⟩:=Yc T2.out.k0;have hz2:=T2.out.k2.inside;have hz1:=T2.out.k1.inside;have hz0:=T2.out.k0.inside;clear b2;simp only[Vt])
  go_region_with(go_at_call 82;refine(HW.out _ (HR.out _ (Wm (T2.out.next (Zj w2 (.cells #[I J v.k,Ψ v.t,I J v.n,I J (v.line:Int),I J (v.col:Int)] 69))).below))).mono ?_;rintro e w3 ⟨rfl,b3⟩;have T3:=Hh ((T2.out.next (Zj w2 (.cells #[I J v.k,Ψ v.t,I J v.n,I J (v.line:Int),I J (v.col:Int)] 69))).drew.next b3);obtain⟨a0,a1,a2,v0,v1,v2⟩:=Yc T3.out.k0;obtain⟨d0,d1,d2,e0,e1,e2⟩:=Yc T3.out.k1;obtain⟨g0,g1,g2,z0,z1,z2⟩:=Yc T3.out.k2;have hz:=T3.out.k2.inside;clear b3;simp only[Zq])
  all_goals
   go_wp2
   obtain⟨hS1,hS2,hB⟩:=Zgn T3.out (Λ (some ⟨r,0,none⟩) n K) (I J (a:Int)) (I J (d:Int)) (I J f1) (I J (f2:Int)) (I J (f3:Int));have hF:=Yc hS1;have hG:=Yc hS2;refine bodyPost_ret (v:=.tuple #[qA r K n a d,I J 0,Zq (f1,f2,f3)]) (by simp[results,Tryz.results50,go_sem,hF,hG,Zq,qA]) rfl ⟨rfl,hB⟩
theorem qName(w:World)(r K:Nat)(L:List TokV)(n a d:Nat)(hn:n=L.length)(h:Zaf w r K L)(ha:a<L.length) :
  Calls Φ 49 #[qA r K n a d] w fun e w'=>e=η (.tuple #[qA r K n (Vz L a 3) d,Ψ (Zmd L a),Zq (Wl L a 3)])∧Below w.heap.size w w':=by
 have T0:=Hh (Tri.start w 64 #[Λ (some ⟨r,0,none⟩) n K,I J (a:Int),I J (d:Int)] 64 #[Λ none 0 0,I J 0,I J 0] 29 #[I J 0,I J 0,I J 0]);have hrow:∀ x,Below w.heap.size w x→Zaf x r K L:=fun x hb=>h.below hb
 have HR:=Hh hrow;have hi:=Zma _ r K L n a d hn (hrow _ T0.out.below) ha;have hOn:=fun w h=>qOn w r K L n a d hn h ha
 have hWr:=fun w h=>qWrong w r K L n a d hn h ha
 clear hn h ha hrow;unfold Vz Wl Zmd;generalize Zx L a=v at *;generalize onA L a=b at *;generalize wrF v=f at *;unfold qA at hi hOn hWr ⊢;have HO:=Hh hOn;have HW:=Hh hWr;clear hOn hWr;by_cases hk:v.k=3
 ·have q0:(v.k != 3)=false:=by rw[bne_eq_false_iff_eq];exact hk
  rw[if_pos hk,if_pos hk,if_pos hk];clear hk;go_enter Tryz.func49,Tryz.ntmps49;go_wp2_with(go_at_call 19;refine hi.mono ?_;rintro e w2 ⟨rfl,b2⟩;have T2:=Hh (T0.out.next b2);obtain⟨c0,c1,c2,y0,y1,y2⟩:=Yc T2.out.k0;have hz2:=T2.out.k2.inside;have hz1:=T2.out.k1.inside;have hz0:=T2.out.k0.inside;clear b2;simp only[Vt])
  have P2:=Hh (Ze.made w2 69 #[I J v.k,Ψ v.t,I J v.n,I J (v.line:Int),I J (v.col:Int)]);go_region_with(go_at_call 48;refine(HO.out _ (HR.out _ (Wm (T2.out.next (Zj w2 (.cells #[I J v.k,Ψ v.t,I J v.n,I J (v.line:Int),I J (v.col:Int)] 69))).below))).mono ?_;rintro e w3 ⟨rfl,b3⟩;have T3:=Hh ((T2.out.next (Zj w2 (.cells #[I J v.k,Ψ v.t,I J v.n,I J (v.line:Int),I J (v.col:Int)] 69))).drew.next b3);obtain⟨p0,p1,p2,p3,p4⟩:=Zcc (P2.out.drew.below b3 P2.out.drew.inside);obtain⟨a0,a1,a2,v0,v1,v2⟩:=Yc T3.out.k0;obtain⟨d0,d1,d2,e0,e1,e2⟩:=Yc T3.out.k1;obtain⟨g0,g1,g2,z0,z1,z2⟩:=Yc T3.out.k2;have hz:=T3.out.k2.inside;clear b3)
  all_goals
   go_wp2
   obtain⟨hS1,hS2,hB⟩:=Zgn T3.out (Λ (some ⟨r,0,none⟩) n K) (I J (b:Int)) (I J (d:Int)) (I J 0) (I J 0) (I J 0);have hF:=Yc hS1;have hG:=Yc hS2;refine bodyPost_ret (v:=.tuple #[qA r K n b d,Ψ v.t,Zq okF]) (by simp[results,Tryz.results49,go_sem,hF,hG,Zq,okF,qA]) rfl ⟨rfl,hB⟩
 ·have q0:(v.k != 3)=true:=by rw[bne_iff_ne];exact hk
  rw[if_neg hk,if_neg hk,if_neg hk];clear hk;obtain⟨f1,f2,f3⟩:=f;go_enter Tryz.func49,Tryz.ntmps49;go_wp2_with(go_at_call 19;refine hi.mono ?_;rintro e w2 ⟨rfl,b2⟩;have T2:=Hh (T0.out.next b2);obtain⟨c0,c1,c2,y0,y1,y2⟩:=Yc T2.out.k0;have hz2:=T2.out.k2.inside;have hz1:=T2.out.k1.inside;have hz0:=T2.out.k0.inside;clear b2;simp only[Vt])
  go_region_with(go_at_call 82;refine(HW.out _ (HR.out _ (Wm (T2.out.next (Zj w2 (.cells #[I J v.k,Ψ v.t,I J v.n,I J (v.line:Int),I J (v.col:Int)] 69))).below))).mono ?_;rintro e w3 ⟨rfl,b3⟩;have T3:=Hh ((T2.out.next (Zj w2 (.cells #[I J v.k,Ψ v.t,I J v.n,I J (v.line:Int),I J (v.col:Int)] 69))).drew.next b3);obtain⟨a0,a1,a2,v0,v1,v2⟩:=Yc T3.out.k0;obtain⟨d0,d1,d2,e0,e1,e2⟩:=Yc T3.out.k1;obtain⟨g0,g1,g2,z0,z1,z2⟩:=Yc T3.out.k2;have hz:=T3.out.k2.inside;clear b3;simp only[Zq])
  all_goals
   go_wp2
   obtain⟨hS1,hS2,hB⟩:=Zgn T3.out (Λ (some ⟨r,0,none⟩) n K) (I J (a:Int)) (I J (d:Int)) (I J f1) (I J (f2:Int)) (I J (f3:Int));have hF:=Yc hS1;have hG:=Yc hS2;refine bodyPost_ret (v:=.tuple #[qA r K n a d,Ψ ⟨#[]⟩,Zq (f1,f2,f3)]) (by simp[results,Tryz.results49,go_sem,hF,hG,Zq,qA]) rfl ⟨rfl,hB⟩
end Go.Proofs.YtdngkgickbaboaaGreat
