/- Parts of the proof. No conditions but those that each names. -/
import Derived.Great.Walk
import Derived.Deep.QuietTactic
import Derived.BigQuiet
import Derived.RegionTactic
import Derived.IntWalk
import Derived.Test.YtbdecchpleiepaaGreatQL39
set_option maxRecDepth 20000
set_option maxHeartbeats 99000000
set_option linter.unusedVariables false
set_option linter.unusedSimpArgs false
namespace Go.Proofs.YtbdecchpleiepaaGreat
open Go.Value renaming int→I,slice→Λ,pointer→Ω,string→Ψ,oneCell'→Γ
open Go.IntKind renaming i64→J
open _root_.Go.Proofs.Tryz renaming prog→Φ
open Nat renaming le_refl→Θ
open Nat renaming le_trans→Ξ
open And renaming intro→ζ
open Go.Ending renaming returned→η
open Go.ChangeShapes Go.WideShapes Go.ChangeAt Go.RowKit
def millT:ByteArray:=⟨#[112,108,97,99,101,32,34,77,105,108,108,34,32,123,32,101,110,100,32,123,32,100,114,97,119,32,109,105,110,101,32,49,59,32,125,32,125]⟩
def millF:Fi:=⟨[],[⟨⟨#[77,105,108,108]⟩,1,1,[⟨4,0,1,16,.cons { AH.zero 7 1 22 with side:=1,num:=.leaf 1 1 zSe 0 0 0 } .nil .nil .nil⟩]⟩]⟩
theorem mill_is:Zcn 5 millT=(millF,okF):=by kernel_rfl
def mL:List TokV:=Wh millT
def m0:St:=Je millT
def m1:St:=Ye mL Xp m0
def m2:St:=Wp mL m1
def m3:St:=Zz mL Yu m2
def m4:St:=Zz mL Yu (Zbc mL (Zk mL Xf m3) (Ye mL Xf m3))
def m5:St:=Ye mL Wj m4
def m6:St:=Zn mL Zq m5
def m7:St:=(Ud 5 mL 113 (AH.zero (Zk mL Wj m4) (m4.tok mL).line (m4.tok mL).col) (Zk mL Wj m4) m5).st
def m8:St:=Zz mL Xl (Xm 5 mL 114 m4).2
def m9:St:=(Vj 5 mL 115 0 0 m1).2
theorem mill_parse(w:World):Calls Φ 15 #[Ψ millT] w (Zhu w millF.ds okF):=by
 have mF:=kfact 109 mL m6 (by decide +kernel) (by decide +kernel)
 have mP:=kproduct 110 mL m6 (fun w q c r K=>mF w q c r K) (by decide +kernel) (by decide +kernel) (by decide +kernel)
 have mE:=kexpr 111 mL m6 (fun w q c r K=>mP w q c r K) (by decide +kernel) (by decide +kernel) (by decide +kernel)
 have mA:=kact 112 mL m5 7 (by decide) (by decide) (fun w q c r K h=>kplain7 7 rfl w q c r K mL m5 112 h (by decide +kernel) (by decide +kernel) (fun w q c r K h=>mE w q c r K h))
 have mAs:=kacts 114 mL m4 (fun m s=>(m=114∧s=m4)∨(m=113∧s=m7)) (.inl ⟨rfl,rfl⟩) (fun m s hp hk=>by
    rcases hp with⟨e,rfl⟩ | ⟨e,rfl⟩
    ·obtain rfl:m=113:=by omega
     have e7:Zk mL Wj m4=7:=by decide +kernel
     refine⟨fun w q c r K h=>?_,.inr ⟨rfl,rfl⟩⟩;rw[e7];exact mA w q c r K h
    ·exact absurd (by decide +kernel) hk) (by decide +kernel) (by decide +kernel)
 have mRs:=krules 115 mL m2 (fun m s=>(m=115∧s=m3)∨(m=114∧s=m8)) (.inl ⟨rfl,rfl⟩) (fun m s hp hk=>by
    rcases hp with⟨e,rfl⟩ | ⟨e,rfl⟩
    ·obtain rfl:m=114:=by omega
     exact⟨by decide +kernel,fun w q c r K h=>mAs w q c r K h,.inr ⟨rfl,rfl⟩⟩
    ·exact absurd (by decide +kernel) hk) (by decide +kernel) (by decide +kernel)
 have mFi:=kfile 116 mL m0 (fun m s=>(m=116∧s=m0)∨(m=115∧s=m9)) (.inl ⟨rfl,rfl⟩) (fun m s hp hk=>by
    rcases hp with⟨e,rfl⟩ | ⟨e,rfl⟩
    ·obtain rfl:m=115:=by omega
     exact⟨by decide +kernel,fun w q c r K h=>kplace 115 mL m1 (fun w q c r K h=>mRs w q c r K h) w q c r K h,.inr ⟨rfl,rfl⟩⟩
    ·exact absurd (by decide +kernel) hk) (by decide +kernel) (by decide +kernel)
 have h:=kParse millT (by decide +kernel) (fun w q c r K h=>mFi w q c r K h) w (by decide);rw[mill_is]at h;exact h
theorem z_ru:(Tryz.prog.info? 41).map (fun i=>i.zero.map Value.cells)=some (some ([I J 0,I J 0,I J 0,I J 0,Λ none 0 0]:List Value).toArray):=by kernel_rfl
theorem z_fi:(Tryz.prog.info? 26).map (fun i=>i.zero.map Value.cells)=some (some ([Λ none 0 0,Λ none 0 0]:List Value).toArray):=by kernel_rfl
theorem z_ca:(Tryz.prog.info? 36).map (fun i=>i.zero.map Value.cells)=some (some ([Ψ ⟨#[]⟩,I J 0,I J 0,I J 0,I J 0,Λ none 0 0]:List Value).toArray):=by kernel_rfl
theorem qSigned(w:World)(r K:Nat)(L:List TokV)(n a d:Nat)(hn:n=L.length)(h:Uw w r K L)(ha:a<L.length) :
  Calls Φ 44 #[qA r K n a d] w fun e w'=>e=η (.tuple #[qA r K n (Zfj L a) d,I J (Znj L a),Zr (Zbf L a)])∧Below w.heap.size w w':=by
 have T0:=Hh (Tri.start w 49 #[Λ (some ⟨r,0,none⟩) n K,I J (a:Int),I J (d:Int)] 49 #[Λ none 0 0,I J 0,I J 0] 29 #[I J 0,I J 0,I J 0]);have hrow:∀ x,Below w.heap.size w x→Uw x r K L:=fun x hb=>h.below hb
 have HR:=Hh hrow;have hi:=qIs _ r K L n a d Zno hn (hrow _ T0.out.below) ha;have hOn:=fun w h=>qOn w r K L n a d hn h ha
 have hIn:=fun w h=>qInt w r K L n a d hn h ha
 have hIn2:=fun w h=>qInt w r K L n (onA L a) d hn h (h.ends.on ha)
 have hnum:=h.ends.num (onA L a);clear hn h ha hrow;unfold Zfj Znj Zbf;unfold Zno at hi ⊢;unfold qA at hi hOn hIn hIn2 ⊢;cases hb:isT (Yb L a) ⟨#[45]⟩
 ·rw[hb]at hi
  rw[if_neg (by decide),if_neg (by decide),if_neg (by decide)];generalize Wd L a 2=f at *;generalize Zkx L a=m at *;generalize Up L a 2=b at *;have HI:=Hh hIn;clear hb hOn hIn hIn2;obtain⟨f1,f2,f3⟩:=f;go_enter Tryz.func44,Tryz.ntmps44;go_wp2_with(first
 |(go_at_call 39;refine hi.mono ?_;rintro e w2 ⟨rfl,b2⟩;have T2:=Hh (T0.out.next b2);obtain⟨c0,c1,c2,y0,y1,y2⟩:=Zo T2.out.k0;clear b2)
 |(go_at_call 42;refine(HI.out _ (HR.out _ T2.out.below)).mono ?_;rintro e w3 ⟨rfl,b3⟩;have T3:=Hh (T2.out.next b3);obtain⟨d0,d1,d2,e0,e1,e2⟩:=Zo T3.out.k1;obtain⟨g0,g1,g2,z0,z1,z2⟩:=Zo T3.out.k2;have hz:=T3.out.k2.inside;clear b3;simp only[Zr]))
  obtain⟨hS1,hS2,hB⟩:=Zev T3.out (Λ (some ⟨r,0,none⟩) n K) (I J (b:Int)) (I J (d:Int)) (I J f1) (I J (f2:Int)) (I J (f3:Int));have hF:=Zo hS1;have hG:=Zo hS2;refine bodyPost_ret (v:=.tuple #[qA r K n b d,I J m,Zr (f1,f2,f3)]) (by simp[results,Tryz.results44,go_sem,hF,hG,Zr,qA]) rfl ⟨rfl,hB⟩
 ·rw[hb]at hi
  rw[if_pos rfl,if_pos rfl,if_pos rfl];clear hb hIn;generalize onA L a=b at *;have hk:Up L b 2=if(Yb L b).k=2 then onA L b else b:=rfl
  have hv:Zkx L b=if(Yb L b).k=2 then(Yb L b).n else 0:=rfl
  have hf:Wd L b 2=if(Yb L b).k=2 then okF else wrF (Yb L b):=rfl
  rw[hf];by_cases h2:(Yb L b).k=2
  · rw[if_pos h2]at hk hv hf ⊢
    rw[if_pos h2,if_pos h2];rw[hk,hv,hf]at hIn2;clear hk hv hf h2;generalize(Yb L b).n=m at *;generalize onA L b=b2 at *;obtain⟨m0,m9⟩:=hnum;have HI:=Hh hIn2;have HO:=Hh hOn;clear hOn hIn2;go_enter Tryz.func44,Tryz.ntmps44;go_wp2_with(first
 |(go_at_call 39;refine hi.mono ?_;rintro e w2 ⟨rfl,b2⟩;have T2:=Hh (T0.out.next b2);obtain⟨c0,c1,c2,y0,y1,y2⟩:=Zo T2.out.k0;clear b2)
 |(go_at_call 40;refine(HO.out _ (HR.out _ T2.out.below)).mono ?_;rintro e w3 ⟨rfl,b3⟩;have T3:=Hh (T2.out.next b3);clear b3)
 |(go_at_call 42;refine(HI.out _ (HR.out _ T3.out.below)).mono ?_;rintro e w4 ⟨rfl,b4⟩;have T4:=Hh (T3.out.next b4);obtain⟨d0,d1,d2,e0,e1,e2⟩:=Zo T4.out.k1;obtain⟨g0,g1,g2,z0,z1,z2⟩:=Zo T4.out.k2;have hz:=T4.out.k2.inside;have hz1:=T4.out.k1.inside;have hz0:=T4.out.k0.inside;clear b4;simp only[Zr,okF]))
    go_region
    all_goals
     go_wp2
     obtain⟨hS1,hS2,hB⟩:=Zev T4.out (Λ (some ⟨r,0,none⟩) n K) (I J (b2:Int)) (I J (d:Int)) (I J 0) (I J 0) (I J 0);have hF:=Zo (((hS1.alloc (.cells #[Λ (some ⟨r,0,none⟩) n K,I J (b2:Int),I J (d:Int)] 49)).alloc (.cells #[I J 0,I J 0,I J 0] 29)).drew);have hG:=Zo (((hS2.alloc (.cells #[Λ (some ⟨r,0,none⟩) n K,I J (b2:Int),I J (d:Int)] 49)).alloc (.cells #[I J 0,I J 0,I J 0] 29)).drew);refine bodyPost_ret (v:=.tuple #[qA r K n b2 d,I J (-m),Zr okF]) (by simp[results,Tryz.results44,go_sem,hF,hG,Zr,okF,qA]) rfl ⟨rfl,?_⟩;exact Xv ((hB.alloc hB.size _).alloc (by have:=hB.size;simp at this ⊢;omega) _)
  · rw[if_neg h2]at hk hv hf ⊢
    rw[if_neg h2,if_neg h2];rw[hk,hv,hf]at hIn2;have hne:=Zhb (Yb L b);clear hk hv hf h2;generalize wrF (Yb L b)=f at *;obtain⟨f1,f2,f3⟩:=f;have q0:(f1 != 0)=true:=by rw[bne_iff_ne];exact hne
    have HI:=Hh hIn2;have HO:=Hh hOn;clear hOn hIn2 hnum hne;go_enter Tryz.func44,Tryz.ntmps44;go_wp2_with(first
 |(go_at_call 39;refine hi.mono ?_;rintro e w2 ⟨rfl,b2⟩;have T2:=Hh (T0.out.next b2);obtain⟨c0,c1,c2,y0,y1,y2⟩:=Zo T2.out.k0;clear b2)
 |(go_at_call 40;refine(HO.out _ (HR.out _ T2.out.below)).mono ?_;rintro e w3 ⟨rfl,b3⟩;have T3:=Hh (T2.out.next b3);clear b3)
 |(go_at_call 42;refine(HI.out _ (HR.out _ T3.out.below)).mono ?_;rintro e w4 ⟨rfl,b4⟩;have T4:=Hh (T3.out.next b4);obtain⟨c0,c1,c2,y0,y1,y2⟩:=Zo T4.out.k0;obtain⟨d0,d1,d2,e0,e1,e2⟩:=Zo T4.out.k1;obtain⟨g0,g1,g2,z0,z1,z2⟩:=Zo T4.out.k2;have hz:=T4.out.k2.inside;have hz1:=T4.out.k1.inside;have hz0:=T4.out.k0.inside;clear b4;simp only[Zr]))
    go_region
    all_goals
     go_wp2
     obtain⟨hS1,hS2,hB⟩:=Zev T4.out (Λ (some ⟨r,0,none⟩) n K) (I J (a:Int)) (I J (d:Int)) (I J f1) (I J (f2:Int)) (I J (f3:Int));have hF:=Zo (((hS1.alloc (.cells #[Λ (some ⟨r,0,none⟩) n K,I J (b:Int),I J (d:Int)] 49)).alloc (.cells #[I J f1,I J (f2:Int),I J (f3:Int)] 29)).drew);have hG:=Zo (((hS2.alloc (.cells #[Λ (some ⟨r,0,none⟩) n K,I J (b:Int),I J (d:Int)] 49)).alloc (.cells #[I J f1,I J (f2:Int),I J (f3:Int)] 29)).drew);refine bodyPost_ret (v:=.tuple #[qA r K n a d,I J 0,Zr (f1,f2,f3)]) (by simp[results,Tryz.results44,go_sem,hF,hG,Zr,okF,qA]) rfl ⟨rfl,?_⟩;exact Xv ((hB.alloc hB.size _).alloc (by have:=hB.size;simp at this ⊢;omega) _)
theorem Tri.set2{w x:World}{t u v:TypeId}{cs ds es:Array Value}(h:Tri w t cs u ds v es x)(y:Value):Tri w t (cs.setIfInBounds 2 y) u ds v es (x.setCell ⟨w.heap.size,2,none⟩ y):=
 ⟨h.k0.write 2 y,h.k1.aside (by simp) y,h.k2.aside (by simp) y,h.below.setCell (Θ _) y⟩
theorem duo_set{w y:World}{t u:TypeId}{a b c d e f:Value}(h:Two w t #[a,b,c] u #[d,e,f] y)(x0 x1 x2 y0 y1 y2:Value) :
  Zi ((((((y.setCell ⟨w.heap.size,0,none⟩ x0).setCell ⟨w.heap.size,1,none⟩ x1).setCell ⟨w.heap.size,2,none⟩ x2).setCell ⟨w.heap.size+1,0,none⟩ y0).setCell ⟨w.heap.size+1,1,none⟩ y1).setCell ⟨w.heap.size+1,2,none⟩ y2) w.heap.size t #[x0,x1,x2] ∧
  Zi ((((((y.setCell ⟨w.heap.size,0,none⟩ x0).setCell ⟨w.heap.size,1,none⟩ x1).setCell ⟨w.heap.size,2,none⟩ x2).setCell ⟨w.heap.size+1,0,none⟩ y0).setCell ⟨w.heap.size+1,1,none⟩ y1).setCell ⟨w.heap.size+1,2,none⟩ y2) (w.heap.size+1) u #[y0,y1,y2] ∧
  Below w.heap.size w ((((((y.setCell ⟨w.heap.size,0,none⟩ x0).setCell ⟨w.heap.size,1,none⟩ x1).setCell ⟨w.heap.size,2,none⟩ x2).setCell ⟨w.heap.size+1,0,none⟩ y0).setCell ⟨w.heap.size+1,1,none⟩ y1).setCell ⟨w.heap.size+1,2,none⟩ y2):=by
 have n1:w.heap.size≠w.heap.size+1:=by omega
 have n2:w.heap.size+1≠w.heap.size:=by omega
 exact⟨(((Zi.set3 h.k0 x0 x1 x2).aside n1 y0).aside n1 y1).aside n1 y2,Zi.set3 (((h.k1.aside n2 x0).aside n2 x1).aside n2 x2) y0 y1 y2,
  Below.set3 (Below.set3 h.below (by omega) _ _ _) (by omega) _ _ _⟩
theorem qDown(w:World)(r K:Nat)(L:List TokV)(n a d:Nat)(hn:n=L.length)(h:Uw w r K L)(ha:a<L.length)(hd:d≤8) :
  Calls Φ 148 #[qA r K n a d] w fun e w'=>e=η (.tuple #[qA r K n a (Zdg d),Zr (Jq L a d)])∧Below w.heap.size w w':=by
 have T0:=Hh (Tri.start w 49 #[Λ (some ⟨r,0,none⟩) n K,I J (a:Int),I J (d:Int)] 49 #[Λ none 0 0,I J 0,I J 0] 29 #[I J 0,I J 0,I J 0]);have hi:=Zkc _ r K L n a d hn (h.below T0.out.below) ha;clear hn h ha;unfold Zdg Jq;unfold qA at hi ⊢;generalize Yb L a=v at *;by_cases h8:d=8
 ·subst h8
  rw[if_pos rfl,if_pos rfl];clear hd;go_enter Tryz.func148,Tryz.ntmps148;go_wp2_with(go_at_call 17;refine hi.mono ?_;rintro e w4 ⟨rfl,b2⟩;have T4:=Hh (T0.out.next b2);obtain⟨c0,c1,c2,y0,y1,y2⟩:=Zo T4.out.k0;obtain⟨d0,d1,d2,e0,e1,e2⟩:=Zo T4.out.k1;obtain⟨g0,g1,g2,z0,z1,z2⟩:=Zo T4.out.k2;have hz:=T4.out.k2.inside;have hz1:=T4.out.k1.inside;have hz0:=T4.out.k0.inside;clear b2;simp only[Wz])
  go_region
  all_goals
   go_wp2
   obtain⟨hS1,hS2,hB⟩:=Zev T4.out (Λ (some ⟨r,0,none⟩) n K) (I J (a:Int)) (I J 8) (I J 8) (I J (v.line:Int)) (I J (v.col:Int));have hF:=Zo ((hS1.alloc (.cells #[I J v.k,Ψ v.t,I J v.n,I J (v.line:Int),I J (v.col:Int)] 54)).drew);have hG:=Zo ((hS2.alloc (.cells #[I J v.k,Ψ v.t,I J v.n,I J (v.line:Int),I J (v.col:Int)] 54)).drew);refine bodyPost_ret (v:=.tuple #[qA r K n a 8,Zr (8,v.line,v.col)]) (by simp[results,Tryz.results148,go_sem,hF,hG,Zr,qA]) rfl ⟨rfl,?_⟩;exact Xv (hB.alloc hB.size _)
 ·rw[if_neg h8,if_neg h8]
  have l0:(d:Int)≤7:=by omega
  have e1:((d+1:Nat):Int)=(d:Int)+1:=by omega
  have E:=Hh e1;clear h8 hd e1;go_enter Tryz.func148,Tryz.ntmps148;go_wp2_with(go_at_call 17;refine hi.mono ?_;rintro e w4 ⟨rfl,b2⟩;have T4:=Hh (T0.out.next b2);obtain⟨c0,c1,c2,y0,y1,y2⟩:=Zo T4.out.k0;obtain⟨d0,d1,d2,e0,e1,e2⟩:=Zo T4.out.k1;obtain⟨g0,g1,g2,z0,z1,z2⟩:=Zo T4.out.k2;have hz:=T4.out.k2.inside;have hz1:=T4.out.k1.inside;have hz0:=T4.out.k0.inside;clear b2;simp only[Wz])
  obtain⟨hS1,hS2,hB⟩:=Zev (T4.out.set2 (I J ((d:Int)+1))) (Λ (some ⟨r,0,none⟩) n K) (I J (a:Int)) (I J ((d:Int)+1)) (I J 0) (I J 0) (I J 0);have hF:=Zo (hS1.alloc (.cells #[I J v.k,Ψ v.t,I J v.n,I J (v.line:Int),I J (v.col:Int)] 54));have hG:=Zo (hS2.alloc (.cells #[I J v.k,Ψ v.t,I J v.n,I J (v.line:Int),I J (v.col:Int)] 54));refine bodyPost_ret (v:=.tuple #[qA r K n a (d+1),Zr okF]) (by simp[results,Tryz.results148,go_sem,hF,hG,Zr,okF,qA,E.out]) rfl ⟨rfl,?_⟩;exact hB.alloc hB.size _
def QNewPost(L:List TokV)(w:World)(e:Ending)(w':World):Prop:=
 ∃ r K,e=η (.tuple #[qA r K L.length 0 0,Zr okF])∧Uw w' r K L∧w.heap.size≤r∧Below w.heap.size w w'
theorem qNew_err(s:ByteArray)(w:World)(hs:s.size≤1099511627776)(E:Int)(l c:Nat)(hv:Zbv s=([],E,l,c)) :
  Calls Φ 38 #[Ψ s] w fun e w'=>∃ A k,e=η (.tuple #[.agg #[Λ A 0 k,I J 0,I J 0],Zr (E,l,c)])∧Below w.heap.size w w':=by
 have HV:=Hh hv;have T0:=Hh (Two.start w 49 #[Λ none 0 0,I J 0,I J 0] 29 #[I J 0,I J 0,I J 0]);clear hv;go_enter Tryz.func38,Tryz.ntmps38;go_wp2_with(go_at_call 61;refine(rtScan s _ hs).mono ?_;rintro e w1 ⟨v,rfl,o1,b1⟩;rw[HV.out]at o1 ⊢;obtain⟨A1,c1,rfl,hl1,_⟩:=own5_reads o1;have T1:=Hh (T0.out.next b1);obtain⟨d0,d1,d2,e0,e1,e2⟩:=Zo T1.out.k0;obtain⟨g0,g1,g2,z0,z1,z2⟩:=Zo T1.out.k1;have hz:=T1.out.k1.inside;have hz0:=T1.out.k0.inside;clear o1 b1;simp only[Zr])
 go_region
 all_goals
  go_wp2
  obtain⟨hS1,hS2,hB⟩:=duo_set T1.out (Λ A1 0 c1) (I J 0) (I J 0) (I J E) (I J (l:Int)) (I J (c:Int));have hF:=Zo ((hS1.alloc (.cells #[I J E,I J (l:Int),I J (c:Int)] 29)).drew);have hG:=Zo ((hS2.alloc (.cells #[I J E,I J (l:Int),I J (c:Int)] 29)).drew);refine bodyPost_ret (v:=.tuple #[.agg #[Λ A1 0 c1,I J 0,I J 0],Zr (E,l,c)]) (by simp[results,Tryz.results38,go_sem,hF,hG,Zr]) rfl ⟨_,_,rfl,?_⟩;exact Xv (hB.alloc hB.size _)
theorem qNew_ok(s:ByteArray)(w:World)(hs:s.size≤1099511627776)(L:List TokV)(hv:Zbv s=(L,0,0,0))(hL:Zml L) :
  Calls Φ 38 #[Ψ s] w (QNewPost L w):=by
 have HV:=Hh hv;have T0:=Hh (Two.start w 49 #[Λ none 0 0,I J 0,I J 0] 29 #[I J 0,I J 0,I J 0]);have hpos:=hL.pos;have HL:=Hh hL;clear hv hL;go_enter Tryz.func38,Tryz.ntmps38;go_wp2_with(go_at_call 61;refine(rtScan s _ hs).mono ?_;rintro e w1 ⟨v,rfl,o1,b1⟩;rw[HV.out]at o1 ⊢;obtain⟨g,K,rfl,r1,r2,r3,r4,r5⟩:=own5_all o1 hpos;have R1:=Hh (Uw.mk r5 r2 HL.out r3 r4);have T1:=Hh (T0.out.next b1);obtain⟨d0,d1,d2,e0,e1,e2⟩:=Zo T1.out.k0;obtain⟨g0,g1,g2,z0,z1,z2⟩:=Zo T1.out.k1;have hz:=T1.out.k1.inside;have hz0:=T1.out.k0.inside;clear o1 b1 r5;simp only[Zr])
 go_region
 all_goals
  go_wp2
  obtain⟨hS1,hS2,hB⟩:=duo_set T1.out (Λ (some ⟨g,0,none⟩) L.length K) (I J 0) (I J 0) (I J 0) (I J 0) (I J 0);have hF:=Zo ((hS1.alloc (.cells #[I J 0,I J 0,I J 0] 29)).drew);have hG:=Zo ((hS2.alloc (.cells #[I J 0,I J 0,I J 0] 29)).drew);have hgs:w.heap.size+2≤g:=by simpa using r1
  refine bodyPost_ret (v:=.tuple #[qA g K L.length 0 0,Zr okF]) (by simp[results,Tryz.results38,go_sem,hF,hG,Zr,okF,qA]) rfl ⟨g,K,rfl,?_,by omega,?_⟩
  ·exact R1.out.keeps (S:=fun k=>k<w.heap.size+2) ((((Zes _ _ _ _ _).mono (by intro k hk;omega)).trans ((Zes _ _ _ _ _).mono (by intro k hk;omega))).alloc _).drew (by omega)
  ·exact Xv (hB.alloc hB.size _)
open Go Go.RowKit
structure Ret2(w w':World)(g3 g4:Nat)(t3 t4:TypeId)(vs us:List Value):Prop where
 one:Zi w' g3 t3 vs.toArray
 two:Zi w' g4 t4 us.toArray
 keeps:Zy (fun k=>k=g3∨k=g4) w w'
theorem ret2{P:Program}{id:Nat}{Q:Exit→Act→World→Prop}{a:Act}{w:World}{o0 o1 o2 o3:Oper}(hm:P.follows .mixedOrders=true)
  (cs:Region.noSelect #[o0,o1,o2,o3]=true)(cf0:Region.free .any #[o0,o1,o2,o3] (Array.replicate 4 false) 0=true)(cr0:(Region.ready .any #[o0,o1,o2,o3] (Array.replicate 4 false)).contains 0=true)
  (cf1:Region.free .any #[o0,o1,o2,o3] ((Array.replicate 4 false).setIfInBounds 0 true) 1=true)(cr1:(Region.ready .any #[o0,o1,o2,o3] ((Array.replicate 4 false).setIfInBounds 0 true)).contains 1=true)
  (c2:Region.ready .any #[o0,o1,o2,o3] (((Array.replicate 4 false).setIfInBounds 0 true).setIfInBounds 1 true)=[2])
  (c3:Region.ready .any #[o0,o1,o2,o3] ((((Array.replicate 4 false).setIfInBounds 0 true).setIfInBounds 1 true).setIfInBounds 2 true)=[3])
  (c4:Region.ready .any #[o0,o1,o2,o3] (((((Array.replicate 4 false).setIfInBounds 0 true).setIfInBounds 1 true).setIfInBounds 2 true).setIfInBounds 3 true)=[])
  {T1 T2:TypeId}{x1 x2 y1 y2 z1 z2:Operand}(h0:o0.op=.load T1 x1)(h1:o1.op=.load T2 x2)(h2:o2.op=.store T1 y1 z1)(h3:o3.op=.store T2 y2 z2)
  (n0:o0.guard=none)(n1:o1.guard=none)(n2:o2.guard=none)(n3:o3.guard=none)(k2:o2.dst=none)(k3:o3.dst=none)
  (g1 g2 g3 g4:Nat){t1 t2 t3 t4:TypeId}(vs us old3 old4:List Value)(W1:Zi w g1 t1 vs.toArray)(W2:Zi w g2 t2 us.toArray)(W3:Zi w g3 t3 old3.toArray)(W4:Zi w g4 t4 old4.toArray)
  (hl3:vs.length=old3.length)(hl4:us.length=old4.length)(ho1:∀ v ∈ vs,v.oneCell'=true)(ho2:∀ v ∈ us,v.oneCell'=true)
  (d13:g1≠g3)(d14:g1≠g4)(d23:g2≠g3)(d24:g2≠g4)(d34:g3≠g4)
  (hu1:(P.underlying T1).map TypeDesc.isRow=some true)(hi1:(P.info? T1).map (·.size)=some vs.length)(hu2:(P.underlying T2).map TypeDesc.isRow=some true)(hi2:(P.info? T2).map (·.size)=some us.length)
  (e1:a.eval x1=Ω (some ⟨g1,0,none⟩))(e2:(a.put o0.dst (.agg vs.toArray)).eval x2=Ω (some ⟨g2,0,none⟩))
  (e3:((a.put o0.dst (.agg vs.toArray)).put o1.dst (.agg us.toArray)).eval y1=Ω (some ⟨g3,0,none⟩))(e4:((a.put o0.dst (.agg vs.toArray)).put o1.dst (.agg us.toArray)).eval z1=.agg vs.toArray)
  (e5:((a.put o0.dst (.agg vs.toArray)).put o1.dst (.agg us.toArray)).eval y2=Ω (some ⟨g4,0,none⟩))(e6:((a.put o0.dst (.agg vs.toArray)).put o1.dst (.agg us.toArray)).eval z2=.agg us.toArray)
  (h:∀ w',Ret2 w w' g3 g4 t3 t4 vs us→Q .normal ((a.put o0.dst (.agg vs.toArray)).put o1.dst (.agg us.toArray)) w'):(Code.region id #[o0,o1,o2,o3] true).wp P Q a w:=by
 obtain⟨d1,hu1,hr1⟩:=Option.map_eq_some_iff.1 hu1;obtain⟨d2,hu2,hr2⟩:=Option.map_eq_some_iff.1 hu2;refine wp_region_noPanic (wp_region_held_drew (S:=fun x=>Zi x g1 t1 vs.toArray∧Zi x g2 t2 us.toArray) hm ⟨W1.drew,W2.drew⟩ fun hS=>?_);have rg:∀{x:World}{g:Nat}{t:TypeId}{l:List Value},Zi x g t l.toArray→x.rangeAt g 0 l:=fun{x g t l} hx=>Zi.range (a:=[]) (b:=l) (c:=[]) (by simpa using hx)
 refine wpAnyH_take (i:=0) (oi:=o0) (v:=.agg vs.toArray) rfl cs cf0 cr0 (fun _ _ _ h=>h) (yieldsIf_load_mid (Uk n0) T1 x1 h0 g1 0 e1 vs d1 (fun x hx=>rg hx.1) hu1 hr1 hi1) hS ?_;refine wpAnyH_take (i:=1) (oi:=o1) (v:=.agg us.toArray) rfl cs cf1 cr1 (fun _ _ _ h=>h) (yieldsIf_load_mid (Uk n1) T2 x2 h1 g2 0 e2 us d2 (fun x hx=>rg hx.2) hu2 hr2 hi2) hS ?_;have th:∀{x:World}{g:Nat}{t:TypeId}{l:List Value},Zi x g t l.toArray→x.there g 0 l.length:=fun{x g t l} hx=>Zi.there (a:=[]) (b:=l) (c:=[]) (by simpa using hx)
 have p3:Zi (w.drew.setCells g3 0 vs) g3 t3 vs.toArray:=by
  have e:=Zi.setCells (g:=g3) (t:=t3) [] vs old3 [] w.drew hl3 (by simpa using W3.drew);simpa using e
 have k3':=Zy.setCells (S:=fun k=>k=g3) (g:=g3) rfl vs 0 (Zy.refl _ w.drew);have q4:Zi (w.drew.setCells g3 0 vs) g4 t4 old4.toArray:=k3'.whole W4.drew (Ne.symm d34)
 have p4:Zi ((w.drew.setCells g3 0 vs).setCells g4 0 us) g4 t4 us.toArray:=by
  have e:=Zi.setCells (g:=g4) (t:=t4) [] us old4 [] (w.drew.setCells g3 0 vs) hl4 (by simpa using q4);simpa using e
 have k4':=Zy.setCells (S:=fun k=>k=g4) (g:=g4) rfl us 0 (Zy.refl _ (w.drew.setCells g3 0 vs));refine wpAnyH_ready (rs:=[2]) c2 (by simp) (AllReadyH.cons (o:=o2) rfl (fun K hK=>?_) AllReadyH.nil);rw[if_pos (Uk n2)];refine wp_store_mid T1 y1 z1 h2 g3 0 vs.toArray e3 e4 (by rw[List.size_toArray,hl3];exact th W3.drew) (by simpa using hi1) (all_oneCell_toArray ho1) ?_;rw[k2];refine hK.out _ _ ⟨k3'.whole W1.drew d13,k3'.whole W2.drew d23⟩ fun hS3=>?_
 refine wpAnyH_ready (rs:=[3]) c3 (by simp) (AllReadyH.cons (o:=o3) rfl (fun K hK=>?_) AllReadyH.nil);rw[if_pos (Uk n3)];refine wp_store_mid T2 y2 z2 h3 g4 0 us.toArray e5 e6 (by rw[List.size_toArray,hl4];exact th q4) (by simpa using hi2) (all_oneCell_toArray ho2) ?_;rw[k3];refine hK.out _ _ ⟨k4'.whole (k3'.whole W1.drew d13) d14,k4'.whole (k3'.whole W2.drew d23) d24⟩ fun hS4=>?_
 refine wpAnyH_done c4 ?_ _;refine h _ ⟨k4'.whole p3 d34,p4,?_⟩;exact(Zy.drew (Zy.refl _ w)).trans ((k3'.mono fun k e=>.inl e).trans (k4'.mono fun k e=>.inr e))
def Zu(w:World)(r K:Nat)(L:List TokV):Prop:=0<L.length→Uw w r K L
theorem Zu.below{w w':World}{r K:Nat}{L:List TokV}(h:Zu w r K L)(hb:Below w.heap.size w w'):Zu w' r K L:=fun hl=>(h hl).below hb
theorem Zu.put{x y:World}{r K:Nat}{L:List TokV}(h:Zu x r K L){g B:Nat}{t:TypeId}{vs:List Value}(p:Put x y g t vs)(hr:0<L.length→r<B)(hg:B≤g):Zu y r K L:=fun hl=>(h hl).keeps p.keeps (by have:=hr hl;omega)
theorem Zu.rin{w:World}{r K:Nat}{L:List TokV}(h:Zu w r K L):0<L.length→r<w.heap.size:=fun hl=>(h hl).rin
structure RPv(r K:Nat)(L:List TokV)(st:St)(vs:List Value):Prop where
 form:∃ A n k a d,vs=[Λ A n k,I J (a:Nat),I J (d:Nat),I J (Xb st).1,I J ((Xb st).2.1:Int),I J ((Xb st).2.2:Int)]∧d≤8 ∧
  ∀ a' d',st=.ok a' d'→A=some ⟨r,0,none⟩∧n=L.length∧k=K∧a=a'∧d=d'∧a'<L.length
 flt:∀ F,st=.bad F→F.1≠0
theorem RPv.ok{r K:Nat}{L:List TokV}{a d:Nat}{vs:List Value}(h:RPv r K L (.ok a d) vs):∃ n,n=L.length∧vs=[Λ (some ⟨r,0,none⟩) n K,I J (a:Int),I J (d:Int),I J 0,I J 0,I J 0]∧a<L.length∧d≤8:=by
 obtain⟨A,n,k,a',d',e,hd,hk⟩:=h.form;obtain⟨h1,h2,h3,h4,h5,h6⟩:=hk a d rfl;subst h1 h3 h4 h5;exact⟨n,h2,e,h6,hd⟩
theorem RPv.bad{r K:Nat}{L:List TokV}{F:Int×Nat×Nat}{vs:List Value}(h:RPv r K L (.bad F) vs):∃ A n k a d,vs=[Λ A n k,I J (a:Nat),I J (d:Nat),I J F.1,I J (F.2.1:Int),I J (F.2.2:Int)]∧d≤8∧F.1≠0:=by
 obtain⟨A,n,k,a',d',e,hd,_⟩:=h.form;exact⟨A,n,k,a',d',e,hd,h.flt F rfl⟩
theorem RPv.mkOk{r K:Nat}{L:List TokV}{a d n:Nat}(hn:n=L.length)(ha:a<L.length)(hd:d≤8):RPv r K L (.ok a d) [Λ (some ⟨r,0,none⟩) n K,I J (a:Int),I J (d:Int),I J 0,I J 0,I J 0]:=
 ⟨⟨_,_,_,_,_,rfl,hd,fun a' d' e=>by cases e;exact⟨rfl,hn,rfl,rfl,rfl,ha⟩⟩,fun F e=>by cases e⟩
theorem RPv.mkBad{r K:Nat}{L:List TokV}{F:Int×Nat×Nat}(A:Option Addr)(n k a d:Nat)(hd:d≤8)(hF:F.1≠0):RPv r K L (.bad F) [Λ A n k,I J (a:Int),I J (d:Int),I J F.1,I J (F.2.1:Int),I J (F.2.2:Int)]:=
 ⟨⟨_,_,_,_,_,rfl,hd,fun a' d' e=>by cases e⟩,fun F e=>by cases e;exact hF⟩
theorem RPv.len{r K:Nat}{L:List TokV}{st:St}{vs:List Value}(h:RPv r K L st vs):vs.length=6:=by
 obtain⟨A,n,k,a,d,e,_⟩:=h.form;rw[e];rfl
theorem RPv.one{r K:Nat}{L:List TokV}{st:St}{vs:List Value}(h:RPv r K L st vs):∀ v ∈ vs,v.oneCell'=true:=by
 obtain⟨A,n,k,a,d,e,_⟩:=h.form;rw[e];simp[Γ]
theorem RPv.six{r K:Nat}{L:List TokV}{st:St}{vs:List Value}(h:RPv r K L st vs):∃ c0 c1 c2,vs=[c0,c1,c2,I J (Xb st).1,I J ((Xb st).2.1:Int),I J ((Xb st).2.2:Int)]:=by
 obtain⟨A,n,k,a,d,e,_⟩:=h.form;exact⟨_,_,_,e⟩
theorem Zm:(Tryz.prog.underlying 51).map TypeDesc.isRow=some true:=by kernel_rfl
theorem Yc:(Tryz.prog.info? 51).map (·.size)=some 6:=by kernel_rfl
theorem Ze{vs:List Value}(h:vs.length=6):(Tryz.prog.info? 51).map (·.size)=some vs.length:=by rw[h];exact Yc
theorem Zbh:(Tryz.prog.underlying 49).map TypeDesc.isRow=some true:=by kernel_rfl
theorem Wl:(Tryz.prog.info? 49).map (·.size)=some 3:=by kernel_rfl
def PPo(w:World)(r K:Nat)(L:List TokV)(st:St)(e:Ending)(w':World):Prop:=∃ vs:List Value,e=η (.agg vs.toArray)∧RPv r K L st vs∧Below w.heap.size w w'
def PVo(w:World)(r K:Nat)(L:List TokV)(st:St)(v:Value)(e:Ending)(w':World):Prop:=∃ vs:List Value,e=η (.tuple #[.agg vs.toArray,v])∧RPv r K L st vs∧Below w.heap.size w w'
theorem Xd{P:Program}{fn:Func}{R:Ending→World→Prop}{a:Act}{w:World}(s1 T1 s2:Nat)(t1:TypeId)(g1:Nat)(vs:List Value)(v:Value)(hres:fn.results=#[.cell s1 T1,.tmp s2])(h1:Zi w g1 t1 vs.toArray)
  (hu1:(P.underlying T1).map TypeDesc.isRow=some true)(hi1:(P.info? T1).map (·.size)=some vs.length)
  (hp1:a.tmps.getD s1 undef=Ω (some ⟨g1,0,none⟩))(hp2:a.tmps.getD s2 undef=v)(hd:a.defers=[])(hR:R (η (.tuple #[.agg vs.toArray,v])) w):bodyPost P fn R .ret a w:=by
 obtain⟨d1,hu1,hr1⟩:=Option.map_eq_some_iff.1 hu1;refine bodyPost_ret (v:=.tuple #[.agg vs.toArray,v]) ?_ hd hR;have hl1:=run_loadVar_mid (P:=P) w g1 0 T1 vs d1 (by have:=Zi.range (a:=[]) (b:=vs) (c:=[]) (by simpa using h1);exact this) hu1 hr1 hi1;have hp1':a.tmps[s1]?.getD undef=Ω (some ⟨g1,0,none⟩):=by simpa using hp1
 have hp2':a.tmps[s2]?.getD undef=v:=by simpa using hp2
 simp[results,hres,hp1',hp2',hl1,asAddr,Sem.run_bind,Sem.run_pure]
theorem qbad(w:World)(r K:Nat)(L:List TokV)(st:St)(vs:List Value)(ho:Zu w r K L)(hp:RPv r K L st vs) :
  Calls Φ 46 #[.agg vs.toArray] w (PPo w r K L (Zid L st)):=by
 cases st with
 |ok a d=>
  obtain⟨n,hn,rfl,ha,hd⟩:=hp.ok;have hrow:=ho (by omega);have hrin:=ho.rin;have n1:=Zh w (.cells [Λ (some ⟨r,0,none⟩) n K,I J (a:Int),I J (d:Int),I J 0,I J 0,I J 0].toArray 51);have n2:=Zh (w.alloc (.cells [Λ (some ⟨r,0,none⟩) n K,I J (a:Int),I J (d:Int),I J 0,I J 0,I J 0].toArray 51)) (.cells #[Λ none 0 0,I J 0,I J 0,I J 0,I J 0,I J 0] 51);have X0:=Hh ((Zi.made w 51 [Λ (some ⟨r,0,none⟩) n K,I J (a:Int),I J (d:Int),I J 0,I J 0,I J 0].toArray).alloc (.cells #[Λ none 0 0,I J 0,I J 0,I J 0,I J 0,I J 0] 51));have R0:=Hh (show Zi ((w.alloc (.cells [Λ (some ⟨r,0,none⟩) n K,I J (a:Int),I J (d:Int),I J 0,I J 0,I J 0].toArray 51)).alloc (.cells #[Λ none 0 0,I J 0,I J 0,I J 0,I J 0,I J 0] 51)) (w.heap.size+1) 51 ([Λ none 0 0,I J 0,I J 0,I J 0,I J 0,I J 0]:List Value).toArray from by have e:=Zi.made (w.alloc (.cells [Λ (some ⟨r,0,none⟩) n K,I J (a:Int),I J (d:Int),I J 0,I J 0,I J 0].toArray 51)) 51 #[Λ none 0 0,I J 0,I J 0,I J 0,I J 0,I J 0];rw[World.size_alloc]at e;exact e);have B0:=Hh (Wg n1 n2);have O0:=Hh ((ho.below n1).below n2);have hz0:w.heap.size+2≤((w.alloc (.cells [Λ (some ⟨r,0,none⟩) n K,I J (a:Int),I J (d:Int),I J 0,I J 0,I J 0].toArray 51)).alloc (.cells #[Λ none 0 0,I J 0,I J 0,I J 0,I J 0,I J 0] 51)).heap.size:=by simp
  clear n1 n2;have hw:=Zhb (Yb L a);have HW:=Hh hw;have HN:=Hh hn;clear hw ho hp hrow hn;go_enter Tryz.func46,Tryz.ntmps46;go_wp2_with(first
 |(go_at_call 62;refine(qWrong _ r K L n a d HN.out (O0.out (by omega)) ha).mono ?_;rintro e w1 ⟨rfl,b1⟩
   have X1:=Hh (X0.out.below b1 X0.out.inside);have R1:=Hh (R0.out.below b1 R0.out.inside);have B1:=Hh (bthen2 B0.out b1 (by first | omega | (simp;done) | (simp;omega)));have O1:=Hh (O0.out.below b1);have hz1:w.heap.size+2≤w1.heap.size:=by have:=b1.size;(try simp at this);omega
   simp only[Zr];clear b1 )
 |((with_reducible refine Zg 10 9 ?_);refine Xs 29 _ _ 51 (w.heap.size) 3 ([Λ (some ⟨r,0,none⟩) n K,I J (a:Int),I J (d:Int)]) ([I J 0,I J 0,I J 0]) ([]) ([I J (wrF (Yb L a)).1,I J ((wrF (Yb L a)).2.1:Int),I J ((wrF (Yb L a)).2.2:Int)]) (by first | exact X1.out | simpa using X1.out) rfl rfl Vb (by simp[Γ]) rfl rfl rfl rfl rfl ?_
   intro w2 p2;have X2:=Hh (show Zi w2 (w.heap.size) 51 (([Λ (some ⟨r,0,none⟩) n K,I J (a:Int),I J (d:Int)]:List Value)++([I J (wrF (Yb L a)).1,I J ((wrF (Yb L a)).2.1:Int),I J ((wrF (Yb L a)).2.2:Int)]:List Value)++([]:List Value)).toArray from by first | exact p2.whole | simpa using p2.whole);have R2:=Hh (p2.keeps.whole R1.out (by omega));have B2:=Hh (Zec B1.out p2 (by omega) (by omega));have O2:=Hh (O1.out.put p2 hrin (by omega));have hz2:=Ξ hz1 p2.keeps.size;clear p2)
 |((with_reducible refine Zd 11 ?_);refine Zc 51 _ 51 (w.heap.size) _ X2.out Zm Yc rfl rfl rfl ?_)
 |((with_reducible refine Zg 2 11 ?_);refine Za 51 _ _ 51 (w.heap.size+1) _ ([Λ (some ⟨r,0,none⟩) n K,I J (a:Int),I J (d:Int),I J (wrF (Yb L a)).1,I J ((wrF (Yb L a)).2.1:Int),I J ((wrF (Yb L a)).2.2:Int)]) R2.out rfl Yc (by simp[Γ]) rfl rfl rfl rfl rfl ?_
   intro w3 p3;have R3:=Hh p3.whole;have X3:=Hh (p3.keeps.whole X2.out (by omega));have B3:=Hh (Zec B2.out p3 (by omega) (by omega));have O3:=Hh (O2.out.put p3 hrin (by omega));have hz3:=Ξ hz2 p3.keeps.size;clear p3))
  exact Ya 2 51 51 _ _ rfl R3.out Zm Yc rfl rfl ⟨_,rfl,RPv.mkBad _ _ _ _ _ hd HW.out,B3.out⟩
 |bad F=>
  obtain⟨A,n,k,a,d,rfl,hd,hF⟩:=hp.bad;obtain⟨f0,f1,f2⟩:=F;have z0:(f0 == 0)=false:=by rw[beq_eq_false_iff_ne];exact hF
  have hrin:=ho.rin;have n1:=Zh w (.cells [Λ A n k,I J (a:Int),I J (d:Int),I J f0,I J (f1:Int),I J (f2:Int)].toArray 51);have n2:=Zh (w.alloc (.cells [Λ A n k,I J (a:Int),I J (d:Int),I J f0,I J (f1:Int),I J (f2:Int)].toArray 51)) (.cells #[Λ none 0 0,I J 0,I J 0,I J 0,I J 0,I J 0] 51);have X0:=Hh ((Zi.made w 51 [Λ A n k,I J (a:Int),I J (d:Int),I J f0,I J (f1:Int),I J (f2:Int)].toArray).alloc (.cells #[Λ none 0 0,I J 0,I J 0,I J 0,I J 0,I J 0] 51));have R0:=Hh (show Zi ((w.alloc (.cells [Λ A n k,I J (a:Int),I J (d:Int),I J f0,I J (f1:Int),I J (f2:Int)].toArray 51)).alloc (.cells #[Λ none 0 0,I J 0,I J 0,I J 0,I J 0,I J 0] 51)) (w.heap.size+1) 51 ([Λ none 0 0,I J 0,I J 0,I J 0,I J 0,I J 0]:List Value).toArray from by have e:=Zi.made (w.alloc (.cells [Λ A n k,I J (a:Int),I J (d:Int),I J f0,I J (f1:Int),I J (f2:Int)].toArray 51)) 51 #[Λ none 0 0,I J 0,I J 0,I J 0,I J 0,I J 0];rw[World.size_alloc]at e;exact e);have B0:=Hh (Wg n1 n2);have O0:=Hh ((ho.below n1).below n2);have hz0:w.heap.size+2≤((w.alloc (.cells [Λ A n k,I J (a:Int),I J (d:Int),I J f0,I J (f1:Int),I J (f2:Int)].toArray 51)).alloc (.cells #[Λ none 0 0,I J 0,I J 0,I J 0,I J 0,I J 0] 51)).heap.size:=by simp
  clear n1 n2;have HF:=Hh hF;clear ho hp hF;go_enter Tryz.func46,Tryz.ntmps46;go_wp2_with(first
 |((with_reducible refine Zd 11 ?_);refine Zc 51 _ 51 (w.heap.size) _ X0.out Zm Yc rfl rfl rfl ?_)
 |((with_reducible refine Zg 2 11 ?_);refine Za 51 _ _ 51 (w.heap.size+1) _ ([Λ A n k,I J (a:Int),I J (d:Int),I J f0,I J (f1:Int),I J (f2:Int)]) R0.out rfl Yc (by simp[Γ]) rfl rfl rfl rfl rfl ?_
   intro w1 p1;have R1:=Hh p1.whole;have X1:=Hh (p1.keeps.whole X0.out (by omega));have B1:=Hh (Zec B0.out p1 (by omega) (by omega));have O1:=Hh (O0.out.put p1 hrin (by omega));have hz1:w.heap.size+2≤w1.heap.size:=by have:=p1.keeps.size;(try simp at this);omega
   clear p1))
  exact Ya 2 51 51 _ _ rfl R1.out Zm Yc rfl rfl ⟨_,rfl,RPv.mkBad (F:=(f0,f1,f2)) _ _ _ _ _ hd HF.out,B1.out⟩
structure Zfa(w:World)(xs rs:List Value)(x:World):Prop where
 box:Zi x w.heap.size 51 xs.toArray
 res:Zi x (w.heap.size+1) 51 rs.toArray
 below:Below w.heap.size w x
 size:w.heap.size+2≤x.heap.size
theorem Zfa.start(w:World)(xs rs:List Value):Zfa w xs rs ((w.alloc (.cells xs.toArray 51)).alloc (.cells rs.toArray 51)):=by
 refine⟨(Zi.made w _ xs.toArray).alloc _,?_,(Wg (Zh w _) (Zh _ _)),by simp⟩;have e:=Zi.made (w.alloc (.cells xs.toArray 51)) 51 rs.toArray;rw[World.size_alloc]at e;exact e
theorem Zfa.next{w x y:World}{xs rs:List Value}(h:Zfa w xs rs x)(b:Below x.heap.size x y):Zfa w xs rs y:=
 ⟨h.box.below b (by have:=h.size;omega),h.res.below b (by have:=h.size;omega),h.below.trans (b.mono (by have:=h.size;omega)),by have:=h.size;have:=b.size;omega⟩
theorem Zfa.drew{w x:World}{xs rs:List Value}(h:Zfa w xs rs x):Zfa w xs rs x.drew:=⟨h.box,h.res,Xv h.below,h.size⟩
theorem Zfa.drewN{w x:World}{xs rs:List Value}(h:Zfa w xs rs x)(n:Nat):Zfa w xs rs (x.drewN n):=⟨h.box,h.res,Zeo h.below n,h.size⟩
theorem Zfa.setB{w x y:World}{xs ys rs:List Value}(h:Zfa w xs rs x)(p:Put x y w.heap.size 51 ys):Zfa w ys rs y:=
 ⟨p.whole,p.keeps.whole h.res (by omega),Zec h.below p (Θ _) (by have:=h.size;omega),by have:=h.size;have:=p.keeps.size;omega⟩
theorem Zfa.setR{w x y:World}{xs ys rs:List Value}(h:Zfa w xs rs x)(p:Put x y (w.heap.size+1) 51 ys):Zfa w xs ys y:=
 ⟨p.keeps.whole h.box (by omega),p.whole,Zec h.below p (by omega) (by have:=h.size;omega),by have:=h.size;have:=p.keeps.size;omega⟩
theorem qmay(w:World)(r K:Nat)(L:List TokV)(st:St)(vs:List Value)(ws:List ByteArray)(g n m:Nat)(ho:Zu w r K L)(hp:RPv r K L st vs)(hw:Zoa w g ws)(hn:n=ws.length)(hl:n≤64) :
  Calls Φ 18 #[.agg vs.toArray,Λ (some ⟨g,0,none⟩) n m] w (PVo w r K L (Ye L ws st) (I J (Zk L ws st))):=by
 have l64:(n:Int)≤64:=by omega
 cases st with
 |bad F=>
  obtain⟨A,nb,kb,a,d,rfl,hd,hF⟩:=hp.bad;obtain⟨f0,f1,f2⟩:=F;have z0:(f0 == 0)=false:=by rw[beq_eq_false_iff_ne];exact hF
  have HF:=Hh hF;have T0:=Hh (Zfa.start w [Λ A nb kb,I J (a:Int),I J (d:Int),I J f0,I J (f1:Int),I J (f2:Int)] [Λ none 0 0,I J 0,I J 0,I J 0,I J 0,I J 0]);clear ho hp hF hw hn;go_enter Tryz.func18,Tryz.ntmps18;go_wp2
  go_loopw [6] (fun i wr=>i=I J 0∧Zfa w [Λ A nb kb,I J (a:Int),I J (d:Int),I J f0,I J (f1:Int),I J (f2:Int)] [Λ none 0 0,I J 0,I J 0,I J 0,I J 0,I J 0] wr) (fun i _=>0)
  case atStart=>exact⟨rfl,T0.out⟩
  case round=>
    obtain⟨rfl,hT⟩:=hrel;obtain⟨c0,c1,c2,c3,c4,c5⟩:=Xu hT.box;have T:=Hh hT;clear hT;go_wp2_with(first
 |((with_reducible refine Zd 33 ?_);refine Zc 51 _ 51 (w.heap.size) _ T.out.box Zm Yc rfl rfl rfl ?_)
 |((with_reducible refine Zg 4 33 ?_);refine Za 51 _ _ 51 (w.heap.size+1) _ [Λ A nb kb,I J (a:Int),I J (d:Int),I J f0,I J (f1:Int),I J (f2:Int)] T.out.res rfl Yc (by simp[Γ]) rfl rfl rfl rfl rfl ?_
   intro w1 p1;have T1:=Hh (T.out.setR p1)
   clear p1))
    all_goals exact Xd 4 51 5 51 _ _ _ rfl T1.out.res Zm Yc rfl rfl rfl ⟨_,rfl,RPv.mkBad (F:=(f0,f1,f2)) _ _ _ _ _ hd HF.out,T1.out.below⟩
 |ok a d=>
  obtain⟨nn,hnn,rfl,ha,hd⟩:=hp.ok;have hpos:0<L.length:=by omega
  have hrow:∀ x,Below w.heap.size w x→Uw x r K L:=fun x hb=>(ho hpos).below hb
  have hon:=(ho hpos).ends.on ha;have hwx:∀ x,Below w.heap.size w x→Zoa x g ws:=fun x hb=>Zi.below hw hb hw.inside
  have HO:=Hh hrow;have HX:=Hh hwx;have HM:=Hh (ζ hnn (ζ ha (ζ hn (ζ hd hon))));have T0:=Hh (Zfa.start w [Λ (some ⟨r,0,none⟩) nn K,I J (a:Int),I J (d:Int),I J 0,I J 0,I J 0] [Λ none 0 0,I J 0,I J 0,I J 0,I J 0,I J 0]);clear ho hp hw hn hnn ha hpos hrow hwx hd hon;go_enter Tryz.func18,Tryz.ntmps18;go_wp2
  go_loopw [6] (fun i wr=>∃ k:Nat,i=I J k∧k≤n∧Zfa w [Λ (some ⟨r,0,none⟩) nn K,I J (a:Int),I J (d:Int),I J 0,I J 0,I J 0] [Λ none 0 0,I J 0,I J 0,I J 0,I J 0,I J 0] wr∧∀ j,j<k→isT (Yb L a) (ws.getD j ⟨#[]⟩)=false) (fun i _=>n - (intOf i).toNat)
  case atStart=>exact⟨0,by go_num,Nat.zero_le _,T0.out,fun j hj=>by omega⟩
  case round=>
    obtain⟨k,rfl,hk,hT,hj⟩:=hrel;obtain⟨c0,c1,c2,c3,c4,c5⟩:=Xu hT.box;have T:=Hh hT;have HJ:=Hh hj;obtain⟨M1,M2,M3,M4,M5⟩:=HM.out;have HW:=HX.out _ hT.below;by_cases hlt:k<n
    ·have hx:=HW.at_ (k:=k) (by omega)
     have hi:=HW.inside;generalize hv:isT (Yb L a) (ws.getD k ⟨#[]⟩)=b;have ht:∀ x,Zfa w [Λ (some ⟨r,0,none⟩) nn K,I J (a:Int),I J (d:Int),I J 0,I J 0,I J 0] [Λ none 0 0,I J 0,I J 0,I J 0,I J 0,I J 0] x→Calls Φ 39 #[.agg #[Λ (some ⟨r,0,none⟩) nn K,I J (a:Int),I J (d:Int)],Ψ (ws.getD k ⟨#[]⟩)] x (fun e w'=>e=η (.bool b)∧Below x.heap.size x w'):=fun x h=>by rw[←hv];exact qIs x r K L nn a d _ M1 (HO.out _ h.below) M2
     have HT:=Hh ht;generalize hX:ws.getD k ⟨#[]⟩=tx at *;have HV:=Hh hv;have HXx:=Hh hX;have hlt':(k:Int)<(n:Int):=by omega
     have e1:IntKind.i64.wrap ((k:Int)+1)=(k:Int)+1:=IntWalk.i64_in _ (by omega);have HK:=Hh (show k<ws.length by omega);have HE1:=Hh e1;clear hT hj HW hv hk ht hX M1 M2 M3 M4 M5 e1;cases b
     ·go_wp2
      go_region_with(go_at_call 39;refine(HT.out _ (by first | exact T.out.drew | exact T.out.drewN _ | exact T.out)).mono ?_;rintro e w1 ⟨rfl,b1⟩;have T1:=Hh ((by first | exact T.out.drew | exact T.out.drewN _ | exact T.out:Zfa w [Λ (some ⟨r,0,none⟩) nn K,I J (a:Int),I J (d:Int),I J 0,I J 0,I J 0] [Λ none 0 0,I J 0,I J 0,I J 0,I J 0,I J 0] _).next b1);clear b1)
      all_goals
       have hj:=HJ.out;have hk:=HK.out;have e1:=HE1.out;go_wp2
       go_roundw
       case rel=>
        refine⟨k+1,by go_num,by omega,T1.out,fun j hj'=>?_⟩;by_cases e:j=k
        ·subst e;rw[HXx.out];exact HV.out
        ·exact hj j (by omega)
       case measure=>simp[intOf];omega
     ·go_wp2
      go_region_with(go_at_call 39;refine(HT.out _ (by first | exact T.out.drew | exact T.out.drewN _ | exact T.out)).mono ?_;rintro e w1 ⟨rfl,b1⟩;have T1:=Hh ((by first | exact T.out.drew | exact T.out.drewN _ | exact T.out:Zfa w [Λ (some ⟨r,0,none⟩) nn K,I J (a:Int),I J (d:Int),I J 0,I J 0,I J 0] [Λ none 0 0,I J 0,I J 0,I J 0,I J 0,I J 0] _).next b1);clear b1;obtain⟨d0,d1,d2,d3,d4,d5⟩:=Xu T1.out.box)
      all_goals
       go_wp2_with(first
 |(go_at_call 40;refine(qOn _ r K L nn a d HM.out.1 (HO.out _ T1.out.below) HM.out.2.1).mono ?_;rintro e w2 ⟨rfl,b2⟩;have T2:=Hh (T1.out.next b2);clear b2)
 |((with_reducible refine Zg 29 28 ?_);refine Xs 49 _ _ 51 (w.heap.size) 0 [] [Λ (some ⟨r,0,none⟩) nn K,I J (a:Int),I J (d:Int)] [I J 0,I J 0,I J 0] [Λ (some ⟨r,0,none⟩) nn K,I J (onA L a:Int),I J (d:Int)] (by first | exact T2.out.box | simpa using T2.out.box) rfl rfl Wl (by simp[Γ]) rfl rfl rfl rfl rfl ?_
   intro w3 p3;have T3:=Hh (T2.out.setB (ys:=[Λ (some ⟨r,0,none⟩) nn K,I J (onA L a:Int),I J (d:Int),I J 0,I J 0,I J 0]) (by simpa using p3));clear p3)
 |((with_reducible refine Zd 30 ?_);refine Zc 51 _ 51 (w.heap.size) _ T3.out.box Zm Yc rfl rfl rfl ?_)
 |((with_reducible refine Zg 4 30 ?_);refine Za 51 _ _ 51 (w.heap.size+1) _ [Λ (some ⟨r,0,none⟩) nn K,I J (onA L a:Int),I J (d:Int),I J 0,I J 0,I J 0] T3.out.res rfl Yc (by simp[Γ]) rfl rfl rfl rfl rfl ?_
   intro w4 p4;have T4:=Hh (T3.out.setR p4)
   clear p4))
       refine Xd 4 51 5 51 _ _ _ rfl T4.out.res Zm Yc rfl rfl rfl ?_;obtain⟨M1,M2,M3,M4,M5⟩:=HM.out;have hf:=idx_hit (Yb L a) ws k HK.out HJ.out (by rw[HXx.out];exact HV.out);refine⟨[Λ (some ⟨r,0,none⟩) nn K,I J (onA L a:Int),I J (d:Int),I J 0,I J 0,I J 0],?_,?_,T4.out.below⟩
       ·show _=Ending.returned (.tuple #[_,I J (Zaz (Yb L a) ws:Int)])
        rw[hf];rfl
       ·show RPv r K L (if Zaz (Yb L a) ws=0 then _ else _) _
        rw[if_neg (by omega)];exact RPv.mkOk M1 M5 M4
    ·have e:=idx_miss (Yb L a) ws (fun j hj'=>hj j (by omega))
     have HE:=Hh e;have hge:(n:Int)≤(k:Int):=by omega
     clear hT hj HW hk M1 M2 M3 M4 M5 e;go_wp2_with(first
 |((with_reducible refine Zd 33 ?_);refine Zc 51 _ 51 (w.heap.size) _ T.out.box Zm Yc rfl rfl rfl ?_)
 |((with_reducible refine Zg 4 33 ?_);refine Za 51 _ _ 51 (w.heap.size+1) _ [Λ (some ⟨r,0,none⟩) nn K,I J (a:Int),I J (d:Int),I J 0,I J 0,I J 0] T.out.res rfl Yc (by simp[Γ]) rfl rfl rfl rfl rfl ?_
   intro w1 p1;have T1:=Hh (T.out.setR p1)
   clear p1))
     refine Xd 4 51 5 51 _ _ _ rfl T1.out.res Zm Yc rfl rfl rfl ?_;obtain⟨M1,M2,M3,M4,M5⟩:=HM.out;refine⟨[Λ (some ⟨r,0,none⟩) nn K,I J (a:Int),I J (d:Int),I J 0,I J 0,I J 0],?_,?_,T1.out.below⟩
     ·show _=Ending.returned (.tuple #[_,I J (Zaz (Yb L a) ws:Int)])
      rw[HE.out];rfl
     ·show RPv r K L (if Zaz (Yb L a) ws=0 then _ else _) _
      rw[if_pos HE.out];exact RPv.mkOk M1 M2 M4
open Go Go.RowKit Go.Great
section
variable {w x y:World} {bs:List Bk} {rs:List Rw} {ts:List (Ds×List Value)}
theorem Env.ret2(h:Env w bs rs ts x)(i j:Nat){g3 g4:Nat}{t3 t4:TypeId}{o3 o4 vs us:List Value}(hi:bs[i]?=some (g3,t3,o3))(hj:bs[j]?=some (g4,t4,o4))(p:Ret2 x y g3 g4 t3 t4 vs us) :
   (∀ u ∈ ts,Zs (fun k=>w.heap.size≤k) y u.1 u.2)∧Below w.heap.size w y:=
 ⟨fun u hu=>(h.deep u hu).keeps p.keeps fun k _ hn=>⟨fun e=>by
    rcases e with e | e
    ·exact hn.2.1 _ (List.mem_of_getElem? hi) e.symm
    ·exact hn.2.1 _ (List.mem_of_getElem? hj) e.symm,hn.1⟩,
   h.below.trans (p.keeps.below h.below.size fun k e=>by
    rcases e with e | e
    ·rw[e];exact h.lo _ (List.mem_of_getElem? hi)
    ·rw[e];exact h.lo _ (List.mem_of_getElem? hj))⟩
end
theorem z_P:(Tryz.prog.info? 51).map (fun i=>i.zero.map Value.cells)=some (some ([Λ none 0 0,I J 0,I J 0,I J 0,I J 0,I J 0]:List Value).toArray):=by kernel_rfl
theorem z_C:(Tryz.prog.info? 49).map (fun i=>i.zero.map Value.cells)=some (some ([Λ none 0 0,I J 0,I J 0]:List Value).toArray):=by kernel_rfl
theorem z_F:(Tryz.prog.info? 29).map (fun i=>i.zero.map Value.cells)=some (some ([I J 0,I J 0,I J 0]:List Value).toArray):=by kernel_rfl
theorem z_T:(Tryz.prog.info? 78).map (fun i=>i.zero.map Value.cells)=some (some ([I J 0,I J 0]:List Value).toArray):=by kernel_rfl
theorem Zlr(w:World)(r K G:Nat)(L:List TokV)(st:St)(vs:List Value)(ws:List ByteArray)(n m:Nat)(cs:Array Value)(hcs:cs=(ws.map Value.string).toArray)(hG:G=w.heap.size)(ho:Zu w r K L)(hp:RPv r K L st vs)(hn:n=ws.length)(hl:n≤64) :
  Calls Φ 18 #[.agg vs.toArray,Λ (some ⟨G,0,none⟩) n m] (w.alloc (.cells cs 9)) (PVo w r K L (Ye L ws st) (I J (Zk L ws st))):=by
 subst hcs hG;have nb:=Zh w (.cells (ws.map Value.string).toArray 9);refine(qmay _ r K L st vs ws w.heap.size n m (ho.below nb) hp (Zi.made w _ _) hn hl).mono ?_;rintro e w' ⟨v,h1,h2,h3⟩;exact⟨v,h1,h2,Wg nb h3⟩
theorem qmust(w:World)(r K:Nat)(L:List TokV)(st:St)(vs:List Value)(ws:List ByteArray)(g n m:Nat)(ho:Zu w r K L)(hp:RPv r K L st vs)(hw:Zoa w g ws)(hn:n=ws.length)(hl:n≤64) :
  Calls Φ 43 #[.agg vs.toArray,Λ (some ⟨g,0,none⟩) n m] w (PVo w r K L (Zn L ws st) (I J (Zk L ws st))):=by
 have T0:=Hh (Env.start w);by_cases hz:Zk L ws st=0
 ·have e1:Zn L ws st=Zid L (Ye L ws st):=by unfold Zn;rw[if_pos hz,Uh L hz]
  have e2:((Zk L ws st:Int) == 0)=true:=by rw[hz];rfl
  have e3:I J (Zk L ws st:Int)=I J 0:=by rw[hz];rfl
  have E1:=Hh e1;have E3:=Hh e3;have HZ:=Hh (ζ hw hn);clear e1 e3 hz hn;go_enter Tryz.func43,Tryz.ntmps43;go_wp2_with(first
 |((with_reducible refine Zd 2 ?_);refine Zf T0.out 51 _ (vs) rfl rfl rfl ?_;intro w1 g0 t1
   have T1:=Hh (t1);clear t1)
 |((with_reducible refine Zd 4 ?_);refine Zb T1.out 51 _ rfl rfl z_P ?_;intro w2 g1 t2
   have T2:=Hh (t2);clear t2)
 |((with_reducible refine Zd 9 ?_);refine Zc 51 _ 51 g0 _ (T2.out.get 0 rfl) Zm (Ze hp.len) rfl rfl rfl ?_)
 |(go_at_call 18;refine(qmay _ r K L st vs ws g n m (ho.below T2.out.below) hp (Zi.below HZ.out.1 T2.out.below HZ.out.1.inside) HZ.out.2 hl).mono ?_;rintro e w3 ⟨v3,rfl,h3,b3⟩
   have T3:=Hh (T2.out.call b3);clear b3)
 |((with_reducible refine Zd 6 ?_);refine Zb T3.out 51 _ rfl rfl z_P ?_;intro w4 g2 t4
   have T4:=Hh (t4);clear t4)
 |((with_reducible refine Zg 6 12 ?_);refine Za 51 _ _ 51 g2 _ (v3) (T4.out.get 2 rfl) h3.len (Ze h3.len) h3.one rfl rfl rfl rfl rfl ?_
   intro w5 p5;have T5:=Hh (T4.out.put 2 rfl p5);clear p5)
 |((with_reducible refine Zd 16 ?_);refine Zc 51 _ 51 g2 _ (T5.out.get 2 rfl) Zm (Ze h3.len) rfl rfl rfl ?_)
 |(go_at_call 46;refine(qbad _ r K L _ v3 (ho.below T5.out.below) h3).mono ?_;rintro e w6 ⟨v6,rfl,h6,b6⟩
   have T6:=Hh (T5.out.call b6);clear b6)
 |((with_reducible refine Zg 4 17 ?_);refine Za 51 _ _ 51 g1 _ (v6) (T6.out.get 1 rfl) h6.len (Ze h6.len) h6.one rfl rfl rfl rfl rfl ?_
   intro w7 p7;have T7:Hid (Env w [(g0,51,vs),(g1,51,v6),(g2,51,v3)] [] [] w7):=Hh (T6.out.put 1 rfl p7);clear p7))
  refine Xd 4 51 5 51 _ _ _ rfl (T7.out.get 1 rfl) Zm (Ze h6.len) rfl rfl rfl ?_;rw[E1.out,E3.out];exact⟨v6,rfl,h6,T7.out.below⟩
 ·have e1:Zn L ws st=Ye L ws st:=by unfold Zn;rw[if_neg hz]
  have e2:((Zk L ws st:Int) == 0)=false:=by rw[beq_eq_false_iff_ne];omega
  have E1:=Hh e1;have HZ:=Hh (ζ hw hn);clear e1 hz hn;go_enter Tryz.func43,Tryz.ntmps43;go_wp2_with(first
 |((with_reducible refine Zd 2 ?_);refine Zf T0.out 51 _ (vs) rfl rfl rfl ?_;intro w1 g0 t1
   have T1:=Hh (t1);clear t1)
 |((with_reducible refine Zd 4 ?_);refine Zb T1.out 51 _ rfl rfl z_P ?_;intro w2 g1 t2
   have T2:=Hh (t2);clear t2)
 |((with_reducible refine Zd 9 ?_);refine Zc 51 _ 51 g0 _ (T2.out.get 0 rfl) Zm (Ze hp.len) rfl rfl rfl ?_)
 |(go_at_call 18;refine(qmay _ r K L st vs ws g n m (ho.below T2.out.below) hp (Zi.below HZ.out.1 T2.out.below HZ.out.1.inside) HZ.out.2 hl).mono ?_;rintro e w3 ⟨v3,rfl,h3,b3⟩
   have T3:=Hh (T2.out.call b3);clear b3)
 |((with_reducible refine Zd 6 ?_);refine Zb T3.out 51 _ rfl rfl z_P ?_;intro w4 g2 t4
   have T4:=Hh (t4);clear t4)
 |((with_reducible refine Zg 6 12 ?_);refine Za 51 _ _ 51 g2 _ (v3) (T4.out.get 2 rfl) h3.len (Ze h3.len) h3.one rfl rfl rfl rfl rfl ?_
   intro w5 p5;have T5:=Hh (T4.out.put 2 rfl p5);clear p5)
 |((with_reducible refine Zd 18 ?_);refine Zc 51 _ 51 g2 _ (T5.out.get 2 rfl) Zm (Ze h3.len) rfl rfl rfl ?_)
 |((with_reducible refine Zg 4 18 ?_);refine Za 51 _ _ 51 g1 _ (v3) (T5.out.get 1 rfl) h3.len (Ze h3.len) h3.one rfl rfl rfl rfl rfl ?_
   intro w6 p6;have T6:Hid (Env w [(g0,51,vs),(g1,51,v3),(g2,51,v3)] [] [] w6):=Hh (T5.out.put 1 rfl p6);clear p6))
  refine Xd 4 51 5 51 _ _ _ rfl (T6.out.get 1 rfl) Zm (Ze h3.len) rfl rfl rfl ?_;rw[E1.out];exact⟨v3,rfl,h3,T6.out.below⟩
theorem Zer(w:World)(r K G:Nat)(L:List TokV)(st:St)(vs:List Value)(ws:List ByteArray)(n m:Nat)(cs:Array Value)(hcs:cs=(ws.map Value.string).toArray)(hG:G=w.heap.size)(ho:Zu w r K L)(hp:RPv r K L st vs)(hn:n=ws.length)(hl:n≤64) :
  Calls Φ 43 #[.agg vs.toArray,Λ (some ⟨G,0,none⟩) n m] (w.alloc (.cells cs 9)) (PVo w r K L (Zn L ws st) (I J (Zk L ws st))):=by
 subst hcs hG;have nb:=Zh w (.cells (ws.map Value.string).toArray 9);refine(qmust _ r K L st vs ws w.heap.size n m (ho.below nb) hp (Zi.made w _ _) hn hl).mono ?_;rintro e w' ⟨v,h1,h2,h3⟩;exact⟨v,h1,h2,Wg nb h3⟩
theorem one_want(L:List TokV)(t:ByteArray)(st:St):Zn L [t] st=Zz L t st:=by
 cases st with
 |bad F=>rfl
 |ok a d=>
  unfold Zn Zz;show(if Zaz (Yb L a) [t]=0 then _ else if Zaz (Yb L a) [t]=0 then _ else _)=if isT (Yb L a) t=true then St.ok (Zbz L a t) d else _
  unfold Zaz Zaz Zbz;by_cases h:isT (Yb L a) t=true
  ·simp[h]
  ·simp[h]
theorem kindA_in{L:List TokV}(h:Zml L){a:Nat}(ha:a<L.length)(k:Int):Up L a k<L.length:=by
 unfold Up;split
 ·exact h.on ha
 ·exact ha
theorem signA_in{L:List TokV}(h:Zml L){a:Nat}(ha:a<L.length):Zfj L a<L.length:=by
 unfold Zfj;split
 ·split
  ·exact h.on (h.on ha)
  ·exact ha
 ·exact kindA_in h ha 2
theorem Zlw(L:List TokV)(a:Nat)(k:Int)(h:(Wd L a k).1=0):Wd L a k=okF:=by
 unfold Wd at *;split
 ·rfl
 ·rename_i hk
  rw[if_neg hk]at h;exact absurd h (Zhb _)
theorem signF_ok(L:List TokV)(a:Nat)(h:(Zbf L a).1=0):Zbf L a=okF:=by
 unfold Zbf at *;split
 ·rename_i hk
  rw[if_pos hk]at h;exact Zlw _ _ _ h
 ·rename_i hk
  rw[if_neg hk]at h;exact Zlw _ _ _ h
theorem downF_ok(L:List TokV)(a d:Nat)(h:(Jq L a d).1=0):Jq L a d=okF:=by
 unfold Jq at *;split
 ·rename_i hk
  rw[if_pos hk]at h;exact absurd h (by simp)
 ·rfl
theorem RPv.note{r K:Nat}{L:List TokV}{a d n:Nat}{F:Int×Nat×Nat}(hF:F.1=0→F=okF)(hn:n=L.length)(ha:a<L.length)(hd:d≤8) :
  RPv r K L (Ji F (.ok a d)) [Λ (some ⟨r,0,none⟩) n K,I J (a:Int),I J (d:Int),I J F.1,I J (F.2.1:Int),I J (F.2.2:Int)]:=by
 show RPv r K L (if F.1=0 then St.ok a d else .bad F) _;by_cases h:F.1=0
 ·rw[if_pos h,hF h]
  exact RPv.mkOk hn ha hd
 ·rw[if_neg h]
  exact RPv.mkBad _ _ _ _ _ hd h
theorem Env.ne{w x:World}{bs:List Bk}{rs:List Rw}{ts:List (Ds×List Value)}(h:Env w bs rs ts x)(i j:Nat)(hij:i≠j){b c:Bk}(hi:bs[i]?=some b)(hj:bs[j]?=some c):b.1≠c.1:=by
 obtain⟨h1,e1⟩:=List.getElem?_eq_some_iff.1 hi;obtain⟨h2,e2⟩:=List.getElem?_eq_some_iff.1 hj;have hp:=List.pairwise_iff_getElem.1 h.nod;have g1:(bs.map (·.1))[i]'(by simpa using h1)=b.1:=by simp[e1]
 have g2:(bs.map (·.1))[j]'(by simpa using h2)=c.1:=by simp[e2]
 intro e;rcases Nat.lt_trichotomy i j with q | q | q
 ·exact hp i j _ _ q (by rw[g1,g2,e])
 ·exact hij q
 ·exact hp j i _ _ q (by rw[g1,g2,e])
theorem Jh(w:World)(r K:Nat)(L:List TokV)(st:St)(vs:List Value)(t:ByteArray)(ho:Zu w r K L)(hp:RPv r K L st vs) :
  Calls Φ 21 #[.agg vs.toArray,Ψ t] w (PPo w r K L (Zz L t st)):=by
 have T0:=Hh (Env.start w);go_enter Tryz.func21,Tryz.ntmps21;go_wp2_with(first
 |((with_reducible refine Zd 2 ?_);refine Zf T0.out 51 _ (vs) rfl rfl rfl ?_;intro w1 g0 t1
   have T1:=Hh (t1);clear t1)
 |((with_reducible refine Zd 4 ?_);refine Zb T1.out 51 _ rfl rfl z_P ?_;intro w2 g1 t2
   have T2:=Hh (t2);clear t2)
 |((with_reducible refine Zd 8 ?_);refine Zc 51 _ 51 g0 _ (T2.out.get 0 rfl) Zm (Ze hp.len) rfl rfl rfl ?_)
 |(go_at_call 43;refine(Zer _ r K _ L st vs [t] 1 1 _ rfl rfl (ho.below T2.out.below) hp rfl (by decide)).mono ?_;rintro e w3 ⟨v3,rfl,h3,b3⟩
   have T3:=Hh (T2.out.call b3);clear b3)
 |((with_reducible refine Zd 5 ?_);refine Zb T3.out 51 _ rfl rfl z_P ?_;intro w4 g2 t4
   have T4:=Hh (t4);clear t4)
 |((with_reducible refine Zg 5 12 ?_);refine Za 51 _ _ 51 g2 _ (v3) (T4.out.get 2 rfl) h3.len (Ze h3.len) h3.one rfl rfl rfl rfl rfl ?_
   intro w5 p5;have T5:=Hh (T4.out.put 2 rfl p5);clear p5)
 |((with_reducible refine Zd 14 ?_);refine Zc 51 _ 51 g2 _ (T5.out.get 2 rfl) Zm (Ze h3.len) rfl rfl rfl ?_)
 |((with_reducible refine Zg 4 14 ?_);refine Za 51 _ _ 51 g1 _ (v3) (T5.out.get 1 rfl) h3.len (Ze h3.len) h3.one rfl rfl rfl rfl rfl ?_
   intro w6 p6;have T6:Hid (Env w [(g0,51,vs),(g1,51,v3),(g2,51,v3)] [] [] w6):=Hh (T5.out.put 1 rfl p6);clear p6))
 refine Ya 4 51 51 _ _ rfl (T6.out.get 1 rfl) Zm (Ze h3.len) rfl rfl ?_;rw[←one_want];exact⟨v3,rfl,h3,T6.out.below⟩
theorem Zkb(w:World)(r K:Nat)(L:List TokV)(st:St)(vs:List Value)(ho:Zu w r K L)(hp:RPv r K L st vs) :
  Calls Φ 92 #[.agg vs.toArray] w (PVo w r K L (Zn L Zq st) (I J (Zk L Zq st))):=by
 have T0:=Hh (Env.start w);go_enter Tryz.func92,Tryz.ntmps92;go_wp2_with(first
 |((with_reducible refine Zd 1 ?_);refine Zf T0.out 51 _ (vs) rfl rfl rfl ?_;intro w1 g0 t1
   have T1:=Hh (t1);clear t1)
 |((with_reducible refine Zd 2 ?_);refine Zb T1.out 51 _ rfl rfl z_P ?_;intro w2 g1 t2
   have T2:=Hh (t2);clear t2)
 |((with_reducible refine Zd 4 ?_);refine Zc 51 _ 51 g0 _ (T2.out.get 0 rfl) Zm (Ze hp.len) rfl rfl rfl ?_)
 |(go_at_call 43;refine(Zer _ r K _ L st vs Zq 3 3 _ rfl rfl (ho.below T2.out.below) hp rfl (by decide)).mono ?_;rintro e w3 ⟨v3,rfl,h3,b3⟩
   have T3:=Hh (T2.out.call b3);clear b3)
 |((with_reducible refine Zg 2 7 ?_);refine Za 51 _ _ 51 g1 _ (v3) (T3.out.get 1 rfl) h3.len (Ze h3.len) h3.one rfl rfl rfl rfl rfl ?_
   intro w4 p4;have T4:Hid (Env w [(g0,51,vs),(g1,51,v3)] [] [] w4):=Hh (T3.out.put 1 rfl p4);clear p4))
 exact Xd 2 51 3 51 _ _ _ rfl (T4.out.get 1 rfl) Zm (Ze h3.len) rfl rfl rfl ⟨v3,rfl,h3,T4.out.below⟩
theorem qop(w:World)(r K:Nat)(L:List TokV)(st:St)(vs:List Value)(ho:Zu w r K L)(hp:RPv r K L st vs) :
  Calls Φ 95 #[.agg vs.toArray] w (PVo w r K L (Zn L wOp st) (I J (Zk L wOp st))):=by
 have T0:=Hh (Env.start w);go_enter Tryz.func95,Tryz.ntmps95;go_wp2_with(first
 |((with_reducible refine Zd 1 ?_);refine Zf T0.out 51 _ (vs) rfl rfl rfl ?_;intro w1 g0 t1
   have T1:=Hh (t1);clear t1)
 |((with_reducible refine Zd 2 ?_);refine Zb T1.out 51 _ rfl rfl z_P ?_;intro w2 g1 t2
   have T2:=Hh (t2);clear t2)
 |((with_reducible refine Zd 4 ?_);refine Zc 51 _ 51 g0 _ (T2.out.get 0 rfl) Zm (Ze hp.len) rfl rfl rfl ?_)
 |(go_at_call 43;refine(Zer _ r K _ L st vs wOp 6 6 _ rfl rfl (ho.below T2.out.below) hp rfl (by decide)).mono ?_;rintro e w3 ⟨v3,rfl,h3,b3⟩
   have T3:=Hh (T2.out.call b3);clear b3)
 |((with_reducible refine Zg 2 7 ?_);refine Za 51 _ _ 51 g1 _ (v3) (T3.out.get 1 rfl) h3.len (Ze h3.len) h3.one rfl rfl rfl rfl rfl ?_
   intro w4 p4;have T4:Hid (Env w [(g0,51,vs),(g1,51,v3)] [] [] w4):=Hh (T3.out.put 1 rfl p4);clear p4))
 exact Xd 2 51 3 51 _ _ _ rfl (T4.out.get 1 rfl) Zm (Ze h3.len) rfl rfl rfl ⟨v3,rfl,h3,T4.out.below⟩
theorem Zom(w:World)(r K:Nat)(L:List TokV)(st:St)(vs:List Value)(ho:Zu w r K L)(hp:RPv r K L st vs) :
  Calls Φ 20 #[.agg vs.toArray] w (PVo w r K L (Zbt L st) (I J (Zgr L st))):=by
 have T0:=Hh (Env.start w);cases st with
 |ok a d=>
  obtain⟨n,hn,rfl,ha,hd⟩:=hp.ok;have hrow:=ho (by omega);have HR:=Hh hrow;have HN:=Hh (ζ hn ha);clear ho hp hn;go_enter Tryz.func20,Tryz.ntmps20;go_wp2_with(first
 |((with_reducible refine Zd 1 ?_);refine Zf T0.out 51 _ ([Λ (some ⟨r,0,none⟩) n K,I J (a:Int),I J (d:Int),I J 0,I J 0,I J 0]) rfl rfl rfl ?_;intro w1 g0 t1
   have T1:=Hh (t1);clear t1)
 |((with_reducible refine Zd 2 ?_);refine Zb T1.out 51 _ rfl rfl z_P ?_;intro w2 g1 t2
   have T2:=Hh (t2);obtain⟨c0,c1,c2,c3,c4,c5⟩:=Xu (T2.out.get 0 rfl);clear t2)
 |((with_reducible refine Zd 14 ?_);refine Xn 49 _ 51 g0 0 ([]) ([Λ (some ⟨r,0,none⟩) n K,I J (a:Int),I J (d:Int)]) ([I J 0,I J 0,I J 0]) (T2.out.get 0 rfl) rfl Zbh Wl rfl rfl rfl ?_)
 |(go_at_call 42;refine(qInt _ r K L n a d HN.out.1 (HR.out.below T2.out.below) HN.out.2).mono ?_;rintro e w3 ⟨rfl,b3⟩
   have T3:=Hh (T2.out.call b3);clear b3)
 |((with_reducible refine Zd 4 ?_);refine Zb T3.out 49 _ rfl rfl z_C ?_;intro w4 g2 t4
   have T4:=Hh (t4);clear t4)
 |((with_reducible refine Zd 6 ?_);refine Zb T4.out 29 _ rfl rfl z_F ?_;intro w5 g3 t5
   have T5:=Hh (t5);clear t5)
 |((with_reducible refine Zg 4 16 ?_);refine Za 49 _ _ 49 g2 _ ([Λ (some ⟨r,0,none⟩) n K,I J (Up L a 2:Int),I J (d:Int)]) (T5.out.get 2 rfl) rfl Wl (by simp[Γ]) rfl rfl rfl rfl rfl ?_
   intro w6 p6;have T6:=Hh (T5.out.put 2 rfl p6);clear p6)
 |((with_reducible refine Zg 6 18 ?_);refine Za 29 _ _ 29 g3 _ ([I J (Wd L a 2).1,I J ((Wd L a 2).2.1:Int),I J ((Wd L a 2).2.2:Int)]) (T6.out.get 3 rfl) rfl Vb (by simp[Γ]) rfl rfl rfl rfl rfl ?_
   intro w7 p7;have T7:=Hh (T6.out.put 3 rfl p7);clear p7)
 |((with_reducible refine Zd 19 ?_);refine Zc 49 _ 49 g2 _ (T7.out.get 2 rfl) Zbh Wl rfl rfl rfl ?_)
 |((with_reducible refine Zd 20 ?_);refine Zc 29 _ 29 g3 _ (T7.out.get 3 rfl) Zcl Vb rfl rfl rfl ?_)
 |((with_reducible refine Zg 2 21 ?_);refine Za 51 _ _ 51 g1 _ ([Λ (some ⟨r,0,none⟩) n K,I J (Up L a 2:Int),I J (d:Int),I J (Wd L a 2).1,I J ((Wd L a 2).2.1:Int),I J ((Wd L a 2).2.2:Int)]) (T7.out.get 1 rfl) rfl Yc (by simp[Γ]) rfl rfl rfl rfl rfl ?_
   intro w8 p8;have T8:Hid (Env w [(g0,51,[Λ (some ⟨r,0,none⟩) n K,I J (a:Int),I J (d:Int),I J 0,I J 0,I J 0]),(g1,51,[Λ (some ⟨r,0,none⟩) n K,I J (Up L a 2:Int),I J (d:Int),I J (Wd L a 2).1,I J ((Wd L a 2).2.1:Int),I J ((Wd L a 2).2.2:Int)]),(g2,49,[Λ (some ⟨r,0,none⟩) n K,I J (Up L a 2:Int),I J (d:Int)]),(g3,29,[I J (Wd L a 2).1,I J ((Wd L a 2).2.1:Int),I J ((Wd L a 2).2.2:Int)])] [] [] w8):=Hh (T7.out.put 1 rfl p8);clear p8))
  exact Xd 2 51 3 51 _ _ _ rfl (T8.out.get 1 rfl) Zm Yc rfl rfl rfl ⟨_,rfl,RPv.note (Zlw L a 2) HN.out.1 (kindA_in HR.out.ends HN.out.2 2) hd,T8.out.below⟩
 |bad F=>
  obtain⟨A,n,k,a,d,rfl,hd,hF⟩:=hp.bad;obtain⟨f0,f1,f2⟩:=F;have z0:(f0 != 0)=true:=by rw[bne_iff_ne];exact hF
  have HF:=Hh hF;clear ho hp hF;go_enter Tryz.func20,Tryz.ntmps20;go_wp2_with(first
 |((with_reducible refine Zd 1 ?_);refine Zf T0.out 51 _ ([Λ A n k,I J (a:Int),I J (d:Int),I J f0,I J (f1:Int),I J (f2:Int)]) rfl rfl rfl ?_;intro w1 g0 t1
   have T1:=Hh (t1);clear t1)
 |((with_reducible refine Zd 2 ?_);refine Zb T1.out 51 _ rfl rfl z_P ?_;intro w2 g1 t2
   have T2:=Hh (t2);obtain⟨c0,c1,c2,c3,c4,c5⟩:=Xu (T2.out.get 0 rfl);clear t2)
 |((with_reducible refine Zd 11 ?_);refine Zc 51 _ 51 g0 _ (T2.out.get 0 rfl) Zm Yc rfl rfl rfl ?_)
 |((with_reducible refine Zg 2 11 ?_);refine Za 51 _ _ 51 g1 _ ([Λ A n k,I J (a:Int),I J (d:Int),I J f0,I J (f1:Int),I J (f2:Int)]) (T2.out.get 1 rfl) rfl Yc (by simp[Γ]) rfl rfl rfl rfl rfl ?_
   intro w3 p3;have T3:Hid (Env w [(g0,51,[Λ A n k,I J (a:Int),I J (d:Int),I J f0,I J (f1:Int),I J (f2:Int)]),(g1,51,[Λ A n k,I J (a:Int),I J (d:Int),I J f0,I J (f1:Int),I J (f2:Int)])] [] [] w3):=Hh (T2.out.put 1 rfl p3);clear p3))
  exact Xd 2 51 3 51 _ _ _ rfl (T3.out.get 1 rfl) Zm Yc rfl rfl rfl ⟨_,rfl,RPv.mkBad (F:=(f0,f1,f2)) _ _ _ _ _ hd HF.out,T3.out.below⟩
theorem Zlq(w:World)(r K:Nat)(L:List TokV)(st:St)(vs:List Value)(ho:Zu w r K L)(hp:RPv r K L st vs) :
  Calls Φ 22 #[.agg vs.toArray] w (PVo w r K L (Zbe L st) (I J (Zeh L st))):=by
 have T0:=Hh (Env.start w);cases st with
 |ok a d=>
  obtain⟨n,hn,rfl,ha,hd⟩:=hp.ok;have hrow:=ho (by omega);have HR:=Hh hrow;have HN:=Hh (ζ hn ha);clear ho hp hn;go_enter Tryz.func22,Tryz.ntmps22;go_wp2_with(first
 |((with_reducible refine Zd 1 ?_);refine Zf T0.out 51 _ ([Λ (some ⟨r,0,none⟩) n K,I J (a:Int),I J (d:Int),I J 0,I J 0,I J 0]) rfl rfl rfl ?_;intro w1 g0 t1
   have T1:=Hh (t1);clear t1)
 |((with_reducible refine Zd 2 ?_);refine Zb T1.out 51 _ rfl rfl z_P ?_;intro w2 g1 t2
   have T2:=Hh (t2);obtain⟨c0,c1,c2,c3,c4,c5⟩:=Xu (T2.out.get 0 rfl);clear t2)
 |((with_reducible refine Zd 14 ?_);refine Xn 49 _ 51 g0 0 ([]) ([Λ (some ⟨r,0,none⟩) n K,I J (a:Int),I J (d:Int)]) ([I J 0,I J 0,I J 0]) (T2.out.get 0 rfl) rfl Zbh Wl rfl rfl rfl ?_)
 |(go_at_call 44;refine(qSigned _ r K L n a d HN.out.1 (HR.out.below T2.out.below) HN.out.2).mono ?_;rintro e w3 ⟨rfl,b3⟩
   have T3:=Hh (T2.out.call b3);clear b3)
 |((with_reducible refine Zd 4 ?_);refine Zb T3.out 49 _ rfl rfl z_C ?_;intro w4 g2 t4
   have T4:=Hh (t4);clear t4)
 |((with_reducible refine Zd 6 ?_);refine Zb T4.out 29 _ rfl rfl z_F ?_;intro w5 g3 t5
   have T5:=Hh (t5);clear t5)
 |((with_reducible refine Zg 4 16 ?_);refine Za 49 _ _ 49 g2 _ ([Λ (some ⟨r,0,none⟩) n K,I J (Zfj L a:Int),I J (d:Int)]) (T5.out.get 2 rfl) rfl Wl (by simp[Γ]) rfl rfl rfl rfl rfl ?_
   intro w6 p6;have T6:=Hh (T5.out.put 2 rfl p6);clear p6)
 |((with_reducible refine Zg 6 18 ?_);refine Za 29 _ _ 29 g3 _ ([I J (Zbf L a).1,I J ((Zbf L a).2.1:Int),I J ((Zbf L a).2.2:Int)]) (T6.out.get 3 rfl) rfl Vb (by simp[Γ]) rfl rfl rfl rfl rfl ?_
   intro w7 p7;have T7:=Hh (T6.out.put 3 rfl p7);clear p7)
 |((with_reducible refine Zd 19 ?_);refine Zc 49 _ 49 g2 _ (T7.out.get 2 rfl) Zbh Wl rfl rfl rfl ?_)
 |((with_reducible refine Zd 20 ?_);refine Zc 29 _ 29 g3 _ (T7.out.get 3 rfl) Zcl Vb rfl rfl rfl ?_)
 |((with_reducible refine Zg 2 21 ?_);refine Za 51 _ _ 51 g1 _ ([Λ (some ⟨r,0,none⟩) n K,I J (Zfj L a:Int),I J (d:Int),I J (Zbf L a).1,I J ((Zbf L a).2.1:Int),I J ((Zbf L a).2.2:Int)]) (T7.out.get 1 rfl) rfl Yc (by simp[Γ]) rfl rfl rfl rfl rfl ?_
   intro w8 p8;have T8:Hid (Env w [(g0,51,[Λ (some ⟨r,0,none⟩) n K,I J (a:Int),I J (d:Int),I J 0,I J 0,I J 0]),(g1,51,[Λ (some ⟨r,0,none⟩) n K,I J (Zfj L a:Int),I J (d:Int),I J (Zbf L a).1,I J ((Zbf L a).2.1:Int),I J ((Zbf L a).2.2:Int)]),(g2,49,[Λ (some ⟨r,0,none⟩) n K,I J (Zfj L a:Int),I J (d:Int)]),(g3,29,[I J (Zbf L a).1,I J ((Zbf L a).2.1:Int),I J ((Zbf L a).2.2:Int)])] [] [] w8):=Hh (T7.out.put 1 rfl p8);clear p8))
  exact Xd 2 51 3 51 _ _ _ rfl (T8.out.get 1 rfl) Zm Yc rfl rfl rfl ⟨_,rfl,RPv.note (signF_ok L a) HN.out.1 (signA_in HR.out.ends HN.out.2) hd,T8.out.below⟩
 |bad F=>
  obtain⟨A,n,k,a,d,rfl,hd,hF⟩:=hp.bad;obtain⟨f0,f1,f2⟩:=F;have z0:(f0 != 0)=true:=by rw[bne_iff_ne];exact hF
  have HF:=Hh hF;clear ho hp hF;go_enter Tryz.func22,Tryz.ntmps22;go_wp2_with(first
 |((with_reducible refine Zd 1 ?_);refine Zf T0.out 51 _ ([Λ A n k,I J (a:Int),I J (d:Int),I J f0,I J (f1:Int),I J (f2:Int)]) rfl rfl rfl ?_;intro w1 g0 t1
   have T1:=Hh (t1);clear t1)
 |((with_reducible refine Zd 2 ?_);refine Zb T1.out 51 _ rfl rfl z_P ?_;intro w2 g1 t2
   have T2:=Hh (t2);obtain⟨c0,c1,c2,c3,c4,c5⟩:=Xu (T2.out.get 0 rfl);clear t2)
 |((with_reducible refine Zd 11 ?_);refine Zc 51 _ 51 g0 _ (T2.out.get 0 rfl) Zm Yc rfl rfl rfl ?_)
 |((with_reducible refine Zg 2 11 ?_);refine Za 51 _ _ 51 g1 _ ([Λ A n k,I J (a:Int),I J (d:Int),I J f0,I J (f1:Int),I J (f2:Int)]) (T2.out.get 1 rfl) rfl Yc (by simp[Γ]) rfl rfl rfl rfl rfl ?_
   intro w3 p3;have T3:Hid (Env w [(g0,51,[Λ A n k,I J (a:Int),I J (d:Int),I J f0,I J (f1:Int),I J (f2:Int)]),(g1,51,[Λ A n k,I J (a:Int),I J (d:Int),I J f0,I J (f1:Int),I J (f2:Int)])] [] [] w3):=Hh (T2.out.put 1 rfl p3);clear p3))
  exact Xd 2 51 3 51 _ _ _ rfl (T3.out.get 1 rfl) Zm Yc rfl rfl rfl ⟨_,rfl,RPv.mkBad (F:=(f0,f1,f2)) _ _ _ _ _ hd HF.out,T3.out.below⟩
theorem qname(w:World)(r K:Nat)(L:List TokV)(st:St)(vs:List Value)(ho:Zu w r K L)(hp:RPv r K L st vs) :
  Calls Φ 19 #[.agg vs.toArray] w (PVo w r K L (Wp L st) (Ψ (Zct L st))):=by
 have T0:=Hh (Env.start w);cases st with
 |ok a d=>
  obtain⟨n,hn,rfl,ha,hd⟩:=hp.ok;have hrow:=ho (by omega);have HR:=Hh hrow;have HN:=Hh (ζ hn ha);clear ho hp hn;go_enter Tryz.func19,Tryz.ntmps19;go_wp2_with(first
 |((with_reducible refine Zd 1 ?_);refine Zf T0.out 51 _ ([Λ (some ⟨r,0,none⟩) n K,I J (a:Int),I J (d:Int),I J 0,I J 0,I J 0]) rfl rfl rfl ?_;intro w1 g0 t1
   have T1:=Hh (t1);clear t1)
 |((with_reducible refine Zd 2 ?_);refine Zb T1.out 51 _ rfl rfl z_P ?_;intro w2 g1 t2
   have T2:=Hh (t2);obtain⟨c0,c1,c2,c3,c4,c5⟩:=Xu (T2.out.get 0 rfl);clear t2)
 |((with_reducible refine Zd 14 ?_);refine Xn 49 _ 51 g0 0 ([]) ([Λ (some ⟨r,0,none⟩) n K,I J (a:Int),I J (d:Int)]) ([I J 0,I J 0,I J 0]) (T2.out.get 0 rfl) rfl Zbh Wl rfl rfl rfl ?_)
 |(go_at_call 41;refine(qName _ r K L n a d HN.out.1 (HR.out.below T2.out.below) HN.out.2).mono ?_;rintro e w3 ⟨rfl,b3⟩
   have T3:=Hh (T2.out.call b3);clear b3)
 |((with_reducible refine Zd 4 ?_);refine Zb T3.out 49 _ rfl rfl z_C ?_;intro w4 g2 t4
   have T4:=Hh (t4);clear t4)
 |((with_reducible refine Zd 6 ?_);refine Zb T4.out 29 _ rfl rfl z_F ?_;intro w5 g3 t5
   have T5:=Hh (t5);clear t5)
 |((with_reducible refine Zg 4 16 ?_);refine Za 49 _ _ 49 g2 _ ([Λ (some ⟨r,0,none⟩) n K,I J (Up L a 3:Int),I J (d:Int)]) (T5.out.get 2 rfl) rfl Wl (by simp[Γ]) rfl rfl rfl rfl rfl ?_
   intro w6 p6;have T6:=Hh (T5.out.put 2 rfl p6);clear p6)
 |((with_reducible refine Zg 6 18 ?_);refine Za 29 _ _ 29 g3 _ ([I J (Wd L a 3).1,I J ((Wd L a 3).2.1:Int),I J ((Wd L a 3).2.2:Int)]) (T6.out.get 3 rfl) rfl Vb (by simp[Γ]) rfl rfl rfl rfl rfl ?_
   intro w7 p7;have T7:=Hh (T6.out.put 3 rfl p7);clear p7)
 |((with_reducible refine Zd 19 ?_);refine Zc 49 _ 49 g2 _ (T7.out.get 2 rfl) Zbh Wl rfl rfl rfl ?_)
 |((with_reducible refine Zd 20 ?_);refine Zc 29 _ 29 g3 _ (T7.out.get 3 rfl) Zcl Vb rfl rfl rfl ?_)
 |((with_reducible refine Zg 2 21 ?_);refine Za 51 _ _ 51 g1 _ ([Λ (some ⟨r,0,none⟩) n K,I J (Up L a 3:Int),I J (d:Int),I J (Wd L a 3).1,I J ((Wd L a 3).2.1:Int),I J ((Wd L a 3).2.2:Int)]) (T7.out.get 1 rfl) rfl Yc (by simp[Γ]) rfl rfl rfl rfl rfl ?_
   intro w8 p8;have T8:Hid (Env w [(g0,51,[Λ (some ⟨r,0,none⟩) n K,I J (a:Int),I J (d:Int),I J 0,I J 0,I J 0]),(g1,51,[Λ (some ⟨r,0,none⟩) n K,I J (Up L a 3:Int),I J (d:Int),I J (Wd L a 3).1,I J ((Wd L a 3).2.1:Int),I J ((Wd L a 3).2.2:Int)]),(g2,49,[Λ (some ⟨r,0,none⟩) n K,I J (Up L a 3:Int),I J (d:Int)]),(g3,29,[I J (Wd L a 3).1,I J ((Wd L a 3).2.1:Int),I J ((Wd L a 3).2.2:Int)])] [] [] w8):=Hh (T7.out.put 1 rfl p8);clear p8))
  exact Xd 2 51 3 51 _ _ _ rfl (T8.out.get 1 rfl) Zm Yc rfl rfl rfl ⟨_,rfl,RPv.note (Zlw L a 3) HN.out.1 (kindA_in HR.out.ends HN.out.2 3) hd,T8.out.below⟩
 |bad F=>
  obtain⟨A,n,k,a,d,rfl,hd,hF⟩:=hp.bad;obtain⟨f0,f1,f2⟩:=F;have z0:(f0 != 0)=true:=by rw[bne_iff_ne];exact hF
  have HF:=Hh hF;clear ho hp hF;go_enter Tryz.func19,Tryz.ntmps19;go_wp2_with(first
 |((with_reducible refine Zd 1 ?_);refine Zf T0.out 51 _ ([Λ A n k,I J (a:Int),I J (d:Int),I J f0,I J (f1:Int),I J (f2:Int)]) rfl rfl rfl ?_;intro w1 g0 t1
   have T1:=Hh (t1);clear t1)
 |((with_reducible refine Zd 2 ?_);refine Zb T1.out 51 _ rfl rfl z_P ?_;intro w2 g1 t2
   have T2:=Hh (t2);obtain⟨c0,c1,c2,c3,c4,c5⟩:=Xu (T2.out.get 0 rfl);clear t2)
 |((with_reducible refine Zd 11 ?_);refine Zc 51 _ 51 g0 _ (T2.out.get 0 rfl) Zm Yc rfl rfl rfl ?_)
 |((with_reducible refine Zg 2 11 ?_);refine Za 51 _ _ 51 g1 _ ([Λ A n k,I J (a:Int),I J (d:Int),I J f0,I J (f1:Int),I J (f2:Int)]) (T2.out.get 1 rfl) rfl Yc (by simp[Γ]) rfl rfl rfl rfl rfl ?_
   intro w3 p3;have T3:Hid (Env w [(g0,51,[Λ A n k,I J (a:Int),I J (d:Int),I J f0,I J (f1:Int),I J (f2:Int)]),(g1,51,[Λ A n k,I J (a:Int),I J (d:Int),I J f0,I J (f1:Int),I J (f2:Int)])] [] [] w3):=Hh (T2.out.put 1 rfl p3);clear p3))
  exact Xd 2 51 3 51 _ _ _ rfl (T3.out.get 1 rfl) Zm Yc rfl rfl rfl ⟨_,rfl,RPv.mkBad (F:=(f0,f1,f2)) _ _ _ _ _ hd HF.out,T3.out.below⟩
theorem qdeeper(w:World)(r K:Nat)(L:List TokV)(st:St)(vs:List Value)(ho:Zu w r K L)(hp:RPv r K L st vs) :
  Calls Φ 119 #[.agg vs.toArray] w (PPo w r K L (Ji (downV L st) (Zpa st))):=by
 have T0:=Hh (Env.start w);cases st with
 |ok a d=>
  obtain⟨n,hn,rfl,ha,hd⟩:=hp.ok;have hrow:=ho (by omega);have HR:=Hh hrow;have HN:=Hh (ζ hn ha);have hdd:Zdg d≤8:=by unfold Zdg;split<;>omega
  have HD:=Hh hdd;clear ho hp hn hdd;go_enter Tryz.func119,Tryz.ntmps119;go_wp2_with(first
 |((with_reducible refine Zd 1 ?_);refine Zf T0.out 51 _ ([Λ (some ⟨r,0,none⟩) n K,I J (a:Int),I J (d:Int),I J 0,I J 0,I J 0]) rfl rfl rfl ?_;intro w1 g0 t1
   have T1:=Hh (t1);clear t1)
 |((with_reducible refine Zd 2 ?_);refine Zb T1.out 51 _ rfl rfl z_P ?_;intro w2 g1 t2
   have T2:=Hh (t2);obtain⟨c0,c1,c2,c3,c4,c5⟩:=Xu (T2.out.get 0 rfl);clear t2)
 |((with_reducible refine Zd 12 ?_);refine Xn 49 _ 51 g0 0 ([]) ([Λ (some ⟨r,0,none⟩) n K,I J (a:Int),I J (d:Int)]) ([I J 0,I J 0,I J 0]) (T2.out.get 0 rfl) rfl Zbh Wl rfl rfl rfl ?_)
 |(go_at_call 148;refine(qDown _ r K L n a d HN.out.1 (HR.out.below T2.out.below) HN.out.2 hd).mono ?_;rintro e w3 ⟨rfl,b3⟩
   have T3:=Hh (T2.out.call b3);clear b3)
 |((with_reducible refine Zd 3 ?_);refine Zb T3.out 49 _ rfl rfl z_C ?_;intro w4 g2 t4
   have T4:=Hh (t4);clear t4)
 |((with_reducible refine Zd 4 ?_);refine Zb T4.out 29 _ rfl rfl z_F ?_;intro w5 g3 t5
   have T5:=Hh (t5);clear t5)
 |((with_reducible refine Zg 3 14 ?_);refine Za 49 _ _ 49 g2 _ ([Λ (some ⟨r,0,none⟩) n K,I J (a:Int),I J (Zdg d:Int)]) (T5.out.get 2 rfl) rfl Wl (by simp[Γ]) rfl rfl rfl rfl rfl ?_
   intro w6 p6;have T6:=Hh (T5.out.put 2 rfl p6);clear p6)
 |((with_reducible refine Zg 4 15 ?_);refine Za 29 _ _ 29 g3 _ ([I J (Jq L a d).1,I J ((Jq L a d).2.1:Int),I J ((Jq L a d).2.2:Int)]) (T6.out.get 3 rfl) rfl Vb (by simp[Γ]) rfl rfl rfl rfl rfl ?_
   intro w7 p7;have T7:=Hh (T6.out.put 3 rfl p7);clear p7)
 |((with_reducible refine Zd 16 ?_);refine Zc 49 _ 49 g2 _ (T7.out.get 2 rfl) Zbh Wl rfl rfl rfl ?_)
 |((with_reducible refine Zd 17 ?_);refine Zc 29 _ 29 g3 _ (T7.out.get 3 rfl) Zcl Vb rfl rfl rfl ?_)
 |((with_reducible refine Zg 2 18 ?_);refine Za 51 _ _ 51 g1 _ ([Λ (some ⟨r,0,none⟩) n K,I J (a:Int),I J (Zdg d:Int),I J (Jq L a d).1,I J ((Jq L a d).2.1:Int),I J ((Jq L a d).2.2:Int)]) (T7.out.get 1 rfl) rfl Yc (by simp[Γ]) rfl rfl rfl rfl rfl ?_
   intro w8 p8;have T8:Hid (Env w [(g0,51,[Λ (some ⟨r,0,none⟩) n K,I J (a:Int),I J (d:Int),I J 0,I J 0,I J 0]),(g1,51,[Λ (some ⟨r,0,none⟩) n K,I J (a:Int),I J (Zdg d:Int),I J (Jq L a d).1,I J ((Jq L a d).2.1:Int),I J ((Jq L a d).2.2:Int)]),(g2,49,[Λ (some ⟨r,0,none⟩) n K,I J (a:Int),I J (Zdg d:Int)]),(g3,29,[I J (Jq L a d).1,I J ((Jq L a d).2.1:Int),I J ((Jq L a d).2.2:Int)])] [] [] w8):=Hh (T7.out.put 1 rfl p8);clear p8))
  exact Ya 2 51 51 _ _ rfl (T8.out.get 1 rfl) Zm Yc rfl rfl ⟨_,rfl,RPv.note (downF_ok L a d) HN.out.1 HN.out.2 HD.out,T8.out.below⟩
 |bad F=>
  obtain⟨A,n,k,a,d,rfl,hd,hF⟩:=hp.bad;obtain⟨f0,f1,f2⟩:=F;have z0:(f0 != 0)=true:=by rw[bne_iff_ne];exact hF
  have HF:=Hh hF;clear ho hp hF;go_enter Tryz.func119,Tryz.ntmps119;go_wp2_with(first
 |((with_reducible refine Zd 1 ?_);refine Zf T0.out 51 _ ([Λ A n k,I J (a:Int),I J (d:Int),I J f0,I J (f1:Int),I J (f2:Int)]) rfl rfl rfl ?_;intro w1 g0 t1
   have T1:=Hh (t1);clear t1)
 |((with_reducible refine Zd 2 ?_);refine Zb T1.out 51 _ rfl rfl z_P ?_;intro w2 g1 t2
   have T2:=Hh (t2);obtain⟨c0,c1,c2,c3,c4,c5⟩:=Xu (T2.out.get 0 rfl);clear t2)
 |((with_reducible refine Zd 9 ?_);refine Zc 51 _ 51 g0 _ (T2.out.get 0 rfl) Zm Yc rfl rfl rfl ?_)
 |((with_reducible refine Zg 2 9 ?_);refine Za 51 _ _ 51 g1 _ ([Λ A n k,I J (a:Int),I J (d:Int),I J f0,I J (f1:Int),I J (f2:Int)]) (T2.out.get 1 rfl) rfl Yc (by simp[Γ]) rfl rfl rfl rfl rfl ?_
   intro w3 p3;have T3:Hid (Env w [(g0,51,[Λ A n k,I J (a:Int),I J (d:Int),I J f0,I J (f1:Int),I J (f2:Int)]),(g1,51,[Λ A n k,I J (a:Int),I J (d:Int),I J f0,I J (f1:Int),I J (f2:Int)])] [] [] w3):=Hh (T2.out.put 1 rfl p3);clear p3))
  exact Ya 2 51 51 _ _ rfl (T3.out.get 1 rfl) Zm Yc rfl rfl ⟨_,rfl,RPv.mkBad (F:=(f0,f1,f2)) _ _ _ _ _ hd HF.out,T3.out.below⟩
theorem mixed:(Φ).follows .mixedOrders=true:=by kernel_rfl
def PTo(w:World)(r K:Nat)(L:List TokV)(st:St)(ds:Ds)(e:Ending)(w':World):Prop:=
 ∃ vs us:List Value,e=η (.tuple #[.agg vs.toArray,.agg us.toArray])∧RPv r K L st vs∧Zs (fun k=>w.heap.size≤k) w' ds us∧Below w.heap.size w w'
theorem qover(w:World)(r K:Nat)(L:List TokV)(st:St)(vs:List Value)(ho:Zu w r K L)(hp:RPv r K L st vs) :
  Calls Φ 24 #[.agg vs.toArray] w (PPo w r K L (Xq L st)):=by
 have T0:=Hh (Env.start w);cases st with
 |ok a d=>
  obtain⟨n,hn,rfl,ha,hd⟩:=hp.ok;have hrow:=ho (by omega);have HR:=Hh hrow;have HN:=Hh (ζ hn ha);have hfd:=fun w=>Zfb (Yb L a).k (Yb L a).n ((Yb L a).line:Int) ((Yb L a).col:Int) (Yb L a).t w
  clear ho hp hn;by_cases hk:(Yb L a).k=0
  · have e1:((Yb L a).k != 0)=false:=by rw[hk];rfl
    have e2:Xq L (.ok a d)=.ok a d:=if_pos hk;have E2:=Hh e2;clear e2 hk;go_enter Tryz.func24,Tryz.ntmps24;go_wp2_with(first
 |((with_reducible refine Zd 1 ?_);refine Zf T0.out 51 _ ([Λ (some ⟨r,0,none⟩) n K,I J (a:Int),I J (d:Int),I J 0,I J 0,I J 0]) rfl rfl rfl ?_;intro w1 g0 t1
   have T1:=Hh (t1);clear t1)
 |((with_reducible refine Zd 2 ?_);refine Zb T1.out 51 _ rfl rfl z_P ?_;intro w2 g1 t2
   have T2:=Hh (t2);obtain⟨c0,c1,c2,c3,c4,c5⟩:=Xu (T2.out.get 0 rfl);clear t2)
 |(go_at_call 17;refine(Zkc _ r K L n a d HN.out.1 (HR.out.below T2.out.below) HN.out.2).mono ?_;rintro e w3 ⟨rfl,b3⟩
   have T3:=Hh (T2.out.call b3);simp only[Wz];clear b3)
 |((with_reducible refine Zd 16 ?_);refine Zc 51 _ 51 g0 _ (T3.out.get 0 rfl) Zm Yc rfl rfl rfl ?_)
 |((with_reducible refine Zg 2 16 ?_);refine Za 51 _ _ 51 g1 _ ([Λ (some ⟨r,0,none⟩) n K,I J (a:Int),I J (d:Int),I J 0,I J 0,I J 0]) (T3.out.get 1 rfl) rfl Yc (by simp[Γ]) rfl rfl rfl rfl rfl ?_
   intro w4 p4;have T4:Hid (Env w [(g0,51,[Λ (some ⟨r,0,none⟩) n K,I J (a:Int),I J (d:Int),I J 0,I J 0,I J 0]),(g1,51,[Λ (some ⟨r,0,none⟩) n K,I J (a:Int),I J (d:Int),I J 0,I J 0,I J 0])] [] [] w4):=Hh (T3.out.put 1 rfl p4)
   clear p4))
    refine Ya 2 51 51 _ _ rfl (T4.out.get 1 rfl) Zm Yc rfl rfl ?_;rw[E2.out];exact⟨_,rfl,RPv.mkOk HN.out.1 HN.out.2 hd,T4.out.below⟩
  · have e1:((Yb L a).k != 0)=true:=by rw[bne_iff_ne];exact hk
    have e2:Xq L (.ok a d)=Zid L (.ok a d):=if_neg hk;have E2:=Hh e2;clear e2 hk;go_enter Tryz.func24,Tryz.ntmps24;go_wp2_with(first
 |((with_reducible refine Zd 1 ?_);refine Zf T0.out 51 _ ([Λ (some ⟨r,0,none⟩) n K,I J (a:Int),I J (d:Int),I J 0,I J 0,I J 0]) rfl rfl rfl ?_;intro w1 g0 t1
   have T1:=Hh (t1);clear t1)
 |((with_reducible refine Zd 2 ?_);refine Zb T1.out 51 _ rfl rfl z_P ?_;intro w2 g1 t2
   have T2:=Hh (t2);obtain⟨c0,c1,c2,c3,c4,c5⟩:=Xu (T2.out.get 0 rfl);clear t2)
 |(go_at_call 17;refine(Zkc _ r K L n a d HN.out.1 (HR.out.below T2.out.below) HN.out.2).mono ?_;rintro e w3 ⟨rfl,b3⟩
   have T3:=Hh (T2.out.call b3);simp only[Wz];clear b3)
 |((with_reducible refine Zd 14 ?_);refine Zc 51 _ 51 g0 _ (T3.out.get 0 rfl) Zm Yc rfl rfl rfl ?_)
 |(go_at_call 46;refine(qbad _ r K L (.ok a d) [Λ (some ⟨r,0,none⟩) n K,I J (a:Int),I J (d:Int),I J 0,I J 0,I J 0] (fun _=>HR.out.below T3.out.below) (RPv.mkOk HN.out.1 HN.out.2 hd)).mono ?_;rintro e w4 ⟨v4,rfl,h4,b4⟩
   have T4:=Hh (T3.out.call b4);clear b4)
 |((with_reducible refine Zg 2 15 ?_);refine Za 51 _ _ 51 g1 _ (v4) (T4.out.get 1 rfl) h4.len (Ze h4.len) h4.one rfl rfl rfl rfl rfl ?_
   intro w5 p5;have T5:Hid (Env w [(g0,51,[Λ (some ⟨r,0,none⟩) n K,I J (a:Int),I J (d:Int),I J 0,I J 0,I J 0]),(g1,51,v4)] [] [] w5):=Hh (T4.out.put 1 rfl p5)
   clear p5))
    refine Ya 2 51 51 _ _ rfl (T5.out.get 1 rfl) Zm (Ze h4.len) rfl rfl ?_;rw[E2.out];exact⟨v4,rfl,h4,T5.out.below⟩
 |bad F=>
  obtain⟨A,n,k,a,d,rfl,hd,hF⟩:=hp.bad;obtain⟨f0,f1,f2⟩:=F;have z0:(f0 == 0)=false:=by rw[beq_eq_false_iff_ne];exact hF
  have HF:=Hh hF;clear ho hp hF;go_enter Tryz.func24,Tryz.ntmps24;go_wp2_with(first
 |((with_reducible refine Zd 1 ?_);refine Zf T0.out 51 _ ([Λ A n k,I J (a:Int),I J (d:Int),I J f0,I J (f1:Int),I J (f2:Int)]) rfl rfl rfl ?_;intro w1 g0 t1
   have T1:=Hh (t1);clear t1)
 |((with_reducible refine Zd 2 ?_);refine Zb T1.out 51 _ rfl rfl z_P ?_;intro w2 g1 t2
   have T2:=Hh (t2);obtain⟨c0,c1,c2,c3,c4,c5⟩:=Xu (T2.out.get 0 rfl);clear t2)
 |((with_reducible refine Zd 16 ?_);refine Zc 51 _ 51 g0 _ (T2.out.get 0 rfl) Zm Yc rfl rfl rfl ?_)
 |((with_reducible refine Zg 2 16 ?_);refine Za 51 _ _ 51 g1 _ ([Λ A n k,I J (a:Int),I J (d:Int),I J f0,I J (f1:Int),I J (f2:Int)]) (T2.out.get 1 rfl) rfl Yc (by simp[Γ]) rfl rfl rfl rfl rfl ?_
   intro w3 p3;have T3:Hid (Env w [(g0,51,[Λ A n k,I J (a:Int),I J (d:Int),I J f0,I J (f1:Int),I J (f2:Int)]),(g1,51,[Λ A n k,I J (a:Int),I J (d:Int),I J f0,I J (f1:Int),I J (f2:Int)])] [] [] w3):=Hh (T2.out.put 1 rfl p3);clear p3))
  exact Ya 2 51 51 _ _ rfl (T3.out.get 1 rfl) Zm Yc rfl rfl ⟨_,rfl,RPv.mkBad (F:=(f0,f1,f2)) _ _ _ _ _ hd HF.out,T3.out.below⟩
theorem qto(w:World)(r K:Nat)(L:List TokV)(st:St)(vs:List Value)(ho:Zu w r K L)(hp:RPv r K L st vs) :
  Calls Φ 93 #[.agg vs.toArray] w (PTo w r K L (toS L st) (.int (toK L st) (.int (toL L st) .nil))):=by
 have T0:=Hh (Env.start w);by_cases hz:Zk L wTo st=4
 ·have e1:toS L st=Zbt L (Zn L wTo st):=if_pos hz
  have e2:toL L st=Zgr L (Zn L wTo st):=if_pos hz;have e3:((Zk L wTo st:Int) == 4)=true:=by rw[hz];rfl
  have E1:=Hh (ζ e1 e2);clear e1 e2 hz;go_enter Tryz.func93,Tryz.ntmps93;go_wp2_with(first
 |((with_reducible refine Zd 1 ?_);refine Zf T0.out 51 _ (vs) rfl rfl rfl ?_;intro w1 g0 t1
   have T1:=Hh (t1);clear t1)
 |((with_reducible refine Zd 2 ?_);refine Zb T1.out 51 _ rfl rfl z_P ?_;intro w2 g1 t2
   have T2:=Hh (t2);clear t2)
 |((with_reducible refine Zd 3 ?_);refine Zb T2.out 78 _ rfl rfl z_T ?_;intro w3 g2 t3
   have T3:=Hh (t3);clear t3)
 |((with_reducible refine Zd 10 ?_);refine Zc 51 _ 51 g0 _ (T3.out.get 0 rfl) Zm (Ze hp.len) rfl rfl rfl ?_)
 |(go_at_call 43;refine(Zer _ r K _ L st vs wTo 4 4 _ rfl rfl (ho.below T3.out.below) hp rfl (by decide)).mono ?_;rintro e w4 ⟨v4,rfl,h4,b4⟩
   have T4:=Hh (T3.out.call b4);clear b4)
 |((with_reducible refine Zd 4 ?_);refine Zb T4.out 51 _ rfl rfl z_P ?_;intro w5 g3 t5
   have T5:=Hh (t5);clear t5)
 |((with_reducible refine Zg 4 13 ?_);refine Za 51 _ _ 51 g3 _ (v4) (T5.out.get 3 rfl) h4.len (Ze h4.len) h4.one rfl rfl rfl rfl rfl ?_
   intro w6 p6;have T6:=Hh (T5.out.put 3 rfl p6);clear p6)
 |((with_reducible refine Zd 6 ?_);refine Zb T6.out 78 _ rfl rfl z_T ?_;intro w7 g4 t7
   have T7:=Hh (t7);clear t7)
 |((with_reducible refine Zg 6 16 ?_);refine Za 78 _ _ 78 g4 _ ([I J (Zk L wTo st:Int),I J 0]) (T7.out.get 4 rfl) rfl Zdc (by simp[Γ]) rfl rfl rfl rfl rfl ?_
   intro w8 p8;have T8:=Hh (T7.out.put 4 rfl p8);clear p8)
 |((with_reducible refine Zd 20 ?_);refine Zc 51 _ 51 g3 _ (T8.out.get 3 rfl) Zm (Ze h4.len) rfl rfl rfl ?_)
 |(go_at_call 20;refine(Zom _ r K L _ v4 (ho.below T8.out.below) h4).mono ?_;rintro e w9 ⟨v9,rfl,h9,b9⟩
   have T9:=Hh (T8.out.call b9);clear b9)
 |((with_reducible refine Zd 7 ?_);refine Zb T9.out 51 _ rfl rfl z_P ?_;intro w10 g5 t10
   have T10:=Hh (t10);clear t10)
 |((with_reducible refine Zg 7 22 ?_);refine Za 51 _ _ 51 g5 _ (v9) (T10.out.get 5 rfl) h9.len (Ze h9.len) h9.one rfl rfl rfl rfl rfl ?_
   intro w11 p11;have T11:=Hh (T10.out.put 5 rfl p11);clear p11)
 |((with_reducible refine Zg 25 24 ?_);refine Zp 3 _ _ 78 g4 1 [I J (Zk L wTo st:Int)] (I J 0) (I J (Zgr L (Zn L wTo st))) [] (T11.out.get 4 rfl) rfl Yw rfl rfl rfl rfl rfl rfl ?_
   intro w12 p12;have T12:Hid (Env w [(g0,51,vs),(g1,51,[Λ none 0 0,I J 0,I J 0,I J 0,I J 0,I J 0]),(g2,78,[I J 0,I J 0]),(g3,51,v4),(g4,78,[I J (Zk L wTo st:Int),I J (Zgr L (Zn L wTo st))]),(g5,51,v9)] [] [] w12):=Hh (T11.out.put 4 rfl p12);clear p12))
  refine ret2 mixed (by kernel_rfl) (by kernel_rfl) (by kernel_rfl) (by kernel_rfl) (by kernel_rfl) (by kernel_rfl) (by kernel_rfl) (by kernel_rfl) rfl rfl rfl rfl rfl rfl rfl rfl rfl rfl g5 g4 g1 g2 (v9) ([I J (Zk L wTo st:Int),I J (Zgr L (Zn L wTo st))]) ([Λ none 0 0,I J 0,I J 0,I J 0,I J 0,I J 0]) ([I J 0,I J 0]) (T12.out.get 5 rfl) (T12.out.get 4 rfl) (T12.out.get 1 rfl) (T12.out.get 2 rfl) h9.len rfl h9.one (by simp[Γ]) (T12.out.ne 5 1 (by decide) rfl rfl) (T12.out.ne 5 2 (by decide) rfl rfl) (T12.out.ne 4 1 (by decide) rfl rfl) (T12.out.ne 4 2 (by decide) rfl rfl) (T12.out.ne 1 2 (by decide) rfl rfl) Zm (Ze h9.len) row_to Zdc rfl rfl rfl rfl rfl rfl ?_;intro wz hR;have HZ:=Hh hR;clear hR;go_wp2
  obtain⟨dz,bz⟩:=T12.out.ret2 1 2 rfl rfl HZ.out;refine Yp 2 51 3 78 51 78 _ _ _ _ rfl HZ.out.one HZ.out.two Zm (Ze h9.len) row_to Zdc rfl rfl rfl ?_;rw[E1.out.1,E1.out.2];exact⟨_,_,rfl,h9,⟨_,rfl,_,rfl,rfl⟩,bz⟩
 ·have e1:toS L st=Zn L wTo st:=if_neg hz
  have e2:toL L st=0:=if_neg hz;have e3:((Zk L wTo st:Int) == 4)=false:=by rw[beq_eq_false_iff_ne];omega
  have E1:=Hh (ζ e1 e2);clear e1 e2 hz;go_enter Tryz.func93,Tryz.ntmps93;go_wp2_with(first
 |((with_reducible refine Zd 1 ?_);refine Zf T0.out 51 _ (vs) rfl rfl rfl ?_;intro w1 g0 t1
   have T1:=Hh (t1);clear t1)
 |((with_reducible refine Zd 2 ?_);refine Zb T1.out 51 _ rfl rfl z_P ?_;intro w2 g1 t2
   have T2:=Hh (t2);clear t2)
 |((with_reducible refine Zd 3 ?_);refine Zb T2.out 78 _ rfl rfl z_T ?_;intro w3 g2 t3
   have T3:=Hh (t3);clear t3)
 |((with_reducible refine Zd 10 ?_);refine Zc 51 _ 51 g0 _ (T3.out.get 0 rfl) Zm (Ze hp.len) rfl rfl rfl ?_)
 |(go_at_call 43;refine(Zer _ r K _ L st vs wTo 4 4 _ rfl rfl (ho.below T3.out.below) hp rfl (by decide)).mono ?_;rintro e w4 ⟨v4,rfl,h4,b4⟩
   have T4:=Hh (T3.out.call b4);clear b4)
 |((with_reducible refine Zd 4 ?_);refine Zb T4.out 51 _ rfl rfl z_P ?_;intro w5 g3 t5
   have T5:=Hh (t5);clear t5)
 |((with_reducible refine Zg 4 13 ?_);refine Za 51 _ _ 51 g3 _ (v4) (T5.out.get 3 rfl) h4.len (Ze h4.len) h4.one rfl rfl rfl rfl rfl ?_
   intro w6 p6;have T6:=Hh (T5.out.put 3 rfl p6);clear p6)
 |((with_reducible refine Zd 6 ?_);refine Zb T6.out 78 _ rfl rfl z_T ?_;intro w7 g4 t7
   have T7:=Hh (t7);clear t7)
 |((with_reducible refine Zg 6 16 ?_);refine Za 78 _ _ 78 g4 _ ([I J (Zk L wTo st:Int),I J 0]) (T7.out.get 4 rfl) rfl Zdc (by simp[Γ]) rfl rfl rfl rfl rfl ?_
   intro w8 p8;have T8:Hid (Env w [(g0,51,vs),(g1,51,[Λ none 0 0,I J 0,I J 0,I J 0,I J 0,I J 0]),(g2,78,[I J 0,I J 0]),(g3,51,v4),(g4,78,[I J (Zk L wTo st:Int),I J 0])] [] [] w8):=Hh (T7.out.put 4 rfl p8);clear p8))
  refine ret2 mixed (by kernel_rfl) (by kernel_rfl) (by kernel_rfl) (by kernel_rfl) (by kernel_rfl) (by kernel_rfl) (by kernel_rfl) (by kernel_rfl) rfl rfl rfl rfl rfl rfl rfl rfl rfl rfl g3 g4 g1 g2 (v4) ([I J (Zk L wTo st:Int),I J 0]) ([Λ none 0 0,I J 0,I J 0,I J 0,I J 0,I J 0]) ([I J 0,I J 0]) (T8.out.get 3 rfl) (T8.out.get 4 rfl) (T8.out.get 1 rfl) (T8.out.get 2 rfl) h4.len rfl h4.one (by simp[Γ]) (T8.out.ne 3 1 (by decide) rfl rfl) (T8.out.ne 3 2 (by decide) rfl rfl) (T8.out.ne 4 1 (by decide) rfl rfl) (T8.out.ne 4 2 (by decide) rfl rfl) (T8.out.ne 1 2 (by decide) rfl rfl) Zm (Ze h4.len) row_to Zdc rfl rfl rfl rfl rfl rfl ?_;intro wz hR;have HZ:=Hh hR;clear hR;go_wp2
  obtain⟨dz,bz⟩:=T8.out.ret2 1 2 rfl rfl HZ.out;refine Yp 2 51 3 78 51 78 _ _ _ _ rfl HZ.out.one HZ.out.two Zm (Ze h4.len) row_to Zdc rfl rfl rfl ?_;rw[E1.out.1,E1.out.2];exact⟨_,_,rfl,h4,⟨_,rfl,_,rfl,rfl⟩,bz⟩
theorem Zkp{P:Program}{id:Nat}{Q:Exit→Act→World→Prop}{a:Act}{w:World}{o0 o1 o2 o3 o4:Oper}(hm:P.follows .mixedOrders=true)
  (cs:Region.noSelect #[o0,o1,o2,o3,o4]=true)(cf0:Region.free .any #[o0,o1,o2,o3,o4] (Array.replicate 5 false) 0=true)(cr0:(Region.ready .any #[o0,o1,o2,o3,o4] (Array.replicate 5 false)).contains 0=true)
  (cf2:Region.free .any #[o0,o1,o2,o3,o4] ((Array.replicate 5 false).setIfInBounds 0 true) 2=true)(cr2:(Region.ready .any #[o0,o1,o2,o3,o4] ((Array.replicate 5 false).setIfInBounds 0 true)).contains 2=true)
  (c1:Region.ready .any #[o0,o1,o2,o3,o4] (((Array.replicate 5 false).setIfInBounds 0 true).setIfInBounds 2 true)=[1])
  (c3:Region.ready .any #[o0,o1,o2,o3,o4] ((((Array.replicate 5 false).setIfInBounds 0 true).setIfInBounds 2 true).setIfInBounds 1 true)=[3])
  (c4:Region.ready .any #[o0,o1,o2,o3,o4] (((((Array.replicate 5 false).setIfInBounds 0 true).setIfInBounds 2 true).setIfInBounds 1 true).setIfInBounds 3 true)=[4])
  (c5:Region.ready .any #[o0,o1,o2,o3,o4] ((((((Array.replicate 5 false).setIfInBounds 0 true).setIfInBounds 2 true).setIfInBounds 1 true).setIfInBounds 3 true).setIfInBounds 4 true)=[])
  {T1 T2:TypeId}{x1 x2 y1 y2 z1 z2:Operand}(h0:o0.op=.load T1 x1)(h2:o2.op=.load T2 x2)(h3:o3.op=.store T1 y1 z1)(h4:o4.op=.store T2 y2 z2)
  (n0:o0.guard=none)(n1:o1.guard=none)(n2:o2.guard=none)(n3:o3.guard=none)(n4:o4.guard=none)(k3:o3.dst=none)(k4:o4.dst=none)
  (g1 g2 g3 g4:Nat){t1 t2 t3 t4:TypeId}(vs us old3 old4:List Value)(W1:Zi w g1 t1 vs.toArray)(W2:Zi w g2 t2 us.toArray)(W3:Zi w g3 t3 old3.toArray)(W4:Zi w g4 t4 old4.toArray)
  (f:FuncId)(args:Array Value)(R:List Value→Prop)
  (hrun:∀ x,(execOp ((a.put o0.dst (.agg vs.toArray)).put o2.dst (.agg us.toArray)).eval o1).run P x=.ok (.enter f args) x)
  (hc:Calls P f args w.drew fun e w''=>∃ vs':List Value,e=η (.agg vs'.toArray)∧R vs'∧Below w.drew.heap.size w.drew w'')
  (hl3:∀ vs',R vs'→vs'.length=old3.length)(hl4:us.length=old4.length)(ho1:∀ vs',R vs'→∀ v ∈ vs',v.oneCell'=true)(ho2:∀ v ∈ us,v.oneCell'=true)
  (d13:g1≠g3)(d14:g1≠g4)(d23:g2≠g3)(d24:g2≠g4)(d34:g3≠g4)(hvl:vs.length=old3.length)
  (hu1:(P.underlying T1).map TypeDesc.isRow=some true)(hi1:(P.info? T1).map (·.size)=some vs.length)(hu2:(P.underlying T2).map TypeDesc.isRow=some true)(hi2:(P.info? T2).map (·.size)=some us.length)
  (e1:a.eval x1=Ω (some ⟨g1,0,none⟩))(e2:(a.put o0.dst (.agg vs.toArray)).eval x2=Ω (some ⟨g2,0,none⟩))
  (e3:∀ v,(((a.put o0.dst (.agg vs.toArray)).put o2.dst (.agg us.toArray)).put o1.dst v).eval y1=Ω (some ⟨g3,0,none⟩))(e4:∀ v,(((a.put o0.dst (.agg vs.toArray)).put o2.dst (.agg us.toArray)).put o1.dst v).eval z1=v)
  (e5:∀ v,(((a.put o0.dst (.agg vs.toArray)).put o2.dst (.agg us.toArray)).put o1.dst v).eval y2=Ω (some ⟨g4,0,none⟩))(e6:∀ v,(((a.put o0.dst (.agg vs.toArray)).put o2.dst (.agg us.toArray)).put o1.dst v).eval z2=.agg us.toArray)
  (h:∀ vs' w',R vs'→Ret2 w w' g3 g4 t3 t4 vs' us→Q .normal (((a.put o0.dst (.agg vs.toArray)).put o2.dst (.agg us.toArray)).put o1.dst (.agg vs'.toArray)) w'):(Code.region id #[o0,o1,o2,o3,o4] true).wp P Q a w:=by
 obtain⟨d1,hu1,hr1⟩:=Option.map_eq_some_iff.1 hu1;obtain⟨d2,hu2,hr2⟩:=Option.map_eq_some_iff.1 hu2;refine wp_region_noPanic (wp_region_held_drew (S:=fun x=>Zi x g1 t1 vs.toArray∧Zi x g2 t2 us.toArray) hm ⟨W1.drew,W2.drew⟩ fun hS=>?_);have rg:∀{x:World}{g:Nat}{t:TypeId}{l:List Value},Zi x g t l.toArray→x.rangeAt g 0 l:=fun{x g t l} hx=>Zi.range (a:=[]) (b:=l) (c:=[]) (by simpa using hx)
 refine wpAnyH_take (i:=0) (oi:=o0) (v:=.agg vs.toArray) rfl cs cf0 cr0 (fun _ _ _ h=>h) (yieldsIf_load_mid (Uk n0) T1 x1 h0 g1 0 e1 vs d1 (fun x hx=>rg hx.1) hu1 hr1 hi1) hS ?_;refine wpAnyH_take (i:=2) (oi:=o2) (v:=.agg us.toArray) rfl cs cf2 cr2 (fun _ _ _ h=>h) (yieldsIf_load_mid (Uk n2) T2 x2 h2 g2 0 e2 us d2 (fun x hx=>rg hx.2) hu2 hr2 hi2) hS ?_;refine wpAnyH_ready (rs:=[1]) c1 (by simp) (AllReadyH.cons (o:=o1) rfl (fun K hK=>?_) AllReadyH.nil);rw[if_pos (Uk n1)];unfold Oper.wp;rw[hrun,Oper.upon_enter];refine hc.mono fun e w1 hh=>?_
 obtain⟨vs',rfl,hR,hB⟩:=hh;have kB:=Zy.of_below (S:=fun _=>False) hB;have V1:=kB.whole W1.drew not_false;have V2:=kB.whole W2.drew not_false;have V3:=kB.whole W3.drew not_false;have V4:=kB.whole W4.drew not_false;refine hK.out _ _ ⟨V1,V2⟩ fun hS1=>?_
 have th:∀{x:World}{g:Nat}{t:TypeId}{l:List Value},Zi x g t l.toArray→x.there g 0 l.length:=fun{x g t l} hx=>Zi.there (a:=[]) (b:=l) (c:=[]) (by simpa using hx)
 have p3:Zi (w1.setCells g3 0 vs') g3 t3 vs'.toArray:=by
  have e:=Zi.setCells (g:=g3) (t:=t3) [] vs' old3 [] w1 (hl3 _ hR) (by simpa using V3);simpa using e
 have k3':=Zy.setCells (S:=fun k=>k=g3) (g:=g3) rfl vs' 0 (Zy.refl _ w1);have q4:Zi (w1.setCells g3 0 vs') g4 t4 old4.toArray:=k3'.whole V4 (Ne.symm d34)
 have p4:Zi ((w1.setCells g3 0 vs').setCells g4 0 us) g4 t4 us.toArray:=by
  have e:=Zi.setCells (g:=g4) (t:=t4) [] us old4 [] (w1.setCells g3 0 vs') hl4 (by simpa using q4);simpa using e
 have k4':=Zy.setCells (S:=fun k=>k=g4) (g:=g4) rfl us 0 (Zy.refl _ (w1.setCells g3 0 vs'));refine wpAnyH_ready (rs:=[3]) c3 (by simp) (AllReadyH.cons (o:=o3) rfl (fun K hK=>?_) AllReadyH.nil);rw[if_pos (Uk n3)];refine wp_store_mid T1 y1 z1 h3 g3 0 vs'.toArray (e3 _) (e4 _) (by rw[List.size_toArray,hl3 _ hR];exact th V3) (by rw[List.size_toArray,hl3 _ hR,←hvl];exact hi1) (all_oneCell_toArray (ho1 _ hR)) ?_;rw[k3];refine hK.out _ _ ⟨k3'.whole V1 d13,k3'.whole V2 d23⟩ fun hS3=>?_
 refine wpAnyH_ready (rs:=[4]) c4 (by simp) (AllReadyH.cons (o:=o4) rfl (fun K hK=>?_) AllReadyH.nil);rw[if_pos (Uk n4)];refine wp_store_mid T2 y2 z2 h4 g4 0 us.toArray (e5 _) (e6 _) (by rw[List.size_toArray,hl4];exact th q4) (by simpa using hi2) (all_oneCell_toArray ho2) ?_;rw[k4];refine hK.out _ _ ⟨k4'.whole (k3'.whole V1 d13) d14,k4'.whole (k3'.whole V2 d23) d24⟩ fun hS4=>?_
 refine wpAnyH_done c5 ?_ _;refine h _ _ hR ⟨k4'.whole p3 d34,p4,?_⟩;exact(Zy.drew (Zy.refl _ w)).trans ((kB.mono fun k e=>e.elim).trans ((k3'.mono fun k e=>.inl e).trans (k4'.mono fun k e=>.inr e)))
end Go.Proofs.YtbdecchpleiepaaGreat
