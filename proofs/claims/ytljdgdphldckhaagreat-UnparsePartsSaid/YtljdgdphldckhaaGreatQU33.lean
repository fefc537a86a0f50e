/-
  No conditions but those that each theorem names.
-/
import Derived.Test.YtljdgdphldckhaaGreatQU17
set_option maxRecDepth 20000
set_option maxHeartbeats 12800000
namespace Go.Proofs.YtljdgdphldckhaaGreat
open Go.ChangeShapes Go.WideShapes Go.ChangeAt Go.RowKit
set_option linter.unusedVariables false
set_option linter.unusedSimpArgs false
theorem qSigned(w:World)(r K:Nat)(L:List TokV)(n a d:Nat)(hn:n=L.length)(h:Zai w r K L)(ha:a<L.length) :
  Calls Tryz.prog 104 #[qA r K n a d] w fun e w'=>e=.returned (.tuple #[qA r K n (Zdv L a) d,.int .i64 (Zix L a),Zq (Zbd L a)])∧Below w.heap.size w w':=by
 have T0:=Hh (Tri.start w 80 #[.slice (some ⟨r,0,none⟩) n K,.int .i64 (a:Int),.int .i64 (d:Int)] 80 #[.slice none 0 0,.int .i64 0,.int .i64 0] 29 #[.int .i64 0,.int .i64 0,.int .i64 0]);have hrow:∀ x,Below w.heap.size w x→Zai x r K L:=fun x hb=>h.below hb
 have HR:=Hh hrow;have hi:=qIs _ r K L n a d Zmd hn (hrow _ T0.out.below) ha;have hOn:=fun w h=>qOn w r K L n a d hn h ha
 have hIn:=fun w h=>qInt w r K L n a d hn h ha
 have hIn2:=fun w h=>qInt w r K L n (onA L a) d hn h (h.ends.on ha)
 have hnum:=h.ends.num (onA L a);clear hn h ha hrow;unfold Zdv Zix Zbd;unfold Zmd at hi ⊢;unfold qA at hi hOn hIn hIn2 ⊢;cases hb:isT (Zv L a) ⟨#[45]⟩
 ·rw[hb]at hi
  rw[if_neg (by decide),if_neg (by decide),if_neg (by decide)];generalize We L a 2=f at *;generalize Zjb L a=m at *;generalize Vs L a 2=b at *;have HI:=Hh hIn;clear hb hOn hIn hIn2;obtain⟨f1,f2,f3⟩:=f;go_enter Tryz.func104,Tryz.ntmps104;go_wp2_with(first
 |(go_at_call 99;refine hi.mono ?_;rintro e w2 ⟨rfl,b2⟩;have T2:=Hh (T0.out.next b2);obtain⟨c0,c1,c2,y0,y1,y2⟩:=Zz T2.out.k0;clear b2)
 |(go_at_call 102;refine(HI.out _ (HR.out _ T2.out.below)).mono ?_;rintro e w3 ⟨rfl,b3⟩;have T3:=Hh (T2.out.next b3);obtain⟨d0,d1,d2,e0,e1,e2⟩:=Zz T3.out.k1;obtain⟨g0,g1,g2,z0,z1,z2⟩:=Zz T3.out.k2;have hz:=T3.out.k2.inside;clear b3;simp only[Zq]))
  obtain⟨hS1,hS2,hB⟩:=Zfx T3.out (.slice (some ⟨r,0,none⟩) n K) (.int .i64 (b:Int)) (.int .i64 (d:Int)) (.int .i64 f1) (.int .i64 (f2:Int)) (.int .i64 (f3:Int));have hF:=Zz hS1;have hG:=Zz hS2;refine bodyPost_ret (v:=.tuple #[qA r K n b d,.int .i64 m,Zq (f1,f2,f3)]) (by simp[results,Tryz.results104,go_sem,hF,hG,Zq,qA]) rfl ⟨rfl,hB⟩
 ·rw[hb]at hi
  rw[if_pos rfl,if_pos rfl,if_pos rfl];clear hb hIn;generalize onA L a=b at *;have hk:Vs L b 2=if(Zv L b).k=2 then onA L b else b:=rfl
  have hv:Zjb L b=if(Zv L b).k=2 then(Zv L b).n else 0:=rfl
  have hf:We L b 2=if(Zv L b).k=2 then okF else wrF (Zv L b):=rfl
  rw[hf];by_cases h2:(Zv L b).k=2
  · rw[if_pos h2]at hk hv hf ⊢
    rw[if_pos h2,if_pos h2];rw[hk,hv,hf]at hIn2;clear hk hv hf h2;generalize(Zv L b).n=m at *;generalize onA L b=b2 at *;obtain⟨m0,m9⟩:=hnum;have HI:=Hh hIn2;have HO:=Hh hOn;clear hOn hIn2;go_enter Tryz.func104,Tryz.ntmps104;go_wp2_with(first
 |(go_at_call 99;refine hi.mono ?_;rintro e w2 ⟨rfl,b2⟩;have T2:=Hh (T0.out.next b2);obtain⟨c0,c1,c2,y0,y1,y2⟩:=Zz T2.out.k0;clear b2)
 |(go_at_call 100;refine(HO.out _ (HR.out _ T2.out.below)).mono ?_;rintro e w3 ⟨rfl,b3⟩;have T3:=Hh (T2.out.next b3);clear b3)
 |(go_at_call 102;refine(HI.out _ (HR.out _ T3.out.below)).mono ?_;rintro e w4 ⟨rfl,b4⟩;have T4:=Hh (T3.out.next b4);obtain⟨d0,d1,d2,e0,e1,e2⟩:=Zz T4.out.k1;obtain⟨g0,g1,g2,z0,z1,z2⟩:=Zz T4.out.k2;have hz:=T4.out.k2.inside;have hz1:=T4.out.k1.inside;have hz0:=T4.out.k0.inside;clear b4;simp only[Zq,okF]))
    go_region
    all_goals
     go_wp2
     obtain⟨hS1,hS2,hB⟩:=Zfx T4.out (.slice (some ⟨r,0,none⟩) n K) (.int .i64 (b2:Int)) (.int .i64 (d:Int)) (.int .i64 0) (.int .i64 0) (.int .i64 0);have hF:=Zz (((hS1.alloc (.cells #[.slice (some ⟨r,0,none⟩) n K,.int .i64 (b2:Int),.int .i64 (d:Int)] 80)).alloc (.cells #[.int .i64 0,.int .i64 0,.int .i64 0] 29)).drew);have hG:=Zz (((hS2.alloc (.cells #[.slice (some ⟨r,0,none⟩) n K,.int .i64 (b2:Int),.int .i64 (d:Int)] 80)).alloc (.cells #[.int .i64 0,.int .i64 0,.int .i64 0] 29)).drew);refine bodyPost_ret (v:=.tuple #[qA r K n b2 d,.int .i64 (-m),Zq okF]) (by simp[results,Tryz.results104,go_sem,hF,hG,Zq,okF,qA]) rfl ⟨rfl,?_⟩;exact Wg ((hB.alloc hB.size _).alloc (by have:=hB.size;simp at this ⊢;omega) _)
  · rw[if_neg h2]at hk hv hf ⊢
    rw[if_neg h2,if_neg h2];rw[hk,hv,hf]at hIn2;have hne:=Zfm (Zv L b);clear hk hv hf h2;generalize wrF (Zv L b)=f at *;obtain⟨f1,f2,f3⟩:=f;have q0:(f1 != 0)=true:=by rw[bne_iff_ne];exact hne
    have HI:=Hh hIn2;have HO:=Hh hOn;clear hOn hIn2 hnum hne;go_enter Tryz.func104,Tryz.ntmps104;go_wp2_with(first
 |(go_at_call 99;refine hi.mono ?_;rintro e w2 ⟨rfl,b2⟩;have T2:=Hh (T0.out.next b2);obtain⟨c0,c1,c2,y0,y1,y2⟩:=Zz T2.out.k0;clear b2)
 |(go_at_call 100;refine(HO.out _ (HR.out _ T2.out.below)).mono ?_;rintro e w3 ⟨rfl,b3⟩;have T3:=Hh (T2.out.next b3);clear b3)
 |(go_at_call 102;refine(HI.out _ (HR.out _ T3.out.below)).mono ?_;rintro e w4 ⟨rfl,b4⟩;have T4:=Hh (T3.out.next b4);obtain⟨c0,c1,c2,y0,y1,y2⟩:=Zz T4.out.k0;obtain⟨d0,d1,d2,e0,e1,e2⟩:=Zz T4.out.k1;obtain⟨g0,g1,g2,z0,z1,z2⟩:=Zz T4.out.k2;have hz:=T4.out.k2.inside;have hz1:=T4.out.k1.inside;have hz0:=T4.out.k0.inside;clear b4;simp only[Zq]))
    go_region
    all_goals
     go_wp2
     obtain⟨hS1,hS2,hB⟩:=Zfx T4.out (.slice (some ⟨r,0,none⟩) n K) (.int .i64 (a:Int)) (.int .i64 (d:Int)) (.int .i64 f1) (.int .i64 (f2:Int)) (.int .i64 (f3:Int));have hF:=Zz (((hS1.alloc (.cells #[.slice (some ⟨r,0,none⟩) n K,.int .i64 (b:Int),.int .i64 (d:Int)] 80)).alloc (.cells #[.int .i64 f1,.int .i64 (f2:Int),.int .i64 (f3:Int)] 29)).drew);have hG:=Zz (((hS2.alloc (.cells #[.slice (some ⟨r,0,none⟩) n K,.int .i64 (b:Int),.int .i64 (d:Int)] 80)).alloc (.cells #[.int .i64 f1,.int .i64 (f2:Int),.int .i64 (f3:Int)] 29)).drew);refine bodyPost_ret (v:=.tuple #[qA r K n a d,.int .i64 0,Zq (f1,f2,f3)]) (by simp[results,Tryz.results104,go_sem,hF,hG,Zq,okF,qA]) rfl ⟨rfl,?_⟩;exact Wg ((hB.alloc hB.size _).alloc (by have:=hB.size;simp at this ⊢;omega) _)
theorem Tri.set2{w x:World}{t u v:TypeId}{cs ds es:Array Value}(h:Tri w t cs u ds v es x)(y:Value):Tri w t (cs.setIfInBounds 2 y) u ds v es (x.setCell ⟨w.heap.size,2,none⟩ y):=
 ⟨h.k0.write 2 y,h.k1.aside (by simp) y,h.k2.aside (by simp) y,h.below.setCell (Nat.le_refl _) y⟩
theorem duo_set{w y:World}{t u:TypeId}{a b c d e f:Value}(h:Two w t #[a,b,c] u #[d,e,f] y)(x0 x1 x2 y0 y1 y2:Value) :
  Zd ((((((y.setCell ⟨w.heap.size,0,none⟩ x0).setCell ⟨w.heap.size,1,none⟩ x1).setCell ⟨w.heap.size,2,none⟩ x2).setCell ⟨w.heap.size+1,0,none⟩ y0).setCell ⟨w.heap.size+1,1,none⟩ y1).setCell ⟨w.heap.size+1,2,none⟩ y2) w.heap.size t #[x0,x1,x2] ∧
  Zd ((((((y.setCell ⟨w.heap.size,0,none⟩ x0).setCell ⟨w.heap.size,1,none⟩ x1).setCell ⟨w.heap.size,2,none⟩ x2).setCell ⟨w.heap.size+1,0,none⟩ y0).setCell ⟨w.heap.size+1,1,none⟩ y1).setCell ⟨w.heap.size+1,2,none⟩ y2) (w.heap.size+1) u #[y0,y1,y2] ∧
  Below w.heap.size w ((((((y.setCell ⟨w.heap.size,0,none⟩ x0).setCell ⟨w.heap.size,1,none⟩ x1).setCell ⟨w.heap.size,2,none⟩ x2).setCell ⟨w.heap.size+1,0,none⟩ y0).setCell ⟨w.heap.size+1,1,none⟩ y1).setCell ⟨w.heap.size+1,2,none⟩ y2):=by
 have n1:w.heap.size≠w.heap.size+1:=by omega
 have n2:w.heap.size+1≠w.heap.size:=by omega
 exact⟨(((Zd.set3 h.k0 x0 x1 x2).aside n1 y0).aside n1 y1).aside n1 y2,Zd.set3 (((h.k1.aside n2 x0).aside n2 x1).aside n2 x2) y0 y1 y2,
  Below.set3 (Below.set3 h.below (by omega) _ _ _) (by omega) _ _ _⟩
theorem qDown(w:World)(r K:Nat)(L:List TokV)(n a d:Nat)(hn:n=L.length)(h:Zai w r K L)(ha:a<L.length)(hd:d≤8) :
  Calls Tryz.prog 230 #[qA r K n a d] w fun e w'=>e=.returned (.tuple #[qA r K n a (Zby d),Zq (Uu L a d)])∧Below w.heap.size w w':=by
 have T0:=Hh (Tri.start w 80 #[.slice (some ⟨r,0,none⟩) n K,.int .i64 (a:Int),.int .i64 (d:Int)] 80 #[.slice none 0 0,.int .i64 0,.int .i64 0] 29 #[.int .i64 0,.int .i64 0,.int .i64 0]);have hi:=Znt _ r K L n a d hn (h.below T0.out.below) ha;clear hn h ha;unfold Zby Uu;unfold qA at hi ⊢;generalize Zv L a=v at *;by_cases h8:d=8
 ·subst h8
  rw[if_pos rfl,if_pos rfl];clear hd;go_enter Tryz.func230,Tryz.ntmps230;go_wp2_with(go_at_call 46;refine hi.mono ?_;rintro e w4 ⟨rfl,b2⟩;have T4:=Hh (T0.out.next b2);obtain⟨c0,c1,c2,y0,y1,y2⟩:=Zz T4.out.k0;obtain⟨d0,d1,d2,e0,e1,e2⟩:=Zz T4.out.k1;obtain⟨g0,g1,g2,z0,z1,z2⟩:=Zz T4.out.k2;have hz:=T4.out.k2.inside;have hz1:=T4.out.k1.inside;have hz0:=T4.out.k0.inside;clear b2;simp only[Vu])
  go_region
  all_goals
   go_wp2
   obtain⟨hS1,hS2,hB⟩:=Zfx T4.out (.slice (some ⟨r,0,none⟩) n K) (.int .i64 (a:Int)) (.int .i64 8) (.int .i64 8) (.int .i64 (v.line:Int)) (.int .i64 (v.col:Int));have hF:=Zz ((hS1.alloc (.cells #[.int .i64 v.k,.string v.t,.int .i64 v.n,.int .i64 (v.line:Int),.int .i64 (v.col:Int)] 85)).drew);have hG:=Zz ((hS2.alloc (.cells #[.int .i64 v.k,.string v.t,.int .i64 v.n,.int .i64 (v.line:Int),.int .i64 (v.col:Int)] 85)).drew);refine bodyPost_ret (v:=.tuple #[qA r K n a 8,Zq (8,v.line,v.col)]) (by simp[results,Tryz.results230,go_sem,hF,hG,Zq,qA]) rfl ⟨rfl,?_⟩;exact Wg (hB.alloc hB.size _)
 ·rw[if_neg h8,if_neg h8]
  have l0:(d:Int)≤7:=by omega
  have e1:((d+1:Nat):Int)=(d:Int)+1:=by omega
  have E:=Hh e1;clear h8 hd e1;go_enter Tryz.func230,Tryz.ntmps230;go_wp2_with(go_at_call 46;refine hi.mono ?_;rintro e w4 ⟨rfl,b2⟩;have T4:=Hh (T0.out.next b2);obtain⟨c0,c1,c2,y0,y1,y2⟩:=Zz T4.out.k0;obtain⟨d0,d1,d2,e0,e1,e2⟩:=Zz T4.out.k1;obtain⟨g0,g1,g2,z0,z1,z2⟩:=Zz T4.out.k2;have hz:=T4.out.k2.inside;have hz1:=T4.out.k1.inside;have hz0:=T4.out.k0.inside;clear b2;simp only[Vu])
  obtain⟨hS1,hS2,hB⟩:=Zfx (T4.out.set2 (.int .i64 ((d:Int)+1))) (.slice (some ⟨r,0,none⟩) n K) (.int .i64 (a:Int)) (.int .i64 ((d:Int)+1)) (.int .i64 0) (.int .i64 0) (.int .i64 0);have hF:=Zz (hS1.alloc (.cells #[.int .i64 v.k,.string v.t,.int .i64 v.n,.int .i64 (v.line:Int),.int .i64 (v.col:Int)] 85));have hG:=Zz (hS2.alloc (.cells #[.int .i64 v.k,.string v.t,.int .i64 v.n,.int .i64 (v.line:Int),.int .i64 (v.col:Int)] 85));refine bodyPost_ret (v:=.tuple #[qA r K n a (d+1),Zq okF]) (by simp[results,Tryz.results230,go_sem,hF,hG,Zq,okF,qA,E.out]) rfl ⟨rfl,?_⟩;exact hB.alloc hB.size _
def QNewPost(L:List TokV)(w:World)(e:Ending)(w':World):Prop:=
 ∃ r K,e=.returned (.tuple #[qA r K L.length 0 0,Zq okF])∧Zai w' r K L∧w.heap.size≤r∧Below w.heap.size w w'
theorem qNew_err(s:ByteArray)(w:World)(hs:s.size≤1099511627776)(E:Int)(l c:Nat)(hv:Zcj s=([],E,l,c)) :
  Calls Tryz.prog 98 #[.string s] w fun e w'=>∃ A k,e=.returned (.tuple #[.agg #[.slice A 0 k,.int .i64 0,.int .i64 0],Zq (E,l,c)])∧Below w.heap.size w w':=by
 have HV:=Hh hv;have T0:=Hh (Two.start w 80 #[.slice none 0 0,.int .i64 0,.int .i64 0] 29 #[.int .i64 0,.int .i64 0,.int .i64 0]);clear hv;go_enter Tryz.func98,Tryz.ntmps98;go_wp2_with(go_at_call 149;refine(rtScan s _ hs).mono ?_;rintro e w1 ⟨v,rfl,o1,b1⟩;rw[HV.out]at o1 ⊢;obtain⟨A1,c1,rfl,hl1,_⟩:=own5_reads o1;have T1:=Hh (T0.out.next b1);obtain⟨d0,d1,d2,e0,e1,e2⟩:=Zz T1.out.k0;obtain⟨g0,g1,g2,z0,z1,z2⟩:=Zz T1.out.k1;have hz:=T1.out.k1.inside;have hz0:=T1.out.k0.inside;clear o1 b1;simp only[Zq])
 go_region
 all_goals
  go_wp2
  obtain⟨hS1,hS2,hB⟩:=duo_set T1.out (.slice A1 0 c1) (.int .i64 0) (.int .i64 0) (.int .i64 E) (.int .i64 (l:Int)) (.int .i64 (c:Int));have hF:=Zz ((hS1.alloc (.cells #[.int .i64 E,.int .i64 (l:Int),.int .i64 (c:Int)] 29)).drew);have hG:=Zz ((hS2.alloc (.cells #[.int .i64 E,.int .i64 (l:Int),.int .i64 (c:Int)] 29)).drew);refine bodyPost_ret (v:=.tuple #[.agg #[.slice A1 0 c1,.int .i64 0,.int .i64 0],Zq (E,l,c)]) (by simp[results,Tryz.results98,go_sem,hF,hG,Zq]) rfl ⟨_,_,rfl,?_⟩;exact Wg (hB.alloc hB.size _)
theorem qNew_ok(s:ByteArray)(w:World)(hs:s.size≤1099511627776)(L:List TokV)(hv:Zcj s=(L,0,0,0))(hL:Zmn L) :
  Calls Tryz.prog 98 #[.string s] w (QNewPost L w):=by
 have HV:=Hh hv;have T0:=Hh (Two.start w 80 #[.slice none 0 0,.int .i64 0,.int .i64 0] 29 #[.int .i64 0,.int .i64 0,.int .i64 0]);have hpos:=hL.pos;have HL:=Hh hL;clear hv hL;go_enter Tryz.func98,Tryz.ntmps98;go_wp2_with(go_at_call 149;refine(rtScan s _ hs).mono ?_;rintro e w1 ⟨v,rfl,o1,b1⟩;rw[HV.out]at o1 ⊢;obtain⟨g,K,rfl,r1,r2,r3,r4,r5⟩:=own5_all o1 hpos;have R1:=Hh (Zai.mk r5 r2 HL.out r3 r4);have T1:=Hh (T0.out.next b1);obtain⟨d0,d1,d2,e0,e1,e2⟩:=Zz T1.out.k0;obtain⟨g0,g1,g2,z0,z1,z2⟩:=Zz T1.out.k1;have hz:=T1.out.k1.inside;have hz0:=T1.out.k0.inside;clear o1 b1 r5;simp only[Zq])
 go_region
 all_goals
  go_wp2
  obtain⟨hS1,hS2,hB⟩:=duo_set T1.out (.slice (some ⟨g,0,none⟩) L.length K) (.int .i64 0) (.int .i64 0) (.int .i64 0) (.int .i64 0) (.int .i64 0);have hF:=Zz ((hS1.alloc (.cells #[.int .i64 0,.int .i64 0,.int .i64 0] 29)).drew);have hG:=Zz ((hS2.alloc (.cells #[.int .i64 0,.int .i64 0,.int .i64 0] 29)).drew);have hgs:w.heap.size+2≤g:=by simpa using r1
  refine bodyPost_ret (v:=.tuple #[qA g K L.length 0 0,Zq okF]) (by simp[results,Tryz.results98,go_sem,hF,hG,Zq,okF,qA]) rfl ⟨g,K,rfl,?_,by omega,?_⟩
  ·exact R1.out.keeps (S:=fun k=>k<w.heap.size+2) ((((Zeu _ _ _ _ _).mono (by intro k hk;omega)).trans ((Zeu _ _ _ _ _).mono (by intro k hk;omega))).alloc _).drew (by omega)
  ·exact Wg (hB.alloc hB.size _)
end Go.Proofs.YtljdgdphldckhaaGreat
