/- Parts of the proof. No conditions but those that each names. -/
import Derived.RegionTactic
import Derived.Test.YtbdecchpleiepaaGreatQL34
set_option maxRecDepth 20000
set_option maxHeartbeats 99000000
set_option linter.unusedVariables false
set_option linter.unusedSimpArgs false
namespace Go.Proofs.YtbdecchpleiepaaGreat
open Go.Value renaming int→I,slice→Λ,pointer→Ω,string→Ψ,oneCell'→Γ
open Go.IntKind renaming i64→J
open _root_.Go.Proofs.Tryz renaming prog→Φ
open And renaming intro→ζ
open Go.Ending renaming returned→η
open Go.ChangeShapes Go.WideShapes Go.ChangeAt Go.RowKit
theorem Zkl(s:ByteArray)(h64:s.size≤65536):(∃ E l c,Zbv s=([],E,l,c)∧E≠0)∨(∃ L,Zbv s=(L,0,0,0)∧Zml L∧L.length≤s.size+1):=by
 obtain⟨L,E,p,hs⟩:∃ L E p,Jp s 0 []=(L,E,p):=⟨_,_,_,rfl⟩
 have hf:=Zji s s.size 0 [] L E p (by omega) (by omega) (Bd.zero s) hs;rw[Zgi s h64 hs];by_cases hE:E=0
 ·obtain⟨L2,h2,h3⟩:=hf.1 hE
  have e:L=L2:=h2;subst e;exact .inr ⟨L,by rw[if_pos hE],h3.sh.ends,by have:=h3.len;omega⟩
 ·exact .inl ⟨E,_,_,by rw[if_neg hE],hE⟩
def Wh(s:ByteArray):List TokV:=(Zbv s).1
def Je(s:ByteArray):St:=if(Zbv s).2.1=0 then .ok 0 0 else .bad (Zbv s).2
def Zfi(s:ByteArray):Nat:=8*(Wh s).length+20
def Zng(w:World)(s:ByteArray)(e:Ending)(w':World):Prop:=
 ∃ q c r K,e=η (Ω (some ⟨q,0,none⟩))∧PAt w' q c r K (Wh s) (Je s)∧w.heap.size≤q∧w.heap.size≤c∧Below w.heap.size w w'
theorem xbegin(s:ByteArray)(w:World)(hs:s.size≤65536):Calls Φ 35 #[Ψ s] w (Zng w s):=by
 have hs2:s.size≤140737488355328:=by omega
 rcases Zkl s hs with⟨E,l,c,hv,hE⟩ | ⟨L,hv,hL,_⟩
 ·have hn:=cNew_err s w hs2 E l c hv hE
  have HE:=Hh (ζ hE hv);clear hs hs2 hv hE;unfold Zr at hn;go_enter Tryz.func35,Tryz.ntmps35;go_wp2_with(go_at_call 54;refine hn.mono ?_;rintro e w1 ⟨rfl,b1⟩;have B1:=Hh b1;clear b1)
  go_ret;have e1:Je s=.bad (E,l,c):=by unfold Je;rw[HE.out.2];exact if_neg HE.out.1
  have W1:=Zi.made (w1.alloc (.cells #[I J E,I J (l:Int),I J (c:Int)] 29)) 118 #[Ω none,I J E,I J (l:Int),I J (c:Int)];rw[World.size_alloc]at W1;have hb:=B1.out.size;refine⟨w1.heap.size+1,w1.heap.size+1,w1.heap.size+1,0,rfl,?_,by omega,by omega,(B1.out.alloc hb _).alloc (by simp;omega) _⟩;rw[e1];exact⟨W1,fun a d e=>(by cases e),fun F e=>(by cases e;exact HE.out.1),by simp,by simp⟩
 ·have hn:=cNew_ok s w hs2 L hv hL
  have HE:=Hh hv;clear hs hs2 hv hL;go_enter Tryz.func35,Tryz.ntmps35;go_wp2_with(go_at_call 54;refine hn.mono ?_;rintro e w1 ⟨p,r,K,rfl,hc,hp,hr,b1⟩;have B1:=Hh (ζ hc (ζ hp (ζ hr b1)));clear b1 hc hp hr;simp only[Zr,okF])
  go_ret;obtain⟨hc,hp,hr,b1⟩:=B1.out;have e1:Je s=.ok 0 0:=by unfold Je;rw[HE.out];exact if_pos rfl
  have e2:Wh s=L:=by unfold Wh;rw[HE.out]
  have nb:=Zh w1 (.cells #[I J 0,I J 0,I J 0] 29);have nb2:=Zh (w1.alloc (.cells #[I J 0,I J 0,I J 0] 29)) (.cells #[Ω (some ⟨p,0,none⟩),I J 0,I J 0,I J 0] 118);have W1:=Zi.made (w1.alloc (.cells #[I J 0,I J 0,I J 0] 29)) 118 #[Ω (some ⟨p,0,none⟩),I J 0,I J 0,I J 0];rw[World.size_alloc]at W1;have hb:=b1.size;have hi:=hc.whole.inside;have hri:=hc.rin;refine⟨w1.heap.size+1,p,r,K,rfl,?_,by omega,by omega,(b1.alloc hb _).alloc (by simp;omega) _⟩;rw[e1,e2];exact⟨W1,fun a d e=>(by cases e;exact⟨by omega,by omega,(hc.below nb).below nb2⟩),fun F e=>(by cases e),by simp;omega,by simp;omega⟩
theorem over_end(L:List TokV)(st:St)(h:(st.tok L).k=0):Xq L st=st:=by
 cases st with
 |ok a d=>exact if_pos h
 |bad F=>rfl
theorem over_not(L:List TokV)(st:St)(h:¬(st.tok L).k=0):Xq L st=Zid L st∧∃ F,Xq L st=.bad F∧F.1≠0:=by
 cases st with
 |ok a d=>exact⟨if_neg h,_,if_neg h,Zhb _⟩
 |bad F=>exact absurd rfl h
theorem Zcl:(Tryz.prog.underlying 29).map TypeDesc.isRow=some true:=by kernel_rfl
theorem Vb:(Tryz.prog.info? 29).map (·.size)=some 3:=by kernel_rfl
theorem Yp{P:Program}{fn:Func}{R:Ending→World→Prop}{a:Act}{w:World}(s1 T1 s2 T2:Nat)(t1 t2:TypeId)(g1 g2:Nat)(vs us:List Value)(hres:fn.results=#[.cell s1 T1,.cell s2 T2])(h1:Zi w g1 t1 vs.toArray)(h2:Zi w g2 t2 us.toArray)
  (hu1:(P.underlying T1).map TypeDesc.isRow=some true)(hi1:(P.info? T1).map (·.size)=some vs.length)(hu2:(P.underlying T2).map TypeDesc.isRow=some true)(hi2:(P.info? T2).map (·.size)=some us.length)
  (hp1:a.tmps.getD s1 undef=Ω (some ⟨g1,0,none⟩))(hp2:a.tmps.getD s2 undef=Ω (some ⟨g2,0,none⟩))(hd:a.defers=[])(hR:R (η (.tuple #[.agg vs.toArray,.agg us.toArray])) w):bodyPost P fn R .ret a w:=by
 obtain⟨d1,hu1,hr1⟩:=Option.map_eq_some_iff.1 hu1;obtain⟨d2,hu2,hr2⟩:=Option.map_eq_some_iff.1 hu2;refine bodyPost_ret (v:=.tuple #[.agg vs.toArray,.agg us.toArray]) ?_ hd hR;have hl1:=run_loadVar_mid (P:=P) w g1 0 T1 vs d1 (by have:=Zi.range (a:=[]) (b:=vs) (c:=[]) (by simpa using h1);exact this) hu1 hr1 hi1;have hl2:=run_loadVar_mid (P:=P) w g2 0 T2 us d2 (by have:=Zi.range (a:=[]) (b:=us) (c:=[]) (by simpa using h2);exact this) hu2 hr2 hi2;have hp1':a.tmps[s1]?.getD undef=Ω (some ⟨g1,0,none⟩):=by simpa using hp1
 have hp2':a.tmps[s2]?.getD undef=Ω (some ⟨g2,0,none⟩):=by simpa using hp2
 simp[results,hres,hp1',hp2',hl1,hl2,asAddr,Sem.run_bind,Sem.run_pure]
theorem put2{w:World}{g:Nat}{t:TypeId}{a b:Value}(h:Zi w g t [a,b].toArray)(x y:Value):Put w ((w.setCell ⟨g,0,none⟩ x).setCell ⟨g,1,none⟩ y) g t [x,y]:=
 ⟨by have e:=Zi.setCells (g:=g) (t:=t) [] [x,y] [a,b] [] w rfl (by simpa using h);have e2:Zi (w.setCells g 0 [x,y]) g t [x,y].toArray:=by simpa using e
     exact e2,Zy.setCells (S:=fun k=>k=g) (g:=g) rfl [x,y] 0 (Zy.refl _ w)⟩
theorem put3{w:World}{g:Nat}{t:TypeId}{a b c:Value}(h:Zi w g t [a,b,c].toArray)(x y z:Value):Put w (((w.setCell ⟨g,0,none⟩ x).setCell ⟨g,1,none⟩ y).setCell ⟨g,2,none⟩ z) g t [x,y,z]:=Zi.set3L (l:=[]) h x y z
theorem xfinF(w:World)(q c r K:Nat)(L:List TokV)(st:St)(va vb:Value)(ho:∀ v ∈ [va,vb],v.oneCell'=true)(h:PAt w q c r K L st) :
  Calls Φ 36 #[Ω (some ⟨q,0,none⟩),.agg [va,vb].toArray] w (Ue w q c r K L (Xq L st) (.tuple #[if(Xq L st).good=true then .agg [va,vb].toArray else .agg [Λ none 0 0,Λ none 0 0].toArray,Zr (Xb (Xq L st))])):=by
 have qin:=h.whole.inside;have cin:=h.cin;have rin:=h.rin;have n1:=Zh w (.cells [va,vb].toArray 26);have n2:=Zh (w.alloc (.cells [va,vb].toArray 26)) (.cells #[Λ none 0 0,Λ none 0 0] 26);have n3:=Zh ((w.alloc (.cells [va,vb].toArray 26)).alloc (.cells #[Λ none 0 0,Λ none 0 0] 26)) (.cells #[I J 0,I J 0,I J 0] 29);have M0:=Hh ((((Xw.start h).next n1).next n2).next n3);have X0:=Hh (((Zi.made w 26 [va,vb].toArray).alloc (.cells #[Λ none 0 0,Λ none 0 0] 26)).alloc (.cells #[I J 0,I J 0,I J 0] 29));have R0:=Hh (show Zi (((w.alloc (.cells [va,vb].toArray 26)).alloc (.cells #[Λ none 0 0,Λ none 0 0] 26)).alloc (.cells #[I J 0,I J 0,I J 0] 29)) (w.heap.size+1) 26 ([Λ none 0 0,Λ none 0 0]).toArray from by have e:=(Zi.made (w.alloc (.cells [va,vb].toArray 26)) 26 #[Λ none 0 0,Λ none 0 0]).alloc (.cells #[I J 0,I J 0,I J 0] 29);rw[World.size_alloc]at e;exact e);have F0:=Hh (show Zi (((w.alloc (.cells [va,vb].toArray 26)).alloc (.cells #[Λ none 0 0,Λ none 0 0] 26)).alloc (.cells #[I J 0,I J 0,I J 0] 29)) (w.heap.size+1+1) 29 ([I J 0,I J 0,I J 0]:List Value).toArray from by have e:=Zi.made ((w.alloc (.cells [va,vb].toArray 26)).alloc (.cells #[Λ none 0 0,Λ none 0 0] 26)) 29 #[I J 0,I J 0,I J 0];rw[World.size_alloc,World.size_alloc]at e;exact e);clear n1 n2 n3;have hcell:=M0.out.at_.cell;have hend:=over_end L st;have hnot:=over_not L st;have hwr:∀ w,PAt w q c r K L st→Calls Φ 57 #[Zdi c st] w fun e w'=>e=η (Zr (Zkk L st))∧Below w.heap.size w w':=fun w h=>xWrong w q c r K L st h
 have hwn:=wrong_note L st;have hpk:∀ w,PAt w q c r K L st→Calls Φ 55 #[Zdi c st] w fun e w'=>e=η (Wz (st.tok L))∧Below w.heap.size w w':=fun w h=>xPeek w q c r K L st h
 have hflt:=h.flt;generalize st.tok L=tv at *;unfold Wz at hpk;have hfd:=fun w=>Zfb tv.k tv.n (tv.line:Int) (tv.col:Int) tv.t w
 clear h;by_cases hk:tv.k=0
 ·rw[hend hk]
  have k0:(tv.k != 0)=false:=by rw[hk];rfl
  clear hend hnot hwn hwr hk;cases st with
  |ok a d=>
    show Calls _ _ _ _ (Ue w q c r K L (.ok a d) (.tuple #[.agg [va,vb].toArray,Zr okF]));clear hflt;go_enter Tryz.func36,Tryz.ntmps36;go_wp2_with(first
 |(go_at_call 55;refine(hpk _ M0.out.at_).mono ?_;rintro e w1 ⟨rfl,b1⟩
   have X1:=Hh (X0.out.below b1 X0.out.inside);have R1:=Hh (R0.out.below b1 R0.out.inside);have F1:=Hh (F0.out.below b1 F0.out.inside);have M1:=Hh (M0.out.next b1);have hcell:=M1.out.at_.cell;have q1:w1.cell? ⟨q,1,none⟩=some (I J 0):=M1.out.at_.whole.read 1;clear b1)
 |((with_reducible refine Zd 32 ?_);refine Zc 26 _ 26 w.heap.size _ X1.out Zck Va rfl rfl rfl ?_)
 |((with_reducible refine Zg 4 32 ?_);refine Za 26 _ _ 26 (w.heap.size+1) _ [va,vb] R1.out rfl Va ho rfl rfl rfl rfl rfl ?_
   intro w2 p2;have R2:=Hh p2.whole;have F2:=Hh (p2.keeps.whole F1.out (by omega));have M2:=Hh (M1.out.put p2 (by omega) qin cin rin);clear p2)
 |((with_reducible refine Zg 5 33 ?_);refine Za 29 _ _ 29 (w.heap.size+1+1) _ [I J 0,I J 0,I J 0] F2.out rfl Vb (by simp[Γ]) rfl rfl rfl rfl rfl ?_
   intro w3 p3;have F3:=Hh p3.whole;have R3:=Hh (p3.keeps.whole R2.out (by omega))
   have M3:=Hh (M2.out.put p3 (by omega) qin cin rin);clear p3))
    exact Yp 4 26 5 29 26 29 _ _ _ _ rfl R3.out F3.out Zck Va Zcl Vb rfl rfl rfl ⟨rfl,M3.out⟩
  |bad F=>
    show Calls _ _ _ _ (Ue w q c r K L (.bad F) (.tuple #[.agg [Λ none 0 0,Λ none 0 0].toArray,Zr F]));obtain⟨f0,f1,f2⟩:=F;have hf0:=hflt _ rfl;have z0:(f0 != 0)=true:=by rw[bne_iff_ne];exact hf0
    clear hflt hf0;go_enter Tryz.func36,Tryz.ntmps36;go_wp2_with(first
 |(go_at_call 55;refine(hpk _ M0.out.at_).mono ?_;rintro e w1 ⟨rfl,b1⟩
   have X1:=Hh (X0.out.below b1 X0.out.inside);have R1:=Hh (R0.out.below b1 R0.out.inside);have F1:=Hh (F0.out.below b1 F0.out.inside);have M1:=Hh (M0.out.next b1);have hcell:=M1.out.at_.cell;have q1:∀ o,(w1.alloc o).cell? ⟨q,1,none⟩=some (I J f0):=fun o=>(M1.out.at_.whole.alloc o).read 1
   have q2:∀ o,(w1.alloc o).cell? ⟨q,2,none⟩=some (I J (f1:Int)):=fun o=>(M1.out.at_.whole.alloc o).read 2
   have q3:∀ o,(w1.alloc o).cell? ⟨q,3,none⟩=some (I J (f2:Int)):=fun o=>(M1.out.at_.whole.alloc o).read 3
   have q0:w1.cell? ⟨q,1,none⟩=some (I J f0):=M1.out.at_.whole.read 1;have r0:∀ o,(w1.alloc o).cell? ⟨w.heap.size+1,0,none⟩=some (Λ none 0 0):=fun o=>(R1.out.alloc o).read 0
   have s0:∀ o,(w1.alloc o).frozen? ⟨w.heap.size+1,0,none⟩=false:=fun o=>(R1.out.alloc o).thawed 0
   have r1:∀ o,(w1.alloc o).cell? ⟨w.heap.size+1,1,none⟩=some (Λ none 0 0):=fun o=>(R1.out.alloc o).read 1
   have s1:∀ o,(w1.alloc o).frozen? ⟨w.heap.size+1,1,none⟩=false:=fun o=>(R1.out.alloc o).thawed 1
   have hn1:¬(w1.heap.size=w.heap.size+1):=by have:=R1.out.inside;omega
   have hn2:¬(w1.heap.size=w.heap.size+1+1):=by have:=F1.out.inside;omega
   have hn3:¬(w.heap.size+1=q):=by omega
   have hn4:¬(w.heap.size+1+1=q):=by omega
   have hn5:¬(w1.heap.size=q):=by have:=R1.out.inside;omega
   have hn6:w.heap.size+1+1<w1.heap.size:=F1.out.inside;have t0:∀ o,(w1.alloc o).cell? ⟨w.heap.size+1+1,0,none⟩=some (I J 0):=fun o=>(F1.out.alloc o).read 0
   have u0:∀ o,(w1.alloc o).frozen? ⟨w.heap.size+1+1,0,none⟩=false:=fun o=>(F1.out.alloc o).thawed 0
   have t1:∀ o,(w1.alloc o).cell? ⟨w.heap.size+1+1,1,none⟩=some (I J 0):=fun o=>(F1.out.alloc o).read 1
   have u1:∀ o,(w1.alloc o).frozen? ⟨w.heap.size+1+1,1,none⟩=false:=fun o=>(F1.out.alloc o).thawed 1
   have t2:∀ o,(w1.alloc o).cell? ⟨w.heap.size+1+1,2,none⟩=some (I J 0):=fun o=>(F1.out.alloc o).read 2
   have u2:∀ o,(w1.alloc o).frozen? ⟨w.heap.size+1+1,2,none⟩=false:=fun o=>(F1.out.alloc o).thawed 2
   clear b1))
    go_region
    go_wp2
    have nb:=Zh w1 (.cells #[Λ none 0 0,Λ none 0 0] 26);have p1:=put2 (R1.out.alloc (.cells #[Λ none 0 0,Λ none 0 0] 26)) (Λ none 0 0) (Λ none 0 0);have p2:=put3 (p1.keeps.whole (F1.out.alloc (.cells #[Λ none 0 0,Λ none 0 0] 26)) (by omega)) (I J f0) (I J (f1:Int)) (I J (f2:Int));have M9:=((((M1.out.next nb).put p1 (by omega) qin cin rin).put p2 (by omega) qin cin rin).drew)
    exact Yp 4 26 5 29 26 29 _ _ _ _ rfl (p2.keeps.whole p1.whole (by omega)).drew p2.whole.drew Zck Va Zcl Vb rfl rfl rfl ⟨rfl,M9⟩
 ·obtain⟨e1,F,e2,hf0⟩:=hnot hk
  have k0:(tv.k != 0)=true:=by rw[bne_iff_ne];exact hk
  have hnt:∀ w,PAt w q c r K L st→Calls Φ 56 #[Ω (some ⟨q,0,none⟩),Zr (Zkk L st)] w (Ue w q c r K L (.bad F) (.tuple #[])):=fun w h=>by have h1:=xNote w q c r K L st (Zkk L st) h;rw[hwn,←e1,e2]at h1;exact h1
  rw[e2];show Calls _ _ _ _ (Ue w q c r K L (.bad F) (.tuple #[.agg [Λ none 0 0,Λ none 0 0].toArray,Zr F]));generalize Zkk L st=wv at *;obtain⟨f0,f1,f2⟩:=F;have z0:(f0 != 0)=true:=by rw[bne_iff_ne];exact hf0
  clear hend hnot hwn hk e1 e2 hf0 hflt;go_enter Tryz.func36,Tryz.ntmps36;go_wp2_with(first
 |(go_at_call 55;refine(hpk _ M0.out.at_).mono ?_;rintro e w1 ⟨rfl,b1⟩
   have X1:=Hh (X0.out.below b1 X0.out.inside);have R1:=Hh (R0.out.below b1 R0.out.inside);have F1:=Hh (F0.out.below b1 F0.out.inside);have M1:=Hh (M0.out.next b1);have hcell:=M1.out.at_.cell;clear b1)
 |(go_at_call 57;refine(hwr _ M1.out.at_).mono ?_;rintro e w2 ⟨rfl,b2⟩
   have X2:=Hh (X1.out.below b2 X1.out.inside);have R2:=Hh (R1.out.below b2 R1.out.inside);have F2:=Hh (F1.out.below b2 F1.out.inside);have M2:=Hh (M1.out.next b2);clear b2)
 |(go_at_call 56;refine(hnt _ M2.out.at_).mono ?_;rintro e w3 ⟨rfl,m3⟩
   have X3:=Hh (m3.keeps.whole X2.out (by omega));have R3:=Hh (m3.keeps.whole R2.out (by omega));have F3:=Hh (m3.keeps.whole F2.out (by omega));have M3:=Hh (M2.out.then m3);have q1:∀ o,(w3.alloc o).cell? ⟨q,1,none⟩=some (I J f0):=fun o=>(M3.out.at_.whole.alloc o).read 1
   have q2:∀ o,(w3.alloc o).cell? ⟨q,2,none⟩=some (I J (f1:Int)):=fun o=>(M3.out.at_.whole.alloc o).read 2
   have q3:∀ o,(w3.alloc o).cell? ⟨q,3,none⟩=some (I J (f2:Int)):=fun o=>(M3.out.at_.whole.alloc o).read 3
   have q0:w3.cell? ⟨q,1,none⟩=some (I J f0):=M3.out.at_.whole.read 1;have r0:∀ o,(w3.alloc o).cell? ⟨w.heap.size+1,0,none⟩=some (Λ none 0 0):=fun o=>(R3.out.alloc o).read 0
   have s0:∀ o,(w3.alloc o).frozen? ⟨w.heap.size+1,0,none⟩=false:=fun o=>(R3.out.alloc o).thawed 0
   have r1:∀ o,(w3.alloc o).cell? ⟨w.heap.size+1,1,none⟩=some (Λ none 0 0):=fun o=>(R3.out.alloc o).read 1
   have s1:∀ o,(w3.alloc o).frozen? ⟨w.heap.size+1,1,none⟩=false:=fun o=>(R3.out.alloc o).thawed 1
   have hn1:¬(w3.heap.size=w.heap.size+1):=by have:=R3.out.inside;omega
   have hn2:¬(w3.heap.size=w.heap.size+1+1):=by have:=F3.out.inside;omega
   have hn3:¬(w.heap.size+1=q):=by omega
   have hn4:¬(w.heap.size+1+1=q):=by omega
   have hn5:¬(w3.heap.size=q):=by have:=R3.out.inside;omega
   have hn6:w.heap.size+1+1<w3.heap.size:=F3.out.inside;have t0:∀ o,(w3.alloc o).cell? ⟨w.heap.size+1+1,0,none⟩=some (I J 0):=fun o=>(F3.out.alloc o).read 0
   have u0:∀ o,(w3.alloc o).frozen? ⟨w.heap.size+1+1,0,none⟩=false:=fun o=>(F3.out.alloc o).thawed 0
   have t1:∀ o,(w3.alloc o).cell? ⟨w.heap.size+1+1,1,none⟩=some (I J 0):=fun o=>(F3.out.alloc o).read 1
   have u1:∀ o,(w3.alloc o).frozen? ⟨w.heap.size+1+1,1,none⟩=false:=fun o=>(F3.out.alloc o).thawed 1
   have t2:∀ o,(w3.alloc o).cell? ⟨w.heap.size+1+1,2,none⟩=some (I J 0):=fun o=>(F3.out.alloc o).read 2
   have u2:∀ o,(w3.alloc o).frozen? ⟨w.heap.size+1+1,2,none⟩=false:=fun o=>(F3.out.alloc o).thawed 2
   clear m3))
  go_region
  go_wp2
  have nb:=Zh w3 (.cells #[Λ none 0 0,Λ none 0 0] 26);have p1:=put2 (R3.out.alloc (.cells #[Λ none 0 0,Λ none 0 0] 26)) (Λ none 0 0) (Λ none 0 0);have p2:=put3 (p1.keeps.whole (F3.out.alloc (.cells #[Λ none 0 0,Λ none 0 0] 26)) (by omega)) (I J f0) (I J (f1:Int)) (I J (f2:Int));have M9:=((((M3.out.next nb).put p1 (by omega) qin cin rin).put p2 (by omega) qin cin rin).drew)
  exact Yp 4 26 5 29 26 29 _ _ _ _ rfl (p2.keeps.whole p1.whole (by omega)).drew p2.whole.drew Zck Va Zcl Vb rfl rfl rfl ⟨rfl,M9⟩
end Go.Proofs.YtbdecchpleiepaaGreat
