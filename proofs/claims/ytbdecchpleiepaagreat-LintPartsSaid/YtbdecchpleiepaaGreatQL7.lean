/- Parts of the proof. No conditions but those that each names. -/
import Derived.Deep.DeepCutAuto
import Derived.Test.YtbdecchpleiepaaGreatQL6
set_option maxRecDepth 20000
set_option maxHeartbeats 99000000
set_option linter.unusedVariables false
set_option linter.unusedSimpArgs false
namespace Go.Proofs.YtbdecchpleiepaaGreat
open Go.Value renaming int→I,slice→Λ,string→Ψ,oneCell'→Γ
open Go.IntKind renaming i64→J
open _root_.Go.Proofs.Tryz renaming prog→Φ
open Nat renaming le_refl→Θ
open And renaming intro→ζ
open Go.Ending renaming returned→η
open Go.ChangeShapes Go.WideShapes Go.ChangeAt Go.RowKit
structure RcW(w:World)(acc:List TokV)(v:Value)(wr:World):Prop where
 fl:Zi wr w.heap.size 29 #[I J 0,I J 0,I J 0]
 row:wr.ownsRow (w.heap.size+1) 54 5 v acc.length (Jd acc)
 below:Below w.heap.size w wr
theorem RcW.lo{w wr:World}{acc:List TokV}{v:Value}(h:RcW w acc v wr):w.heap.size<wr.heap.size:=h.fl.inside
theorem RcW.next{w wr w':World}{acc:List TokV}{v:Value}(h:RcW w acc v wr)(hb:Below wr.heap.size wr w'):RcW w acc v w':=
 ⟨h.fl.below hb h.fl.inside,Zfc h.row hb,Wg h.below hb⟩
theorem RcW.push{w wr W w':World}{acc:List TokV}{v v':Value}(h:RcW w acc v wr)(hb:Below wr.heap.size wr W)(t:TokV)
  (ho:w'.ownsRow (w.heap.size+1) 54 5 v' (acc.length+1) (Jd acc++t.cells))(hg:W.grownBy w' v.ownBlock):RcW w (acc++[t]) v' w':=by
 have hW:=h.next hb;refine⟨Zad hg hW.fl ?_,?_,?_⟩
 ·intro c
  have:=(hW.row.lt _ c).1;omega
 ·rw[tokCs_snoc,List.length_append]
  exact ho
 ·exact Zhs hW.below hW.row hg (by omega) (Nat.le_of_lt hW.lo)
theorem num_take(s:ByteArray){a:Nat}(ha:a<s.size)(hk:(Yh (Zl s a)).1=2):Ul s a 2=(Jt (Xr (Zl s a)),(a:Int)+((Xr (Zl s a)).length:Int),true):=by
 have key:(Yh (Zl s a)).1=2→isD (gB s a)=true∧tw isD (Zl s a)≤2∧¬(tw isD (Zl s a)=2∧(gB s a:Int)=48):=by
  rw[Yz s ha];refine Zaj (gB s a) (Zl s (a+1)) (fun x=>x.1=2→isD (gB s a)=true∧tw isD ((gB s a:Int)::Zl s (a+1))≤2∧¬(tw isD ((gB s a:Int)::Zl s (a+1))=2∧(gB s a:Int)=48)) ?_ ?_ ?_ ?_ ?_ ?_ ?_ ?_
  ·intro _ hh;simp at hh
  ·intro h1 h2 h3 _;exact⟨h1,h2,h3⟩
  ·intro _ _ hh;simp at hh
  ·intro _ hh;simp at hh
  ·intro _ _ _ hh;simp at hh
  ·intro _ _ hh;simp at hh
  ·intro _ _ _ _ _ hh;simp at hh
  ·intro _ _ _ _ _ hh;simp at hh
 obtain⟨hd,h2,h3⟩:=key hk;have e:(bL s).drop a=Zl s a:=rfl;unfold Ul;rw[if_neg (by omega),Int.toNat_natCast,e,if_pos];refine⟨?_,by rw[Zdt];omega,by rw[Zdt];omega,?_⟩
 ·rw[Yz s ha,Zae _ hd];simp
 ·have hx:(Xr (Zl s a))[0]?=some (gB s a:Int):=by rw[Yz s ha,Zae _ hd,List.getElem?_cons_zero]
  have hl:(Xr (Zl s a)).length=tw isD (Zl s a):=rfl;have h1:1≤tw isD (Zl s a):=by rw[Yz s ha,Vw _ hd];omega
  unfold Zcr;rw[hx,hl];simp;omega
theorem slice_fe{P:Program}(t:TypeId)(h:P.underlying t=some .string)(s:ByteArray)(F E:Nat)(h1:F≤E)(hz:E≤s.size)(w:World) :
  (Instr.slice t (Ψ s) (some (I J (F:Int))) (some (I J (E:Int))) none).run P w=.ok (Ψ (s.extract F E)) w:=by
 rw[run_slice_string w t s .i64 .i64 _ _ h (by omega) (by omega) (by omega),Int.toNat_natCast,Int.toNat_natCast]
theorem tokL_from(s:ByteArray){a:Nat}(ha:a<s.size):(Yh (Zl s a)).1=2∨(Yh (Zl s a)).1 = -1→(Yh (Zl s a)).2.1=0:=by
 rw[Yz s ha];refine Zaj (gB s a) (Zl s (a+1)) (fun x=>x.1=2∨x.1 = -1→x.2.1=0) ?_ ?_ ?_ ?_ ?_ ?_ ?_ ?_
 ·intro _ _;rfl
 ·intro _ _ _ _;rfl
 ·intro _ _ _;rfl
 ·intro _ _;rfl
 ·intro _ _ _ hh;simp at hh
 ·intro _ _ _;rfl
 ·intro _ _ _ _ _ _;rfl
 ·intro _ _ _ _ _ _;rfl
set_option maxRecDepth 100000 in
theorem rtScan (s:ByteArray)(w:World)(hs:s.size≤1099511627776):Calls Φ 61 #[Ψ s] w (ScanPost s w):=by
 by_cases h64:65536<s.size
 · have hv:Zbv s=([],3,1,1):=by unfold Zbv;rw[if_pos h64]
   have HV:=Hh hv;clear hv;have l1:65536<(s.size:Int):=by omega
   go_enter Tryz.func61,Tryz.ntmps61;go_wp2
   refine bodyPost_ret (v:=.tuple #[Λ none 0 0,.agg #[I J 3,I J 1,I J 1]]) (by simp[results,Tryz.results61,go_sem]) rfl ⟨Λ none 0 0,by rw[HV.out];rfl,by rw[HV.out];exact⟨rfl,.inl ⟨rfl,rfl⟩⟩,?_⟩;exact(Below.refl _ _).alloc (Θ _) _
 · have l1 : (s.size:Int)≤65536:=by omega
   go_enter Tryz.func61,Tryz.ntmps61;go_wp2
   go_loopw [4,5,6,7,8] (fun v l c z i wr=>∃(was a:Nat)(acc:List TokV),RcW w acc v wr∧l=I J ((Zt s (was:Int)).1:Nat)∧c=I J ((Zt s (was:Int)).2:Nat)∧z=I J (was:Int)∧i=I J (a:Int)∧Bd s was∧Bd s a∧was≤a∧acc.length≤a∧Jp s a acc=Jp s 0 []) (fun _ _ _ _ i _=>s.size+1 - (intOf i).toNat)
   case atStart=>
     refine⟨0,0,[],⟨Zi.made _ _ _,⟨rfl,.inl ⟨rfl,rfl⟩⟩,(Below.refl _ _).alloc (Θ _) _⟩,?_,?_,rfl,rfl,Bd.zero s,Bd.zero s,Θ _,Θ _,rfl⟩
     ·rw[Zku];rfl
     ·rw[Zku];rfl
   case round=>
     obtain⟨was,a,acc,hst,rfl,rfl,rfl,rfl,hbw,hba,hwa,hac,hsc⟩:=hrel;obtain⟨A,cp,rfl,hnc,hcm,_⟩:=Yx hst.row;have has:=hba.1;have l2:(a:Int)≤(s.size:Int):=by omega
     have l3:(was:Int)≤(a:Int):=by omega
     have hz:=size_extract s was a has
     have c1:∀ w,Calls Φ 87 #[Ψ (s.extract was a),I J ((a:Int) - (was:Int))] w fun e w'=>e=η (.tuple #[I J ((Zt (s.extract was a) ((a - was:Nat):Int)).1:Nat),I J ((Zt (s.extract was a) ((a - was:Nat):Int)).2:Nat)])∧Below w.heap.size w w':=fun w=>by
       have h:=rPlace_any (s.extract was a) ((a - was:Nat):Int) w (by omega);rw[show((a - was:Nat):Int)=(a:Int) - (was:Int)from by omega]at h ⊢;exact h
     have hpl:=place_pass hbw hba hwa;have pb:=Zdx s (was:Int);have pq:=Zdx (s.extract was a) ((a - was:Nat):Int)
     have pq1:1≤(Zt (s.extract was a) ((a - was:Nat):Int)).2:=by
       have e:=(place_pos (s.extract was a) (Bd.end_ _)).2;rw[hz]at e;exact e
     rw[hz]at pq;generalize Zt (s.extract was a) ((a - was:Nat):Int)=q at *;generalize Zt s (was:Int)=p at *;have pa:=Zdx s (a:Int);have HP:=Hh (ζ hba (ζ hpl hz));have HST:=Hh hst;have HSC:=Hh hsc;have HL:=Hh (ζ hac hnc);obtain⟨pb1,pb2⟩:=pb;obtain⟨pq2,pq3⟩:=pq;obtain⟨pa1,pa2⟩:=pa;clear hst hsc hbw hba hpl hz hac hnc;go_upto_if 37 with(go_at_call 87;refine(c1 _).mono ?_;rintro e w1 ⟨rfl,b1⟩;have S1:=Hh (HST.out.next b1);clear b1)
     go_cut [5,6] (fun l c wx=>l=I J ((Zt s (a:Int)).1:Nat)∧c=I J ((Zt s (a:Int)).2:Nat)∧wx=w1)
     case first=>
       by_cases hq:1<(q.1:Int)
       · go_wp2
         go_meet
         have e:=HP.out.2.1;unfold adv at e;rw[if_pos (by omega)]at e;exact⟨by rw[e];exact vI (by dsimp only;omega),by rw[e],rfl⟩
       · go_wp2
         go_meet
         have e:=HP.out.2.1;unfold adv at e;rw[if_neg (by omega)]at e;exact⟨by rw[e],by rw[e];exact vI (by dsimp only;omega),rfl⟩
     case rest=>
       obtain⟨rfl,rfl,rfl⟩:=hcut;have y0:wc.cell? ⟨w.heap.size,0,none⟩=some (I J 0):=S1.out.fl.read 0;have y1:wc.cell? ⟨w.heap.size,1,none⟩=some (I J 0):=S1.out.fl.read 1;have y2:wc.cell? ⟨w.heap.size,2,none⟩=some (I J 0):=S1.out.fl.read 2;have z0:=S1.out.fl.thawed 0;have z1:=S1.out.fl.thawed 1;have z2:=S1.out.fl.thawed 2;have hlo:w.heap.size<wc.heap.size:=S1.out.lo;by_cases hend:a=s.size
       · have hq1:((a:Int) == (s.size:Int))=true:=by simp[hend]
         have hv:Zbv s=(acc++[Zoe s a],0,0,0):=by
           rw[Zgi s (by omega) (HSC.out.symm.trans (Zms s acc (by omega))),if_pos rfl]
         have htc:(Zoe s a).cells=[I J 0,Ψ ⟨#[]⟩,I J 0,I J ((Zt s (a:Int)).1:Nat),I J ((Zt s (a:Int)).2:Nat)]:=rfl;have HV:=Hh hv;have HTC:=Hh htc;clear hv htc hend;go_wp2_with(first
 | (at_builtin;refine Zcx (w:=wc) (.tmp 52) (.tmp 56) 47 54 48 _ Zih Ziw (by rfl) (by decide) rfl rfl (w.heap.size+1) (Λ A acc.length cp) acc.length (Jd acc) _ _ _ _ _ rfl S1.out.row wc.heap.size rfl rfl (by simp[Γ]) (by have:=HL.out;omega) (by omega) ⟨rfl,rfl,rfl,rfl⟩ ?_
    intro v5 w5 o5 g5 at5;obtain⟨A5,cp5,rfl,_⟩:=Yx o5;have S5:=Hh (S1.out.push (Below.refl _ _) (Zoe s a) (by rw[HTC.out];exact o5) g5);have y0:w5.cell? ⟨w.heap.size,0,none⟩=some (I J 0):=S5.out.fl.read 0;have y1:w5.cell? ⟨w.heap.size,1,none⟩=some (I J 0):=S5.out.fl.read 1;have y2:w5.cell? ⟨w.heap.size,2,none⟩=some (I J 0):=S5.out.fl.read 2;have z0:=S5.out.fl.thawed 0;have z1:=S5.out.fl.thawed 1;have z2:=S5.out.fl.thawed 2
    clear o5 g5 at5))
         have hF:=((S5.out.fl.write 0 (I J 0)).write 1 (I J 0)).write 2 (I J 0);have hF3:=Zo hF;have hrow:=own_mono S5.out.row (show w.heap.size≤w.heap.size+1 by omega);rw[List.length_append]at hrow;refine bodyPost_ret (v:=.tuple #[Λ A5 (acc.length+1) cp5,.agg #[I J 0,I J 0,I J 0]]) (by simp[results,Tryz.results61,go_sem,hF3]) rfl ⟨Λ A5 (acc.length+1) cp5,by rw[HV.out];rfl,?_,?_⟩
         · rw[HV.out]
           have hn0:(Value.slice A5 (acc.length+1) cp5).ownBlock≠some w.heap.size:=fun c=>by have:=(S5.out.row.lt _ c).1;omega
           exact Jo (Jo (Jo (by rw[List.length_append];exact hrow) hn0 _) hn0 _) hn0 _
         ·exact((S5.out.below.setCell (Θ _) _).setCell (Θ _) _).setCell (Θ _) _
       · have hq1:((a:Int) == (s.size:Int))=false:=by rw[beq_eq_false_iff_ne];omega
         have ha:a<s.size:=by omega
         have hq2:decide (s.size≤a)=false:=by simp;omega
         have g:=Ug s a ha;have l4:(a:Int)<(s.size:Int):=by omega
         have hcase:((((s[a]'ha).toNat:Int) == 32)=true∧Zgq (gB s a)=true)∨((((s[a]'ha).toNat:Int) == 32)=false∧(((s[a]'ha).toNat:Int) == 9)=true∧Zgq (gB s a)=true) ∨
             ((((s[a]'ha).toNat:Int) == 32)=false∧(((s[a]'ha).toNat:Int) == 9)=false∧(((s[a]'ha).toNat:Int) == 10)=true∧Zgq (gB s a)=true) ∨
             ((((s[a]'ha).toNat:Int) == 32)=false∧(((s[a]'ha).toNat:Int) == 9)=false∧(((s[a]'ha).toNat:Int) == 10)=false∧Zgq (gB s a)=false):=by
           have hb:=Zem (gB s a:Int);rw[←g];by_cases e1:(gB s a:Int)=32
           ·exact .inl ⟨by rw[e1];rfl,hb.2 (.inl e1)⟩
           · have f1:((gB s a:Int) == 32)=false:=by simpa using e1
             by_cases e2:(gB s a:Int)=9
             ·exact .inr (.inl ⟨f1,by rw[e2];rfl,hb.2 (.inr (.inl e2))⟩)
             · have f2:((gB s a:Int) == 9)=false:=by simpa using e2
               by_cases e3:(gB s a:Int)=10
               ·exact .inr (.inr (.inl ⟨f1,f2,by rw[e3];rfl,hb.2 (.inr (.inr e3))⟩))
               · refine .inr (.inr (.inr ⟨f1,f2,by simpa using e3,?_⟩))
                 rw[←Bool.not_eq_true,hb];omega
         clear g;rcases hcase with⟨h1,hbl⟩ | ⟨h1,h2,hbl⟩ | ⟨h1,h2,h3,hbl⟩ | ⟨h1,h2,h3,hbl⟩
         · have hn:=Zei s acc ha hbl
           have hb1:Bd s (a+1):=Bd.behind ha (by rw[Zem]at hbl;omega);have HN:=Hh (ζ hn hb1);clear hn hb1 hbl;go_wp2
           go_roundw
           case rel=>exact⟨a,a+1,acc,S1.out,rfl,rfl,rfl,by go_num,HP.out.1,HN.out.2,by omega,by have:=HL.out;omega,HN.out.1.symm.trans HSC.out⟩
           case measure=>simp[intOf];omega
         · have hn:=Zei s acc ha hbl
           have hb1:Bd s (a+1):=Bd.behind ha (by rw[Zem]at hbl;omega);have HN:=Hh (ζ hn hb1);clear hn hb1 hbl;go_wp2
           go_roundw
           case rel=>exact⟨a,a+1,acc,S1.out,rfl,rfl,rfl,by go_num,HP.out.1,HN.out.2,by omega,by have:=HL.out;omega,HN.out.1.symm.trans HSC.out⟩
           case measure=>simp[intOf];omega
         · have hn:=Zei s acc ha hbl
           have hb1:Bd s (a+1):=Bd.behind ha (by rw[Zem]at hbl;omega);have HN:=Hh (ζ hn hb1);clear hn hb1 hbl;go_wp2
           go_roundw
           case rel=>exact⟨a,a+1,acc,S1.out,rfl,rfl,rfl,by go_num,HP.out.1,HN.out.2,by omega,by have:=HL.out;omega,HN.out.1.symm.trans HSC.out⟩
           case measure=>simp[intOf];omega
         · have c2:=fun w=>rtToken s a w hs ha
           have hbd:=Zhd (Zl s a) (Zfl s ha);have hbeh:=Zca s ha;have htb:=tok_bd s ha;have hrb:=rem_bd s ha;have hse:=Zmr s acc ha hbl;have hsr:=Zmq s acc ha hbl;have hst:=Zmp s acc ha hbl;have hnt:=num_take s ha;have htv:(Zgh s a).cells=[I J (Yh (Zl s a)).1,Ψ (s.extract (a+(Yh (Zl s a)).2.1) (a+(Yh (Zl s a)).2.2.1)),I J (Zcs (Yh (Zl s a)).1 (Zl s a)),I J ((Zt s (a:Int)).1:Nat),I J ((Zt s (a:Int)).2:Nat)]:=rfl;rw[Xo]at hbd;have hf0:=tokL_from s ha;obtain⟨K,f,e,z,hK⟩:∃ K f e z,Yh (Zl s a)=(K,f,e,z):=⟨_,_,_,_,rfl⟩
           rw[hK]at c2 hbd hbeh htb hrb hse hsr hst hnt htv hf0;unfold Zdp at c2;dsimp only at c2 hbd hbeh htb hrb hse hsr hst hnt htv hf0;obtain⟨hb1,hb2,hb3,hb4,hb5,hb6,hb7⟩:=hbd;clear hK hbl;by_cases hneg:K < -1
           · simp only[if_pos hneg]at c2
             have hv:Zbv s=([],Zjy K,(Zt s (a:Nat)).1,(Zt s (a:Nat)).2):=by
               rw[Zgi s (by omega) (HSC.out.symm.trans (hse hneg)),if_neg (by have:=errE_is K;omega)]
             have hKc:K = -2∨K = -3∨K = -4:=by omega
             clear hbeh htb hrb hse hsr hst hnt htv hf0 hb1 hb2 hb3 hb4;rcases hKc with rfl | rfl | rfl
             · have HV:=Hh (hv.trans (show _=([],12,(Zt s (a:Nat)).1,(Zt s (a:Nat)).2)from rfl))
               clear hv;go_wp2_with(first
 | (go_at_call 88;refine(c2 _).mono ?_;rintro e w2 ⟨rfl,b2⟩;have S2:=Hh (S1.out.next b2);clear b2
    have y0:w2.cell? ⟨w.heap.size,0,none⟩=some (I J 0):=S2.out.fl.read 0;have y1:w2.cell? ⟨w.heap.size,1,none⟩=some (I J 0):=S2.out.fl.read 1;have y2:w2.cell? ⟨w.heap.size,2,none⟩=some (I J 0):=S2.out.fl.read 2;have z0:=S2.out.fl.thawed 0;have z1:=S2.out.fl.thawed 1;have z2:=S2.out.fl.thawed 2
    have hlo2:w.heap.size<w2.heap.size:=S2.out.lo))
               go_region
               go_wp2
               have hF:=((((S2.out.fl.write 0 (I J 12)).write 1 (I J ((Zt s (a:Int)).1:Nat))).write 2 (I J ((Zt s (a:Int)).2:Nat))).alloc (.cells #[I J 0,I J 0,I J 12,I J 10,I J 6] 27)).drew;have hF3:=Zo hF;refine bodyPost_ret (v:=.tuple #[Λ none 0 0,.agg #[I J 12,I J ((Zt s (a:Int)).1:Nat),I J ((Zt s (a:Int)).2:Nat)]]) (by simp[results,Tryz.results61,go_sem,hF3]) rfl ⟨Λ none 0 0,by rw[HV.out];rfl,by rw[HV.out];exact⟨rfl,.inl ⟨rfl,rfl⟩⟩,?_⟩;exact Xv ((((S2.out.below.setCell (Θ _) _).setCell (Θ _) _).setCell (Θ _) _).alloc (by simp[World.setCell];omega) _)
             · have HV:=Hh (hv.trans (show _=([],10,(Zt s (a:Nat)).1,(Zt s (a:Nat)).2)from rfl))
               clear hv;go_wp2_with(first
 | (go_at_call 88;refine(c2 _).mono ?_;rintro e w2 ⟨rfl,b2⟩;have S2:=Hh (S1.out.next b2);clear b2
    have y0:w2.cell? ⟨w.heap.size,0,none⟩=some (I J 0):=S2.out.fl.read 0;have y1:w2.cell? ⟨w.heap.size,1,none⟩=some (I J 0):=S2.out.fl.read 1;have y2:w2.cell? ⟨w.heap.size,2,none⟩=some (I J 0):=S2.out.fl.read 2;have z0:=S2.out.fl.thawed 0;have z1:=S2.out.fl.thawed 1;have z2:=S2.out.fl.thawed 2
    have hlo2:w.heap.size<w2.heap.size:=S2.out.lo))
               go_region
               go_wp2
               have hF:=((((S2.out.fl.write 0 (I J 10)).write 1 (I J ((Zt s (a:Int)).1:Nat))).write 2 (I J ((Zt s (a:Int)).2:Nat))).alloc (.cells #[I J 0,I J 0,I J 12,I J 10,I J 6] 27)).drew;have hF3:=Zo hF;refine bodyPost_ret (v:=.tuple #[Λ none 0 0,.agg #[I J 10,I J ((Zt s (a:Int)).1:Nat),I J ((Zt s (a:Int)).2:Nat)]]) (by simp[results,Tryz.results61,go_sem,hF3]) rfl ⟨Λ none 0 0,by rw[HV.out];rfl,by rw[HV.out];exact⟨rfl,.inl ⟨rfl,rfl⟩⟩,?_⟩;exact Xv ((((S2.out.below.setCell (Θ _) _).setCell (Θ _) _).setCell (Θ _) _).alloc (by simp[World.setCell];omega) _)
             · have HV:=Hh (hv.trans (show _=([],6,(Zt s (a:Nat)).1,(Zt s (a:Nat)).2)from rfl))
               clear hv;go_wp2_with(first
 | (go_at_call 88;refine(c2 _).mono ?_;rintro e w2 ⟨rfl,b2⟩;have S2:=Hh (S1.out.next b2);clear b2
    have y0:w2.cell? ⟨w.heap.size,0,none⟩=some (I J 0):=S2.out.fl.read 0;have y1:w2.cell? ⟨w.heap.size,1,none⟩=some (I J 0):=S2.out.fl.read 1;have y2:w2.cell? ⟨w.heap.size,2,none⟩=some (I J 0):=S2.out.fl.read 2;have z0:=S2.out.fl.thawed 0;have z1:=S2.out.fl.thawed 1;have z2:=S2.out.fl.thawed 2
    have hlo2:w.heap.size<w2.heap.size:=S2.out.lo))
               go_region
               go_wp2
               have hF:=((((S2.out.fl.write 0 (I J 6)).write 1 (I J ((Zt s (a:Int)).1:Nat))).write 2 (I J ((Zt s (a:Int)).2:Nat))).alloc (.cells #[I J 0,I J 0,I J 12,I J 10,I J 6] 27)).drew;have hF3:=Zo hF;refine bodyPost_ret (v:=.tuple #[Λ none 0 0,.agg #[I J 6,I J ((Zt s (a:Int)).1:Nat),I J ((Zt s (a:Int)).2:Nat)]]) (by simp[results,Tryz.results61,go_sem,hF3]) rfl ⟨Λ none 0 0,by rw[HV.out];rfl,by rw[HV.out];exact⟨rfl,.inl ⟨rfl,rfl⟩⟩,?_⟩;exact Xv ((((S2.out.below.setCell (Θ _) _).setCell (Θ _) _).setCell (Θ _) _).alloc (by simp[World.setCell];omega) _)
           · simp only[if_neg hneg]at c2
             obtain⟨hz1,hz2⟩:=hbeh (by omega);by_cases hrem:K = -1
             · subst hrem
               have HN:=Hh (ζ (hsr rfl) (hrb rfl));clear hse hsr hst hnt htv hf0 htb hrb hb1 hb2 hb3 hb4 hneg;go_wp2_with(first
 | (go_at_call 88;refine(c2 _).mono ?_;rintro e w2 ⟨rfl,b2⟩;have S2:=Hh (S1.out.next b2);clear b2
    have y0:w2.cell? ⟨w.heap.size,0,none⟩=some (I J 0):=S2.out.fl.read 0
    have hlo2:w.heap.size<w2.heap.size:=S2.out.lo))
               go_roundw
               case rel=>exact⟨a,a+z,acc,S2.out,rfl,rfl,rfl,rfl,HP.out.1,HN.out.2,by omega,by have:=HL.out;omega,HN.out.1.symm.trans HSC.out⟩
               case measure=>simp[intOf];omega
             · have hpos:0<K:=by omega
               have HN:=Hh (ζ (hst hpos) (htb hpos));by_cases h2K:K=2
               · subst h2K
                 have hn0:Zcs 2 (Zl s a)=Jt (Xr (Zl s a)):=rfl;rw[hn0]at htv;have hf:=hf0 (.inl rfl);subst hf;have hnt':=hnt rfl;have c3:∀ w,Calls Φ 89 #[Ψ s,I J ((a+0:Nat):Int),I J 2] w fun e w'=>e=η (takeV (Ul s a 2))∧Below w.heap.size w w':=fun w=>drTake_any s a 2 w (by omega) (by omega) (by omega) (by omega) (by omega)
                 rw[hnt']at c3;simp only[takeV]at c3;have hsl:=fun w=>slice_fe (P:=Φ) 9 (by kernel_rfl) s (a+0) (a+e) (by omega) (by omega) w
                 generalize Jt (Xr (Zl s a))=V at *;generalize(a:Int)+((Xr (Zl s a)).length:Int)=V2 at *;generalize a+0=F at *;generalize a+e=E at *;have HTV:=Hh htv;clear hse hsr hst hnt htv hf0 htb hrb hb1 hb2 hb3 hb4 hneg hn0 hrem hnt';go_wp2_with(first
 | (go_at_call 88;refine(c2 _).mono ?_;rintro e w2 ⟨rfl,b2⟩;have S2:=Hh (S1.out.next b2);clear b2
    have y0:w2.cell? ⟨w.heap.size,0,none⟩=some (I J 0):=S2.out.fl.read 0;have hlo2:w.heap.size<w2.heap.size:=S2.out.lo)
 | (go_at_call 89;refine(c3 _).mono ?_;rintro e w3 ⟨rfl,b3⟩
    have T3:=Hh ((Zi.made w2 54 #[I J 2,Ψ (s.extract F E),I J 0,I J ((Zt s (a:Int)).1:Nat),I J ((Zt s (a:Int)).2:Nat)]).below b3 (by simp));have T4:=Hh (T3.out.write 2 (I J V));have B3:=Hh (Wg ((Below.refl w2.heap.size w2).alloc (Θ _) (.cells #[I J 2,Ψ (s.extract F E),I J 0,I J ((Zt s (a:Int)).1:Nat),I J ((Zt s (a:Int)).2:Nat)] 54)) b3);have HB3:=Hh (B3.out.setCell (p:=⟨w2.heap.size,2,none⟩) (Θ _) (I J V));have H3:=Hh (ζ (Zfc S2.out.row HB3.out) (Nat.lt_of_lt_of_le hlo2 B3.out.size));obtain⟨k0,k1,k2,k3,k4,f0,f1,f2,f3,f4⟩:=Zah T3.out;obtain⟨j0,j1,j2,j3,j4⟩:=Zaw T4.out;clear b3)
 | (at_builtin;refine Zcx (w:=w3.setCell ⟨w2.heap.size,2,none⟩ (I J V)) (.tmp 116) (.tmp 118) 47 54 48 _ Zih Ziw (by rfl) (by decide) rfl rfl (w.heap.size+1) (Λ A acc.length cp) acc.length (Jd acc) _ _ _ _ _ rfl H3.out.1 w3.heap.size (by simp[World.setCell]) rfl (by simp[Γ]) (by have:=HL.out;omega) (by have:=H3.out.2;simp[World.setCell];omega) ⟨rfl,rfl,rfl,rfl⟩ ?_
    intro v5 w5 o5 g5 at5;obtain⟨A5,cp5,rfl,_⟩:=Yx o5;have S5:=Hh (S2.out.push HB3.out (Zgh s a) (by rw[HTV.out];exact o5) g5)
    clear o5 g5 at5))
                 go_roundw
                 case rel=>exact⟨a,a+z,acc++[Zgh s a],S5.out,rfl,rfl,rfl,rfl,HP.out.1,HN.out.2,by omega,by have:=HL.out;simp;omega,HN.out.1.symm.trans HSC.out⟩
                 case measure=>simp[intOf];omega
               · have hq3:(K == 2)=false:=by rw[beq_eq_false_iff_ne];exact h2K
                 have hn0:Zcs K (Zl s a)=0:=by unfold Zcs;rw[if_neg h2K]
                 rw[hn0]at htv;have HTV:=Hh htv;have hsl:=fun w=>slice_fe (P:=Φ) 9 (by kernel_rfl) s (a+f) (a+e) (by omega) (by omega) w
                 generalize a+f=F at *;generalize a+e=E at *;clear hse hsr hst hnt htv hf0 htb hrb hb1 hb2 hb3 hb4 hneg hn0 h2K hrem;go_wp2_with(first
 | (go_at_call 88;refine(c2 _).mono ?_;rintro e w2 ⟨rfl,b2⟩;have S2:=Hh (S1.out.next b2);clear b2
    have y0:w2.cell? ⟨w.heap.size,0,none⟩=some (I J 0):=S2.out.fl.read 0;have hlo2:w.heap.size<w2.heap.size:=S2.out.lo)
 | (at_builtin;refine Zcx (w:=w2.alloc (.cells #[I J K,Ψ (s.extract F E),I J 0,I J ((Zt s (a:Int)).1:Nat),I J ((Zt s (a:Int)).2:Nat)] 54)) (.tmp 116) (.tmp 118) 47 54 48 _ Zih Ziw (by rfl) (by decide) rfl rfl (w.heap.size+1) (Λ A acc.length cp) acc.length (Jd acc) _ _ _ _ _ rfl (S2.out.row.alloc _) (w2.heap.size+1) (by simp) rfl (by simp[Γ]) (by have:=HL.out;omega) (by simp;omega) ⟨rfl,rfl,rfl,rfl⟩ ?_
    intro v5 w5 o5 g5 at5;obtain⟨A5,cp5,rfl,_⟩:=Yx o5;have S5:=Hh (S2.out.push ((Below.refl _ _).alloc (Θ _) _) (Zgh s a) (by rw[HTV.out];exact o5) g5)
    clear o5 g5 at5))
                 go_roundw
                 case rel=>exact⟨a,a+z,acc++[Zgh s a],S5.out,rfl,rfl,rfl,rfl,HP.out.1,HN.out.2,by omega,by have:=HL.out;simp;omega,HN.out.1.symm.trans HSC.out⟩
                 case measure=>simp[intOf];omega
end Go.Proofs.YtbdecchpleiepaaGreat
