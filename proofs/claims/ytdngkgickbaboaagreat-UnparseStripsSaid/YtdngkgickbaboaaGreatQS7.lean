/-
  No conditions but those that each theorem names.
-/
import Derived.Deep.DeepCutAuto
import Derived.Test.YtdngkgickbaboaaGreatQS6
set_option maxRecDepth 20000
set_option maxHeartbeats 12800000
namespace Go.Proofs.YtdngkgickbaboaaGreat
open Go.ChangeShapes Go.WideShapes Go.ChangeAt Go.RowKit
set_option linter.unusedVariables false
set_option linter.unusedSimpArgs false
structure RcW(w:World)(acc:List TokV)(v:Value)(wr:World):Prop where
 fl:Zf wr w.heap.size 29 #[.int .i64 0,.int .i64 0,.int .i64 0]
 row:wr.ownsRow (w.heap.size+1) 69 5 v acc.length (Jb acc)
 below:Below w.heap.size w wr
theorem RcW.lo{w wr:World}{acc:List TokV}{v:Value}(h:RcW w acc v wr):w.heap.size<wr.heap.size:=h.fl.inside
theorem RcW.next{w wr w':World}{acc:List TokV}{v:Value}(h:RcW w acc v wr)(hb:Below wr.heap.size wr w'):RcW w acc v w':=
 ⟨h.fl.below hb h.fl.inside,Un h.row hb,Ue h.below hb⟩
theorem RcW.push{w wr W w':World}{acc:List TokV}{v v':Value}(h:RcW w acc v wr)(hb:Below wr.heap.size wr W)(t:TokV)
  (ho:w'.ownsRow (w.heap.size+1) 69 5 v' (acc.length+1) (Jb acc++t.cells))(hg:W.grownBy w' v.ownBlock):RcW w (acc++[t]) v' w':=by
 have hW:=h.next hb;refine⟨Zdt hg hW.fl ?_,?_,?_⟩
 ·intro c
  have:=(hW.row.lt _ c).1;omega
 ·rw[tokCs_snoc,List.length_append]
  exact ho
 ·exact Zgv hW.below hW.row hg (by omega) (Nat.le_of_lt hW.lo)
theorem num_take(s:ByteArray){a:Nat}(ha:a<s.size)(hk:(Yf (Zk s a)).1=2):Uk s a 2=(Jo (Xr (Zk s a)),(a:Int)+((Xr (Zk s a)).length:Int),true):=by
 have key:(Yf (Zk s a)).1=2→isD (gB s a)=true∧tw isD (Zk s a)≤2∧¬(tw isD (Zk s a)=2∧(gB s a:Int)=48):=by
  rw[Yt s ha];refine Jj (gB s a) (Zk s (a+1)) (fun x=>x.1=2→isD (gB s a)=true∧tw isD ((gB s a:Int)::Zk s (a+1))≤2∧¬(tw isD ((gB s a:Int)::Zk s (a+1))=2∧(gB s a:Int)=48)) ?_ ?_ ?_ ?_ ?_ ?_ ?_ ?_
  ·intro _ hh;simp at hh
  ·intro h1 h2 h3 _;exact⟨h1,h2,h3⟩
  ·intro _ _ hh;simp at hh
  ·intro _ hh;simp at hh
  ·intro _ _ _ hh;simp at hh
  ·intro _ _ hh;simp at hh
  ·intro _ _ _ _ _ hh;simp at hh
  ·intro _ _ _ _ _ hh;simp at hh
 obtain⟨hd,h2,h3⟩:=key hk;have e:(bL s).drop a=Zk s a:=rfl;unfold Uk;rw[if_neg (by omega),Int.toNat_natCast,e,if_pos];refine⟨?_,by rw[Zcx];omega,by rw[Zcx];omega,?_⟩
 ·rw[Yt s ha,Jz _ hd];simp
 ·have hx:(Xr (Zk s a))[0]?=some (gB s a:Int):=by rw[Yt s ha,Jz _ hd,List.getElem?_cons_zero]
  have hl:(Xr (Zk s a)).length=tw isD (Zk s a):=rfl;have h1:1≤tw isD (Zk s a):=by rw[Yt s ha,Vt _ hd];omega
  unfold Zca;rw[hx,hl];simp;omega
theorem slice_fe{P:Program}(t:TypeId)(h:P.underlying t=some .string)(s:ByteArray)(F E:Nat)(h1:F≤E)(hz:E≤s.size)(w:World) :
  (Instr.slice t (.string s) (some (.int .i64 (F:Int))) (some (.int .i64 (E:Int))) none).run P w=.ok (.string (s.extract F E)) w:=by
 rw[run_slice_string w t s .i64 .i64 _ _ h (by omega) (by omega) (by omega),Int.toNat_natCast,Int.toNat_natCast]
theorem tokL_from(s:ByteArray){a:Nat}(ha:a<s.size):(Yf (Zk s a)).1=2∨(Yf (Zk s a)).1 = -1→(Yf (Zk s a)).2.1=0:=by
 rw[Yt s ha];refine Jj (gB s a) (Zk s (a+1)) (fun x=>x.1=2∨x.1 = -1→x.2.1=0) ?_ ?_ ?_ ?_ ?_ ?_ ?_ ?_
 ·intro _ _;rfl
 ·intro _ _ _ _;rfl
 ·intro _ _ _;rfl
 ·intro _ _;rfl
 ·intro _ _ _ hh;simp at hh
 ·intro _ _ _;rfl
 ·intro _ _ _ _ _ _;rfl
 ·intro _ _ _ _ _ _;rfl
set_option maxRecDepth 100000 in
theorem rtScan (s:ByteArray)(w:World)(hs:s.size≤1099511627776):Calls Tryz.prog 81 #[.string s] w (ScanPost s w):=by
 by_cases h64:65536<s.size
 · have hv:Zbk s=([],3,1,1):=by unfold Zbk;rw[if_pos h64]
   have HV:=Hh hv;clear hv;have l1:65536<(s.size:Int):=by omega
   go_enter Tryz.func81,Tryz.ntmps81;go_wp2
   refine bodyPost_ret (v:=.tuple #[.slice none 0 0,.agg #[.int .i64 3,.int .i64 1,.int .i64 1]]) (by simp[results,Tryz.results81,go_sem]) rfl ⟨.slice none 0 0,by rw[HV.out];rfl,by rw[HV.out];exact⟨rfl,.inl ⟨rfl,rfl⟩⟩,?_⟩;exact(Below.refl _ _).alloc (Nat.le_refl _) _
 · have l1 : (s.size:Int)≤65536:=by omega
   go_enter Tryz.func81,Tryz.ntmps81;go_wp2
   go_loopw [4,5,6,7,8] (fun v l c z i wr=>∃(was a:Nat)(acc:List TokV),RcW w acc v wr∧l=.int .i64 ((Zs s (was:Int)).1:Nat)∧c=.int .i64 ((Zs s (was:Int)).2:Nat)∧z=.int .i64 (was:Int)∧i=.int .i64 (a:Int)∧Bd s was∧Bd s a∧was≤a∧acc.length≤a∧Uq s a acc=Uq s 0 []) (fun _ _ _ _ i _=>s.size+1 - (intOf i).toNat)
   case atStart=>
     refine⟨0,0,[],⟨Zf.made _ _ _,⟨rfl,.inl ⟨rfl,rfl⟩⟩,(Below.refl _ _).alloc (Nat.le_refl _) _⟩,?_,?_,rfl,rfl,Bd.zero s,Bd.zero s,Nat.le_refl _,Nat.le_refl _,rfl⟩
     ·rw[Zjl];rfl
     ·rw[Zjl];rfl
   case round=>
     obtain⟨was,a,acc,hst,rfl,rfl,rfl,rfl,hbw,hba,hwa,hac,hsc⟩:=hrel;obtain⟨A,cp,rfl,hnc,hcm,_⟩:=Xd hst.row;have has:=hba.1;have l2:(a:Int)≤(s.size:Int):=by omega
     have l3:(was:Int)≤(a:Int):=by omega
     have hz:=size_extract s was a has
     have c1:∀ w,Calls Tryz.prog 103 #[.string (s.extract was a),.int .i64 ((a:Int) - (was:Int))] w fun e w'=>e=.returned (.tuple #[.int .i64 ((Zs (s.extract was a) ((a - was:Nat):Int)).1:Nat),.int .i64 ((Zs (s.extract was a) ((a - was:Nat):Int)).2:Nat)])∧Below w.heap.size w w':=fun w=>by
       have h:=rPlace_any (s.extract was a) ((a - was:Nat):Int) w (by omega);rw[show((a - was:Nat):Int)=(a:Int) - (was:Int)from by omega]at h ⊢;exact h
     have hpl:=place_pass hbw hba hwa;have pb:=Zdc s (was:Int);have pq:=Zdc (s.extract was a) ((a - was:Nat):Int)
     have pq1:1≤(Zs (s.extract was a) ((a - was:Nat):Int)).2:=by
       have e:=(place_pos (s.extract was a) (Bd.end_ _)).2;rw[hz]at e;exact e
     rw[hz]at pq;generalize Zs (s.extract was a) ((a - was:Nat):Int)=q at *;generalize Zs s (was:Int)=p at *;have pa:=Zdc s (a:Int);have HP:=Hh (And.intro hba (And.intro hpl hz));have HST:=Hh hst;have HSC:=Hh hsc;have HL:=Hh (And.intro hac hnc);obtain⟨pb1,pb2⟩:=pb;obtain⟨pq2,pq3⟩:=pq;obtain⟨pa1,pa2⟩:=pa;clear hst hsc hbw hba hpl hz hac hnc;go_upto_if 37 with(go_at_call 103;refine(c1 _).mono ?_;rintro e w1 ⟨rfl,b1⟩;have S1:=Hh (HST.out.next b1);clear b1)
     go_cut [5,6] (fun l c wx=>l=.int .i64 ((Zs s (a:Int)).1:Nat)∧c=.int .i64 ((Zs s (a:Int)).2:Nat)∧wx=w1)
     case first=>
       by_cases hq:1<(q.1:Int)
       · go_wp2
         go_meet
         have e:=HP.out.2.1;unfold adv at e;rw[if_pos (by omega)]at e;exact⟨by rw[e];exact vI (by dsimp only;omega),by rw[e],rfl⟩
       · go_wp2
         go_meet
         have e:=HP.out.2.1;unfold adv at e;rw[if_neg (by omega)]at e;exact⟨by rw[e],by rw[e];exact vI (by dsimp only;omega),rfl⟩
     case rest=>
       obtain⟨rfl,rfl,rfl⟩:=hcut;have y0:wc.cell? ⟨w.heap.size,0,none⟩=some (.int .i64 0):=S1.out.fl.read 0;have y1:wc.cell? ⟨w.heap.size,1,none⟩=some (.int .i64 0):=S1.out.fl.read 1;have y2:wc.cell? ⟨w.heap.size,2,none⟩=some (.int .i64 0):=S1.out.fl.read 2;have z0:=S1.out.fl.thawed 0;have z1:=S1.out.fl.thawed 1;have z2:=S1.out.fl.thawed 2;have hlo:w.heap.size<wc.heap.size:=S1.out.lo;by_cases hend:a=s.size
       · have hq1:((a:Int) == (s.size:Int))=true:=by simp[hend]
         have hv:Zbk s=(acc++[Zlv s a],0,0,0):=by
           rw[Zeq s (by omega) (HSC.out.symm.trans (Zli s acc (by omega))),if_pos rfl]
         have htc:(Zlv s a).cells=[.int .i64 0,.string ⟨#[]⟩,.int .i64 0,.int .i64 ((Zs s (a:Int)).1:Nat),.int .i64 ((Zs s (a:Int)).2:Nat)]:=rfl;have HV:=Hh hv;have HTC:=Hh htc;clear hv htc hend;go_wp2_with(first
 | (at_builtin;refine Zcf (w:=wc) (.tmp 52) (.tmp 56) 62 69 48 _ Zhj Zhs (by rfl) (by decide) rfl rfl (w.heap.size+1) (.slice A acc.length cp) acc.length (Jb acc) _ _ _ _ _ rfl S1.out.row wc.heap.size rfl rfl (by simp[Value.oneCell']) (by have:=HL.out;omega) (by omega) ⟨rfl,rfl,rfl,rfl⟩ ?_
    intro v5 w5 o5 g5 at5;obtain⟨A5,cp5,rfl,_⟩:=Xd o5;have S5:=Hh (S1.out.push (Below.refl _ _) (Zlv s a) (by rw[HTC.out];exact o5) g5);have y0:w5.cell? ⟨w.heap.size,0,none⟩=some (.int .i64 0):=S5.out.fl.read 0;have y1:w5.cell? ⟨w.heap.size,1,none⟩=some (.int .i64 0):=S5.out.fl.read 1;have y2:w5.cell? ⟨w.heap.size,2,none⟩=some (.int .i64 0):=S5.out.fl.read 2;have z0:=S5.out.fl.thawed 0;have z1:=S5.out.fl.thawed 1;have z2:=S5.out.fl.thawed 2
    clear o5 g5 at5))
         have hF:=((S5.out.fl.write 0 (.int .i64 0)).write 1 (.int .i64 0)).write 2 (.int .i64 0);have hF3:=Zy hF;have hrow:=own_mono S5.out.row (show w.heap.size≤w.heap.size+1 by omega);rw[List.length_append]at hrow;refine bodyPost_ret (v:=.tuple #[.slice A5 (acc.length+1) cp5,.agg #[.int .i64 0,.int .i64 0,.int .i64 0]]) (by simp[results,Tryz.results81,go_sem,hF3]) rfl ⟨.slice A5 (acc.length+1) cp5,by rw[HV.out];rfl,?_,?_⟩
         · rw[HV.out]
           have hn0:(Value.slice A5 (acc.length+1) cp5).ownBlock≠some w.heap.size:=fun c=>by have:=(S5.out.row.lt _ c).1;omega
           exact Zae (Zae (Zae (by rw[List.length_append];exact hrow) hn0 _) hn0 _) hn0 _
         ·exact((S5.out.below.setCell (Nat.le_refl _) _).setCell (Nat.le_refl _) _).setCell (Nat.le_refl _) _
       · have hq1:((a:Int) == (s.size:Int))=false:=by rw[beq_eq_false_iff_ne];omega
         have ha:a<s.size:=by omega
         have hq2:decide (s.size≤a)=false:=by simp;omega
         have g:=Uc s a ha;have l4:(a:Int)<(s.size:Int):=by omega
         have hcase:((((s[a]'ha).toNat:Int) == 32)=true∧Zfx (gB s a)=true)∨((((s[a]'ha).toNat:Int) == 32)=false∧(((s[a]'ha).toNat:Int) == 9)=true∧Zfx (gB s a)=true) ∨
             ((((s[a]'ha).toNat:Int) == 32)=false∧(((s[a]'ha).toNat:Int) == 9)=false∧(((s[a]'ha).toNat:Int) == 10)=true∧Zfx (gB s a)=true) ∨
             ((((s[a]'ha).toNat:Int) == 32)=false∧(((s[a]'ha).toNat:Int) == 9)=false∧(((s[a]'ha).toNat:Int) == 10)=false∧Zfx (gB s a)=false):=by
           have hb:=Zco (gB s a:Int);rw[←g];by_cases e1:(gB s a:Int)=32
           ·exact .inl ⟨by rw[e1];rfl,hb.2 (.inl e1)⟩
           · have f1:((gB s a:Int) == 32)=false:=by simpa using e1
             by_cases e2:(gB s a:Int)=9
             ·exact .inr (.inl ⟨f1,by rw[e2];rfl,hb.2 (.inr (.inl e2))⟩)
             · have f2:((gB s a:Int) == 9)=false:=by simpa using e2
               by_cases e3:(gB s a:Int)=10
               ·exact .inr (.inr (.inl ⟨f1,f2,by rw[e3];rfl,hb.2 (.inr (.inr e3))⟩))
               · refine .inr (.inr (.inr ⟨f1,f2,by simpa using e3,?_⟩))
                 rw[←Bool.not_eq_true,hb];omega
         clear g;rcases hcase with⟨h1,hbl⟩ | ⟨h1,h2,hbl⟩ | ⟨h1,h2,h3,hbl⟩ | ⟨h1,h2,h3,hbl⟩
         · have hn:=Zbz s acc ha hbl
           have hb1:Bd s (a+1):=Bd.behind ha (by rw[Zco]at hbl;omega);have HN:=Hh (And.intro hn hb1);clear hn hb1 hbl;go_wp2
           go_roundw
           case rel=>exact⟨a,a+1,acc,S1.out,rfl,rfl,rfl,by go_num,HP.out.1,HN.out.2,by omega,by have:=HL.out;omega,HN.out.1.symm.trans HSC.out⟩
           case measure=>simp[intOf];omega
         · have hn:=Zbz s acc ha hbl
           have hb1:Bd s (a+1):=Bd.behind ha (by rw[Zco]at hbl;omega);have HN:=Hh (And.intro hn hb1);clear hn hb1 hbl;go_wp2
           go_roundw
           case rel=>exact⟨a,a+1,acc,S1.out,rfl,rfl,rfl,by go_num,HP.out.1,HN.out.2,by omega,by have:=HL.out;omega,HN.out.1.symm.trans HSC.out⟩
           case measure=>simp[intOf];omega
         · have hn:=Zbz s acc ha hbl
           have hb1:Bd s (a+1):=Bd.behind ha (by rw[Zco]at hbl;omega);have HN:=Hh (And.intro hn hb1);clear hn hb1 hbl;go_wp2
           go_roundw
           case rel=>exact⟨a,a+1,acc,S1.out,rfl,rfl,rfl,by go_num,HP.out.1,HN.out.2,by omega,by have:=HL.out;omega,HN.out.1.symm.trans HSC.out⟩
           case measure=>simp[intOf];omega
         · have c2:=fun w=>rtToken s a w hs ha
           have hbd:=Zgi (Zk s a) (Zet s ha);have hbeh:=Zax s ha;have htb:=tok_bd s ha;have hrb:=rem_bd s ha;have hse:=Zlh s acc ha hbl;have hsr:=Zlg s acc ha hbl;have hst:=Zlf s acc ha hbl;have hnt:=num_take s ha;have htv:(Zep s a).cells=[.int .i64 (Yf (Zk s a)).1,.string (s.extract (a+(Yf (Zk s a)).2.1) (a+(Yf (Zk s a)).2.2.1)),.int .i64 (Zcb (Yf (Zk s a)).1 (Zk s a)),.int .i64 ((Zs s (a:Int)).1:Nat),.int .i64 ((Zs s (a:Int)).2:Nat)]:=rfl;rw[Xk]at hbd;have hf0:=tokL_from s ha;obtain⟨K,f,e,z,hK⟩:∃ K f e z,Yf (Zk s a)=(K,f,e,z):=⟨_,_,_,_,rfl⟩
           rw[hK]at c2 hbd hbeh htb hrb hse hsr hst hnt htv hf0;unfold Zcv at c2;dsimp only at c2 hbd hbeh htb hrb hse hsr hst hnt htv hf0;obtain⟨hb1,hb2,hb3,hb4,hb5,hb6,hb7⟩:=hbd;clear hK hbl;by_cases hneg:K < -1
           · simp only[if_pos hneg]at c2
             have hv:Zbk s=([],Ziu K,(Zs s (a:Nat)).1,(Zs s (a:Nat)).2):=by
               rw[Zeq s (by omega) (HSC.out.symm.trans (hse hneg)),if_neg (by have:=errE_is K;omega)]
             have hKc:K = -2∨K = -3∨K = -4:=by omega
             clear hbeh htb hrb hse hsr hst hnt htv hf0 hb1 hb2 hb3 hb4;rcases hKc with rfl | rfl | rfl
             · have HV:=Hh (hv.trans (show _=([],12,(Zs s (a:Nat)).1,(Zs s (a:Nat)).2)from rfl))
               clear hv;go_wp2_with(first
 | (go_at_call 104;refine(c2 _).mono ?_;rintro e w2 ⟨rfl,b2⟩;have S2:=Hh (S1.out.next b2);clear b2
    have y0:w2.cell? ⟨w.heap.size,0,none⟩=some (.int .i64 0):=S2.out.fl.read 0;have y1:w2.cell? ⟨w.heap.size,1,none⟩=some (.int .i64 0):=S2.out.fl.read 1;have y2:w2.cell? ⟨w.heap.size,2,none⟩=some (.int .i64 0):=S2.out.fl.read 2;have z0:=S2.out.fl.thawed 0;have z1:=S2.out.fl.thawed 1;have z2:=S2.out.fl.thawed 2
    have hlo2:w.heap.size<w2.heap.size:=S2.out.lo))
               go_region
               go_wp2
               have hF:=((((S2.out.fl.write 0 (.int .i64 12)).write 1 (.int .i64 ((Zs s (a:Int)).1:Nat))).write 2 (.int .i64 ((Zs s (a:Int)).2:Nat))).alloc (.cells #[.int .i64 0,.int .i64 0,.int .i64 12,.int .i64 10,.int .i64 6] 27)).drew;have hF3:=Zy hF;refine bodyPost_ret (v:=.tuple #[.slice none 0 0,.agg #[.int .i64 12,.int .i64 ((Zs s (a:Int)).1:Nat),.int .i64 ((Zs s (a:Int)).2:Nat)]]) (by simp[results,Tryz.results81,go_sem,hF3]) rfl ⟨.slice none 0 0,by rw[HV.out];rfl,by rw[HV.out];exact⟨rfl,.inl ⟨rfl,rfl⟩⟩,?_⟩;exact Wa ((((S2.out.below.setCell (Nat.le_refl _) _).setCell (Nat.le_refl _) _).setCell (Nat.le_refl _) _).alloc (by simp[World.setCell];omega) _)
             · have HV:=Hh (hv.trans (show _=([],10,(Zs s (a:Nat)).1,(Zs s (a:Nat)).2)from rfl))
               clear hv;go_wp2_with(first
 | (go_at_call 104;refine(c2 _).mono ?_;rintro e w2 ⟨rfl,b2⟩;have S2:=Hh (S1.out.next b2);clear b2
    have y0:w2.cell? ⟨w.heap.size,0,none⟩=some (.int .i64 0):=S2.out.fl.read 0;have y1:w2.cell? ⟨w.heap.size,1,none⟩=some (.int .i64 0):=S2.out.fl.read 1;have y2:w2.cell? ⟨w.heap.size,2,none⟩=some (.int .i64 0):=S2.out.fl.read 2;have z0:=S2.out.fl.thawed 0;have z1:=S2.out.fl.thawed 1;have z2:=S2.out.fl.thawed 2
    have hlo2:w.heap.size<w2.heap.size:=S2.out.lo))
               go_region
               go_wp2
               have hF:=((((S2.out.fl.write 0 (.int .i64 10)).write 1 (.int .i64 ((Zs s (a:Int)).1:Nat))).write 2 (.int .i64 ((Zs s (a:Int)).2:Nat))).alloc (.cells #[.int .i64 0,.int .i64 0,.int .i64 12,.int .i64 10,.int .i64 6] 27)).drew;have hF3:=Zy hF;refine bodyPost_ret (v:=.tuple #[.slice none 0 0,.agg #[.int .i64 10,.int .i64 ((Zs s (a:Int)).1:Nat),.int .i64 ((Zs s (a:Int)).2:Nat)]]) (by simp[results,Tryz.results81,go_sem,hF3]) rfl ⟨.slice none 0 0,by rw[HV.out];rfl,by rw[HV.out];exact⟨rfl,.inl ⟨rfl,rfl⟩⟩,?_⟩;exact Wa ((((S2.out.below.setCell (Nat.le_refl _) _).setCell (Nat.le_refl _) _).setCell (Nat.le_refl _) _).alloc (by simp[World.setCell];omega) _)
             · have HV:=Hh (hv.trans (show _=([],6,(Zs s (a:Nat)).1,(Zs s (a:Nat)).2)from rfl))
               clear hv;go_wp2_with(first
 | (go_at_call 104;refine(c2 _).mono ?_;rintro e w2 ⟨rfl,b2⟩;have S2:=Hh (S1.out.next b2);clear b2
    have y0:w2.cell? ⟨w.heap.size,0,none⟩=some (.int .i64 0):=S2.out.fl.read 0;have y1:w2.cell? ⟨w.heap.size,1,none⟩=some (.int .i64 0):=S2.out.fl.read 1;have y2:w2.cell? ⟨w.heap.size,2,none⟩=some (.int .i64 0):=S2.out.fl.read 2;have z0:=S2.out.fl.thawed 0;have z1:=S2.out.fl.thawed 1;have z2:=S2.out.fl.thawed 2
    have hlo2:w.heap.size<w2.heap.size:=S2.out.lo))
               go_region
               go_wp2
               have hF:=((((S2.out.fl.write 0 (.int .i64 6)).write 1 (.int .i64 ((Zs s (a:Int)).1:Nat))).write 2 (.int .i64 ((Zs s (a:Int)).2:Nat))).alloc (.cells #[.int .i64 0,.int .i64 0,.int .i64 12,.int .i64 10,.int .i64 6] 27)).drew;have hF3:=Zy hF;refine bodyPost_ret (v:=.tuple #[.slice none 0 0,.agg #[.int .i64 6,.int .i64 ((Zs s (a:Int)).1:Nat),.int .i64 ((Zs s (a:Int)).2:Nat)]]) (by simp[results,Tryz.results81,go_sem,hF3]) rfl ⟨.slice none 0 0,by rw[HV.out];rfl,by rw[HV.out];exact⟨rfl,.inl ⟨rfl,rfl⟩⟩,?_⟩;exact Wa ((((S2.out.below.setCell (Nat.le_refl _) _).setCell (Nat.le_refl _) _).setCell (Nat.le_refl _) _).alloc (by simp[World.setCell];omega) _)
           · simp only[if_neg hneg]at c2
             obtain⟨hz1,hz2⟩:=hbeh (by omega);by_cases hrem:K = -1
             · subst hrem
               have HN:=Hh (And.intro (hsr rfl) (hrb rfl));clear hse hsr hst hnt htv hf0 htb hrb hb1 hb2 hb3 hb4 hneg;go_wp2_with(first
 | (go_at_call 104;refine(c2 _).mono ?_;rintro e w2 ⟨rfl,b2⟩;have S2:=Hh (S1.out.next b2);clear b2
    have y0:w2.cell? ⟨w.heap.size,0,none⟩=some (.int .i64 0):=S2.out.fl.read 0
    have hlo2:w.heap.size<w2.heap.size:=S2.out.lo))
               go_roundw
               case rel=>exact⟨a,a+z,acc,S2.out,rfl,rfl,rfl,rfl,HP.out.1,HN.out.2,by omega,by have:=HL.out;omega,HN.out.1.symm.trans HSC.out⟩
               case measure=>simp[intOf];omega
             · have hpos:0<K:=by omega
               have HN:=Hh (And.intro (hst hpos) (htb hpos));by_cases h2K:K=2
               · subst h2K
                 have hn0:Zcb 2 (Zk s a)=Jo (Xr (Zk s a)):=rfl;rw[hn0]at htv;have hf:=hf0 (.inl rfl);subst hf;have hnt':=hnt rfl;have c3:∀ w,Calls Tryz.prog 105 #[.string s,.int .i64 ((a+0:Nat):Int),.int .i64 2] w fun e w'=>e=.returned (takeV (Uk s a 2))∧Below w.heap.size w w':=fun w=>drTake_any s a 2 w (by omega) (by omega) (by omega) (by omega) (by omega)
                 rw[hnt']at c3;simp only[takeV]at c3;have hsl:=fun w=>slice_fe (P:=Tryz.prog) 9 (by kernel_rfl) s (a+0) (a+e) (by omega) (by omega) w
                 generalize Jo (Xr (Zk s a))=V at *;generalize(a:Int)+((Xr (Zk s a)).length:Int)=V2 at *;generalize a+0=F at *;generalize a+e=E at *;have HTV:=Hh htv;clear hse hsr hst hnt htv hf0 htb hrb hb1 hb2 hb3 hb4 hneg hn0 hrem hnt';go_wp2_with(first
 | (go_at_call 104;refine(c2 _).mono ?_;rintro e w2 ⟨rfl,b2⟩;have S2:=Hh (S1.out.next b2);clear b2
    have y0:w2.cell? ⟨w.heap.size,0,none⟩=some (.int .i64 0):=S2.out.fl.read 0;have hlo2:w.heap.size<w2.heap.size:=S2.out.lo)
 | (go_at_call 105;refine(c3 _).mono ?_;rintro e w3 ⟨rfl,b3⟩
    have T3:=Hh ((Zf.made w2 69 #[.int .i64 2,.string (s.extract F E),.int .i64 0,.int .i64 ((Zs s (a:Int)).1:Nat),.int .i64 ((Zs s (a:Int)).2:Nat)]).below b3 (by simp));have T4:=Hh (T3.out.write 2 (.int .i64 V));have B3:=Hh (Ue ((Below.refl w2.heap.size w2).alloc (Nat.le_refl _) (.cells #[.int .i64 2,.string (s.extract F E),.int .i64 0,.int .i64 ((Zs s (a:Int)).1:Nat),.int .i64 ((Zs s (a:Int)).2:Nat)] 69)) b3);have HB3:=Hh (B3.out.setCell (p:=⟨w2.heap.size,2,none⟩) (Nat.le_refl _) (.int .i64 V));have H3:=Hh (And.intro (Un S2.out.row HB3.out) (Nat.lt_of_lt_of_le hlo2 B3.out.size));obtain⟨k0,k1,k2,k3,k4,f0,f1,f2,f3,f4⟩:=Zac T3.out;obtain⟨j0,j1,j2,j3,j4⟩:=Zan T4.out;clear b3)
 | (at_builtin;refine Zcf (w:=w3.setCell ⟨w2.heap.size,2,none⟩ (.int .i64 V)) (.tmp 116) (.tmp 118) 62 69 48 _ Zhj Zhs (by rfl) (by decide) rfl rfl (w.heap.size+1) (.slice A acc.length cp) acc.length (Jb acc) _ _ _ _ _ rfl H3.out.1 w3.heap.size (by simp[World.setCell]) rfl (by simp[Value.oneCell']) (by have:=HL.out;omega) (by have:=H3.out.2;simp[World.setCell];omega) ⟨rfl,rfl,rfl,rfl⟩ ?_
    intro v5 w5 o5 g5 at5;obtain⟨A5,cp5,rfl,_⟩:=Xd o5;have S5:=Hh (S2.out.push HB3.out (Zep s a) (by rw[HTV.out];exact o5) g5)
    clear o5 g5 at5))
                 go_roundw
                 case rel=>exact⟨a,a+z,acc++[Zep s a],S5.out,rfl,rfl,rfl,rfl,HP.out.1,HN.out.2,by omega,by have:=HL.out;simp;omega,HN.out.1.symm.trans HSC.out⟩
                 case measure=>simp[intOf];omega
               · have hq3:(K == 2)=false:=by rw[beq_eq_false_iff_ne];exact h2K
                 have hn0:Zcb K (Zk s a)=0:=by unfold Zcb;rw[if_neg h2K]
                 rw[hn0]at htv;have HTV:=Hh htv;have hsl:=fun w=>slice_fe (P:=Tryz.prog) 9 (by kernel_rfl) s (a+f) (a+e) (by omega) (by omega) w
                 generalize a+f=F at *;generalize a+e=E at *;clear hse hsr hst hnt htv hf0 htb hrb hb1 hb2 hb3 hb4 hneg hn0 h2K hrem;go_wp2_with(first
 | (go_at_call 104;refine(c2 _).mono ?_;rintro e w2 ⟨rfl,b2⟩;have S2:=Hh (S1.out.next b2);clear b2
    have y0:w2.cell? ⟨w.heap.size,0,none⟩=some (.int .i64 0):=S2.out.fl.read 0;have hlo2:w.heap.size<w2.heap.size:=S2.out.lo)
 | (at_builtin;refine Zcf (w:=w2.alloc (.cells #[.int .i64 K,.string (s.extract F E),.int .i64 0,.int .i64 ((Zs s (a:Int)).1:Nat),.int .i64 ((Zs s (a:Int)).2:Nat)] 69)) (.tmp 116) (.tmp 118) 62 69 48 _ Zhj Zhs (by rfl) (by decide) rfl rfl (w.heap.size+1) (.slice A acc.length cp) acc.length (Jb acc) _ _ _ _ _ rfl (S2.out.row.alloc _) (w2.heap.size+1) (by simp) rfl (by simp[Value.oneCell']) (by have:=HL.out;omega) (by simp;omega) ⟨rfl,rfl,rfl,rfl⟩ ?_
    intro v5 w5 o5 g5 at5;obtain⟨A5,cp5,rfl,_⟩:=Xd o5;have S5:=Hh (S2.out.push ((Below.refl _ _).alloc (Nat.le_refl _) _) (Zep s a) (by rw[HTV.out];exact o5) g5)
    clear o5 g5 at5))
                 go_roundw
                 case rel=>exact⟨a,a+z,acc++[Zep s a],S5.out,rfl,rfl,rfl,rfl,HP.out.1,HN.out.2,by omega,by have:=HL.out;simp;omega,HN.out.1.symm.trans HSC.out⟩
                 case measure=>simp[intOf];omega
end Go.Proofs.YtdngkgickbaboaaGreat
