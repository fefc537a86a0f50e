/-
  No conditions but those that each theorem names.
-/
import Derived.StillTailTactics
import Derived.Deep.RegionHeld3
import Derived.Great.Walk
import Derived.Test.YtljdgdphldckhaaGreatQV18
set_option maxRecDepth 20000
set_option maxHeartbeats 12800000
namespace Go.Proofs.YtljdgdphldckhaaGreat
open Go Go.RowKit
set_option linter.unusedVariables false
set_option linter.unusedSimpArgs false
theorem six:∀ vs:List Value,vs.length=6→∃ a b c d e f,vs=[a,b,c,d,e,f]
 |[a,b,c,d,e,f],_=>⟨a,b,c,d,e,f,rfl⟩
theorem lPart_else(whn st ln cl:Int)(pl ea:Bool)(A:Option Addr)(rn rk:Nat)(aln acl sd tk tl how cop:Int)(nm:ByteArray)(a0 a1 a2 a3 a4 a5 n0 n1 n2 n3 n4 n5 n6 n7 n8 n9 n10 n11 p0 p1 p2 p3 p4 p5 p6 p7 p8 p9 p10 p11 q0 q1 q2 q3 q4 q5 q6 q7 q8 q9 q10 q11 u v:Value)(k:Int)(w:World)(h1:(k == 1)=false)(h2:(k == 2)=false)(h12:(k == 12)=false)(h3:(k == 3)=false)(h5:(k == 5)=false)(h14:(k == 14)=false)(h11:(k == 11)=false)(h4:(k == 4)=false)(h6:(k == 6)=false)(h7:(k == 7)=false)(h9:(k == 9)=false)(h8:(k == 8)=false)(h13:(k == 13)=false)(h15:(k == 15)=false)(h10:(k == 10)=false) :
  Calls Tryz.prog 216 #[.agg ([.int .i64 whn,.int .i64 st,.int .i64 ln,.int .i64 cl,.slice A rn rk,.bool pl,.bool ea]:List Value).toArray,.agg ([.int .i64 k,.int .i64 aln,.int .i64 acl,a0,a1,a2,a3,a4,a5,n0,n1,n2,n3,n4,n5,n6,n7,n8,n9,n10,n11,.int .i64 sd,.int .i64 tk,.int .i64 tl,.int .i64 how,.string nm,.int .i64 cop,p0,p1,p2,p3,p4,p5,p6,p7,p8,p9,p10,p11,q0,q1,q2,q3,q4,q5,q6,q7,q8,q9,q10,q11,u,v]:List Value).toArray] w fun e w'=>e=.returned (.int .i64 0)∧Below w.heap.size w w':=by
 have T:=Hh (Env.start w);go_enter Tryz.func216,Tryz.ntmps216;go_wp2_with(first
 |((with_reducible refine at_ld 2 ?_);refine Ze T.out 194 _ ([.int .i64 whn,.int .i64 st,.int .i64 ln,.int .i64 cl,.slice A rn rk,.bool pl,.bool ea]) rfl rfl rfl ?_;intro wa g0 tn;have T:=Hh tn;clear tn;obtain⟨fc0,fc1,fc2,fc3,fc4,fc5,fc6⟩:=Zu (T.out.get 0 rfl))
 |((with_reducible refine at_ld 3 ?_);refine Ze T.out 57 _ ([.int .i64 k,.int .i64 aln,.int .i64 acl,a0,a1,a2,a3,a4,a5,n0,n1,n2,n3,n4,n5,n6,n7,n8,n9,n10,n11,.int .i64 sd,.int .i64 tk,.int .i64 tl,.int .i64 how,.string nm,.int .i64 cop,p0,p1,p2,p3,p4,p5,p6,p7,p8,p9,p10,p11,q0,q1,q2,q3,q4,q5,q6,q7,q8,q9,q10,q11,u,v]) rfl rfl rfl ?_;intro wb g1 tn;have T:=Hh tn;clear tn;obtain⟨fc0,fc1,fc2,fc3,fc4,fc5,fc6⟩:=Zu (T.out.get 0 rfl);have fd0:wb.cell? ⟨g1,0,none⟩=some (.int .i64 k):=(T.out.get 1 rfl).read 0))
 go_ret;exact⟨rfl,T.out.below⟩
section
variable (c:Sc) (st ln cl:Int) (A:Option Addr) (rn rk:Nat)
theorem lParts_any(h:AH)(tn en:Nat)(t e:Ds)(w:World)(N:Nat→Prop)(ys:List Value)(hd:Deep N w (h.dsr tn t en e) ys) :
  Calls Tryz.prog 216 #[.agg (scL c st ln cl A rn rk).toArray,.agg ys.toArray] w fun e w'=>e=.returned (.int .i64 (Zca c h))∧Below w.heap.size w w':=by
 obtain⟨sel,num,pl,pr,thn,els,rfl,h1,h2,h3,h4,_,_⟩:=act_of hd;clear hd;have hsel:=fun x (hb:Below w.heap.size w x)=>lSel_any c st ln cl A rn rk h.sel x N sel (h1.below hb)
 have hnum:=fun x (hb:Below w.heap.size w x)=>Zdf c st ln cl A rn rk h.num x N num (h2.below hb)
 have hcl:=fun x (hb:Below w.heap.size w x)=>Zdf c st ln cl A rn rk h.cl x N pl (h3.below hb)
 have hcr:=fun x (hb:Below w.heap.size w x)=>Zdf c st ln cl A rn rk h.cr x N pr (h4.below hb)
 have hside:=fun x=>Ziu c st ln cl A rn rk h.side x
 have hto:=fun x=>lTo_any h.tk h.tl x
 have e1:sel.length=6:=by rw[h1.len,Se.ds_len]
 have e2:num.length=12:=by rw[h2.len,Ex.ds_len]
 have e3:pl.length=12:=by rw[h3.len,Ex.ds_len]
 have e4:pr.length=12:=by rw[h4.len,Ex.ds_len]
 clear h1 h2 h3 h4;obtain⟨a0,a1,a2,a3,a4,a5,rfl⟩:=six sel e1;obtain⟨n0,n1,n2,n3,n4,n5,n6,n7,n8,n9,n10,n11,rfl⟩:=Zba num e2;obtain⟨p0,p1,p2,p3,p4,p5,p6,p7,p8,p9,p10,p11,rfl⟩:=Zba pl e3;obtain⟨q0,q1,q2,q3,q4,q5,q6,q7,q8,q9,q10,q11,rfl⟩:=Zba pr e4;clear e1 e2 e3 e4;obtain⟨kind,aln,acl,hs,hn,sd,tk,tl,how,nm,cop,xl,xr⟩:=h;dsimp only at *;unfold scL at *;obtain⟨pla,whn,ea⟩:=c;dsimp only at *;simp only[Zt,List.cons_append,List.nil_append];by_cases k1:kind=1
 ·subst k1
  exact(lPart_1 _ _ _ _ _ _ _ _ _ _ _ _ _ _ _ _ _ _ _ _ _ _ _ _ _ _ _ _ _ _ _ _ _ _ _ _ _ _ _ _ _ _ _ _ _ _ _ _ _ _ _ _ _ _ _ _ _ _ _ _ _ w _ _ hsel hnum).mono fun e w' ⟨he,hb⟩=>⟨by rw[he,orE2];rfl,hb⟩
 by_cases k2:kind=2
 ·subst k2
  exact(lPart_2 _ _ _ _ _ _ _ _ _ _ _ _ _ _ _ _ _ _ _ _ _ _ _ _ _ _ _ _ _ _ _ _ _ _ _ _ _ _ _ _ _ _ _ _ _ _ _ _ _ _ _ _ _ _ _ _ _ _ _ _ _ w _ _ hsel hnum).mono fun e w' ⟨he,hb⟩=>⟨by rw[he,orE2];rfl,hb⟩
 by_cases k12:kind=12
 ·subst k12
  exact(lPart_12 _ _ _ _ _ _ _ _ _ _ _ _ _ _ _ _ _ _ _ _ _ _ _ _ _ _ _ _ _ _ _ _ _ _ _ _ _ _ _ _ _ _ _ _ _ _ _ _ _ _ _ _ _ _ _ _ _ _ _ _ _ w _ _ hsel hnum).mono fun e w' ⟨he,hb⟩=>⟨by rw[he,orE2];rfl,hb⟩
 by_cases k3:kind=3
 ·subst k3
  exact(lPart_3 _ _ _ _ _ _ _ _ _ _ _ _ _ _ _ _ _ _ _ _ _ _ _ _ _ _ _ _ _ _ _ _ _ _ _ _ _ _ _ _ _ _ _ _ _ _ _ _ _ _ _ _ _ _ _ _ _ _ _ _ _ w _ hsel).mono fun e w' ⟨he,hb⟩=>⟨by rw[he];rfl,hb⟩
 by_cases k5:kind=5
 ·subst k5
  exact(lPart_5 _ _ _ _ _ _ _ _ _ _ _ _ _ _ _ _ _ _ _ _ _ _ _ _ _ _ _ _ _ _ _ _ _ _ _ _ _ _ _ _ _ _ _ _ _ _ _ _ _ _ _ _ _ _ _ _ _ _ _ _ _ w _ hsel).mono fun e w' ⟨he,hb⟩=>⟨by rw[he];rfl,hb⟩
 by_cases k14:kind=14
 ·subst k14
  exact(lPart_14 _ _ _ _ _ _ _ _ _ _ _ _ _ _ _ _ _ _ _ _ _ _ _ _ _ _ _ _ _ _ _ _ _ _ _ _ _ _ _ _ _ _ _ _ _ _ _ _ _ _ _ _ _ _ _ _ _ _ _ _ _ w _ hsel).mono fun e w' ⟨he,hb⟩=>⟨by rw[he];rfl,hb⟩
 by_cases k11:kind=11
 ·subst k11
  exact(lPart_11 _ _ _ _ _ _ _ _ _ _ _ _ _ _ _ _ _ _ _ _ _ _ _ _ _ _ _ _ _ _ _ _ _ _ _ _ _ _ _ _ _ _ _ _ _ _ _ _ _ _ _ _ _ _ _ _ _ _ _ _ _ w _ hsel).mono fun e w' ⟨he,hb⟩=>⟨by rw[he];rfl,hb⟩
 by_cases k4:kind=4
 ·subst k4
  exact(lPart_4 _ _ _ _ _ _ _ _ _ _ _ _ _ _ _ _ _ _ _ _ _ _ _ _ _ _ _ _ _ _ _ _ _ _ _ _ _ _ _ _ _ _ _ _ _ _ _ _ _ _ _ _ _ _ _ _ _ _ _ _ _ w _ _ hsel hto).mono fun e w' ⟨he,hb⟩=>⟨by rw[he,orE2];rfl,hb⟩
 by_cases k6:kind=6
 ·subst k6
  exact(lPart_6 _ _ _ _ _ _ _ _ _ _ _ _ _ _ _ _ _ _ _ _ _ _ _ _ _ _ _ _ _ _ _ _ _ _ _ _ _ _ _ _ _ _ _ _ _ _ _ _ _ _ _ _ _ _ _ _ _ _ _ _ _ w _ _ _ hside hto hnum).mono fun e w' ⟨he,hb⟩=>⟨by rw[he,orE3];rfl,hb⟩
 by_cases k7:kind=7
 ·subst k7
  exact(lPart_7 _ _ _ _ _ _ _ _ _ _ _ _ _ _ _ _ _ _ _ _ _ _ _ _ _ _ _ _ _ _ _ _ _ _ _ _ _ _ _ _ _ _ _ _ _ _ _ _ _ _ _ _ _ _ _ _ _ _ _ _ _ w _ _ hside hnum).mono fun e w' ⟨he,hb⟩=>⟨by rw[he,orE2];rfl,hb⟩
 by_cases k9:kind=9
 ·subst k9
  exact(lPart_9 _ _ _ _ _ _ _ _ _ _ _ _ _ _ _ _ _ _ _ _ _ _ _ _ _ _ _ _ _ _ _ _ _ _ _ _ _ _ _ _ _ _ _ _ _ _ _ _ _ _ _ _ _ _ _ _ _ _ _ _ _ w _ _ hside hnum).mono fun e w' ⟨he,hb⟩=>⟨by rw[he,orE2];rfl,hb⟩
 by_cases k8:kind=8
 ·subst k8
  exact(lPart_8 _ _ _ _ _ _ _ _ _ _ _ _ _ _ _ _ _ _ _ _ _ _ _ _ _ _ _ _ _ _ _ _ _ _ _ _ _ _ _ _ _ _ _ _ _ _ _ _ _ _ _ _ _ _ _ _ _ _ _ _ _ w _ hside).mono fun e w' ⟨he,hb⟩=>⟨by rw[he];rfl,hb⟩
 by_cases k13:kind=13
 ·subst k13
  exact(lPart_13 _ _ _ _ _ _ _ _ _ _ _ _ _ _ _ _ _ _ _ _ _ _ _ _ _ _ _ _ _ _ _ _ _ _ _ _ _ _ _ _ _ _ _ _ _ _ _ _ _ _ _ _ _ _ _ _ _ _ _ _ _ w _ _ hside hto).mono fun e w' ⟨he,hb⟩=>⟨by rw[he,orE2];rfl,hb⟩
 by_cases k15:kind=15
 ·subst k15
  exact(lPart_15 _ _ _ _ _ _ _ _ _ _ _ _ _ _ _ _ _ _ _ _ _ _ _ _ _ _ _ _ _ _ _ _ _ _ _ _ _ _ _ _ _ _ _ _ _ _ _ _ _ _ _ _ _ _ _ _ _ _ _ _ _ w _ _ hside hto).mono fun e w' ⟨he,hb⟩=>⟨by rw[he,orE2];rfl,hb⟩
 by_cases k10:kind=10
 ·subst k10
  exact(lPart_10 _ _ _ _ _ _ _ _ _ _ _ _ _ _ _ _ _ _ _ _ _ _ _ _ _ _ _ _ _ _ _ _ _ _ _ _ _ _ _ _ _ _ _ _ _ _ _ _ _ _ _ _ _ _ _ _ _ _ _ _ _ w _ _ hcl hcr).mono fun e w' ⟨he,hb⟩=>⟨by rw[he,orE2];rfl,hb⟩
 have hv:Zca ⟨pla,whn,ea⟩ ⟨kind,aln,acl,hs,hn,sd,tk,tl,how,nm,cop,xl,xr⟩=0:=by
  unfold Zca;dsimp only;rw[if_neg (by omega),if_neg (by omega),if_neg (by omega),if_neg (by omega),if_neg (by omega),if_neg (by omega),if_neg (by omega),if_neg (by omega)]
 rw[hv];exact lPart_else _ _ _ _ _ _ _ _ _ _ _ _ _ _ _ _ _ _ _ _ _ _ _ _ _ _ _ _ _ _ _ _ _ _ _ _ _ _ _ _ _ _ _ _ _ _ _ _ _ _ _ _ _ _ _ _ _ _ _ _ _ kind w (by rw[beq_eq_false_iff_ne];exact k1) (by rw[beq_eq_false_iff_ne];exact k2) (by rw[beq_eq_false_iff_ne];exact k12) (by rw[beq_eq_false_iff_ne];exact k3) (by rw[beq_eq_false_iff_ne];exact k5) (by rw[beq_eq_false_iff_ne];exact k14) (by rw[beq_eq_false_iff_ne];exact k11) (by rw[beq_eq_false_iff_ne];exact k4) (by rw[beq_eq_false_iff_ne];exact k6) (by rw[beq_eq_false_iff_ne];exact k7) (by rw[beq_eq_false_iff_ne];exact k9) (by rw[beq_eq_false_iff_ne];exact k8) (by rw[beq_eq_false_iff_ne];exact k13) (by rw[beq_eq_false_iff_ne];exact k15) (by rw[beq_eq_false_iff_ne];exact k10)
end
open Go.ChangeShapes Go.WideShapes Go.ChangeAt Go.RowKit
section
variable {P:Program} {ops:Array Oper} {S:World→Prop} {o:Oper} {a:Act}
theorem Zbq{x:Operand}{v:Value}(g:o.guard=none)(ho:o.op=.move x)(e:a.eval x=v):YieldsIf P ops S o v a:=
 .inl ⟨(by unfold Region.wanted;rw[g]),fun w _=>by unfold execOp;rw[ho];simp[e,Sem.run_pure]⟩
theorem Vh{T:TypeId}{x:Operand}{b k:Nat}{ys:List Value}(g:o.guard=none)(ho:o.op=.load T x)(hx:a.eval x=.pointer (some ⟨b,k,none⟩))(hS:∀ w,S w→w.rangeAt b k ys)
  (hu:(P.underlying T).map TypeDesc.isRow=some true)(hi:(P.info? T).map (·.size)=some ys.length):YieldsIf P ops S o (.agg ys.toArray) a:=by
 obtain⟨d,hu,hr⟩:=Option.map_eq_some_iff.1 hu;exact yieldsIf_load_mid ((by unfold Region.wanted;rw[g])) T x ho b k hx ys d hS hu hr hi
end
theorem Uv:(Tryz.prog.info? 29).map (fun i=>i.zero.map Value.cells)=some (some ([.int .i64 0,.int .i64 0,.int .i64 0]:List Value).toArray):=by kernel_rfl
theorem Zbi:(Tryz.prog.underlying 194).map TypeDesc.isRow=some true:=by kernel_rfl
theorem Jf:(Tryz.prog.info? 194).map (·.size)=some 7:=by kernel_rfl
theorem Zdz:(Tryz.prog.underlying 57).map TypeDesc.isRow=some true:=by kernel_rfl
theorem Uj:(Tryz.prog.info? 57).map (·.size)=some 53:=by kernel_rfl
theorem Zb.nth{w:World}{g:Nat}{t:TypeId}{l:List Value}(h:Zb w g t l.toArray)(i:Nat){v:Value}(hv:l[i]?=some v):w.cell? ⟨g,i,none⟩=some v:=by
 rw[h.read,List.getElem?_toArray];exact hv
theorem Zb.range0{w:World}{g:Nat}{t:TypeId}{l:List Value}(h:Zb w g t l.toArray):w.rangeAt g 0 l:=by
 have:=Zb.range (a:=[]) (b:=l) (c:=[]) (by simpa using h);exact this
theorem Yi{P:Program}{md:Region.Mode}{ops:Array Oper}{Q:Exit→Act→World→Prop}{S:World→Prop}{i k:Nat}{oi:Oper}{v:Value}{fuel:Nat}{listed:Array Bool}{l:List Value}{d:List Deferred}{w:World}(hi:ops[i]?=some oi)(hd:oi.dst=some k)
  (hs:Region.noSelect ops=true)(hf:Region.free md ops listed i=true)(hr:(Region.ready md ops listed).contains i=true)
  (hQ:∀ c a w,Q (.panic c) (a.put oi.dst v) w→Q (.panic c) a w)(hy:YieldsIf P ops S oi v ⟨l.toArray,d⟩)(hS:S w)
  (h:wpAnyH P md ops Q S fuel (listed.setIfInBounds i true) ⟨(l.set k v).toArray,d⟩ w):wpAnyH P md ops Q S (fuel+1) listed ⟨l.toArray,d⟩ w:=by
 refine wpAnyH_take hi hs hf hr hQ hy hS ?_;rw[hd];simpa[Act.put]using h
theorem Zeh(F:Fa):∀ v ∈ faL F,v.oneCell'=true:=by simp[faL,Value.oneCell']
theorem lsize_bool:(Tryz.prog.info? 4).map (·.size)=some 1:=by kernel_rfl
theorem Zew{w:World}{g:Nat}{t:TypeId}{a b c:Value}(h:Zb w g t #[a,b,c])(x0 x1 x2:Value):Put w (((w.setCell ⟨g,0,none⟩ x0).setCell ⟨g,1,none⟩ x1).setCell ⟨g,2,none⟩ x2) g t [x0,x1,x2]:=
 ⟨Zb.set3 h x0 x1 x2,(((Keeps.refl (fun k=>k=g) w).setCell (p:=⟨g,0,none⟩) rfl x0).setCell (p:=⟨g,1,none⟩) rfl x1).setCell (p:=⟨g,2,none⟩) rfl x2⟩
theorem flatB{w x:World}{g0 g1 g2:Nat}{whn st ln cl:Int}{pl ea:Bool}{A U V:Option Addr}{rn rk tn uc en vc:Nat}{ys:List Value}(h51:ys[51]?=some (.slice U tn uc))(h52:ys[52]?=some (.slice V en vc))(h:∃ a b c,Env w [(g0,194,[.int .i64 whn,.int .i64 st,.int .i64 ln,.int .i64 cl,.slice A rn rk,.bool pl,.bool ea]),(g1,57,ys),(g2,29,[a,b,c])] [] [] x):(∃ a b c,Env w [(g0,194,[.int .i64 whn,.int .i64 st,.int .i64 ln,.int .i64 cl,.slice A rn rk,.bool pl,.bool ea]),(g1,57,ys),(g2,29,[a,b,c])] [] [] x)∧x.cell? ⟨g0,0,none⟩=some (.int .i64 whn)∧x.cell? ⟨g0,1,none⟩=some (.int .i64 st)∧x.cell? ⟨g0,2,none⟩=some (.int .i64 ln)∧x.cell? ⟨g0,3,none⟩=some (.int .i64 cl)∧x.cell? ⟨g0,4,none⟩=some (.slice A rn rk)∧x.cell? ⟨g0,5,none⟩=some (.bool pl)∧x.cell? ⟨g0,6,none⟩=some (.bool ea)∧x.cell? ⟨g1,51,none⟩=some (.slice U tn uc)∧x.cell? ⟨g1,52,none⟩=some (.slice V en vc):=by
 obtain⟨a,b,c,h1⟩:=id h;have W0:=h1.get 0 rfl;have W1:=h1.get 1 rfl;exact⟨h,W0.read 0,W0.read 1,W0.read 2,W0.read 3,W0.read 4,W0.read 5,W0.read 6,W1.nth 51 h51,W1.nth 52 h52⟩
theorem ES_call{w x y:World}{g0 g1 g2:Nat}{l m:List Value}{s t u:TypeId}(h:∃ a b c,Env w [(g0,s,l),(g1,t,m),(g2,u,[a,b,c])] [] [] x)(b:Below x.heap.size x y):∃ a b c,Env w [(g0,s,l),(g1,t,m),(g2,u,[a,b,c])] [] [] y:=by
 obtain⟨a,d,c,h1⟩:=h;exact⟨a,d,c,h1.call b⟩
theorem ES_below{w x:World}{g0 g1 g2:Nat}{l m:List Value}{s t u:TypeId}(h:∃ a b c,Env w [(g0,s,l),(g1,t,m),(g2,u,[a,b,c])] [] [] x):Below w.heap.size w x:=by
 obtain⟨a,d,c,h1⟩:=h;exact h1.below
theorem lAct_raw(whn st ln cl:Int)(pl ea:Bool)(A:Option Addr)(rn rk:Nat)(aln acl:Int)(U V:Option Addr)(tn uc en vc:Nat)(ys:List Value)(k:Int)(i:Int)(w:World)(s1 s2:Int)(hyl:ys.length=53)(h0:ys[0]?=some (.int .i64 k))(h1:ys[1]?=some (.int .i64 aln))(h2:ys[2]?=some (.int .i64 acl))(h51:ys[51]?=some (.slice U tn uc))(h52:ys[52]?=some (.slice V en vc))
  (hst:∀ x,Calls Tryz.prog 215 #[.agg ([.int .i64 whn,.int .i64 st,.int .i64 ln,.int .i64 cl,.slice A rn rk,.bool pl,.bool ea]:List Value).toArray,.int .i64 i,.int .i64 k] x fun e w'=>e=.returned (.int .i64 s1)∧Below x.heap.size x w')
  (hpa:∀ x,Below w.heap.size w x→Calls Tryz.prog 216 #[.agg ([.int .i64 whn,.int .i64 st,.int .i64 ln,.int .i64 cl,.slice A rn rk,.bool pl,.bool ea]:List Value).toArray,.agg ys.toArray] x fun e w'=>e=.returned (.int .i64 s2)∧Below x.heap.size x w')
  (F G H:Fa)(hth:k=10→∀ x,Below w.heap.size w x→Calls Tryz.prog 142 #[.agg ([.int .i64 whn,.int .i64 st,.int .i64 ln,.int .i64 cl,.slice A rn rk,.bool pl,.bool ea]:List Value).toArray,.slice U tn uc] x fun e w'=>e=.returned (faV F)∧Below x.heap.size x w')
  (hel:k=10→∀ x,Below w.heap.size w x→Calls Tryz.prog 142 #[.agg ([.int .i64 whn,.int .i64 st,.int .i64 ln,.int .i64 cl,.slice A rn rk,.bool pl,.bool ea]:List Value).toArray,.slice V en vc] x fun e w'=>e=.returned (faV G)∧Below x.heap.size x w')
  (hea:k=11→∀ x,Below w.heap.size w x→Calls Tryz.prog 142 #[.agg ([.int .i64 whn,.int .i64 st,.int .i64 ln,.int .i64 cl,.slice A rn rk,.bool pl,.bool true]:List Value).toArray,.slice U tn uc] x fun e w'=>e=.returned (faV H)∧Below x.heap.size x w') :
  Calls Tryz.prog 188 #[.agg ([.int .i64 whn,.int .i64 st,.int .i64 ln,.int .i64 cl,.slice A rn rk,.bool pl,.bool ea]:List Value).toArray,.int .i64 i,.agg ys.toArray] w fun e w'=>e=.returned (faV (if Xi [s1,s2]≠0 then(Xi [s1,s2],aln,acl)else if k=10 then Ve [F,G]else if k=11 then H else(0,0,0)))∧Below w.heap.size w w':=by
 have hor:=fun x g (hW:Zb x g 27 #[.int .i64 s1,.int .i64 s2])=>Zkb [s1,s2] 2 2 g x rfl (by omega) hW
 have SY:(Tryz.prog.info? 57).map (·.size)=some ys.length:=by rw[hyl];exact Uj
 have T:=Hh (Env.start w);generalize Xi [s1,s2]=z at *;obtain⟨R,hR⟩:∃ R,R=(if z≠0 then(z,aln,acl)else if k=10 then Ve [F,G]else if k=11 then H else(0,0,0)):=⟨_,rfl⟩
 rw[←hR];have HR:=Hh hR;clear hR;have HY:=Hh (And.intro h0 (And.intro h1 (And.intro h2 (And.intro h51 h52))));clear h0 h1 h2 h51 h52;go_enter Tryz.func188,Tryz.ntmps188;go_upto_region 1 with(first
 |((with_reducible refine at_ld 3 ?_);refine Ze T.out 194 _ ([.int .i64 whn,.int .i64 st,.int .i64 ln,.int .i64 cl,.slice A rn rk,.bool pl,.bool ea]) rfl rfl rfl ?_;intro wa g0 tn;have T:=Hh tn;clear tn)
 |((with_reducible refine at_ld 5 ?_);refine Ze T.out 57 _ (ys) rfl rfl rfl ?_;intro wb g1 tn;have T:=Hh tn;clear tn)
 |((with_reducible refine at_ld 6 ?_);refine wpList_allocE T.out 29 _ rfl rfl Uv ?_;intro wc g2 tn;have T:=Hh tn;clear tn))
 refine wp_region_held_drew (S:=fun x=>Env w [(g0,194,[.int .i64 whn,.int .i64 st,.int .i64 ln,.int .i64 cl,.slice A rn rk,.bool pl,.bool ea]),(g1,57,ys),(g2,29,[.int .i64 0,.int .i64 0,.int .i64 0])] [] [] x) (by kernel_rfl) T.out.drew (fun hS=>?_);refine Yi (i:=0) (v:=.agg ([.int .i64 whn,.int .i64 st,.int .i64 ln,.int .i64 cl,.slice A rn rk,.bool pl,.bool ea]:List Value).toArray) rfl rfl (by kernel_rfl) (by kernel_rfl) (by kernel_rfl) (fun _ _ _ h=>h) (Vh rfl rfl rfl (fun y hy=>(Env.get hy 0 rfl).range0) Zbi Jf) hS ?_;try simp only[Qy,Qx]
 refine Yi (i:=1) (v:=.int .i64 i) rfl rfl (by kernel_rfl) (by kernel_rfl) (by kernel_rfl) (fun _ _ _ h=>h) (Zbq rfl rfl rfl) hS ?_;try simp only[Qy,Qx]
 refine Yi (i:=2) (v:=.pointer (some ⟨g1,0,none⟩)) rfl rfl (by kernel_rfl) (by kernel_rfl) (by kernel_rfl) (fun _ _ _ h=>h) (Or.inl ⟨by rfl,fun y hy=>by go_simp⟩) hS ?_;try simp only[Qy,Qx]
 refine Yi (i:=3) (v:=.int .i64 k) rfl rfl (by kernel_rfl) (by kernel_rfl) (by kernel_rfl) (fun _ _ _ h=>h) (Or.inl ⟨by rfl,fun y hy=>by have c0:=(Env.get hy 1 rfl).nth 0 HY.out.1;go_simp⟩) hS ?_;try simp only[Qy,Qx]
 refine Yi (i:=5) (v:=.agg ([.int .i64 whn,.int .i64 st,.int .i64 ln,.int .i64 cl,.slice A rn rk,.bool pl,.bool ea]:List Value).toArray) rfl rfl (by kernel_rfl) (by kernel_rfl) (by kernel_rfl) (fun _ _ _ h=>h) (Vh rfl rfl rfl (fun y hy=>(Env.get hy 0 rfl).range0) Zbi Jf) hS ?_;try simp only[Qy,Qx]
 refine Yi (i:=6) (v:=.agg ys.toArray) rfl rfl (by kernel_rfl) (by kernel_rfl) (by kernel_rfl) (fun _ _ _ h=>h) (Vh rfl rfl rfl (fun y hy=>(Env.get hy 1 rfl).range0) Zdz SY) hS ?_;try simp only[Qy,Qx]
 refine wpAnyH_ready (rs:=[4]) (by kernel_rfl) (by simp) (AllReadyH.cons rfl (fun K hK=>?_) AllReadyH.nil);go_simp;go_at_call 215
 refine(hst _).mono ?_;rintro e wf ⟨rfl,bn⟩;try go_wp2
 refine hK.out _ _ (hS.call bn) (fun hS=>?_);clear hK K bn;try simp only[Act.put,Qz,Qy,Qx]
 refine wpAnyH_ready (rs:=[7]) (by kernel_rfl) (by simp) (AllReadyH.cons rfl (fun K hK=>?_) AllReadyH.nil);go_simp;go_at_call 216
 refine(hpa _ hS.below).mono ?_;rintro e wf ⟨rfl,bn⟩;try go_wp2
 refine hK.out _ _ (hS.call bn) (fun hS=>?_);clear hK K bn;try simp only[Act.put,Qz,Qy,Qx]
 refine wpAnyH_ready (rs:=[8]) (by kernel_rfl) (by simp) (AllReadyH.cons rfl (fun K hK=>?_) AllReadyH.nil);go_simp;refine hK.out _ _ (hS.call (Za _ _)) (fun hS2=>?_);clear hK K;try simp only[Act.put,Qz,Qy,Qx]
 refine wpAnyH_ready (rs:=[9]) (by kernel_rfl) (by simp) (AllReadyH.cons rfl (fun K hK=>?_) AllReadyH.nil);go_simp;go_at_call 214
 refine(hor _ _ (Zb.made _ _ _)).mono ?_;rintro e we ⟨rfl,bn⟩;try go_wp2
 refine hK.out _ _ (hS2.call bn) (fun hS=>?_);clear hK K bn hS2;try simp only[Act.put,Qz,Qy,Qx]
 refine wpAnyH_ready (rs:=[10]) (by kernel_rfl) (by simp) (AllReadyH.cons rfl (fun K hK=>?_) AllReadyH.nil);go_simp;refine hK.out _ _ hS (fun hS=>?_);clear hK K;try simp only[Act.put,Qz,Qy,Qx]
 refine wpAnyH_done (by kernel_rfl) ?_ _;have T:=Hh hS;clear hS;by_cases hz:z≠0
 ·have hR:=HR.out
  rw[if_pos hz]at hR;subst hR;have bz:(z == 0)=false:=by simpa using hz
  have hat:atF z aln acl=(z,aln,acl):=if_neg hz;have hfa:=fun x=>lFaultAt z aln acl x
  rw[hat]at hfa;clear hz hat hth hel hea;clear hst hpa hor HR;have fd1:we.cell? ⟨g1,1,none⟩=some (.int .i64 aln):=(T.out.get 1 rfl).nth 1 HY.out.2.1;have fd2:we.cell? ⟨g1,2,none⟩=some (.int .i64 acl):=(T.out.get 1 rfl).nth 2 HY.out.2.2.1;go_wp2_with(first
 |(go_at_call 185;refine(hfa _).mono ?_;rintro e wf ⟨rfl,bn⟩;have T:=Hh (T.out.call bn);clear bn)
 |((with_reducible refine at_st 6 25 ?_);refine wpList_storeW 29 _ _ 29 g2 _ (faL (z,aln,acl)) (T.out.get 2 rfl) rfl Zf (Zeh _) rfl rfl rfl rfl rfl ?_;intro wd p;have T:=Hh (T.out.put 2 rfl p);clear p))
  exact Zj 6 29 29 g2 _ rfl (T.out.get 2 rfl) Zw Zf rfl rfl ⟨rfl,T.out.below⟩
 ·have hR:=HR.out
  rw[if_neg hz]at hR;obtain rfl:z=0:=by omega
  clear hz;by_cases h10:k=10
  · rw[if_pos h10]at hR
    subst h10;have hth1:=hth rfl;have hel1:=hel rfl;clear hea hth hel;clear hst hpa hor HR;have hof:=fun x g (hW:Zb x g 29 ([F,G].flatMap faL).toArray)=>lOrF [F,G] 2 2 g x rfl (by omega) hW
    generalize Ve [F,G]=FG at *;subst hR;have fd0:we.cell? ⟨g1,0,none⟩=some (.int .i64 10):=(T.out.get 1 rfl).nth 0 HY.out.1;go_upto_region 7 with(fail)
    obtain⟨fc0,fc1,fc2,fc3,fc4,fc5,fc6⟩:=Zu (T.out.get 0 rfl);have fd51:we.cell? ⟨g1,51,none⟩=some (.slice U tn uc):=(T.out.get 1 rfl).nth 51 HY.out.2.2.2.1;have fd52:we.cell? ⟨g1,52,none⟩=some (.slice V en vc):=(T.out.get 1 rfl).nth 52 HY.out.2.2.2.2;obtain⟨e0,e1,e2,z0,z1,z2⟩:=Zl (T.out.get 2 rfl);go_region_held3 (fun x=>(∃ a b c,Env w [(g0,194,[.int .i64 whn,.int .i64 st,.int .i64 ln,.int .i64 cl,.slice A rn rk,.bool pl,.bool ea]),(g1,57,ys),(g2,29,[a,b,c])] [] [] x)∧x.cell? ⟨g0,0,none⟩=some (.int .i64 whn)∧x.cell? ⟨g0,1,none⟩=some (.int .i64 st)∧x.cell? ⟨g0,2,none⟩=some (.int .i64 ln)∧x.cell? ⟨g0,3,none⟩=some (.int .i64 cl)∧x.cell? ⟨g0,4,none⟩=some (.slice A rn rk)∧x.cell? ⟨g0,5,none⟩=some (.bool pl)∧x.cell? ⟨g0,6,none⟩=some (.bool ea)∧x.cell? ⟨g1,51,none⟩=some (.slice U tn uc)∧x.cell? ⟨g1,52,none⟩=some (.slice V en vc)) (first
 |assumption
 |exact flatB HY.out.2.2.2.1 HY.out.2.2.2.2 ⟨_,_,_,T.out⟩
 |exact flatB HY.out.2.2.2.1 HY.out.2.2.2.2 ⟨_,_,_,T.out.drew⟩
 |exact flatB HY.out.2.2.2.1 HY.out.2.2.2.2 (ES_call (by first | assumption | exact And.left (by assumption)) bn)
 |exact flatB HY.out.2.2.2.1 HY.out.2.2.2.2 (ES_call (by first | assumption | exact And.left (by assumption)) (Za _ _))
 |exact flatB HY.out.2.2.2.1 HY.out.2.2.2.2 ⟨_,_,_,HE.out.put 2 rfl (Zew (HE.out.get 2 rfl) _ _ _)⟩) (first
 |(go_at_call 142;(with_reducible refine(hth1 _ (ES_below (by first | assumption | exact And.left (by assumption)))).mono ?_);rintro e wf ⟨rfl,bn⟩;simp only[faV])
 |(go_at_call 142;(with_reducible refine(hel1 _ (ES_below (by first | assumption | exact And.left (by assumption)))).mono ?_);rintro e wg ⟨rfl,bn⟩;simp only[faV])
 |(go_at_call 88;refine(hof _ _ (Zb.made _ _ _)).mono ?_;rintro e wh ⟨rfl,bn⟩;obtain⟨x0,x1,x2,hE⟩:=ES_call (by first | assumption | exact And.left (by assumption)) bn;have HE:=Hh hE;obtain⟨e0,e1,e2,z0,z1,z2⟩:=Zl (hE.get 2 rfl);clear hE;simp only[faV]))
    all_goals
     have TT:=HE.out.put 2 rfl (Zew (HE.out.get 2 rfl) (.int .i64 R.1) (.int .i64 R.2.1) (.int .i64 R.2.2));go_wp2
     exact Zj 6 29 29 g2 _ rfl (TT.get 2 rfl) Zw Zf rfl rfl ⟨rfl,TT.below⟩
  · rw[if_neg h10]at hR
    have b10:(k == 10)=false:=by simpa using h10
    by_cases h11:k=11
    ·rw[if_pos h11]at hR
     subst h11 hR;have hea1:=hea rfl;clear hth hel hea h10 b10;clear hst hpa hor;have fd0:we.cell? ⟨g1,0,none⟩=some (.int .i64 11):=(T.out.get 1 rfl).nth 0 HY.out.1;go_wp2_with(first
 |((with_reducible refine Xo ?_);refine wpList_store1 4 _ (.const (.bool true)) 194 g0 6 [.int .i64 whn,.int .i64 st,.int .i64 ln,.int .i64 cl,.slice A rn rk,.bool pl] (.bool ea) (.bool true) [] (T.out.get 0 rfl) rfl lsize_bool rfl rfl rfl rfl rfl rfl ?_;intro wd p;have T:=Hh (T.out.put 0 rfl p);clear p;obtain⟨fc0,fc1,fc2,fc3,fc4,fc5,fc6⟩:=Zu (T.out.get 0 rfl);have fd51:wd.cell? ⟨g1,51,none⟩=some (.slice U tn uc):=(T.out.get 1 rfl).nth 51 HY.out.2.2.2.1)
 |(go_at_call 142;refine(hea1 _ T.out.below).mono ?_;rintro e wf ⟨rfl,bn⟩;have T:=Hh (T.out.call bn);clear bn)
 |((with_reducible refine at_st 6 47 ?_);refine wpList_storeW 29 _ _ 29 g2 _ (faL R) (T.out.get 2 rfl) rfl Zf (Zeh _) rfl rfl rfl rfl rfl ?_;intro wd p;have T:=Hh (T.out.put 2 rfl p);clear p))
     exact Zj 6 29 29 g2 _ rfl (T.out.get 2 rfl) Zw Zf rfl rfl ⟨rfl,T.out.below⟩
    ·rw[if_neg h11]at hR
     subst hR;have b11:(k == 11)=false:=by simpa using h11
     clear hth hel hea h10 h11;clear hst hpa hor;have fd0:we.cell? ⟨g1,0,none⟩=some (.int .i64 k):=(T.out.get 1 rfl).nth 0 HY.out.1;go_wp2_with(first
 |((with_reducible refine at_st 6 28 ?_);refine wpList_storeW 29 _ _ 29 g2 _ ([.int .i64 0,.int .i64 0,.int .i64 0]) (T.out.get 2 rfl) rfl Zf (by simp[Value.oneCell']) rfl rfl rfl rfl rfl ?_;intro wd p;have T:=Hh (T.out.put 2 rfl p);clear p))
     exact Zj 6 29 29 g2 _ rfl (T.out.get 2 rfl) Zw Zf rfl rfl ⟨rfl,T.out.below⟩
def Zjx(l:Acs):Prop:=∀(c:Sc)(st ln cl:Int)(A:Option Addr)(rn rk:Nat)(w:World)(N:Nat→Prop)(v:Value),Deep N w (.row l.len l.ds .nil) [v] →
 Calls Tryz.prog 142 #[.agg (scL c st ln cl A rn rk).toArray,v] w fun e w'=>e=.returned (faV (Vr c 0 l))∧Below w.heap.size w w'
theorem lAct_any(c:Sc)(st ln cl:Int)(A:Option Addr)(rn rk:Nat)(h:AH)(t e:Acs)(ht:Zjx t)(he:Zjx e)(i:Int)(w:World)(N:Nat→Prop)(ys:List Value)(hd:Deep N w (h.dsr t.len t.ds e.len e.ds) ys) :
  Calls Tryz.prog 188 #[.agg (scL c st ln cl A rn rk).toArray,.int .i64 i,.agg ys.toArray] w fun r w'=>r=.returned (faV (lAct c i h t e))∧Below w.heap.size w w':=by
 have hpa:=fun x (hb:Below w.heap.size w x)=>lParts_any c st ln cl A rn rk h t.len e.len t.ds e.ds x N ys (hd.below hb)
 have hst:=fun x=>lStand_any c st ln cl A rn rk i h.kind x
 obtain⟨sel,num,pl,pr,thn,els,rfl,h1,h2,h3,h4,h5,h6⟩:=act_of hd;clear hd;have hth:=fun x (hb:Below w.heap.size w x)=>ht c st ln cl A rn rk x N thn (h5.below hb)
 have hea:=fun x (hb:Below w.heap.size w x)=>ht ⟨c.place,c.whn,true⟩ st ln cl A rn rk x N thn (h5.below hb)
 have hel:=fun x (hb:Below w.heap.size w x)=>he c st ln cl A rn rk x N els (h6.below hb)
 obtain⟨U,uc,_,rfl,_⟩:=h5.inRow;obtain⟨V,vc,_,rfl,_⟩:=h6.inRow;have e1:sel.length=6:=by rw[h1.len,Se.ds_len]
 have e2:num.length=12:=by rw[h2.len,Ex.ds_len]
 have e3:pl.length=12:=by rw[h3.len,Ex.ds_len]
 have e4:pr.length=12:=by rw[h4.len,Ex.ds_len]
 obtain⟨c0,c1,c2,_,_,_,_,_,_,c51,c52⟩:=actV_at (k:=h.kind) (l:=h.line) (c:=h.col) (sd:=h.side) (tk:=h.tk) (tl:=h.tl) (how:=h.how) (nm:=h.name) (cop:=h.cop) (thn:=.slice U t.len uc) (els:=.slice V e.len vc) e1 e2 e3 e4;have hyl:(Zt h.kind h.line h.col sel num h.side h.tk h.tl h.how h.name h.cop pl pr (.slice U t.len uc) (.slice V e.len vc)).length=53:=by simp[Zt,e1,e2,e3,e4]
 clear h1 h2 h3 h4 h5 h6
 have hv:lAct c i h t e=if Xi [Zct c i h.kind,Zca c h]≠0 then(Xi [Zct c i h.kind,Zca c h],h.line,h.col)else if h.kind=10 then Ve [Vr c 0 t,Vr c 0 e]else if h.kind=11 then Vr ⟨c.place,c.whn,true⟩ 0 t else(0,0,0):=by
  rw[orE2,orF2];rfl
 rw[hv];generalize Zt h.kind h.line h.col sel num h.side h.tk h.tl h.how h.name h.cop pl pr (.slice U t.len uc) (.slice V e.len vc)=ys at *;exact lAct_raw _ _ _ _ _ _ _ _ _ _ _ _ _ _ _ _ _ ys h.kind i w _ _ hyl c0 c1 c2 c51 c52 hst hpa _ _ _ (fun _=>hth) (fun _=>hel) (fun _=>hea)
def Acs.dropA:Acs→Nat→Acs
 |x,0=>x
 |.nil,_=>.nil
 |.cons _ _ _ r,n+1=>r.dropA n
theorem Acs.drop_at:∀(l:Acs)(k:Nat)(u:AH×Acs×Acs),l.at? k=some u→l.dropA k=.cons u.1 u.2.1 u.2.2 (l.dropA (k+1))
 |.nil,k,u,h=>by cases k<;>cases h
 |.cons h t e r,0,u,hu=>by
  have hu:some (h,t,e)=some u:=hu;injection hu with hu;subst hu;show Acs.cons h t e r=.cons h t e (r.dropA 0);cases r<;>rfl
 |.cons h t e r,k+1,u,hu=>Acs.drop_at r k u hu
theorem Acs.drop_end:∀(l:Acs)(k:Nat),l.len≤k→l.dropA k=.nil
 |.nil,0,_=>rfl
 |.nil,k+1,_=>rfl
 |.cons h t e r,0,hl=>by unfold Acs.len at hl;omega
 |.cons h t e r,k+1,hl=>Acs.drop_end r k (by unfold Acs.len at hl;omega)
def zAc:List Value:=[.int .i64 0,.int .i64 0,.int .i64 0,.int .i64 0,.int .i64 0,.int .i64 0,.int .i64 0,.slice none 0 0,.int .i64 0,.int .i64 0,.int .i64 0,.int .i64 0,.int .i64 0,.int .i64 0,.int .i64 0,.slice none 0 0,.int .i64 0,.int .i64 0,.int .i64 0,.int .i64 0,.slice none 0 0,.int .i64 0,.int .i64 0,.int .i64 0,.int .i64 0,.string ⟨#[]⟩,.int .i64 0,.int .i64 0,.int .i64 0,.int .i64 0,.int .i64 0,.int .i64 0,.int .i64 0,.slice none 0 0,.int .i64 0,.int .i64 0,.int .i64 0,.int .i64 0,.slice none 0 0,.int .i64 0,.int .i64 0,.int .i64 0,.int .i64 0,.int .i64 0,.int .i64 0,.slice none 0 0,.int .i64 0,.int .i64 0,.int .i64 0,.int .i64 0,.slice none 0 0,.slice none 0 0,.slice none 0 0]
theorem lz_ac:(Tryz.prog.info? 57).map (fun i=>i.zero.map Value.cells)=some (some zAc.toArray):=by kernel_rfl
theorem lActs_walk(l:Acs)(hall:∀ k u,l.at? k=some u→Zjx u.2.1∧Zjx u.2.2):Zjx l:=by
 intro c st ln cl A rn rk w N v hv;obtain⟨B,bc,xs,rfl,hn,hw,hd⟩:=hv.inRow;clear hv;obtain⟨n,hn0⟩:∃ n,n=l.len:=⟨_,rfl⟩
 rw[←hn0]at hn ⊢;have HN:=Hh hn0;have HW:=Hh (And.intro hw hd);have HA:=Hh hall;obtain⟨R,hR⟩:∃ R,R=Vr c 0 l:=⟨_,rfl⟩
 rw[←hR];have HV:=Hh hR;clear hw hd hall hn0 hR;have l63:(n:Int)≤9223372036854775807:=by omega
 obtain⟨pl,whn,ea⟩:=c;have hax:=fun(h:AH)(t e:Acs)(ht:Zjx t)(he:Zjx e)(i:Int)(w:World)(N:Nat→Prop)(ys:List Value) hd=>lAct_any ⟨pl,whn,ea⟩ st ln cl A rn rk h t e ht he i w N ys hd
 dsimp only[scL]at *;have HX:=Hh hax;clear hax;have T:=Hh (Env.start w);go_enter Tryz.func142,Tryz.ntmps142;go_wp2_with(first
 |((with_reducible refine at_ld 2 ?_);refine Ze T.out 194 _ ([.int .i64 whn,.int .i64 st,.int .i64 ln,.int .i64 cl,.slice A rn rk,.bool pl,.bool ea]) rfl rfl rfl ?_;intro wa g0 tn;have T:=Hh tn;clear tn)
 |((with_reducible refine at_ld 4 ?_);refine wpList_allocE T.out 29 _ rfl rfl Uv ?_;intro wb g1 tn;have T:=Hh tn;clear tn))
 go_loopw [10] (fun i wr=>∃ m:Nat,i=.int .i64 m∧m≤n∧Env w [(g0,194,[.int .i64 whn,.int .i64 st,.int .i64 ln,.int .i64 cl,.slice A rn rk,.bool pl,.bool ea]),(g1,29,[.int .i64 0,.int .i64 0,.int .i64 0])] [] [] wr∧Hid (R=Vr ⟨pl,whn,ea⟩ m (l.dropA m))) (fun i _=>n - (intOf i).toNat)
 case atStart=>exact⟨0,by go_num,Nat.zero_le _,T.out,Hh (by rw[HV.out];cases l<;>rfl)⟩
 case round=>
  obtain⟨m,rfl,hm,hT,hz⟩:=hrel;have T:=Hh hT;clear hT;by_cases hlt:m<n
  · obtain⟨u,hu⟩:=Acs.at_some l m (by rw[←HN.out];exact hlt)
    obtain⟨g,ys,rfl,hg,hR,hy⟩:=act_at HW.out.1 HW.out.2 hu;have hyl:ys.length=53:=by rw[hy.len,AH.dsr_len]
    have hz2:=hz.out;rw[Acs.drop_at l m u hu,Zeb]at hz2;have hx:=fun x (hb:Below w.heap.size w x)=>HX.out u.1 u.2.1 u.2.2 (HA.out m u hu).1 (HA.out m u hu).2 (m:Int) x N ys (hy.below hb)
    generalize lAct ⟨pl,whn,ea⟩ (m:Int) u.1 u.2.1 u.2.2=X at *;have HR:Hid (∀ y,Below w.heap.size w y→y.rangeAt g (m*53) ys):=Hh fun y hb j v hv=>(World.cell?_of_block (a:=⟨g,m*53+j,none⟩) (hb.block g hg)).trans (hR j v hv)
    have HY:=Hh hy;clear hy hR hu hz;obtain⟨x0,x1,x2⟩:=X;unfold faV at hx;dsimp only at hx hz2;have lk:(m:Int)<(n:Int):=by omega
    by_cases h0:x0=0
    ·rw[if_pos h0]at hz2
     have HZ:=Hh hz2;clear hz2;subst h0;go_wp2_with(first
 |((with_reducible refine at_ld 14 ?_);refine Yb 57 _ g (m*53) ys (HR.out _ T.out.below) Zdz (by rw[hyl];exact Uj) rfl rfl rfl ?_)
 |((with_reducible refine at_ld 6 ?_);refine wpList_allocE T.out 57 _ rfl rfl lz_ac ?_;intro wc g2 tn;have T:=Hh tn;clear tn)
 |((with_reducible refine at_st 6 14 ?_);refine wpList_storeW 57 _ _ 57 g2 _ (ys) (T.out.get 2 rfl) hyl (by rw[hyl];exact Uj) HY.out.one rfl rfl rfl rfl rfl ?_;intro wd p;have T:=Hh (T.out.put 2 rfl p);clear p)
 |((with_reducible refine at_ld 15 ?_);refine wpList_loadW 194 _ 194 g0 ([.int .i64 whn,.int .i64 st,.int .i64 ln,.int .i64 cl,.slice A rn rk,.bool pl,.bool ea]) (T.out.get 0 rfl) Zbi Jf rfl rfl rfl ?_)
 |((with_reducible refine at_ld 17 ?_);refine wpList_loadW 57 _ 57 g2 (ys) (T.out.get 2 rfl) Zdz (by rw[hyl];exact Uj) rfl rfl rfl ?_)
 |(go_at_call 188;refine(hx _ T.out.below).mono ?_;rintro e we ⟨rfl,bn⟩;have T:=Hh (T.out.call bn);clear bn)
 |((with_reducible refine at_ld 7 ?_);refine wpList_allocE T.out 29 _ rfl rfl Uv ?_;intro wf g3 tn;have T:=Hh tn;clear tn)
 |((with_reducible refine at_st 7 18 ?_);refine wpList_storeW 29 _ _ 29 g3 _ ([.int .i64 0,.int .i64 x1,.int .i64 x2]) (T.out.get 3 rfl) rfl Zf (by simp[Value.oneCell']) rfl rfl rfl rfl rfl ?_;intro wd p;have T:=Hh (T.out.put 3 rfl p);clear p;obtain⟨y0,y1,y2,_,_,_⟩:=Zl (T.out.get 3 rfl))
 |((with_reducible refine at_ld 22 ?_);refine wpList_loadW 29 _ 29 g3 ([.int .i64 0,.int .i64 x1,.int .i64 x2]) (T.out.get 3 rfl) Zw Zf rfl rfl rfl ?_)
 |((with_reducible refine at_st 4 22 ?_);refine wpList_storeW 29 _ _ 29 g1 _ ([.int .i64 0,.int .i64 x1,.int .i64 x2]) (T.out.get 1 rfl) rfl Zf (by simp[Value.oneCell']) rfl rfl rfl rfl rfl ?_;intro wd p;have T:=Hh (T.out.put 1 rfl p);clear p))
     go_roundw
     case rel=>exact⟨m+1,by go_num,by omega,T.out.less (bs:=[_,_]) (cs:=[_,_]) (ts:=[]) (us:=[]),HZ⟩
     case measure=>simp[intOf];omega
    ·rw[if_neg h0]at hz2
     subst hz2;have hb0:(x0 == 0)=false:=by simpa using h0
     clear h0;go_wp2_with(first
 |((with_reducible refine at_ld 14 ?_);refine Yb 57 _ g (m*53) ys (HR.out _ T.out.below) Zdz (by rw[hyl];exact Uj) rfl rfl rfl ?_)
 |((with_reducible refine at_ld 6 ?_);refine wpList_allocE T.out 57 _ rfl rfl lz_ac ?_;intro wc g2 tn;have T:=Hh tn;clear tn)
 |((with_reducible refine at_st 6 14 ?_);refine wpList_storeW 57 _ _ 57 g2 _ (ys) (T.out.get 2 rfl) hyl (by rw[hyl];exact Uj) HY.out.one rfl rfl rfl rfl rfl ?_;intro wd p;have T:=Hh (T.out.put 2 rfl p);clear p)
 |((with_reducible refine at_ld 15 ?_);refine wpList_loadW 194 _ 194 g0 ([.int .i64 whn,.int .i64 st,.int .i64 ln,.int .i64 cl,.slice A rn rk,.bool pl,.bool ea]) (T.out.get 0 rfl) Zbi Jf rfl rfl rfl ?_)
 |((with_reducible refine at_ld 17 ?_);refine wpList_loadW 57 _ 57 g2 (ys) (T.out.get 2 rfl) Zdz (by rw[hyl];exact Uj) rfl rfl rfl ?_)
 |(go_at_call 188;refine(hx _ T.out.below).mono ?_;rintro e we ⟨rfl,bn⟩;have T:=Hh (T.out.call bn);clear bn)
 |((with_reducible refine at_ld 7 ?_);refine wpList_allocE T.out 29 _ rfl rfl Uv ?_;intro wf g3 tn;have T:=Hh tn;clear tn)
 |((with_reducible refine at_st 7 18 ?_);refine wpList_storeW 29 _ _ 29 g3 _ ([.int .i64 x0,.int .i64 x1,.int .i64 x2]) (T.out.get 3 rfl) rfl Zf (by simp[Value.oneCell']) rfl rfl rfl rfl rfl ?_;intro wd p;have T:=Hh (T.out.put 3 rfl p);clear p;obtain⟨y0,y1,y2,_,_,_⟩:=Zl (T.out.get 3 rfl))
 |((with_reducible refine at_ld 22 ?_);refine wpList_loadW 29 _ 29 g3 ([.int .i64 x0,.int .i64 x1,.int .i64 x2]) (T.out.get 3 rfl) Zw Zf rfl rfl rfl ?_)
 |((with_reducible refine at_st 4 22 ?_);refine wpList_storeW 29 _ _ 29 g1 _ ([.int .i64 x0,.int .i64 x1,.int .i64 x2]) (T.out.get 1 rfl) rfl Zf (by simp[Value.oneCell']) rfl rfl rfl rfl rfl ?_;intro wd p;have T:=Hh (T.out.put 1 rfl p);clear p))
     exact Zj 4 29 29 g1 ([.int .i64 x0,.int .i64 x1,.int .i64 x2]) rfl (T.out.get 1 rfl) Zw Zf rfl rfl ⟨rfl,T.out.below⟩
  · have hz2:=hz.out
    rw[Acs.drop_end l m (by have:=HN.out;omega)]at hz2;have hz2:R=(0,0,0):=hz2;subst hz2;clear hz;go_wp2_with(first
 |((with_reducible refine at_st 4 24 ?_);refine wpList_storeW 29 _ _ 29 g1 _ ([.int .i64 0,.int .i64 0,.int .i64 0]) (T.out.get 1 rfl) rfl Zf (by simp[Value.oneCell']) rfl rfl rfl rfl rfl ?_;intro wd p;have T:=Hh (T.out.put 1 rfl p);clear p))
    exact Zj 4 29 29 g1 ([.int .i64 0,.int .i64 0,.int .i64 0]) rfl (T.out.get 1 rfl) Zw Zf rfl rfl ⟨rfl,T.out.below⟩
theorem lActs_ok(l:Acs):Zjx l:=
 lActs_walk l fun k u hu=>
  have h:=Acs.at_lt l k u hu
  ⟨lActs_ok u.2.1,lActs_ok u.2.2⟩
termination_by SizeOf.sizeOf l
decreasing_by
 ·exact(Acs.at_lt l k u hu).1
 ·exact(Acs.at_lt l k u hu).2
def exKind:Ex→Int
 |.leaf k _ _ _ _ _=>k
 |.bin _ _ _=>7
def Zei:Ex→List Ex
 |.leaf _ _ _ _ _ _=>[]
 |.bin _ l r=>[l,r]
def Zgj:List Ex→Int
 |[]=>0
 |x::r=>exZ x+Zgj r
theorem sumZ_snoc(x:Ex):∀ l:List Ex,Zgj (l++[x])=Zgj l+exZ x
 |[]=>by simp[Zgj]
 |y::l=>by show exZ y+Zgj (l++[x])=exZ y+Zgj l+exZ x;rw[sumZ_snoc x l];omega
theorem exZ_eq(x:Ex):exZ x=if exKind x=7 then 1+Zgj (Zei x)else 1:=by
 cases x with
 |leaf k n s sd tk tl=>show(1:Int)=if k=7 then 1+0 else 1;split<;>rfl
 |bin op l r=>show 1+exZ l+exZ r=if(7:Int)=7 then 1+(exZ l+(exZ r+0))else 1;rw[if_pos rfl];omega
theorem ex_parts{N:Nat→Prop}{w:World}{x:Ex}{vs:List Value}(h:Deep N w x.ds vs):vs[0]?=some (.int .i64 (exKind x))∧∃ C kc xs,vs[11]?=some (.slice C (Zei x).length kc)∧Within N w C xs∧Deep N w (lxsDs (Zei x)) xs:=by
 cases x with
 |leaf k n s sd tk tl=>
  obtain⟨_,rfl,_,rfl,h⟩:=h;obtain⟨sv,_,rfl,hs,h⟩:=Deep.split (x:=s.ds) h;obtain⟨_,rfl,_,rfl,_,rfl,C,kc,xs,_,rfl,_,hw,hd,rfl⟩:=h;have hl:sv.length=6:=by rw[hs.len,Se.ds_len]
  exact⟨rfl,C,kc,xs,by simp[List.getElem?_append,hl,Zei],hw,hd⟩
 |bin op l r=>
  obtain⟨_,rfl,_,rfl,h⟩:=h;obtain⟨sv,_,rfl,hs,h⟩:=Deep.split (x:=zSe.ds) h;obtain⟨_,rfl,_,rfl,_,rfl,C,kc,xs,_,rfl,_,hw,hd,rfl⟩:=h;have hl:sv.length=6:=by rw[hs.len,Se.ds_len]
  exact⟨rfl,C,kc,xs,by simp[List.getElem?_append,hl,Zei],hw,by show Deep N w (l.ds.app (r.ds.app .nil)) xs;rw[Ds.app_nil];exact hd⟩
def LZOK(x:Ex):Prop:=∀(w:World)(N:Nat→Prop)(vs:List Value),Deep N w x.ds vs →
 Calls Tryz.prog 189 #[.agg vs.toArray] w fun e w'=>e=.returned (.int .i64 (Go.Proofs.YtljdgdphldckhaaGreat.wr (exZ x)))∧Below w.heap.size w w'
theorem Zhm(x:Ex)(IH:∀ y ∈ Zei x,LZOK y):LZOK x:=by
 intro w N vs h;obtain⟨c0,C,kc,xs,c11,hw,hd⟩:=ex_parts h;have hv:=exZ_eq x;have hxl:(Zei x).length≤2:=by cases x<;>simp[Zei]
 generalize exZ x=V at *;generalize exKind x=kk at *;generalize Zei x=K at *;obtain⟨kn,hkn⟩:∃ kn,kn=K.length:=⟨_,rfl⟩
 rw[←hkn]at hxl c11;have HK:=Hh hkn;have HW:=Hh (And.intro hw hd);have HI:=Hh IH;have HC:=Hh (And.intro c0 c11);have l2:(kn:Int)≤2:=by omega
 clear hkn hw hd IH c0 c11 h;have T:=Hh (Env.start w);go_enter Tryz.func189,Tryz.ntmps189;by_cases h7:kk=7
 ·subst h7
  rw[if_pos rfl]at hv;have HV:=Hh hv;clear hv;go_wp2_with(((with_reducible refine at_ld 1 ?_);refine Ze T.out 51 _ (vs) rfl rfl rfl ?_;intro wa g0 tn;have T:=Hh tn;clear tn;have fd0:wa.cell? ⟨g0,0,none⟩=some (.int .i64 7):=(T.out.get 0 rfl).nth 0 HC.out.1;have fd11:wa.cell? ⟨g0,11,none⟩=some (.slice C kn kc):=(T.out.get 0 rfl).nth 11 HC.out.2))
  go_loopw [3,12] (fun s i wy=>∃ m:Nat,i=.int .i64 m∧m≤kn∧s=.int .i64 (Go.Proofs.YtljdgdphldckhaaGreat.wr (1+Zgj (K.take m)))∧Env w [(g0,51,vs)] [] [] wy) (fun _ i _=>kn - (intOf i).toNat)
  case atStart=>exact⟨0,by go_num,Nat.zero_le _,by rw[List.take_zero];rfl,T.out⟩
  case round=>
    obtain⟨m,rfl,hm,rfl,hT⟩:=hrel;have T:=Hh hT;clear hT;by_cases hlt:m<kn
    ·have hk1:m<K.length:=by rw[←HK.out];exact hlt
     obtain⟨pre,ys,post,hxs,hp,hy⟩:=lxs_at HW.out.2 m hk1;have hyl:ys.length=12:=by rw[hy.len,Ex.ds_len]
     obtain⟨g,rfl,hg,hc⟩:=HW.out.1.reads (by rw[hxs];simp;omega);have hx:=HI.out (K[m]'hk1) (List.getElem_mem hk1);have hR:w.rangeAt g (m*12) ys:=Zau (by rw[hxs]at hc;exact hc) hp;have HR:Hid (∀ y,Below w.heap.size w y→y.rangeAt g (m*12) ys):=Hh fun y hb j v hv=>(World.cell?_of_block (a:=⟨g,m*12+j,none⟩) (hb.block g hg)).trans (hR j v hv)
     have hsum:IntKind.i64.wrap (Go.Proofs.YtljdgdphldckhaaGreat.wr (1+Zgj (K.take m))+Go.Proofs.YtljdgdphldckhaaGreat.wr (exZ (K[m]'hk1)))=Go.Proofs.YtljdgdphldckhaaGreat.wr (1+Zgj (K.take (m+1))):=by
      rw[show K.take (m+1)=K.take m++[K[m]'hk1]from by rw[List.take_add_one,List.getElem?_eq_getElem hk1];rfl,sumZ_snoc];rw[show(1:Int)+(Zgj (K.take m)+exZ (K[m]'hk1))=1+Zgj (K.take m)+exZ (K[m]'hk1)from by omega];exact wr_add _ _
     unfold LZOK at hx;generalize K[m]=y0 at *;have HY:=Hh hy;generalize Go.Proofs.YtljdgdphldckhaaGreat.wr (1+Zgj (K.take m))=s0 at *;have HS:Hid (∃ s1,s1=Go.Proofs.YtljdgdphldckhaaGreat.wr (1+Zgj (K.take (m+1)))):=Hh ⟨_,rfl⟩;obtain⟨s1,hs1⟩:=HS.out;rw[←hs1]at hsum;have HS1:=Hh hs1;generalize Go.Proofs.YtljdgdphldckhaaGreat.wr (exZ (K[m]'hk1))=v0 at *;clear hxs hp hc hR hy hk1 hs1 HS;have lk:(m:Int)<(kn:Int):=by omega
     go_wp2_with(first
 |((with_reducible refine at_ld 15 ?_);refine Yb 51 _ g (m*12) ys (HR.out _ T.out.below) Xg (by rw[hyl];exact Yx) rfl rfl rfl ?_)
 |((with_reducible refine at_ld 5 ?_);refine wpList_allocE T.out 51 _ rfl rfl lz_ex ?_;intro wc g2 tn;have T:=Hh tn;clear tn)
 |((with_reducible refine at_st 5 15 ?_);refine wpList_storeW 51 _ _ 51 g2 _ (ys) (T.out.get 1 rfl) hyl (by rw[hyl];exact Yx) HY.out.one rfl rfl rfl rfl rfl ?_;intro wd p;have T:=Hh (T.out.put 1 rfl p);clear p)
 |((with_reducible refine at_ld 17 ?_);refine wpList_loadW 51 _ 51 g2 (ys) (T.out.get 1 rfl) Xg (by rw[hyl];exact Yx) rfl rfl rfl ?_)
 |(go_at_call 189;refine(hx _ _ _ (HY.out.below T.out.below)).mono ?_;rintro e we ⟨rfl,bn⟩;have T:=Hh (T.out.call bn);clear bn))
     go_roundw
     case rel=>exact⟨m+1,by go_num,by omega,by rw[HS1.out],T.out.less (bs:=[_]) (cs:=[_]) (ts:=[]) (us:=[])⟩
     case measure=>simp[intOf];omega
    ·have hf:Go.Proofs.YtljdgdphldckhaaGreat.wr (1+Zgj (K.take m))=Go.Proofs.YtljdgdphldckhaaGreat.wr V:=by rw[List.take_of_length_le (by have:=HK.out;omega),HV.out]
     rw[hf];go_wp2
     go_ret;exact⟨rfl,T.out.below⟩
 ·rw[if_neg h7]at hv
  subst hv;have b7:(kk == 7)=false:=by simpa using h7
  go_wp2_with(((with_reducible refine at_ld 1 ?_);refine Ze T.out 51 _ (vs) rfl rfl rfl ?_;intro wa g0 tn;have T:=Hh tn;clear tn;have fd0:wa.cell? ⟨g0,0,none⟩=some (.int .i64 kk):=(T.out.get 0 rfl).nth 0 HC.out.1;have fd11:wa.cell? ⟨g0,11,none⟩=some (.slice C kn kc):=(T.out.get 0 rfl).nth 11 HC.out.2))
  go_ret;exact⟨by rw[wr_small (by omega) (by omega)];rfl,T.out.below⟩
theorem Zav:∀ x:Ex,LZOK x
 |.leaf k n s sd tk tl=>Zhm _ (fun y hy=>by cases hy)
 |.bin op l r=>by
  have hl:=Zav l;have hr:=Zav r;refine Zhm _ (fun y hy=>?_);rcases List.mem_cons.1 hy with rfl | hy
  ·exact hl
  ·cases List.mem_singleton.1 hy;exact hr
def acZ6(k z1 z5 z6 z7 z8:Int)(en:Nat):Int:=
 if k=1∨k=2∨k=6∨k=7∨k=9∨k=12 then z1+1 else if k=10 then z5+z6+z7+1+(if 0<en then z8+1 else 0)else if k=11 then z7+2 else 1
theorem lActSize_raw(ys num xl xr:List Value)(U V:Option Addr)(tn uc en vc:Nat)(k:Int)(w:World)(z1 z5 z6 z7 z8:Int)(hyl:ys.length=53)(h0:ys[0]?=some (.int .i64 k))(h51:ys[51]?=some (.slice U tn uc))(h52:ys[52]?=some (.slice V en vc))(hen:en≤9223372036854775807)
  (hr1:∀ x g t,Zb x g t ys.toArray→x.rangeAt g 9 num)(hr5:∀ x g t,Zb x g t ys.toArray→x.rangeAt g 27 xl)(hr6:∀ x g t,Zb x g t ys.toArray→x.rangeAt g 39 xr)(hsnum:(Tryz.prog.info? 51).map (·.size)=some num.length)(hsxl:(Tryz.prog.info? 51).map (·.size)=some xl.length)(hsxr:(Tryz.prog.info? 51).map (·.size)=some xr.length)
  (hnum:∀ x,Below w.heap.size w x→Calls Tryz.prog 189 #[.agg num.toArray] x fun e w'=>e=.returned (.int .i64 (wr z1))∧Below x.heap.size x w')(hxl:∀ x,Below w.heap.size w x→Calls Tryz.prog 189 #[.agg xl.toArray] x fun e w'=>e=.returned (.int .i64 (wr z5))∧Below x.heap.size x w')(hxr:∀ x,Below w.heap.size w x→Calls Tryz.prog 189 #[.agg xr.toArray] x fun e w'=>e=.returned (.int .i64 (wr z6))∧Below x.heap.size x w')
  (hth:∀ x,Below w.heap.size w x→Calls Tryz.prog 93 #[.slice U tn uc] x fun e w'=>e=.returned (.int .i64 (wr z7))∧Below x.heap.size x w')(hel:∀ x,Below w.heap.size w x→Calls Tryz.prog 93 #[.slice V en vc] x fun e w'=>e=.returned (.int .i64 (wr z8))∧Below x.heap.size x w') :
  Calls Tryz.prog 144 #[.agg ys.toArray] w fun e w'=>e=.returned (.int .i64 (wr (acZ6 k z1 z5 z6 z7 z8 en)))∧Below w.heap.size w w':=by
 have a1:IntKind.i64.wrap (wr z1+1)=wr (z1+1):=Zkc _ _;have b1:IntKind.i64.wrap (wr z5+wr z6)=wr (z5+z6):=wr_add _ _;have b2:IntKind.i64.wrap (wr (z5+z6)+wr z7)=wr (z5+z6+z7):=wr_add _ _;have b3:IntKind.i64.wrap (wr (z5+z6+z7)+1)=wr (z5+z6+z7+1):=Zkc _ _;have b4:IntKind.i64.wrap (wr z8+1)=wr (z8+1):=Zkc _ _;have b5:IntKind.i64.wrap (wr (z5+z6+z7+1)+wr (z8+1))=wr (z5+z6+z7+1+(z8+1)):=wr_add _ _;have d1:IntKind.i64.wrap (wr z7+2)=wr (z7+2):=Zkc _ _;obtain⟨R,hR⟩:∃ R,R=wr (acZ6 k z1 z5 z6 z7 z8 en):=⟨_,rfl⟩
 rw[←hR];unfold acZ6 at hR;have HR:=Hh hR;clear hR;have T:=Hh (Env.start w);have HC:=Hh (And.intro h0 (And.intro h51 h52));clear h0 h51 h52;have hr:(Tryz.prog.info? 57).map (·.size)=some ys.length:=by rw[hyl];exact Uj
 go_enter Tryz.func144,Tryz.ntmps144;by_cases h1:k=1∨k=2∨k=6∨k=7∨k=9∨k=12
 ·have hR:=HR.out
  rw[if_pos h1]at hR;subst hR;generalize wr (z1+1)=A1 at *;generalize wr z1=B1 at *;clear b1 b2 b3 b4 b5 d1 HR;rcases h1 with rfl | rfl | rfl | rfl | rfl | rfl
  · go_wp2_with(first
 |((with_reducible refine at_ld 1 ?_);refine Ze T.out 57 _ (ys) rfl rfl rfl ?_;intro wa g0 tn;have T:=Hh tn;clear tn;have fd0:wa.cell? ⟨g0,0,none⟩=some (.int .i64 1):=(T.out.get 0 rfl).nth 0 HC.out.1)
 |((with_reducible refine at_ld 14 ?_);refine Yb 51 _ g0 9 num (hr1 _ _ _ (T.out.get 0 rfl)) Xg hsnum rfl rfl rfl ?_)
 |(go_at_call 189;refine(hnum _ T.out.below).mono ?_;rintro e we ⟨rfl,bn⟩;have T:=Hh (T.out.call bn);clear bn))
    go_ret;exact⟨rfl,T.out.below⟩
  · go_wp2_with(first
 |((with_reducible refine at_ld 1 ?_);refine Ze T.out 57 _ (ys) rfl rfl rfl ?_;intro wa g0 tn;have T:=Hh tn;clear tn;have fd0:wa.cell? ⟨g0,0,none⟩=some (.int .i64 2):=(T.out.get 0 rfl).nth 0 HC.out.1)
 |((with_reducible refine at_ld 14 ?_);refine Yb 51 _ g0 9 num (hr1 _ _ _ (T.out.get 0 rfl)) Xg hsnum rfl rfl rfl ?_)
 |(go_at_call 189;refine(hnum _ T.out.below).mono ?_;rintro e we ⟨rfl,bn⟩;have T:=Hh (T.out.call bn);clear bn))
    go_ret;exact⟨rfl,T.out.below⟩
  · go_wp2_with(first
 |((with_reducible refine at_ld 1 ?_);refine Ze T.out 57 _ (ys) rfl rfl rfl ?_;intro wa g0 tn;have T:=Hh tn;clear tn;have fd0:wa.cell? ⟨g0,0,none⟩=some (.int .i64 6):=(T.out.get 0 rfl).nth 0 HC.out.1)
 |((with_reducible refine at_ld 14 ?_);refine Yb 51 _ g0 9 num (hr1 _ _ _ (T.out.get 0 rfl)) Xg hsnum rfl rfl rfl ?_)
 |(go_at_call 189;refine(hnum _ T.out.below).mono ?_;rintro e we ⟨rfl,bn⟩;have T:=Hh (T.out.call bn);clear bn))
    go_ret;exact⟨rfl,T.out.below⟩
  · go_wp2_with(first
 |((with_reducible refine at_ld 1 ?_);refine Ze T.out 57 _ (ys) rfl rfl rfl ?_;intro wa g0 tn;have T:=Hh tn;clear tn;have fd0:wa.cell? ⟨g0,0,none⟩=some (.int .i64 7):=(T.out.get 0 rfl).nth 0 HC.out.1)
 |((with_reducible refine at_ld 14 ?_);refine Yb 51 _ g0 9 num (hr1 _ _ _ (T.out.get 0 rfl)) Xg hsnum rfl rfl rfl ?_)
 |(go_at_call 189;refine(hnum _ T.out.below).mono ?_;rintro e we ⟨rfl,bn⟩;have T:=Hh (T.out.call bn);clear bn))
    go_ret;exact⟨rfl,T.out.below⟩
  · go_wp2_with(first
 |((with_reducible refine at_ld 1 ?_);refine Ze T.out 57 _ (ys) rfl rfl rfl ?_;intro wa g0 tn;have T:=Hh tn;clear tn;have fd0:wa.cell? ⟨g0,0,none⟩=some (.int .i64 9):=(T.out.get 0 rfl).nth 0 HC.out.1)
 |((with_reducible refine at_ld 14 ?_);refine Yb 51 _ g0 9 num (hr1 _ _ _ (T.out.get 0 rfl)) Xg hsnum rfl rfl rfl ?_)
 |(go_at_call 189;refine(hnum _ T.out.below).mono ?_;rintro e we ⟨rfl,bn⟩;have T:=Hh (T.out.call bn);clear bn))
    go_ret;exact⟨rfl,T.out.below⟩
  · go_wp2_with(first
 |((with_reducible refine at_ld 1 ?_);refine Ze T.out 57 _ (ys) rfl rfl rfl ?_;intro wa g0 tn;have T:=Hh tn;clear tn;have fd0:wa.cell? ⟨g0,0,none⟩=some (.int .i64 12):=(T.out.get 0 rfl).nth 0 HC.out.1)
 |((with_reducible refine at_ld 14 ?_);refine Yb 51 _ g0 9 num (hr1 _ _ _ (T.out.get 0 rfl)) Xg hsnum rfl rfl rfl ?_)
 |(go_at_call 189;refine(hnum _ T.out.below).mono ?_;rintro e we ⟨rfl,bn⟩;have T:=Hh (T.out.call bn);clear bn))
    go_ret;exact⟨rfl,T.out.below⟩
 ·have hR:=HR.out
  rw[if_neg h1]at hR;have n1:(k == 1)=false:=by rw[beq_eq_false_iff_ne];omega
  have n2:(k == 2)=false:=by rw[beq_eq_false_iff_ne];omega
  have n6:(k == 6)=false:=by rw[beq_eq_false_iff_ne];omega
  have n7:(k == 7)=false:=by rw[beq_eq_false_iff_ne];omega
  have n9:(k == 9)=false:=by rw[beq_eq_false_iff_ne];omega
  have n12:(k == 12)=false:=by rw[beq_eq_false_iff_ne];omega
  by_cases h10:k=10
  · subst h10
    rw[if_pos rfl]at hR;clear n1 n2 n6 n7 n9 n12 h1 HR a1 d1;have HR:=Hh hR;clear hR;have D0:=Hh (Eq.refl (wr (z5+z6+z7+1)));have D9:=Hh (Eq.refl (wr (z5+z6+z7+1+(z8+1))));generalize hD1:wr (z5+z6)=D1 at b1 b2;generalize hD2:wr (z5+z6+z7)=D2 at b2 b3;generalize hD3:wr (z5+z6+z7+1)=D3 at b3 b5;generalize hD4:wr (z8+1)=D4 at b4 b5;generalize hD5:wr (z5+z6+z7+1+(z8+1))=D5 at b5;have H3:=Hh hD3;have H5:=Hh hD5;clear hD1 hD2 hD3 hD4 hD5 D0 D9;generalize wr z5=y5 at *;generalize wr z6=y6 at *;generalize wr z7=y7 at *;generalize wr z8=y8 at *;go_upto_region 11 with(((with_reducible refine at_ld 1 ?_);refine Ze T.out 57 _ (ys) rfl rfl rfl ?_;intro wa g0 tn;have T:=Hh tn;clear tn;have fd0:wa.cell? ⟨g0,0,none⟩=some (.int .i64 10):=(T.out.get 0 rfl).nth 0 HC.out.1))
    refine wp_region_held_drew (S:=fun x=>Env w [(g0,57,ys)] [] [] x) (by kernel_rfl) T.out.drew (fun hS=>?_);refine Yi (i:=0) (v:=.pointer (some ⟨g0,26,none⟩)) rfl rfl (by kernel_rfl) (by kernel_rfl) (by kernel_rfl) (fun _ _ _ h=>h) (Or.inl ⟨by rfl,fun y hy=>by go_simp⟩) hS ?_;try simp only[Qy,Qx]
    refine Yi (i:=1) (v:=.pointer (some ⟨g0,27,none⟩)) rfl rfl (by kernel_rfl) (by kernel_rfl) (by kernel_rfl) (fun _ _ _ h=>h) (Or.inl ⟨by rfl,fun y hy=>by go_simp⟩) hS ?_;try simp only[Qy,Qx]
    refine Yi (i:=2) (v:=.agg xl.toArray) rfl rfl (by kernel_rfl) (by kernel_rfl) (by kernel_rfl) (fun _ _ _ h=>h) (Vh rfl rfl rfl (fun y hy=>hr5 _ _ _ (Env.get hy 0 rfl)) Xg hsxl) hS ?_;try simp only[Qy,Qx]
    refine Yi (i:=4) (v:=.pointer (some ⟨g0,26,none⟩)) rfl rfl (by kernel_rfl) (by kernel_rfl) (by kernel_rfl) (fun _ _ _ h=>h) (Or.inl ⟨by rfl,fun y hy=>by go_simp⟩) hS ?_;try simp only[Qy,Qx]
    refine Yi (i:=5) (v:=.pointer (some ⟨g0,39,none⟩)) rfl rfl (by kernel_rfl) (by kernel_rfl) (by kernel_rfl) (fun _ _ _ h=>h) (Or.inl ⟨by rfl,fun y hy=>by go_simp⟩) hS ?_;try simp only[Qy,Qx]
    refine Yi (i:=6) (v:=.agg xr.toArray) rfl rfl (by kernel_rfl) (by kernel_rfl) (by kernel_rfl) (fun _ _ _ h=>h) (Vh rfl rfl rfl (fun y hy=>hr6 _ _ _ (Env.get hy 0 rfl)) Xg hsxr) hS ?_;try simp only[Qy,Qx]
    refine Yi (i:=9) (v:=.pointer (some ⟨g0,51,none⟩)) rfl rfl (by kernel_rfl) (by kernel_rfl) (by kernel_rfl) (fun _ _ _ h=>h) (Or.inl ⟨by rfl,fun y hy=>by go_simp⟩) hS ?_;try simp only[Qy,Qx]
    refine Yi (i:=10) (v:=.slice U tn uc) rfl rfl (by kernel_rfl) (by kernel_rfl) (by kernel_rfl) (fun _ _ _ h=>h) (Or.inl ⟨by rfl,fun y hy=>by have c0:=(Env.get hy 0 rfl).nth 51 HC.out.2.1;go_simp⟩) hS ?_;try simp only[Qy,Qx]
    refine wpAnyH_ready (rs:=[3]) (by kernel_rfl) (by simp) (AllReadyH.cons rfl (fun K hK=>?_) AllReadyH.nil);go_simp;go_at_call 189
    refine(hxl _ hS.below).mono ?_;rintro e wf ⟨rfl,bn⟩;try go_wp2
    refine hK.out _ _ (hS.call bn) (fun hS=>?_);clear hK K bn;try simp only[Act.put,Qz,Qy,Qx]
    refine wpAnyH_ready (rs:=[7]) (by kernel_rfl) (by simp) (AllReadyH.cons rfl (fun K hK=>?_) AllReadyH.nil);go_simp;go_at_call 189
    refine(hxr _ hS.below).mono ?_;rintro e wf ⟨rfl,bn⟩;try go_wp2
    refine hK.out _ _ (hS.call bn) (fun hS=>?_);clear hK K bn;try simp only[Act.put,Qz,Qy,Qx]
    refine Yi (i:=8) (v:=.int .i64 D1) rfl rfl (by kernel_rfl) (by kernel_rfl) (by kernel_rfl) (fun _ _ _ h=>h) (Or.inl ⟨by rfl,fun y hy=>by go_simp⟩) hS ?_;try simp only[Qy,Qx]
    refine wpAnyH_ready (rs:=[11]) (by kernel_rfl) (by simp) (AllReadyH.cons rfl (fun K hK=>?_) AllReadyH.nil);go_simp;go_at_call 93
    refine(hth _ hS.below).mono ?_;rintro e we ⟨rfl,bn⟩;try go_wp2
    refine hK.out _ _ (hS.call bn) (fun hS=>?_);clear hK K bn;try simp only[Act.put,Qz,Qy,Qx]
    refine Yi (i:=12) (v:=.int .i64 D2) rfl rfl (by kernel_rfl) (by kernel_rfl) (by kernel_rfl) (fun _ _ _ h=>h) (Or.inl ⟨by rfl,fun y hy=>by go_simp⟩) hS ?_;try simp only[Qy,Qx]
    refine Yi (i:=13) (v:=.int .i64 D3) rfl rfl (by kernel_rfl) (by kernel_rfl) (by kernel_rfl) (fun _ _ _ h=>h) (Or.inl ⟨by rfl,fun y hy=>by go_simp⟩) hS ?_;try simp only[Qy,Qx]
    refine wpAnyH_ready (rs:=[14]) (by kernel_rfl) (by simp) (AllReadyH.cons rfl (fun K hK=>?_) AllReadyH.nil);go_simp;refine hK.out _ _ hS (fun hS=>?_);clear hK K;try simp only[Act.put,Qz,Qy,Qx]
    refine wpAnyH_done (by kernel_rfl) ?_ _;have T:=Hh hS;clear hS;have fd52:we.cell? ⟨g0,52,none⟩=some (.slice V en vc):=(T.out.get 0 rfl).nth 52 HC.out.2.2;have hen2:(en:Int)≤9223372036854775807:=by omega
    by_cases hE:0<en
    ·have hE2:(0:Int)<(en:Int):=by omega
     have hR:=HR.out;rw[if_pos hE,H5.out]at hR;subst hR;go_wp2_with(first
 |(go_at_call 93;refine(hel _ T.out.below).mono ?_;rintro e we ⟨rfl,bn⟩;have T:=Hh (T.out.call bn);clear bn))
     go_ret;exact⟨rfl,T.out.below⟩
    ·have hE2:¬(0:Int)<(en:Int):=by omega
     have hR:=HR.out;rw[if_neg hE,Int.add_zero,H3.out]at hR;subst hR;go_wp2
     go_ret;exact⟨rfl,T.out.below⟩
  · rw[if_neg h10]at hR
    have n10:(k == 10)=false:=by simpa using h10
    by_cases h11:k=11
    ·subst h11
     rw[if_pos rfl]at hR;subst hR;generalize wr (z7+2)=A1 at *;generalize wr z7=B1 at *;clear n1 n2 n6 n7 n9 n12 n10 h1 h10 HR a1 b1 b2 b3 b4 b5;go_wp2_with(first
 |((with_reducible refine at_ld 1 ?_);refine Ze T.out 57 _ (ys) rfl rfl rfl ?_;intro wa g0 tn;have T:=Hh tn;clear tn;have fd0:wa.cell? ⟨g0,0,none⟩=some (.int .i64 11):=(T.out.get 0 rfl).nth 0 HC.out.1;have fd51:wa.cell? ⟨g0,51,none⟩=some (.slice U tn uc):=(T.out.get 0 rfl).nth 51 HC.out.2.1)
 |(go_at_call 93;refine(hth _ T.out.below).mono ?_;rintro e we ⟨rfl,bn⟩;have T:=Hh (T.out.call bn);clear bn))
     go_ret;exact⟨rfl,T.out.below⟩
    ·rw[if_neg h11]at hR
     have n11:(k == 11)=false:=by simpa using h11
     rw[wr_small (by omega) (by omega)]at hR;subst hR;clear h1 h10 h11 HR a1 b1 b2 b3 b4 b5 d1;go_wp2_with(first
 |((with_reducible refine at_ld 1 ?_);refine Ze T.out 57 _ (ys) rfl rfl rfl ?_;intro wa g0 tn;have T:=Hh tn;clear tn;have fd0:wa.cell? ⟨g0,0,none⟩=some (.int .i64 k):=(T.out.get 0 rfl).nth 0 HC.out.1))
     go_ret;exact⟨rfl,T.out.below⟩
def LSZOK(l:Acs):Prop:=∀(w:World)(N:Nat→Prop)(v:Value),Deep N w (.row l.len l.ds .nil) [v] →
 Calls Tryz.prog 93 #[v] w fun e w'=>e=.returned (.int .i64 (wr (acsZ l)))∧Below w.heap.size w w'
theorem Zb.sub{w:World}{g:Nat}{t:TypeId}{l pre vs post:List Value}(h:Zb w g t l.toArray)(hl:l=pre++vs++post){n:Nat}(hn:pre.length=n):w.rangeAt g n vs:=by
 subst hl hn;exact Zb.range h
theorem lActSize_any(h:AH)(t e:Acs)(ht:LSZOK t)(he:LSZOK e)(w:World)(N:Nat→Prop)(ys:List Value)(hd:Deep N w (h.dsr t.len t.ds e.len e.ds) ys) :
  Calls Tryz.prog 144 #[.agg ys.toArray] w fun r w'=>r=.returned (.int .i64 (wr (acZ h (acsZ t) (acsZ e) e.len)))∧Below w.heap.size w w':=by
 obtain⟨sel,num,pl,pr,thn,els,rfl,h1,h2,h3,h4,h5,h6⟩:=act_of hd;clear hd;have hnum:=fun x (hb:Below w.heap.size w x)=>Zav h.num x N num (h2.below hb)
 have hcl:=fun x (hb:Below w.heap.size w x)=>Zav h.cl x N pl (h3.below hb)
 have hcr:=fun x (hb:Below w.heap.size w x)=>Zav h.cr x N pr (h4.below hb)
 have hth:=fun x (hb:Below w.heap.size w x)=>ht x N thn (h5.below hb)
 have hel:=fun x (hb:Below w.heap.size w x)=>he x N els (h6.below hb)
 obtain⟨U,uc,_,rfl,_⟩:=h5.inRow;obtain⟨V,vc,_,rfl,⟨hen,_⟩,_⟩:=h6.inRow;have e1:sel.length=6:=by rw[h1.len,Se.ds_len]
 have e2:num.length=12:=by rw[h2.len,Ex.ds_len]
 have e3:pl.length=12:=by rw[h3.len,Ex.ds_len]
 have e4:pr.length=12:=by rw[h4.len,Ex.ds_len]
 obtain⟨c0,c1,c2,_,_,_,_,_,_,c51,c52⟩:=actV_at (k:=h.kind) (l:=h.line) (c:=h.col) (sd:=h.side) (tk:=h.tk) (tl:=h.tl) (how:=h.how) (nm:=h.name) (cop:=h.cop) (thn:=.slice U t.len uc) (els:=.slice V e.len vc) e1 e2 e3 e4;have hyl:(Zt h.kind h.line h.col sel num h.side h.tk h.tl h.how h.name h.cop pl pr (.slice U t.len uc) (.slice V e.len vc)).length=53:=by simp[Zt,e1,e2,e3,e4]
 have r1:∀ x g t',Zb x g t' (Zt h.kind h.line h.col sel num h.side h.tk h.tl h.how h.name h.cop pl pr (.slice U t.len uc) (.slice V e.len vc)).toArray→x.rangeAt g 9 num:=fun x g t' hW=>
  hW.sub (pre:=[.int .i64 h.kind,.int .i64 h.line,.int .i64 h.col]++sel) (post:=.int .i64 h.side::.int .i64 h.tk::.int .i64 h.tl::.int .i64 h.how::.string h.name::.int .i64 h.cop::(pl++(pr++[.slice U t.len uc,.slice V e.len vc]))) (by simp[Zt]) (by simp[e1])
 have r5:∀ x g t',Zb x g t' (Zt h.kind h.line h.col sel num h.side h.tk h.tl h.how h.name h.cop pl pr (.slice U t.len uc) (.slice V e.len vc)).toArray→x.rangeAt g 27 pl:=fun x g t' hW=>
  hW.sub (pre:=[.int .i64 h.kind,.int .i64 h.line,.int .i64 h.col]++sel++num++[.int .i64 h.side,.int .i64 h.tk,.int .i64 h.tl,.int .i64 h.how,.string h.name,.int .i64 h.cop]) (post:=pr++[.slice U t.len uc,.slice V e.len vc]) (by simp[Zt]) (by simp[e1,e2])
 have r6:∀ x g t',Zb x g t' (Zt h.kind h.line h.col sel num h.side h.tk h.tl h.how h.name h.cop pl pr (.slice U t.len uc) (.slice V e.len vc)).toArray→x.rangeAt g 39 pr:=fun x g t' hW=>
  hW.sub (pre:=[.int .i64 h.kind,.int .i64 h.line,.int .i64 h.col]++sel++num++[.int .i64 h.side,.int .i64 h.tk,.int .i64 h.tl,.int .i64 h.how,.string h.name,.int .i64 h.cop]++pl) (post:=[.slice U t.len uc,.slice V e.len vc]) (by simp[Zt]) (by simp[e1,e2,e3])
 have hv:acZ h (acsZ t) (acsZ e) e.len=acZ6 h.kind (exZ h.num) (exZ h.cl) (exZ h.cr) (acsZ t) (acsZ e) e.len:=rfl;rw[hv];generalize Zt h.kind h.line h.col sel num h.side h.tk h.tl h.how h.name h.cop pl pr (.slice U t.len uc) (.slice V e.len vc)=ys at *;exact lActSize_raw ys num pl pr U V t.len uc e.len vc h.kind w _ _ _ _ _ hyl c0 c51 c52 hen r1 r5 r6 (by rw[e2];exact Yx) (by rw[e3];exact Yx) (by rw[e4];exact Yx) hnum hcl hcr hth hel
theorem lActsSize_walk(l:Acs)(hall:∀ k u,l.at? k=some u→LSZOK u.2.1∧LSZOK u.2.2):LSZOK l:=by
 intro w N v hv;obtain⟨B,bc,xs,rfl,hn,hw,hd⟩:=hv.inRow;clear hv;obtain⟨n,hn0⟩:∃ n,n=l.len:=⟨_,rfl⟩
 rw[←hn0]at hn ⊢;have HN:=Hh hn0;have HW:=Hh (And.intro hw hd);have HA:=Hh hall;obtain⟨R,hR⟩:∃ R,R=acsZ l:=⟨_,rfl⟩
 rw[←hR];have HV:=Hh hR;clear hw hd hall hn0 hR;have l63:(n:Int)≤9223372036854775807:=by omega
 have T:=Hh (Env.start w);go_enter Tryz.func93,Tryz.ntmps93;go_wp2
 go_loopw [3,8] (fun s i wy=>∃ m:Nat,i=.int .i64 m∧m≤n∧s=.int .i64 (Go.Proofs.YtljdgdphldckhaaGreat.wr (R - acsZ (l.dropA m)))∧Env w [] [] [] wy) (fun _ i _=>n - (intOf i).toNat)
 case atStart=>exact⟨0,by go_num,Nat.zero_le _,by rw[show l.dropA 0=l from by cases l<;>rfl,HV.out,Int.sub_self];rfl,T.out⟩
 case round=>
  obtain⟨m,rfl,hm,rfl,hT⟩:=hrel;have T:=Hh hT;clear hT;by_cases hlt:m<n
  · obtain⟨u,hu⟩:=Acs.at_some l m (by rw[←HN.out];exact hlt)
    obtain⟨g,ys,rfl,hg,hR,hy⟩:=act_at HW.out.1 HW.out.2 hu;have hyl:ys.length=53:=by rw[hy.len,AH.dsr_len]
    have hx:=fun x (hb:Below w.heap.size w x)=>lActSize_any u.1 u.2.1 u.2.2 (HA.out m u hu).1 (HA.out m u hu).2 x N ys (hy.below hb)
    have hsum:IntKind.i64.wrap (Go.Proofs.YtljdgdphldckhaaGreat.wr (R - acsZ (l.dropA m))+Go.Proofs.YtljdgdphldckhaaGreat.wr (acZ u.1 (acsZ u.2.1) (acsZ u.2.2) u.2.2.len))=Go.Proofs.YtljdgdphldckhaaGreat.wr (R - acsZ (l.dropA (m+1))):=by
     have e:=Acs.drop_at l m u hu;have e2:acsZ (l.dropA m)=acZ u.1 (acsZ u.2.1) (acsZ u.2.2) u.2.2.len+acsZ (l.dropA (m+1)):=by rw[e];rfl
     rw[show R - acsZ (l.dropA (m+1))=R - acsZ (l.dropA m)+acZ u.1 (acsZ u.2.1) (acsZ u.2.2) u.2.2.len from by omega];exact wr_add _ _
    generalize acZ u.1 (acsZ u.2.1) (acsZ u.2.2) u.2.2.len=X at *;have HR:Hid (∀ y,Below w.heap.size w y→y.rangeAt g (m*53) ys):=Hh fun y hb j v hv=>(World.cell?_of_block (a:=⟨g,m*53+j,none⟩) (hb.block g hg)).trans (hR j v hv)
    have HY:=Hh hy;clear hy hR hu;have lk:(m:Int)<(n:Int):=by omega
    generalize Go.Proofs.YtljdgdphldckhaaGreat.wr (R - acsZ (l.dropA m))=s0 at *;generalize Go.Proofs.YtljdgdphldckhaaGreat.wr X=x0 at *;obtain⟨s1,hs1⟩:∃ s1,s1=Go.Proofs.YtljdgdphldckhaaGreat.wr (R - acsZ (l.dropA (m+1))):=⟨_,rfl⟩
    rw[←hs1]at hsum;have HS:=Hh hs1;clear hs1;go_wp2_with(first
 |((with_reducible refine at_ld 11 ?_);refine Yb 57 _ g (m*53) ys (HR.out _ T.out.below) Zdz (by rw[hyl];exact Uj) rfl rfl rfl ?_)
 |((with_reducible refine at_ld 5 ?_);refine wpList_allocE T.out 57 _ rfl rfl lz_ac ?_;intro wc g2 tn;have T:=Hh tn;clear tn)
 |((with_reducible refine at_st 5 11 ?_);refine wpList_storeW 57 _ _ 57 g2 _ (ys) (T.out.get 0 rfl) hyl (by rw[hyl];exact Uj) HY.out.one rfl rfl rfl rfl rfl ?_;intro wd p;have T:=Hh (T.out.put 0 rfl p);clear p)
 |((with_reducible refine at_ld 13 ?_);refine wpList_loadW 57 _ 57 g2 (ys) (T.out.get 0 rfl) Zdz (by rw[hyl];exact Uj) rfl rfl rfl ?_)
 |(go_at_call 144;refine(hx _ T.out.below).mono ?_;rintro e we ⟨rfl,bn⟩;have T:=Hh (T.out.call bn);clear bn))
    go_roundw
    case rel=>exact⟨m+1,by go_num,by omega,by rw[HS.out],T.out.less (bs:=[]) (cs:=[_]) (ts:=[]) (us:=[])⟩
    case measure=>simp[intOf];omega
  · have hf:Go.Proofs.YtljdgdphldckhaaGreat.wr (R - acsZ (l.dropA m))=Go.Proofs.YtljdgdphldckhaaGreat.wr R:=by rw[Acs.drop_end l m (by have:=HN.out;omega)];show Go.Proofs.YtljdgdphldckhaaGreat.wr (R - 0)=_;rw[Int.sub_zero]
    rw[hf];go_wp2
    go_ret;exact⟨rfl,T.out.below⟩
theorem Zec(l:Acs):LSZOK l:=
 lActsSize_walk l fun k u hu=>
  have h:=Acs.at_lt l k u hu
  ⟨Zec u.2.1,Zec u.2.2⟩
termination_by SizeOf.sizeOf l
decreasing_by
 ·exact(Acs.at_lt l k u hu).1
 ·exact(Acs.at_lt l k u hu).2
theorem lSize_any(a b c d:Int)(l:Acs)(w:World)(N:Nat→Prop)(v:Value)(h:Deep N w (.row l.len l.ds .nil) [v]) :
  Calls Tryz.prog 36 #[.agg ([.int .i64 a,.int .i64 b,.int .i64 c,.int .i64 d,v]:List Value).toArray] w fun e w'=>e=.returned (.int .i64 (wr (acsZ l)))∧Below w.heap.size w w':=by
 have hs:=fun x (hb:Below w.heap.size w x)=>Zec l x N v (h.below hb)
 obtain⟨A,k,_,rfl,_⟩:=h.inRow;clear h;generalize wr (acsZ l)=Z at *;go_enter Tryz.func36,Tryz.ntmps36;go_wp2_with(go_at_call 93;refine(hs _ (Za _ _)).mono ?_;rintro e w1 ⟨rfl,b1⟩)
 go_ret;exact⟨rfl,Xq (Za _ _) b1⟩
section
variable (c:Sc) (st ln cl:Int) (A:Option Addr) (rn rk:Nat)
theorem lFault_any(e:Int)(w:World):Calls Tryz.prog 140 #[.agg (scL c st ln cl A rn rk).toArray,.int .i64 e] w fun r w'=>r=.returned (faV (atF e ln cl))∧Below w.heap.size w w':=by
 have hf:=fun x=>lFaultAt e ln cl x
 generalize atF e ln cl=F at *;obtain⟨pl,whn,ea⟩:=c;dsimp only[scL]at *;have T:=Hh (Env.start w);go_enter Tryz.func140,Tryz.ntmps140;go_wp2_with(first
 |((with_reducible refine at_ld 2 ?_);refine Ze T.out 194 _ ([.int .i64 whn,.int .i64 st,.int .i64 ln,.int .i64 cl,.slice A rn rk,.bool pl,.bool ea]) rfl rfl rfl ?_;intro wa g0 tn;have T:=Hh tn;clear tn)
 |((with_reducible refine at_ld 4 ?_);refine wpList_allocE T.out 29 _ rfl rfl Uv ?_;intro wb g1 tn;have T:=Hh tn;clear tn;obtain⟨fc0,fc1,fc2,fc3,fc4,fc5,fc6⟩:=Zu (T.out.get 0 rfl))
 |(go_at_call 185;refine(hf _).mono ?_;rintro r wc ⟨rfl,bn⟩;have T:=Hh (T.out.call bn);clear bn)
 |((with_reducible refine at_st 4 12 ?_);refine wpList_storeW 29 _ _ 29 g1 _ (faL F) (T.out.get 1 rfl) rfl Zf (Zeh _) rfl rfl rfl rfl rfl ?_;intro wd p;have T:=Hh (T.out.put 1 rfl p);clear p))
 exact Zj 4 29 29 g1 (faL F) rfl (T.out.get 1 rfl) Zw Zf rfl rfl ⟨rfl,T.out.below⟩
theorem lBehind_any(l:Acs)(w:World)(N:Nat→Prop)(h:Deep N w (.row l.len l.ds .nil) [.slice A rn rk]) :
  Calls Tryz.prog 143 #[.agg (scL c st ln cl A rn rk).toArray] w fun e w'=>e=.returned (.int .i64 (if 96<wr (acsZ l)then 3 else 0))∧Below w.heap.size w w':=by
 have hs:=fun x (hb:Below w.heap.size w x)=>lSize_any c.whn st ln cl l x N _ (h.below hb)
 clear h;generalize wr (acsZ l)=Z at *;obtain⟨pl,whn,ea⟩:=c;dsimp only[scL]at *;go_enter Tryz.func143,Tryz.ntmps143;by_cases hz:96<Z
 ·rw[if_pos hz]
  go_wp2_with(go_at_call 36;refine(hs _ (Za _ _)).mono ?_;rintro e w1 ⟨rfl,b1⟩)
  go_ret;exact⟨rfl,Xq (Za _ _) b1⟩
 ·rw[if_neg hz]
  go_wp2_with(go_at_call 36;refine(hs _ (Za _ _)).mono ?_;rintro e w1 ⟨rfl,b1⟩)
  go_ret;exact⟨rfl,Xq (Za _ _) b1⟩
theorem lBefore_any(i:Int)(w:World):Calls Tryz.prog 141 #[.agg (scL c st ln cl A rn rk).toArray,.int .i64 i] w fun e w'=>e=.returned (.int .i64 (Zcm c.place i ⟨c.whn,st,ln,cl,.nil⟩))∧Below w.heap.size w w':=by
 have ht:=fun x=>lTriggered c st ln cl A rn rk x
 have ha:=fun x=>lAlways c st ln cl A rn rk x
 have ho:=fun x=>Zez st 1 3 x
 have hv:Zcm c.place i ⟨c.whn,st,ln,cl,.nil⟩=if 4≤i then 9 else if(if c.whn=6 then c.place else if c.whn=2∨c.whn=3 then !c.place else true)=false then 13 else if(c.whn == 5 && Zbw st 1 3)=true then 12 else 0:=rfl
 generalize Zcm c.place i ⟨c.whn,st,ln,cl,.nil⟩=V at *;generalize(if c.whn=6 then c.place else if c.whn=2∨c.whn=3 then !c.place else true)=q1 at *;generalize(c.whn == 5)=q2 at *;generalize Zbw st 1 3=q3 at *;obtain⟨pl,whn,ea⟩:=c;dsimp only[scL]at *;have T:=Hh (Env.start w);go_enter Tryz.func141,Tryz.ntmps141;by_cases h4:4≤i
 ·go_wp2_with(first
 |((with_reducible refine at_ld 2 ?_);refine Ze T.out 194 _ ([.int .i64 whn,.int .i64 st,.int .i64 ln,.int .i64 cl,.slice A rn rk,.bool pl,.bool ea]) rfl rfl rfl ?_;intro wn gn tn;have T:=Hh tn;clear tn;obtain⟨fc0,fc1,fc2,fc3,fc4,fc5,fc6⟩:=Zu (T.out.get 0 rfl))
 |(go_at_call 186;refine(ht _).mono ?_;rintro e wn ⟨rfl,bn⟩;have T:=Hh (T.out.call bn);clear bn;obtain⟨fc0,fc1,fc2,fc3,fc4,fc5,fc6⟩:=Zu (T.out.get 0 rfl))
 |(go_at_call 187;refine(ha _).mono ?_;rintro e wn ⟨rfl,bn⟩;have T:=Hh (T.out.call bn);clear bn;obtain⟨fc0,fc1,fc2,fc3,fc4,fc5,fc6⟩:=Zu (T.out.get 0 rfl))
 |(go_at_call 91;refine(ho _).mono ?_;rintro e wn ⟨rfl,bn⟩;have T:=Hh (T.out.call bn);clear bn;obtain⟨fc0,fc1,fc2,fc3,fc4,fc5,fc6⟩:=Zu (T.out.get 0 rfl)))
  go_ret;exact⟨by rw[hv,if_pos h4];rfl,T.out.below⟩
 ·rw[if_neg h4]at hv
  cases q1
  · rw[if_pos rfl]at hv
    go_wp2_with(first
 |((with_reducible refine at_ld 2 ?_);refine Ze T.out 194 _ ([.int .i64 whn,.int .i64 st,.int .i64 ln,.int .i64 cl,.slice A rn rk,.bool pl,.bool ea]) rfl rfl rfl ?_;intro wn gn tn;have T:=Hh tn;clear tn;obtain⟨fc0,fc1,fc2,fc3,fc4,fc5,fc6⟩:=Zu (T.out.get 0 rfl))
 |(go_at_call 186;refine(ht _).mono ?_;rintro e wn ⟨rfl,bn⟩;have T:=Hh (T.out.call bn);clear bn;obtain⟨fc0,fc1,fc2,fc3,fc4,fc5,fc6⟩:=Zu (T.out.get 0 rfl))
 |(go_at_call 187;refine(ha _).mono ?_;rintro e wn ⟨rfl,bn⟩;have T:=Hh (T.out.call bn);clear bn;obtain⟨fc0,fc1,fc2,fc3,fc4,fc5,fc6⟩:=Zu (T.out.get 0 rfl))
 |(go_at_call 91;refine(ho _).mono ?_;rintro e wn ⟨rfl,bn⟩;have T:=Hh (T.out.call bn);clear bn;obtain⟨fc0,fc1,fc2,fc3,fc4,fc5,fc6⟩:=Zu (T.out.get 0 rfl)))
    go_ret;exact⟨by rw[hv];rfl,T.out.below⟩
  · rw[if_neg (by decide)]at hv
    cases q2<;>cases q3 <;>
    ·simp only[Bool.false_and,Bool.true_and,Bool.and_self,Bool.and_false,if_true,if_false,Bool.false_eq_true]at hv
     go_wp2_with(first
 |((with_reducible refine at_ld 2 ?_);refine Ze T.out 194 _ ([.int .i64 whn,.int .i64 st,.int .i64 ln,.int .i64 cl,.slice A rn rk,.bool pl,.bool ea]) rfl rfl rfl ?_;intro wn gn tn;have T:=Hh tn;clear tn;obtain⟨fc0,fc1,fc2,fc3,fc4,fc5,fc6⟩:=Zu (T.out.get 0 rfl))
 |(go_at_call 186;refine(ht _).mono ?_;rintro e wn ⟨rfl,bn⟩;have T:=Hh (T.out.call bn);clear bn;obtain⟨fc0,fc1,fc2,fc3,fc4,fc5,fc6⟩:=Zu (T.out.get 0 rfl))
 |(go_at_call 187;refine(ha _).mono ?_;rintro e wn ⟨rfl,bn⟩;have T:=Hh (T.out.call bn);clear bn;obtain⟨fc0,fc1,fc2,fc3,fc4,fc5,fc6⟩:=Zu (T.out.get 0 rfl))
 |(go_at_call 91;refine(ho _).mono ?_;rintro e wn ⟨rfl,bn⟩;have T:=Hh (T.out.call bn);clear bn;obtain⟨fc0,fc1,fc2,fc3,fc4,fc5,fc6⟩:=Zu (T.out.get 0 rfl)))
     go_ret;exact⟨by rw[hv];rfl,T.out.below⟩
end
theorem xplainM1(k:Nat)(hk:k=1∨k=2∨k=12)(w:World)(q c r K:Nat)(L:List TokV)(st:St)(n:Nat)(h:PAt w q c r K L st)(hn:4*Zk L st+3≤n)(hLn:Zk L st≤68719476736) :
  Calls Tryz.prog 270 #[.pointer (some ⟨q,0,none⟩),.int .i64 (k:Int)] w (Zz w q c r K L (Yq 5 L n (AH.zero 0 0 0) k st).2 ((Yq 5 L n (AH.zero 0 0 0) k st).1.dsr 0 .nil 0 .nil)):=by
 have qin:=h.whole.inside;have cin:=h.cin;have rin:=h.rin;have nb:=Za w (.cells Ye.toArray 57);have nb2:=Za (w.alloc (.cells Ye.toArray 57)) (.cells Ye.toArray 57);have M0:=Hh (((Yc.start h).next nb).next nb2);have R0:=Hh (show Zb _ w.heap.size 57 (Ye).toArray from(Zb.made w 57 Ye.toArray).alloc (.cells Ye.toArray 57));have T0:=Hh (show Zb _ (w.heap.size+1) 57 (Ye).toArray from by have e:=Zb.made (w.alloc (.cells Ye.toArray 57)) 57 Ye.toArray;rw[World.size_alloc]at e;exact e);clear nb nb2;have hcell:=M0.out.at_.cell;have hpl:Yq 5 L n (AH.zero 0 0 0) k st=((⟨0,0,0,(Xy 5 L n st).1,(Ya 5 L n (Xy 5 L n st).2).1,0,0,0,0,⟨#[]⟩,0,zEx,zEx⟩:AH),(Ya 5 L n (Xy 5 L n st).2).2):=by rcases hk with rfl | rfl | rfl<;>rfl
 rw[hpl];clear hpl;have hrst:=Ur L 5 n st;have hse:∀ w,PAt w q c r K L st→Calls Tryz.prog 219 #[.pointer (some ⟨q,0,none⟩)] w (Zz w q c r K L (Xy 5 L n st).2 (Xy 5 L n st).1.ds):=fun w h=>xsel w q c r K L st n h (by omega) (by omega)
 generalize Xy 5 L n st=xs at *;have hex:∀ w,PAt w q c r K L (xs.2)→Calls Tryz.prog 97 #[.pointer (some ⟨q,0,none⟩)] w (Zz w q c r K L (Ya 5 L n (xs.2)).2 (Ya 5 L n (xs.2)).1.ds):=fun w h=>xexprs w q c r K L _ n h (by omega) (by omega)
 generalize Ya 5 L n (xs.2)=xn at *;clear h hn hLn;rcases hk with rfl | rfl | rfl
 all_goals
  go_enter Tryz.func270,Tryz.ntmps270;go_wp2_with(first
 |(go_at_call 219;refine(hse _ M0.out.at_).mono ?_;rintro e w1 ⟨sv,rfl,d1,m1⟩
   have R1:=Hh (m1.keeps.whole R0.out (by omega));have T1:=Hh (m1.keeps.whole T0.out (by omega));have M1:=Hh (M0.out.then m1);have hz1:w.heap.size+2≤w1.heap.size:=by have:=m1.keeps.size;(try simp at this);omega
   have hcell:=M1.out.at_.cell;have S1:=Hh (d1.lower (show w.heap.size+2≤_ by first | omega | (simp;done) | (simp;omega)));have SL:=Hh d1.len;clear m1 d1)
 |((with_reducible refine at_st 13 12 ?_);refine Zki 46 _ _ 57 (w.heap.size+1) T1.out rfl S1.out.len6 Wz S1.out.one rfl rfl rfl rfl rfl ?_
   intro w2 p2;have T2:=Hh (show Zb w2 (w.heap.size+1) 57 (Zt 0 0 0 sv zexL 0 0 0 0 ⟨#[]⟩ 0 zexL zexL (.slice none 0 0) (.slice none 0 0)).toArray from by first | exact p2.whole | simpa using p2.whole);have R2:=Hh (p2.keeps.whole R1.out (by omega));have S2:=Hh (S1.out.put p2 (by omega));have M2:=Hh (M1.out.put p2 (by omega) qin cin rin);have hz2:=Nat.le_trans hz1 p2.keeps.size;have hcell:=M2.out.at_.cell;clear p2)
 |(go_at_call 97;refine(hex _ M2.out.at_).mono ?_;rintro e w3 ⟨nv,rfl,d3,m3⟩
   have R3:=Hh (m3.keeps.whole R2.out (by omega));have T3:=Hh (m3.keeps.whole T2.out (by omega));have S3:=Hh (S2.out.move m3 (by omega) (by omega));have M3:=Hh (M2.out.then m3);have hz3:=Nat.le_trans hz2 m3.keeps.size;have hcell:=M3.out.at_.cell;have N3:=Hh (d3.lower (show w.heap.size+2≤_ by first | omega | (simp;done) | (simp;omega)));have NL:=Hh d3.len;clear m3 d3)
 |((with_reducible refine at_st 16 15 ?_);refine put_num 51 _ _ 57 (w.heap.size+1) T3.out S3.out.len6 rfl N3.out.len12 Yx N3.out.one rfl rfl rfl rfl rfl ?_
   intro w4 p4;have T4:=Hh (show Zb w4 (w.heap.size+1) 57 (Zt 0 0 0 sv nv 0 0 0 0 ⟨#[]⟩ 0 zexL zexL (.slice none 0 0) (.slice none 0 0)).toArray from by first | exact p4.whole | simpa using p4.whole);have R4:=Hh (p4.keeps.whole R3.out (by omega));have S4:=Hh (S3.out.put p4 (by omega));have N4:=Hh (N3.out.put p4 (by omega));have M4:=Hh (M3.out.put p4 (by omega) qin cin rin);have hz4:=Nat.le_trans hz3 p4.keeps.size;have hcell:=M4.out.at_.cell;clear p4)
 |((with_reducible refine at_ld 78 ?_);refine wpList_loadW 57 _ 57 (w.heap.size+1) _ T4.out row_act (Zx ((show Deep (fun k=>w.heap.size+2≤k) w4 (((⟨0,0,0,xs.1,xn.1,0,0,0,0,⟨#[]⟩,0,zEx,zEx⟩:AH)).dsr 0 .nil 0 .nil) (Zt 0 0 0 sv nv 0 0 0 0 ⟨#[]⟩ 0 zexL zexL (.slice none 0 0) (.slice none 0 0))from Zm _ _ _ _ _ _ _ _ _ (S4.out) (N4.out) (Zc _ _) (Zc _ _) (Zg _ _) (Zg _ _)).len.trans (AH.dsr_len _ _ _ _ _))) rfl rfl rfl ?_)
 |((with_reducible refine at_st 4 78 ?_);refine wpList_storeW 57 _ _ 57 (w.heap.size) _ (Zt 0 0 0 sv nv 0 0 0 0 ⟨#[]⟩ 0 zexL zexL (.slice none 0 0) (.slice none 0 0)) R4.out ((show Deep (fun k=>w.heap.size+2≤k) w4 (((⟨0,0,0,xs.1,xn.1,0,0,0,0,⟨#[]⟩,0,zEx,zEx⟩:AH)).dsr 0 .nil 0 .nil) (Zt 0 0 0 sv nv 0 0 0 0 ⟨#[]⟩ 0 zexL zexL (.slice none 0 0) (.slice none 0 0))from Zm _ _ _ _ _ _ _ _ _ (S4.out) (N4.out) (Zc _ _) (Zc _ _) (Zg _ _) (Zg _ _)).len.trans (AH.dsr_len _ _ _ _ _)) (Zx ((show Deep (fun k=>w.heap.size+2≤k) w4 (((⟨0,0,0,xs.1,xn.1,0,0,0,0,⟨#[]⟩,0,zEx,zEx⟩:AH)).dsr 0 .nil 0 .nil) (Zt 0 0 0 sv nv 0 0 0 0 ⟨#[]⟩ 0 zexL zexL (.slice none 0 0) (.slice none 0 0))from Zm _ _ _ _ _ _ _ _ _ (S4.out) (N4.out) (Zc _ _) (Zc _ _) (Zg _ _) (Zg _ _)).len.trans (AH.dsr_len _ _ _ _ _))) (show Deep (fun k=>w.heap.size+2≤k) w4 (((⟨0,0,0,xs.1,xn.1,0,0,0,0,⟨#[]⟩,0,zEx,zEx⟩:AH)).dsr 0 .nil 0 .nil) (Zt 0 0 0 sv nv 0 0 0 0 ⟨#[]⟩ 0 zexL zexL (.slice none 0 0) (.slice none 0 0))from Zm _ _ _ _ _ _ _ _ _ (S4.out) (N4.out) (Zc _ _) (Zc _ _) (Zg _ _) (Zg _ _)).one rfl rfl rfl rfl rfl ?_
   intro w5 p5;have R5:=Hh p5.whole;have T5:=Hh (p5.keeps.whole T4.out (by omega));have S5:=Hh (S4.out.put p5 (by omega));have N5:=Hh (N4.out.put p5 (by omega));have M5:=Hh (M4.out.put p5 (by omega) qin cin rin);have hz5:=Nat.le_trans hz4 p5.keeps.size;have hcell:=M5.out.at_.cell;clear p5))
  exact Zj 4 57 57 w.heap.size _ rfl R5.out row_act (Zx ((show Deep (fun k=>w.heap.size+2≤k) w5 (((⟨0,0,0,xs.1,xn.1,0,0,0,0,⟨#[]⟩,0,zEx,zEx⟩:AH)).dsr 0 .nil 0 .nil) (Zt 0 0 0 sv nv 0 0 0 0 ⟨#[]⟩ 0 zexL zexL (.slice none 0 0) (.slice none 0 0))from Zm _ _ _ _ _ _ _ _ _ (S5.out) (N5.out) (Zc _ _) (Zc _ _) (Zg _ _) (Zg _ _)).len.trans (AH.dsr_len _ _ _ _ _))) rfl rfl ⟨_,rfl,Deep.lower (show Deep (fun k=>w.heap.size+2≤k) w5 (((⟨0,0,0,xs.1,xn.1,0,0,0,0,⟨#[]⟩,0,zEx,zEx⟩:AH)).dsr 0 .nil 0 .nil) (Zt 0 0 0 sv nv 0 0 0 0 ⟨#[]⟩ 0 zexL zexL (.slice none 0 0) (.slice none 0 0))from Zm _ _ _ _ _ _ _ _ _ (S5.out) (N5.out) (Zc _ _) (Zc _ _) (Zg _ _) (Zg _ _)) (by omega),M5.out⟩
theorem xplainM3(k:Nat)(hk:k=3∨k=5∨k=14)(w:World)(q c r K:Nat)(L:List TokV)(st:St)(n:Nat)(h:PAt w q c r K L st)(hn:4*Zk L st+3≤n)(hLn:Zk L st≤68719476736) :
  Calls Tryz.prog 270 #[.pointer (some ⟨q,0,none⟩),.int .i64 (k:Int)] w (Zz w q c r K L (Yq 5 L n (AH.zero 0 0 0) k st).2 ((Yq 5 L n (AH.zero 0 0 0) k st).1.dsr 0 .nil 0 .nil)):=by
 have qin:=h.whole.inside;have cin:=h.cin;have rin:=h.rin;have nb:=Za w (.cells Ye.toArray 57);have nb2:=Za (w.alloc (.cells Ye.toArray 57)) (.cells Ye.toArray 57);have M0:=Hh (((Yc.start h).next nb).next nb2);have R0:=Hh (show Zb _ w.heap.size 57 (Ye).toArray from(Zb.made w 57 Ye.toArray).alloc (.cells Ye.toArray 57));have T0:=Hh (show Zb _ (w.heap.size+1) 57 (Ye).toArray from by have e:=Zb.made (w.alloc (.cells Ye.toArray 57)) 57 Ye.toArray;rw[World.size_alloc]at e;exact e);clear nb nb2;have hcell:=M0.out.at_.cell;have hpl:Yq 5 L n (AH.zero 0 0 0) k st=((⟨0,0,0,(Xy 5 L n st).1,zEx,0,0,0,0,⟨#[]⟩,0,zEx,zEx⟩:AH),(Xy 5 L n st).2):=by rcases hk with rfl | rfl | rfl<;>rfl
 rw[hpl];clear hpl;have hrst:=Ur L 5 n st;have hse:∀ w,PAt w q c r K L st→Calls Tryz.prog 219 #[.pointer (some ⟨q,0,none⟩)] w (Zz w q c r K L (Xy 5 L n st).2 (Xy 5 L n st).1.ds):=fun w h=>xsel w q c r K L st n h (by omega) (by omega)
 generalize Xy 5 L n st=xs at *;clear h hn hLn;rcases hk with rfl | rfl | rfl
 all_goals
  go_enter Tryz.func270,Tryz.ntmps270;go_wp2_with(first
 |(go_at_call 219;refine(hse _ M0.out.at_).mono ?_;rintro e w1 ⟨sv,rfl,d1,m1⟩
   have R1:=Hh (m1.keeps.whole R0.out (by omega));have T1:=Hh (m1.keeps.whole T0.out (by omega));have M1:=Hh (M0.out.then m1);have hz1:w.heap.size+2≤w1.heap.size:=by have:=m1.keeps.size;(try simp at this);omega
   have hcell:=M1.out.at_.cell;have S1:=Hh (d1.lower (show w.heap.size+2≤_ by first | omega | (simp;done) | (simp;omega)));have SL:=Hh d1.len;clear m1 d1)
 |((with_reducible refine at_st 23 22 ?_);refine Zki 46 _ _ 57 (w.heap.size+1) T1.out rfl S1.out.len6 Wz S1.out.one rfl rfl rfl rfl rfl ?_
   intro w2 p2;have T2:=Hh (show Zb w2 (w.heap.size+1) 57 (Zt 0 0 0 sv zexL 0 0 0 0 ⟨#[]⟩ 0 zexL zexL (.slice none 0 0) (.slice none 0 0)).toArray from by first | exact p2.whole | simpa using p2.whole);have R2:=Hh (p2.keeps.whole R1.out (by omega));have S2:=Hh (S1.out.put p2 (by omega));have M2:=Hh (M1.out.put p2 (by omega) qin cin rin);have hz2:=Nat.le_trans hz1 p2.keeps.size;have hcell:=M2.out.at_.cell;clear p2)
 |((with_reducible refine at_ld 78 ?_);refine wpList_loadW 57 _ 57 (w.heap.size+1) _ T2.out row_act (Zx ((show Deep (fun k=>w.heap.size+2≤k) w2 (((⟨0,0,0,xs.1,zEx,0,0,0,0,⟨#[]⟩,0,zEx,zEx⟩:AH)).dsr 0 .nil 0 .nil) (Zt 0 0 0 sv zexL 0 0 0 0 ⟨#[]⟩ 0 zexL zexL (.slice none 0 0) (.slice none 0 0))from Zm _ _ _ _ _ _ _ _ _ (S2.out) (Zc _ _) (Zc _ _) (Zc _ _) (Zg _ _) (Zg _ _)).len.trans (AH.dsr_len _ _ _ _ _))) rfl rfl rfl ?_)
 |((with_reducible refine at_st 4 78 ?_);refine wpList_storeW 57 _ _ 57 (w.heap.size) _ (Zt 0 0 0 sv zexL 0 0 0 0 ⟨#[]⟩ 0 zexL zexL (.slice none 0 0) (.slice none 0 0)) R2.out ((show Deep (fun k=>w.heap.size+2≤k) w2 (((⟨0,0,0,xs.1,zEx,0,0,0,0,⟨#[]⟩,0,zEx,zEx⟩:AH)).dsr 0 .nil 0 .nil) (Zt 0 0 0 sv zexL 0 0 0 0 ⟨#[]⟩ 0 zexL zexL (.slice none 0 0) (.slice none 0 0))from Zm _ _ _ _ _ _ _ _ _ (S2.out) (Zc _ _) (Zc _ _) (Zc _ _) (Zg _ _) (Zg _ _)).len.trans (AH.dsr_len _ _ _ _ _)) (Zx ((show Deep (fun k=>w.heap.size+2≤k) w2 (((⟨0,0,0,xs.1,zEx,0,0,0,0,⟨#[]⟩,0,zEx,zEx⟩:AH)).dsr 0 .nil 0 .nil) (Zt 0 0 0 sv zexL 0 0 0 0 ⟨#[]⟩ 0 zexL zexL (.slice none 0 0) (.slice none 0 0))from Zm _ _ _ _ _ _ _ _ _ (S2.out) (Zc _ _) (Zc _ _) (Zc _ _) (Zg _ _) (Zg _ _)).len.trans (AH.dsr_len _ _ _ _ _))) (show Deep (fun k=>w.heap.size+2≤k) w2 (((⟨0,0,0,xs.1,zEx,0,0,0,0,⟨#[]⟩,0,zEx,zEx⟩:AH)).dsr 0 .nil 0 .nil) (Zt 0 0 0 sv zexL 0 0 0 0 ⟨#[]⟩ 0 zexL zexL (.slice none 0 0) (.slice none 0 0))from Zm _ _ _ _ _ _ _ _ _ (S2.out) (Zc _ _) (Zc _ _) (Zc _ _) (Zg _ _) (Zg _ _)).one rfl rfl rfl rfl rfl ?_
   intro w3 p3;have R3:=Hh p3.whole;have T3:=Hh (p3.keeps.whole T2.out (by omega));have S3:=Hh (S2.out.put p3 (by omega));have M3:=Hh (M2.out.put p3 (by omega) qin cin rin);have hz3:=Nat.le_trans hz2 p3.keeps.size;have hcell:=M3.out.at_.cell;clear p3))
  exact Zj 4 57 57 w.heap.size _ rfl R3.out row_act (Zx ((show Deep (fun k=>w.heap.size+2≤k) w3 (((⟨0,0,0,xs.1,zEx,0,0,0,0,⟨#[]⟩,0,zEx,zEx⟩:AH)).dsr 0 .nil 0 .nil) (Zt 0 0 0 sv zexL 0 0 0 0 ⟨#[]⟩ 0 zexL zexL (.slice none 0 0) (.slice none 0 0))from Zm _ _ _ _ _ _ _ _ _ (S3.out) (Zc _ _) (Zc _ _) (Zc _ _) (Zg _ _) (Zg _ _)).len.trans (AH.dsr_len _ _ _ _ _))) rfl rfl ⟨_,rfl,Deep.lower (show Deep (fun k=>w.heap.size+2≤k) w3 (((⟨0,0,0,xs.1,zEx,0,0,0,0,⟨#[]⟩,0,zEx,zEx⟩:AH)).dsr 0 .nil 0 .nil) (Zt 0 0 0 sv zexL 0 0 0 0 ⟨#[]⟩ 0 zexL zexL (.slice none 0 0) (.slice none 0 0))from Zm _ _ _ _ _ _ _ _ _ (S3.out) (Zc _ _) (Zc _ _) (Zc _ _) (Zg _ _) (Zg _ _)) (by omega),M3.out⟩
theorem xplain4(w:World)(q c r K:Nat)(L:List TokV)(st:St)(n:Nat)(h:PAt w q c r K L st)(hn:4*Zk L st+3≤n)(hLn:Zk L st≤68719476736) :
  Calls Tryz.prog 270 #[.pointer (some ⟨q,0,none⟩),.int .i64 4] w (Zz w q c r K L (Yq 5 L n (AH.zero 0 0 0) 4 st).2 ((Yq 5 L n (AH.zero 0 0 0) 4 st).1.dsr 0 .nil 0 .nil)):=by
 have qin:=h.whole.inside;have cin:=h.cin;have rin:=h.rin;have nb:=Za w (.cells Ye.toArray 57);have nb2:=Za (w.alloc (.cells Ye.toArray 57)) (.cells Ye.toArray 57);have M0:=Hh (((Yc.start h).next nb).next nb2);have R0:=Hh (show Zb _ w.heap.size 57 (Ye).toArray from(Zb.made w 57 Ye.toArray).alloc (.cells Ye.toArray 57));have T0:=Hh (show Zb _ (w.heap.size+1) 57 (Ye).toArray from by have e:=Zb.made (w.alloc (.cells Ye.toArray 57)) 57 Ye.toArray;rw[World.size_alloc]at e;exact e);clear nb nb2;have hcell:=M0.out.at_.cell;rw[show Yq 5 L n (AH.zero 0 0 0) 4 st=((⟨0,0,0,(Xy 5 L n st).1,zEx,0,toK L (Xy 5 L n st).2,toL L (Xy 5 L n st).2,0,⟨#[]⟩,0,zEx,zEx⟩:AH),toS L (Xy 5 L n st).2)from rfl];have hrst:=Ur L 5 n st;have hse:∀ w,PAt w q c r K L st→Calls Tryz.prog 219 #[.pointer (some ⟨q,0,none⟩)] w (Zz w q c r K L (Xy 5 L n st).2 (Xy 5 L n st).1.ds):=fun w h=>xsel w q c r K L st n h (by omega) (by omega)
 generalize Xy 5 L n st=xs at *;have hr3:=Zdv L (xs.2);have hto:∀ w,PAt w q c r K L (xs.2)→Calls Tryz.prog 221 #[.pointer (some ⟨q,0,none⟩)] w (Zv w q c r K L (toS L (xs.2)) (.agg #[.int .i64 (toK L (xs.2)),.int .i64 (toL L (xs.2))])):=fun w h=>xto w q c r K L _ h
 generalize toK L (xs.2)=tk at *;generalize toL L (xs.2)=tl at *;generalize toS L (xs.2)=s3 at *;clear h hn hLn;go_enter Tryz.func270,Tryz.ntmps270;go_wp2_with(first
 |(go_at_call 219;refine(hse _ M0.out.at_).mono ?_;rintro e w1 ⟨sv,rfl,d1,m1⟩
   have R1:=Hh (m1.keeps.whole R0.out (by omega));have T1:=Hh (m1.keeps.whole T0.out (by omega));have M1:=Hh (M0.out.then m1);have hz1:w.heap.size+2≤w1.heap.size:=by have:=m1.keeps.size;(try simp at this);omega
   have hcell:=M1.out.at_.cell;have S1:=Hh (d1.lower (show w.heap.size+2≤_ by first | omega | (simp;done) | (simp;omega)));have SL:=Hh d1.len;clear m1 d1)
 |((with_reducible refine at_st 28 27 ?_);refine Zki 46 _ _ 57 (w.heap.size+1) T1.out rfl S1.out.len6 Wz S1.out.one rfl rfl rfl rfl rfl ?_
   intro w2 p2;have T2:=Hh (show Zb w2 (w.heap.size+1) 57 (Zt 0 0 0 sv zexL 0 0 0 0 ⟨#[]⟩ 0 zexL zexL (.slice none 0 0) (.slice none 0 0)).toArray from by first | exact p2.whole | simpa using p2.whole);have R2:=Hh (p2.keeps.whole R1.out (by omega));have S2:=Hh (S1.out.put p2 (by omega));have M2:=Hh (M1.out.put p2 (by omega) qin cin rin);have hz2:=Nat.le_trans hz1 p2.keeps.size;have hcell:=M2.out.at_.cell;clear p2)
 |(go_at_call 221;refine(hto _ M2.out.at_).mono ?_;rintro e w3 ⟨rfl,m3⟩
   have R3:=Hh (m3.keeps.whole R2.out (by omega));have T3:=Hh (m3.keeps.whole T2.out (by omega));have S3:=Hh (S2.out.move m3 (by omega) (by omega));have M3:=Hh (M2.out.then m3);have hz3:=Nat.le_trans hz2 m3.keeps.size;have hcell:=M3.out.at_.cell;clear m3)
 |((with_reducible refine at_st 31 30 ?_);refine put_to 48 _ _ 57 (w.heap.size+1) T3.out S3.out.len6 rfl Zar rfl rfl rfl rfl rfl ?_
   intro w4 p4;have T4:=Hh (show Zb w4 (w.heap.size+1) 57 (Zt 0 0 0 sv zexL 0 tk tl 0 ⟨#[]⟩ 0 zexL zexL (.slice none 0 0) (.slice none 0 0)).toArray from by first | exact p4.whole | simpa using p4.whole);have R4:=Hh (p4.keeps.whole R3.out (by omega));have S4:=Hh (S3.out.put p4 (by omega));have M4:=Hh (M3.out.put p4 (by omega) qin cin rin);have hz4:=Nat.le_trans hz3 p4.keeps.size;have hcell:=M4.out.at_.cell;clear p4)
 |((with_reducible refine at_ld 78 ?_);refine wpList_loadW 57 _ 57 (w.heap.size+1) _ T4.out row_act (Zx ((show Deep (fun k=>w.heap.size+2≤k) w4 (((⟨0,0,0,xs.1,zEx,0,tk,tl,0,⟨#[]⟩,0,zEx,zEx⟩:AH)).dsr 0 .nil 0 .nil) (Zt 0 0 0 sv zexL 0 tk tl 0 ⟨#[]⟩ 0 zexL zexL (.slice none 0 0) (.slice none 0 0))from Zm _ _ _ _ _ _ _ _ _ (S4.out) (Zc _ _) (Zc _ _) (Zc _ _) (Zg _ _) (Zg _ _)).len.trans (AH.dsr_len _ _ _ _ _))) rfl rfl rfl ?_)
 |((with_reducible refine at_st 4 78 ?_);refine wpList_storeW 57 _ _ 57 (w.heap.size) _ (Zt 0 0 0 sv zexL 0 tk tl 0 ⟨#[]⟩ 0 zexL zexL (.slice none 0 0) (.slice none 0 0)) R4.out ((show Deep (fun k=>w.heap.size+2≤k) w4 (((⟨0,0,0,xs.1,zEx,0,tk,tl,0,⟨#[]⟩,0,zEx,zEx⟩:AH)).dsr 0 .nil 0 .nil) (Zt 0 0 0 sv zexL 0 tk tl 0 ⟨#[]⟩ 0 zexL zexL (.slice none 0 0) (.slice none 0 0))from Zm _ _ _ _ _ _ _ _ _ (S4.out) (Zc _ _) (Zc _ _) (Zc _ _) (Zg _ _) (Zg _ _)).len.trans (AH.dsr_len _ _ _ _ _)) (Zx ((show Deep (fun k=>w.heap.size+2≤k) w4 (((⟨0,0,0,xs.1,zEx,0,tk,tl,0,⟨#[]⟩,0,zEx,zEx⟩:AH)).dsr 0 .nil 0 .nil) (Zt 0 0 0 sv zexL 0 tk tl 0 ⟨#[]⟩ 0 zexL zexL (.slice none 0 0) (.slice none 0 0))from Zm _ _ _ _ _ _ _ _ _ (S4.out) (Zc _ _) (Zc _ _) (Zc _ _) (Zg _ _) (Zg _ _)).len.trans (AH.dsr_len _ _ _ _ _))) (show Deep (fun k=>w.heap.size+2≤k) w4 (((⟨0,0,0,xs.1,zEx,0,tk,tl,0,⟨#[]⟩,0,zEx,zEx⟩:AH)).dsr 0 .nil 0 .nil) (Zt 0 0 0 sv zexL 0 tk tl 0 ⟨#[]⟩ 0 zexL zexL (.slice none 0 0) (.slice none 0 0))from Zm _ _ _ _ _ _ _ _ _ (S4.out) (Zc _ _) (Zc _ _) (Zc _ _) (Zg _ _) (Zg _ _)).one rfl rfl rfl rfl rfl ?_
   intro w5 p5;have R5:=Hh p5.whole;have T5:=Hh (p5.keeps.whole T4.out (by omega));have S5:=Hh (S4.out.put p5 (by omega));have M5:=Hh (M4.out.put p5 (by omega) qin cin rin);have hz5:=Nat.le_trans hz4 p5.keeps.size;have hcell:=M5.out.at_.cell;clear p5))
 exact Zj 4 57 57 w.heap.size _ rfl R5.out row_act (Zx ((show Deep (fun k=>w.heap.size+2≤k) w5 (((⟨0,0,0,xs.1,zEx,0,tk,tl,0,⟨#[]⟩,0,zEx,zEx⟩:AH)).dsr 0 .nil 0 .nil) (Zt 0 0 0 sv zexL 0 tk tl 0 ⟨#[]⟩ 0 zexL zexL (.slice none 0 0) (.slice none 0 0))from Zm _ _ _ _ _ _ _ _ _ (S5.out) (Zc _ _) (Zc _ _) (Zc _ _) (Zg _ _) (Zg _ _)).len.trans (AH.dsr_len _ _ _ _ _))) rfl rfl ⟨_,rfl,Deep.lower (show Deep (fun k=>w.heap.size+2≤k) w5 (((⟨0,0,0,xs.1,zEx,0,tk,tl,0,⟨#[]⟩,0,zEx,zEx⟩:AH)).dsr 0 .nil 0 .nil) (Zt 0 0 0 sv zexL 0 tk tl 0 ⟨#[]⟩ 0 zexL zexL (.slice none 0 0) (.slice none 0 0))from Zm _ _ _ _ _ _ _ _ _ (S5.out) (Zc _ _) (Zc _ _) (Zc _ _) (Zg _ _) (Zg _ _)) (by omega),M5.out⟩
theorem zact_lit:Ye.toArray=#[.int .i64 0,.int .i64 0,.int .i64 0,.int .i64 0,.int .i64 0,.int .i64 0,.int .i64 0,.slice none 0 0,.int .i64 0,.int .i64 0,.int .i64 0,.int .i64 0,.int .i64 0,.int .i64 0,.int .i64 0,.slice none 0 0,.int .i64 0,.int .i64 0,.int .i64 0,.int .i64 0,.slice none 0 0,.int .i64 0,.int .i64 0,.int .i64 0,.int .i64 0,.string ⟨#[]⟩,.int .i64 0,.int .i64 0,.int .i64 0,.int .i64 0,.int .i64 0,.int .i64 0,.int .i64 0,.slice none 0 0,.int .i64 0,.int .i64 0,.int .i64 0,.int .i64 0,.slice none 0 0,.int .i64 0,.int .i64 0,.int .i64 0,.int .i64 0,.int .i64 0,.int .i64 0,.slice none 0 0,.int .i64 0,.int .i64 0,.int .i64 0,.int .i64 0,.slice none 0 0,.slice none 0 0,.slice none 0 0]:=rfl
theorem xplain6(w:World)(q c r K:Nat)(L:List TokV)(st:St)(n:Nat)(h:PAt w q c r K L st)(hn:4*Zk L st+3≤n)(hLn:Zk L st≤68719476736) :
  Calls Tryz.prog 270 #[.pointer (some ⟨q,0,none⟩),.int .i64 6] w (Zz w q c r K L (Yq 5 L n (AH.zero 0 0 0) 6 st).2 ((Yq 5 L n (AH.zero 0 0 0) 6 st).1.dsr 0 .nil 0 .nil)):=by
 have qin:=h.whole.inside;have cin:=h.cin;have rin:=h.rin;have nb:=Za w (.cells Ye.toArray 57);have nb2:=Za (w.alloc (.cells Ye.toArray 57)) (.cells Ye.toArray 57);have M0:=Hh (((Yc.start h).next nb).next nb2);have R0:=Hh (show Zb _ w.heap.size 57 (Ye).toArray from(Zb.made w 57 Ye.toArray).alloc (.cells Ye.toArray 57));have T0:=Hh (show Zb _ (w.heap.size+1) 57 (Ye).toArray from by have e:=Zb.made (w.alloc (.cells Ye.toArray 57)) 57 Ye.toArray;rw[World.size_alloc]at e;exact e);clear nb nb2;have hcell:=M0.out.at_.cell
 (try rw[zact_lit]at hcell)
 rw[show Yq 5 L n (AH.zero 0 0 0) 6 st=((⟨0,0,0,zSe,(Ya 5 L n (toS L (Yk L Zq (Xk L st)))).1,(Zd L Zq (Xk L st):Int),toK L (Yk L Zq (Xk L st)),toL L (Yk L Zq (Xk L st)),0,Jx L st,0,zEx,zEx⟩:AH),(Ya 5 L n (toS L (Yk L Zq (Xk L st)))).2)from rfl];have hr4:=Vn L (st);have hrd:∀ w,PAt w q c r K L (st)→Calls Tryz.prog 176 #[.pointer (some ⟨q,0,none⟩),.func (.func 177) #[Xn c (st)] #[]] w (Zv w q c r K L (Xk L (st)) (.string (Jx L (st)))):=fun w h=>Zfl w q c r K L _ h
 generalize Jx L (st)=nm at *;generalize Xk L (st)=s4 at *;have hr2:=Yt L Zq (s4);have hsi:∀ w,PAt w q c r K L (s4)→Calls Tryz.prog 220 #[.pointer (some ⟨q,0,none⟩)] w (Zv w q c r K L (Yk L Zq (s4)) (.int .i64 (Zd L Zq (s4):Int))):=fun w h=>xside w q c r K L _ h
 generalize hsd:(Zd L Zq (s4):Int)=sd at *;generalize Yk L Zq (s4)=s2 at *;clear hsd;have hr3:=Zdv L (s2);have hto:∀ w,PAt w q c r K L (s2)→Calls Tryz.prog 221 #[.pointer (some ⟨q,0,none⟩)] w (Zv w q c r K L (toS L (s2)) (.agg #[.int .i64 (toK L (s2)),.int .i64 (toL L (s2))])):=fun w h=>xto w q c r K L _ h
 generalize toK L (s2)=tk at *;generalize toL L (s2)=tl at *;generalize toS L (s2)=s3 at *;have hex:∀ w,PAt w q c r K L (s3)→Calls Tryz.prog 97 #[.pointer (some ⟨q,0,none⟩)] w (Zz w q c r K L (Ya 5 L n (s3)).2 (Ya 5 L n (s3)).1.ds):=fun w h=>xexprs w q c r K L _ n h (by omega) (by omega)
 generalize Ya 5 L n (s3)=xn at *;clear h hn hLn;go_enter Tryz.func270,Tryz.ntmps270;go_wp2_with(first
 |(go_at_call 176;refine(hrd _ M0.out.at_).mono ?_;rintro e w1 ⟨rfl,m1⟩
   have R1:=Hh (m1.keeps.whole R0.out (by omega));have T1:=Hh (m1.keeps.whole T0.out (by omega));have M1:=Hh (M0.out.then m1);have hz1:w.heap.size+2≤w1.heap.size:=by have:=m1.keeps.size;(try simp at this);omega
   have hcell:=M1.out.at_.cell;clear m1)
 |((with_reducible refine at_st 41 40 ?_);refine put_nm 9 _ _ 57 (w.heap.size+1) T1.out rfl rfl Zha rfl rfl rfl rfl rfl rfl ?_
   intro w2 p2;have T2:=Hh (show Zb w2 (w.heap.size+1) 57 (Zt 0 0 0 zseL zexL 0 0 0 0 nm 0 zexL zexL (.slice none 0 0) (.slice none 0 0)).toArray from by first | exact p2.whole | simpa using p2.whole);have R2:=Hh (p2.keeps.whole R1.out (by omega));have M2:=Hh (M1.out.put p2 (by omega) qin cin rin);have hz2:=Nat.le_trans hz1 p2.keeps.size;have hcell:=M2.out.at_.cell;clear p2)
 |(go_at_call 220;refine(hsi _ M2.out.at_).mono ?_;rintro e w3 ⟨rfl,m3⟩
   have R3:=Hh (m3.keeps.whole R2.out (by omega));have T3:=Hh (m3.keeps.whole T2.out (by omega));have M3:=Hh (M2.out.then m3);have hz3:=Nat.le_trans hz2 m3.keeps.size;have hcell:=M3.out.at_.cell;clear m3)
 |((with_reducible refine at_st 44 43 ?_);refine put_sd 3 _ _ 57 (w.heap.size+1) T3.out rfl rfl Yo rfl rfl rfl rfl rfl rfl ?_
   intro w4 p4;have T4:=Hh (show Zb w4 (w.heap.size+1) 57 (Zt 0 0 0 zseL zexL sd 0 0 0 nm 0 zexL zexL (.slice none 0 0) (.slice none 0 0)).toArray from by first | exact p4.whole | simpa using p4.whole);have R4:=Hh (p4.keeps.whole R3.out (by omega));have M4:=Hh (M3.out.put p4 (by omega) qin cin rin);have hz4:=Nat.le_trans hz3 p4.keeps.size;have hcell:=M4.out.at_.cell;clear p4)
 |(go_at_call 221;refine(hto _ M4.out.at_).mono ?_;rintro e w5 ⟨rfl,m5⟩
   have R5:=Hh (m5.keeps.whole R4.out (by omega));have T5:=Hh (m5.keeps.whole T4.out (by omega));have M5:=Hh (M4.out.then m5);have hz5:=Nat.le_trans hz4 m5.keeps.size;have hcell:=M5.out.at_.cell;clear m5)
 |((with_reducible refine at_st 47 46 ?_);refine put_to 48 _ _ 57 (w.heap.size+1) T5.out rfl rfl Zar rfl rfl rfl rfl rfl ?_
   intro w6 p6;have T6:=Hh (show Zb w6 (w.heap.size+1) 57 (Zt 0 0 0 zseL zexL sd tk tl 0 nm 0 zexL zexL (.slice none 0 0) (.slice none 0 0)).toArray from by first | exact p6.whole | simpa using p6.whole);have R6:=Hh (p6.keeps.whole R5.out (by omega));have M6:=Hh (M5.out.put p6 (by omega) qin cin rin);have hz6:=Nat.le_trans hz5 p6.keeps.size;have hcell:=M6.out.at_.cell;clear p6)
 |(go_at_call 97;refine(hex _ M6.out.at_).mono ?_;rintro e w7 ⟨nv,rfl,d7,m7⟩
   have R7:=Hh (m7.keeps.whole R6.out (by omega));have T7:=Hh (m7.keeps.whole T6.out (by omega));have M7:=Hh (M6.out.then m7);have hz7:=Nat.le_trans hz6 m7.keeps.size;have hcell:=M7.out.at_.cell;have N7:=Hh (d7.lower (show w.heap.size+2≤_ by first | omega | (simp;done) | (simp;omega)));have NL:=Hh d7.len;clear m7 d7)
 |((with_reducible refine at_st 50 49 ?_);refine put_num 51 _ _ 57 (w.heap.size+1) T7.out rfl rfl N7.out.len12 Yx N7.out.one rfl rfl rfl rfl rfl ?_
   intro w8 p8;have T8:=Hh (show Zb w8 (w.heap.size+1) 57 (Zt 0 0 0 zseL nv sd tk tl 0 nm 0 zexL zexL (.slice none 0 0) (.slice none 0 0)).toArray from by first | exact p8.whole | simpa using p8.whole);have R8:=Hh (p8.keeps.whole R7.out (by omega));have N8:=Hh (N7.out.put p8 (by omega));have M8:=Hh (M7.out.put p8 (by omega) qin cin rin);have hz8:=Nat.le_trans hz7 p8.keeps.size;have hcell:=M8.out.at_.cell;clear p8)
 |((with_reducible refine at_ld 78 ?_);refine wpList_loadW 57 _ 57 (w.heap.size+1) _ T8.out row_act (Zx ((show Deep (fun k=>w.heap.size+2≤k) w8 (((⟨0,0,0,zSe,xn.1,sd,tk,tl,0,nm,0,zEx,zEx⟩:AH)).dsr 0 .nil 0 .nil) (Zt 0 0 0 zseL nv sd tk tl 0 nm 0 zexL zexL (.slice none 0 0) (.slice none 0 0))from Zm _ _ _ _ _ _ _ _ _ (Yj _ _) (N8.out) (Zc _ _) (Zc _ _) (Zg _ _) (Zg _ _)).len.trans (AH.dsr_len _ _ _ _ _))) rfl rfl rfl ?_)
 |((with_reducible refine at_st 4 78 ?_);refine wpList_storeW 57 _ _ 57 (w.heap.size) _ (Zt 0 0 0 zseL nv sd tk tl 0 nm 0 zexL zexL (.slice none 0 0) (.slice none 0 0)) R8.out ((show Deep (fun k=>w.heap.size+2≤k) w8 (((⟨0,0,0,zSe,xn.1,sd,tk,tl,0,nm,0,zEx,zEx⟩:AH)).dsr 0 .nil 0 .nil) (Zt 0 0 0 zseL nv sd tk tl 0 nm 0 zexL zexL (.slice none 0 0) (.slice none 0 0))from Zm _ _ _ _ _ _ _ _ _ (Yj _ _) (N8.out) (Zc _ _) (Zc _ _) (Zg _ _) (Zg _ _)).len.trans (AH.dsr_len _ _ _ _ _)) (Zx ((show Deep (fun k=>w.heap.size+2≤k) w8 (((⟨0,0,0,zSe,xn.1,sd,tk,tl,0,nm,0,zEx,zEx⟩:AH)).dsr 0 .nil 0 .nil) (Zt 0 0 0 zseL nv sd tk tl 0 nm 0 zexL zexL (.slice none 0 0) (.slice none 0 0))from Zm _ _ _ _ _ _ _ _ _ (Yj _ _) (N8.out) (Zc _ _) (Zc _ _) (Zg _ _) (Zg _ _)).len.trans (AH.dsr_len _ _ _ _ _))) (show Deep (fun k=>w.heap.size+2≤k) w8 (((⟨0,0,0,zSe,xn.1,sd,tk,tl,0,nm,0,zEx,zEx⟩:AH)).dsr 0 .nil 0 .nil) (Zt 0 0 0 zseL nv sd tk tl 0 nm 0 zexL zexL (.slice none 0 0) (.slice none 0 0))from Zm _ _ _ _ _ _ _ _ _ (Yj _ _) (N8.out) (Zc _ _) (Zc _ _) (Zg _ _) (Zg _ _)).one rfl rfl rfl rfl rfl ?_
   intro w9 p9;have R9:=Hh p9.whole;have T9:=Hh (p9.keeps.whole T8.out (by omega));have N9:=Hh (N8.out.put p9 (by omega));have M9:=Hh (M8.out.put p9 (by omega) qin cin rin);have hz9:=Nat.le_trans hz8 p9.keeps.size;have hcell:=M9.out.at_.cell;clear p9))
 exact Zj 4 57 57 w.heap.size _ rfl R9.out row_act (Zx ((show Deep (fun k=>w.heap.size+2≤k) w9 (((⟨0,0,0,zSe,xn.1,sd,tk,tl,0,nm,0,zEx,zEx⟩:AH)).dsr 0 .nil 0 .nil) (Zt 0 0 0 zseL nv sd tk tl 0 nm 0 zexL zexL (.slice none 0 0) (.slice none 0 0))from Zm _ _ _ _ _ _ _ _ _ (Yj _ _) (N9.out) (Zc _ _) (Zc _ _) (Zg _ _) (Zg _ _)).len.trans (AH.dsr_len _ _ _ _ _))) rfl rfl ⟨_,rfl,Deep.lower (show Deep (fun k=>w.heap.size+2≤k) w9 (((⟨0,0,0,zSe,xn.1,sd,tk,tl,0,nm,0,zEx,zEx⟩:AH)).dsr 0 .nil 0 .nil) (Zt 0 0 0 zseL nv sd tk tl 0 nm 0 zexL zexL (.slice none 0 0) (.slice none 0 0))from Zm _ _ _ _ _ _ _ _ _ (Yj _ _) (N9.out) (Zc _ _) (Zc _ _) (Zg _ _) (Zg _ _)) (by omega),M9.out⟩
theorem xplainM7(k:Nat)(hk:k=7∨k=9)(w:World)(q c r K:Nat)(L:List TokV)(st:St)(n:Nat)(h:PAt w q c r K L st)(hn:4*Zk L st+3≤n)(hLn:Zk L st≤68719476736) :
  Calls Tryz.prog 270 #[.pointer (some ⟨q,0,none⟩),.int .i64 (k:Int)] w (Zz w q c r K L (Yq 5 L n (AH.zero 0 0 0) k st).2 ((Yq 5 L n (AH.zero 0 0 0) k st).1.dsr 0 .nil 0 .nil)):=by
 have qin:=h.whole.inside;have cin:=h.cin;have rin:=h.rin;have nb:=Za w (.cells Ye.toArray 57);have nb2:=Za (w.alloc (.cells Ye.toArray 57)) (.cells Ye.toArray 57);have M0:=Hh (((Yc.start h).next nb).next nb2);have R0:=Hh (show Zb _ w.heap.size 57 (Ye).toArray from(Zb.made w 57 Ye.toArray).alloc (.cells Ye.toArray 57));have T0:=Hh (show Zb _ (w.heap.size+1) 57 (Ye).toArray from by have e:=Zb.made (w.alloc (.cells Ye.toArray 57)) 57 Ye.toArray;rw[World.size_alloc]at e;exact e);clear nb nb2;have hcell:=M0.out.at_.cell
 (try rw[zact_lit]at hcell)
 have hpl:Yq 5 L n (AH.zero 0 0 0) k st=((⟨0,0,0,zSe,(Ya 5 L n (Yk L Zq st)).1,(Zd L Zq st:Int),0,0,0,⟨#[]⟩,0,zEx,zEx⟩:AH),(Ya 5 L n (Yk L Zq st)).2):=by rcases hk with rfl | rfl<;>rfl
 rw[hpl];clear hpl;have hr2:=Yt L Zq (st);have hsi:∀ w,PAt w q c r K L (st)→Calls Tryz.prog 220 #[.pointer (some ⟨q,0,none⟩)] w (Zv w q c r K L (Yk L Zq (st)) (.int .i64 (Zd L Zq (st):Int))):=fun w h=>xside w q c r K L _ h
 generalize hsd:(Zd L Zq (st):Int)=sd at *;generalize Yk L Zq (st)=s2 at *;clear hsd;have hex:∀ w,PAt w q c r K L (s2)→Calls Tryz.prog 97 #[.pointer (some ⟨q,0,none⟩)] w (Zz w q c r K L (Ya 5 L n (s2)).2 (Ya 5 L n (s2)).1.ds):=fun w h=>xexprs w q c r K L _ n h (by omega) (by omega)
 generalize Ya 5 L n (s2)=xn at *;clear h hn hLn;rcases hk with rfl | rfl
 all_goals
  go_enter Tryz.func270,Tryz.ntmps270;go_wp2_with(first
 |(go_at_call 220;refine(hsi _ M0.out.at_).mono ?_;rintro e w1 ⟨rfl,m1⟩
   have R1:=Hh (m1.keeps.whole R0.out (by omega));have T1:=Hh (m1.keeps.whole T0.out (by omega));have M1:=Hh (M0.out.then m1);have hz1:w.heap.size+2≤w1.heap.size:=by have:=m1.keeps.size;(try simp at this);omega
   have hcell:=M1.out.at_.cell;clear m1)
 |((with_reducible refine at_st 56 55 ?_);refine put_sd 3 _ _ 57 (w.heap.size+1) T1.out rfl rfl Yo rfl rfl rfl rfl rfl rfl ?_
   intro w2 p2;have T2:=Hh (show Zb w2 (w.heap.size+1) 57 (Zt 0 0 0 zseL zexL sd 0 0 0 ⟨#[]⟩ 0 zexL zexL (.slice none 0 0) (.slice none 0 0)).toArray from by first | exact p2.whole | simpa using p2.whole);have R2:=Hh (p2.keeps.whole R1.out (by omega));have M2:=Hh (M1.out.put p2 (by omega) qin cin rin);have hz2:=Nat.le_trans hz1 p2.keeps.size;have hcell:=M2.out.at_.cell;clear p2)
 |(go_at_call 97;refine(hex _ M2.out.at_).mono ?_;rintro e w3 ⟨nv,rfl,d3,m3⟩
   have R3:=Hh (m3.keeps.whole R2.out (by omega));have T3:=Hh (m3.keeps.whole T2.out (by omega));have M3:=Hh (M2.out.then m3);have hz3:=Nat.le_trans hz2 m3.keeps.size;have hcell:=M3.out.at_.cell;have N3:=Hh (d3.lower (show w.heap.size+2≤_ by first | omega | (simp;done) | (simp;omega)));have NL:=Hh d3.len;clear m3 d3)
 |((with_reducible refine at_st 59 58 ?_);refine put_num 51 _ _ 57 (w.heap.size+1) T3.out rfl rfl N3.out.len12 Yx N3.out.one rfl rfl rfl rfl rfl ?_
   intro w4 p4;have T4:=Hh (show Zb w4 (w.heap.size+1) 57 (Zt 0 0 0 zseL nv sd 0 0 0 ⟨#[]⟩ 0 zexL zexL (.slice none 0 0) (.slice none 0 0)).toArray from by first | exact p4.whole | simpa using p4.whole);have R4:=Hh (p4.keeps.whole R3.out (by omega));have N4:=Hh (N3.out.put p4 (by omega));have M4:=Hh (M3.out.put p4 (by omega) qin cin rin);have hz4:=Nat.le_trans hz3 p4.keeps.size;have hcell:=M4.out.at_.cell;clear p4)
 |((with_reducible refine at_ld 78 ?_);refine wpList_loadW 57 _ 57 (w.heap.size+1) _ T4.out row_act (Zx ((show Deep (fun k=>w.heap.size+2≤k) w4 (((⟨0,0,0,zSe,xn.1,sd,0,0,0,⟨#[]⟩,0,zEx,zEx⟩:AH)).dsr 0 .nil 0 .nil) (Zt 0 0 0 zseL nv sd 0 0 0 ⟨#[]⟩ 0 zexL zexL (.slice none 0 0) (.slice none 0 0))from Zm _ _ _ _ _ _ _ _ _ (Yj _ _) (N4.out) (Zc _ _) (Zc _ _) (Zg _ _) (Zg _ _)).len.trans (AH.dsr_len _ _ _ _ _))) rfl rfl rfl ?_)
 |((with_reducible refine at_st 4 78 ?_);refine wpList_storeW 57 _ _ 57 (w.heap.size) _ (Zt 0 0 0 zseL nv sd 0 0 0 ⟨#[]⟩ 0 zexL zexL (.slice none 0 0) (.slice none 0 0)) R4.out ((show Deep (fun k=>w.heap.size+2≤k) w4 (((⟨0,0,0,zSe,xn.1,sd,0,0,0,⟨#[]⟩,0,zEx,zEx⟩:AH)).dsr 0 .nil 0 .nil) (Zt 0 0 0 zseL nv sd 0 0 0 ⟨#[]⟩ 0 zexL zexL (.slice none 0 0) (.slice none 0 0))from Zm _ _ _ _ _ _ _ _ _ (Yj _ _) (N4.out) (Zc _ _) (Zc _ _) (Zg _ _) (Zg _ _)).len.trans (AH.dsr_len _ _ _ _ _)) (Zx ((show Deep (fun k=>w.heap.size+2≤k) w4 (((⟨0,0,0,zSe,xn.1,sd,0,0,0,⟨#[]⟩,0,zEx,zEx⟩:AH)).dsr 0 .nil 0 .nil) (Zt 0 0 0 zseL nv sd 0 0 0 ⟨#[]⟩ 0 zexL zexL (.slice none 0 0) (.slice none 0 0))from Zm _ _ _ _ _ _ _ _ _ (Yj _ _) (N4.out) (Zc _ _) (Zc _ _) (Zg _ _) (Zg _ _)).len.trans (AH.dsr_len _ _ _ _ _))) (show Deep (fun k=>w.heap.size+2≤k) w4 (((⟨0,0,0,zSe,xn.1,sd,0,0,0,⟨#[]⟩,0,zEx,zEx⟩:AH)).dsr 0 .nil 0 .nil) (Zt 0 0 0 zseL nv sd 0 0 0 ⟨#[]⟩ 0 zexL zexL (.slice none 0 0) (.slice none 0 0))from Zm _ _ _ _ _ _ _ _ _ (Yj _ _) (N4.out) (Zc _ _) (Zc _ _) (Zg _ _) (Zg _ _)).one rfl rfl rfl rfl rfl ?_
   intro w5 p5;have R5:=Hh p5.whole;have T5:=Hh (p5.keeps.whole T4.out (by omega));have N5:=Hh (N4.out.put p5 (by omega));have M5:=Hh (M4.out.put p5 (by omega) qin cin rin);have hz5:=Nat.le_trans hz4 p5.keeps.size;have hcell:=M5.out.at_.cell;clear p5))
  exact Zj 4 57 57 w.heap.size _ rfl R5.out row_act (Zx ((show Deep (fun k=>w.heap.size+2≤k) w5 (((⟨0,0,0,zSe,xn.1,sd,0,0,0,⟨#[]⟩,0,zEx,zEx⟩:AH)).dsr 0 .nil 0 .nil) (Zt 0 0 0 zseL nv sd 0 0 0 ⟨#[]⟩ 0 zexL zexL (.slice none 0 0) (.slice none 0 0))from Zm _ _ _ _ _ _ _ _ _ (Yj _ _) (N5.out) (Zc _ _) (Zc _ _) (Zg _ _) (Zg _ _)).len.trans (AH.dsr_len _ _ _ _ _))) rfl rfl ⟨_,rfl,Deep.lower (show Deep (fun k=>w.heap.size+2≤k) w5 (((⟨0,0,0,zSe,xn.1,sd,0,0,0,⟨#[]⟩,0,zEx,zEx⟩:AH)).dsr 0 .nil 0 .nil) (Zt 0 0 0 zseL nv sd 0 0 0 ⟨#[]⟩ 0 zexL zexL (.slice none 0 0) (.slice none 0 0))from Zm _ _ _ _ _ _ _ _ _ (Yj _ _) (N5.out) (Zc _ _) (Zc _ _) (Zg _ _) (Zg _ _)) (by omega),M5.out⟩
theorem xplain8(w:World)(q c r K:Nat)(L:List TokV)(st:St)(n:Nat)(h:PAt w q c r K L st)(hn:4*Zk L st+3≤n)(hLn:Zk L st≤68719476736) :
  Calls Tryz.prog 270 #[.pointer (some ⟨q,0,none⟩),.int .i64 8] w (Zz w q c r K L (Yq 5 L n (AH.zero 0 0 0) 8 st).2 ((Yq 5 L n (AH.zero 0 0 0) 8 st).1.dsr 0 .nil 0 .nil)):=by
 have qin:=h.whole.inside;have cin:=h.cin;have rin:=h.rin;have nb:=Za w (.cells Ye.toArray 57);have nb2:=Za (w.alloc (.cells Ye.toArray 57)) (.cells Ye.toArray 57);have M0:=Hh (((Yc.start h).next nb).next nb2);have R0:=Hh (show Zb _ w.heap.size 57 (Ye).toArray from(Zb.made w 57 Ye.toArray).alloc (.cells Ye.toArray 57));have T0:=Hh (show Zb _ (w.heap.size+1) 57 (Ye).toArray from by have e:=Zb.made (w.alloc (.cells Ye.toArray 57)) 57 Ye.toArray;rw[World.size_alloc]at e;exact e);clear nb nb2;have hcell:=M0.out.at_.cell
 (try rw[zact_lit]at hcell)
 rw[show Yq 5 L n (AH.zero 0 0 0) 8 st=((⟨0,0,0,zSe,zEx,(Zd L Zq st:Int),0,0,(Zd L Zjz (Yk L Zq st):Int),⟨#[]⟩,0,zEx,zEx⟩:AH),Yk L Zjz (Yk L Zq st))from rfl];have hr2:=Yt L Zq (st);have hsi:∀ w,PAt w q c r K L (st)→Calls Tryz.prog 220 #[.pointer (some ⟨q,0,none⟩)] w (Zv w q c r K L (Yk L Zq (st)) (.int .i64 (Zd L Zq (st):Int))):=fun w h=>xside w q c r K L _ h
 generalize hsd:(Zd L Zq (st):Int)=sd at *;generalize Yk L Zq (st)=s2 at *;clear hsd;have hho:∀ W G,G=W.heap.size→PAt W q c r K L (s2)→Calls Tryz.prog 257 #[.pointer (some ⟨q,0,none⟩),.slice (some ⟨G,0,none⟩) 4 4] (W.alloc (.cells #[.string ⟨#[102,105,114,115,116]⟩,.string ⟨#[108,97,115,116]⟩,.string ⟨#[99,104,101,97,112,101,115,116]⟩,.string ⟨#[99,111,115,116,108,105,101,115,116]⟩] 9)) fun e w'=>e=.returned (.int .i64 (Zd L Zjz (s2):Int))∧Yc W w' q c r K L (Yk L Zjz (s2)):=fun W G h2 h=>Zjd W q c r K G L _ Zjz 4 4 _ rfl h2 h rfl (by decide)
 generalize hhw:(Zd L Zjz (s2):Int)=how at *;generalize Yk L Zjz (s2)=s5 at *;clear hhw;clear h hn hLn;go_enter Tryz.func270,Tryz.ntmps270;go_wp2_with(first
 |(go_at_call 220;refine(hsi _ M0.out.at_).mono ?_;rintro e w1 ⟨rfl,m1⟩
   have R1:=Hh (m1.keeps.whole R0.out (by omega));have T1:=Hh (m1.keeps.whole T0.out (by omega));have M1:=Hh (M0.out.then m1);have hz1:w.heap.size+2≤w1.heap.size:=by have:=m1.keeps.size;(try simp at this);omega
   have hcell:=M1.out.at_.cell;clear m1)
 |((with_reducible refine at_st 64 63 ?_);refine put_sd 3 _ _ 57 (w.heap.size+1) T1.out rfl rfl Yo rfl rfl rfl rfl rfl rfl ?_
   intro w2 p2;have T2:=Hh (show Zb w2 (w.heap.size+1) 57 (Zt 0 0 0 zseL zexL sd 0 0 0 ⟨#[]⟩ 0 zexL zexL (.slice none 0 0) (.slice none 0 0)).toArray from by first | exact p2.whole | simpa using p2.whole);have R2:=Hh (p2.keeps.whole R1.out (by omega));have M2:=Hh (M1.out.put p2 (by omega) qin cin rin);have hz2:=Nat.le_trans hz1 p2.keeps.size;have hcell:=M2.out.at_.cell;clear p2)
 |(go_at_call 257;(with_reducible refine(hho _ _ ?_ ?_).mono ?_);rfl;exact M2.out.at_;rintro e w3 ⟨rfl,m3⟩
   have R3:=Hh (m3.keeps.whole R2.out (by omega));have T3:=Hh (m3.keeps.whole T2.out (by omega));have M3:=Hh (M2.out.then m3);have hz3:=Nat.le_trans hz2 m3.keeps.size;have hcell:=M3.out.at_.cell;clear m3)
 |((with_reducible refine at_st 68 67 ?_);refine put_how 3 _ _ 57 (w.heap.size+1) T3.out rfl rfl Yo rfl rfl rfl rfl rfl rfl ?_
   intro w4 p4;have T4:=Hh (show Zb w4 (w.heap.size+1) 57 (Zt 0 0 0 zseL zexL sd 0 0 how ⟨#[]⟩ 0 zexL zexL (.slice none 0 0) (.slice none 0 0)).toArray from by first | exact p4.whole | simpa using p4.whole);have R4:=Hh (p4.keeps.whole R3.out (by omega));have M4:=Hh (M3.out.put p4 (by omega) qin cin rin);have hz4:=Nat.le_trans hz3 p4.keeps.size;have hcell:=M4.out.at_.cell;clear p4)
 |((with_reducible refine at_ld 78 ?_);refine wpList_loadW 57 _ 57 (w.heap.size+1) _ T4.out row_act (Zx ((show Deep (fun k=>w.heap.size+2≤k) w4 (((⟨0,0,0,zSe,zEx,sd,0,0,how,⟨#[]⟩,0,zEx,zEx⟩:AH)).dsr 0 .nil 0 .nil) (Zt 0 0 0 zseL zexL sd 0 0 how ⟨#[]⟩ 0 zexL zexL (.slice none 0 0) (.slice none 0 0))from Zm _ _ _ _ _ _ _ _ _ (Yj _ _) (Zc _ _) (Zc _ _) (Zc _ _) (Zg _ _) (Zg _ _)).len.trans (AH.dsr_len _ _ _ _ _))) rfl rfl rfl ?_)
 |((with_reducible refine at_st 4 78 ?_);refine wpList_storeW 57 _ _ 57 (w.heap.size) _ (Zt 0 0 0 zseL zexL sd 0 0 how ⟨#[]⟩ 0 zexL zexL (.slice none 0 0) (.slice none 0 0)) R4.out ((show Deep (fun k=>w.heap.size+2≤k) w4 (((⟨0,0,0,zSe,zEx,sd,0,0,how,⟨#[]⟩,0,zEx,zEx⟩:AH)).dsr 0 .nil 0 .nil) (Zt 0 0 0 zseL zexL sd 0 0 how ⟨#[]⟩ 0 zexL zexL (.slice none 0 0) (.slice none 0 0))from Zm _ _ _ _ _ _ _ _ _ (Yj _ _) (Zc _ _) (Zc _ _) (Zc _ _) (Zg _ _) (Zg _ _)).len.trans (AH.dsr_len _ _ _ _ _)) (Zx ((show Deep (fun k=>w.heap.size+2≤k) w4 (((⟨0,0,0,zSe,zEx,sd,0,0,how,⟨#[]⟩,0,zEx,zEx⟩:AH)).dsr 0 .nil 0 .nil) (Zt 0 0 0 zseL zexL sd 0 0 how ⟨#[]⟩ 0 zexL zexL (.slice none 0 0) (.slice none 0 0))from Zm _ _ _ _ _ _ _ _ _ (Yj _ _) (Zc _ _) (Zc _ _) (Zc _ _) (Zg _ _) (Zg _ _)).len.trans (AH.dsr_len _ _ _ _ _))) (show Deep (fun k=>w.heap.size+2≤k) w4 (((⟨0,0,0,zSe,zEx,sd,0,0,how,⟨#[]⟩,0,zEx,zEx⟩:AH)).dsr 0 .nil 0 .nil) (Zt 0 0 0 zseL zexL sd 0 0 how ⟨#[]⟩ 0 zexL zexL (.slice none 0 0) (.slice none 0 0))from Zm _ _ _ _ _ _ _ _ _ (Yj _ _) (Zc _ _) (Zc _ _) (Zc _ _) (Zg _ _) (Zg _ _)).one rfl rfl rfl rfl rfl ?_
   intro w5 p5;have R5:=Hh p5.whole;have T5:=Hh (p5.keeps.whole T4.out (by omega));have M5:=Hh (M4.out.put p5 (by omega) qin cin rin);have hz5:=Nat.le_trans hz4 p5.keeps.size;have hcell:=M5.out.at_.cell;clear p5))
 exact Zj 4 57 57 w.heap.size _ rfl R5.out row_act (Zx ((show Deep (fun k=>w.heap.size+2≤k) w5 (((⟨0,0,0,zSe,zEx,sd,0,0,how,⟨#[]⟩,0,zEx,zEx⟩:AH)).dsr 0 .nil 0 .nil) (Zt 0 0 0 zseL zexL sd 0 0 how ⟨#[]⟩ 0 zexL zexL (.slice none 0 0) (.slice none 0 0))from Zm _ _ _ _ _ _ _ _ _ (Yj _ _) (Zc _ _) (Zc _ _) (Zc _ _) (Zg _ _) (Zg _ _)).len.trans (AH.dsr_len _ _ _ _ _))) rfl rfl ⟨_,rfl,Deep.lower (show Deep (fun k=>w.heap.size+2≤k) w5 (((⟨0,0,0,zSe,zEx,sd,0,0,how,⟨#[]⟩,0,zEx,zEx⟩:AH)).dsr 0 .nil 0 .nil) (Zt 0 0 0 zseL zexL sd 0 0 how ⟨#[]⟩ 0 zexL zexL (.slice none 0 0) (.slice none 0 0))from Zm _ _ _ _ _ _ _ _ _ (Yj _ _) (Zc _ _) (Zc _ _) (Zc _ _) (Zg _ _) (Zg _ _)) (by omega),M5.out⟩
theorem xplainM13(k:Nat)(hk:k=13∨k=15)(w:World)(q c r K:Nat)(L:List TokV)(st:St)(n:Nat)(h:PAt w q c r K L st)(hn:4*Zk L st+3≤n)(hLn:Zk L st≤68719476736) :
  Calls Tryz.prog 270 #[.pointer (some ⟨q,0,none⟩),.int .i64 (k:Int)] w (Zz w q c r K L (Yq 5 L n (AH.zero 0 0 0) k st).2 ((Yq 5 L n (AH.zero 0 0 0) k st).1.dsr 0 .nil 0 .nil)):=by
 have qin:=h.whole.inside;have cin:=h.cin;have rin:=h.rin;have nb:=Za w (.cells Ye.toArray 57);have nb2:=Za (w.alloc (.cells Ye.toArray 57)) (.cells Ye.toArray 57);have M0:=Hh (((Yc.start h).next nb).next nb2);have R0:=Hh (show Zb _ w.heap.size 57 (Ye).toArray from(Zb.made w 57 Ye.toArray).alloc (.cells Ye.toArray 57));have T0:=Hh (show Zb _ (w.heap.size+1) 57 (Ye).toArray from by have e:=Zb.made (w.alloc (.cells Ye.toArray 57)) 57 Ye.toArray;rw[World.size_alloc]at e;exact e);clear nb nb2;have hcell:=M0.out.at_.cell
 (try rw[zact_lit]at hcell)
 have hpl:Yq 5 L n (AH.zero 0 0 0) k st=((⟨0,0,0,zSe,zEx,(Zd L Zq st:Int),toK L (Yk L Zq st),toL L (Yk L Zq st),0,⟨#[]⟩,0,zEx,zEx⟩:AH),toS L (Yk L Zq st)):=by rcases hk with rfl | rfl<;>rfl
 rw[hpl];clear hpl;have hr2:=Yt L Zq (st);have hsi:∀ w,PAt w q c r K L (st)→Calls Tryz.prog 220 #[.pointer (some ⟨q,0,none⟩)] w (Zv w q c r K L (Yk L Zq (st)) (.int .i64 (Zd L Zq (st):Int))):=fun w h=>xside w q c r K L _ h
 generalize hsd:(Zd L Zq (st):Int)=sd at *;generalize Yk L Zq (st)=s2 at *;clear hsd;have hr3:=Zdv L (s2);have hto:∀ w,PAt w q c r K L (s2)→Calls Tryz.prog 221 #[.pointer (some ⟨q,0,none⟩)] w (Zv w q c r K L (toS L (s2)) (.agg #[.int .i64 (toK L (s2)),.int .i64 (toL L (s2))])):=fun w h=>xto w q c r K L _ h
 generalize toK L (s2)=tk at *;generalize toL L (s2)=tl at *;generalize toS L (s2)=s3 at *;clear h hn hLn;rcases hk with rfl | rfl
 all_goals
  go_enter Tryz.func270,Tryz.ntmps270;go_wp2_with(first
 |(go_at_call 220;refine(hsi _ M0.out.at_).mono ?_;rintro e w1 ⟨rfl,m1⟩
   have R1:=Hh (m1.keeps.whole R0.out (by omega));have T1:=Hh (m1.keeps.whole T0.out (by omega));have M1:=Hh (M0.out.then m1);have hz1:w.heap.size+2≤w1.heap.size:=by have:=m1.keeps.size;(try simp at this);omega
   have hcell:=M1.out.at_.cell;clear m1)
 |((with_reducible refine at_st 74 73 ?_);refine put_sd 3 _ _ 57 (w.heap.size+1) T1.out rfl rfl Yo rfl rfl rfl rfl rfl rfl ?_
   intro w2 p2;have T2:=Hh (show Zb w2 (w.heap.size+1) 57 (Zt 0 0 0 zseL zexL sd 0 0 0 ⟨#[]⟩ 0 zexL zexL (.slice none 0 0) (.slice none 0 0)).toArray from by first | exact p2.whole | simpa using p2.whole);have R2:=Hh (p2.keeps.whole R1.out (by omega));have M2:=Hh (M1.out.put p2 (by omega) qin cin rin);have hz2:=Nat.le_trans hz1 p2.keeps.size;have hcell:=M2.out.at_.cell;clear p2)
 |(go_at_call 221;refine(hto _ M2.out.at_).mono ?_;rintro e w3 ⟨rfl,m3⟩
   have R3:=Hh (m3.keeps.whole R2.out (by omega));have T3:=Hh (m3.keeps.whole T2.out (by omega));have M3:=Hh (M2.out.then m3);have hz3:=Nat.le_trans hz2 m3.keeps.size;have hcell:=M3.out.at_.cell;clear m3)
 |((with_reducible refine at_st 77 76 ?_);refine put_to 48 _ _ 57 (w.heap.size+1) T3.out rfl rfl Zar rfl rfl rfl rfl rfl ?_
   intro w4 p4;have T4:=Hh (show Zb w4 (w.heap.size+1) 57 (Zt 0 0 0 zseL zexL sd tk tl 0 ⟨#[]⟩ 0 zexL zexL (.slice none 0 0) (.slice none 0 0)).toArray from by first | exact p4.whole | simpa using p4.whole);have R4:=Hh (p4.keeps.whole R3.out (by omega));have M4:=Hh (M3.out.put p4 (by omega) qin cin rin);have hz4:=Nat.le_trans hz3 p4.keeps.size;have hcell:=M4.out.at_.cell;clear p4)
 |((with_reducible refine at_ld 78 ?_);refine wpList_loadW 57 _ 57 (w.heap.size+1) _ T4.out row_act (Zx ((show Deep (fun k=>w.heap.size+2≤k) w4 (((⟨0,0,0,zSe,zEx,sd,tk,tl,0,⟨#[]⟩,0,zEx,zEx⟩:AH)).dsr 0 .nil 0 .nil) (Zt 0 0 0 zseL zexL sd tk tl 0 ⟨#[]⟩ 0 zexL zexL (.slice none 0 0) (.slice none 0 0))from Zm _ _ _ _ _ _ _ _ _ (Yj _ _) (Zc _ _) (Zc _ _) (Zc _ _) (Zg _ _) (Zg _ _)).len.trans (AH.dsr_len _ _ _ _ _))) rfl rfl rfl ?_)
 |((with_reducible refine at_st 4 78 ?_);refine wpList_storeW 57 _ _ 57 (w.heap.size) _ (Zt 0 0 0 zseL zexL sd tk tl 0 ⟨#[]⟩ 0 zexL zexL (.slice none 0 0) (.slice none 0 0)) R4.out ((show Deep (fun k=>w.heap.size+2≤k) w4 (((⟨0,0,0,zSe,zEx,sd,tk,tl,0,⟨#[]⟩,0,zEx,zEx⟩:AH)).dsr 0 .nil 0 .nil) (Zt 0 0 0 zseL zexL sd tk tl 0 ⟨#[]⟩ 0 zexL zexL (.slice none 0 0) (.slice none 0 0))from Zm _ _ _ _ _ _ _ _ _ (Yj _ _) (Zc _ _) (Zc _ _) (Zc _ _) (Zg _ _) (Zg _ _)).len.trans (AH.dsr_len _ _ _ _ _)) (Zx ((show Deep (fun k=>w.heap.size+2≤k) w4 (((⟨0,0,0,zSe,zEx,sd,tk,tl,0,⟨#[]⟩,0,zEx,zEx⟩:AH)).dsr 0 .nil 0 .nil) (Zt 0 0 0 zseL zexL sd tk tl 0 ⟨#[]⟩ 0 zexL zexL (.slice none 0 0) (.slice none 0 0))from Zm _ _ _ _ _ _ _ _ _ (Yj _ _) (Zc _ _) (Zc _ _) (Zc _ _) (Zg _ _) (Zg _ _)).len.trans (AH.dsr_len _ _ _ _ _))) (show Deep (fun k=>w.heap.size+2≤k) w4 (((⟨0,0,0,zSe,zEx,sd,tk,tl,0,⟨#[]⟩,0,zEx,zEx⟩:AH)).dsr 0 .nil 0 .nil) (Zt 0 0 0 zseL zexL sd tk tl 0 ⟨#[]⟩ 0 zexL zexL (.slice none 0 0) (.slice none 0 0))from Zm _ _ _ _ _ _ _ _ _ (Yj _ _) (Zc _ _) (Zc _ _) (Zc _ _) (Zg _ _) (Zg _ _)).one rfl rfl rfl rfl rfl ?_
   intro w5 p5;have R5:=Hh p5.whole;have T5:=Hh (p5.keeps.whole T4.out (by omega));have M5:=Hh (M4.out.put p5 (by omega) qin cin rin);have hz5:=Nat.le_trans hz4 p5.keeps.size;have hcell:=M5.out.at_.cell;clear p5))
  exact Zj 4 57 57 w.heap.size _ rfl R5.out row_act (Zx ((show Deep (fun k=>w.heap.size+2≤k) w5 (((⟨0,0,0,zSe,zEx,sd,tk,tl,0,⟨#[]⟩,0,zEx,zEx⟩:AH)).dsr 0 .nil 0 .nil) (Zt 0 0 0 zseL zexL sd tk tl 0 ⟨#[]⟩ 0 zexL zexL (.slice none 0 0) (.slice none 0 0))from Zm _ _ _ _ _ _ _ _ _ (Yj _ _) (Zc _ _) (Zc _ _) (Zc _ _) (Zg _ _) (Zg _ _)).len.trans (AH.dsr_len _ _ _ _ _))) rfl rfl ⟨_,rfl,Deep.lower (show Deep (fun k=>w.heap.size+2≤k) w5 (((⟨0,0,0,zSe,zEx,sd,tk,tl,0,⟨#[]⟩,0,zEx,zEx⟩:AH)).dsr 0 .nil 0 .nil) (Zt 0 0 0 zseL zexL sd tk tl 0 ⟨#[]⟩ 0 zexL zexL (.slice none 0 0) (.slice none 0 0))from Zm _ _ _ _ _ _ _ _ _ (Yj _ _) (Zc _ _) (Zc _ _) (Zc _ _) (Zg _ _) (Zg _ _)) (by omega),M5.out⟩
theorem fold_fill:∀(l:List Value)(k:Nat)(cs:Array Value),cs.size=k+l.length→(l.zipIdx k).foldl (fun cs x=>cs.setIfInBounds (0+x.2) x.1) cs=(cs.toList.take k++l).toArray
 |[],k,cs,h=>by
  rw[List.length_nil,Nat.add_zero]at h;have:cs.toList.take k=cs.toList:=List.take_of_length_le (by rw[Array.length_toList,h];exact Nat.le_refl k);simp[this]
 |v::l,k,cs,h=>by
  rw[List.length_cons]at h;rw[List.zipIdx_cons,List.foldl_cons];dsimp only;rw[Nat.zero_add,fold_fill l (k+1) (cs.setIfInBounds k v) (by simp;omega)];congr 1
  rw[show v::l=[v]++l from rfl,←List.append_assoc];congr 1
  rw[Array.toList_setIfInBounds];apply List.ext_getElem?;intro i;rw[List.getElem?_take,List.getElem?_append,List.getElem?_take,List.getElem?_set,List.length_take,Array.length_toList];have hm:min k cs.size=k:=by omega
  rw[hm];by_cases h1:i<k
  ·rw[if_pos (by omega),if_neg (by omega),if_pos h1,if_pos h1]
  ·by_cases h2:i=k
   ·subst h2
    rw[if_pos (by omega),if_pos rfl,if_pos (by omega),if_neg (by omega)];simp
   ·rw[if_neg (by omega),if_neg h1]
    simp;omega
theorem built_one{P:Program}{e:TypeId}{vs:List Value}{sz:Nat}{z:Value}{bytes:Nat}(hinfo:(P.info? e).map (fun i=>(i.zero,i.size,i.bytes))=some (some z,sz,bytes))(hl:vs.length=sz)(hp:0<sz)(hs:sz≤1000):P.builtSlice e 1 [(0,.agg vs.toArray)]=some vs.toArray:=by
 obtain⟨i,hi,hz,hsize,hbytes⟩:=info_parts hinfo;unfold Program.builtSlice;rw[hi];dsimp only;rw[hz];dsimp only;rw[hsize,if_neg (by omega)];unfold Instr.fill;dsimp only;have hv:(Value.agg vs.toArray).cells=vs.toArray:=rfl;rw[hv];have hc:((Array.range (1*sz)).map (z.cells[· % z.cells.size]!)).size=0+vs.length:=by simp[hl]
 rw[if_neg (by simp[hl])];unfold Instr.fill;have:=fold_fill vs 0 _ hc;simp only[Nat.zero_mul];rw[show vs.toArray.zipIdx=(vs.zipIdx 0).toArray from by simp];rw[List.foldl_toArray']
 ·rw[this];simp
 ·simp
theorem Zjy{P:Program}{ops:Array Oper}{rest:List Oper}{o:Oper}{a:Act}{w:World}{Q:Exit→Act→World→Prop}(t e:TypeId)(x:Operand)(d:Tmp)(sz bytes:Nat)(z:Value)(vs:List Value)
  (hinfo:(P.info? e).map (fun i=>(i.zero,i.size,i.bytes))=some (some z,sz,bytes))(hl:vs.length=sz)(hp:0<sz)(hs:sz≤1000)(hu:P.underlying t=some (.slice e))
  (hg:o.guard=none)(ho:o.op=.buildSlice t 1 #[(0,x)])(hd:o.dst=some d)(hx:a.eval x=.agg vs.toArray)
  (h:wpList P ops Q rest (a.put (some d) (.slice (some ⟨w.heap.size,0,none⟩) 1 1)) (w.alloc (.cells vs.toArray e))):wpList P ops Q (o::rest) a w:=
 Great.wpList_buildSliceTo hg t e 1 #[(0,x)] ho w.heap.size rfl (some d) hd hu vs.toArray (by simpa[hx]using built_one hinfo hl hp hs) h
theorem Zid{cop:Int}{cl cr:List Value}(h1:cl.length=12)(h2:cr.length=12):(Wu cop cl cr).length=25:=by simp[Wu,h1,h2]
section
variable {P:Program} {ops:Array Oper} {rest:List Oper} {o:Oper} {a:Act} {w:World} {Q:Exit→Act→World→Prop}
theorem put_cl(T:TypeId)(x y:Operand)(t:TypeId)(g:Nat){cop:Int}{cl cr ys:List Value}(hW:Zb w g t (Wu cop cl cr).toArray)(e1:cl.length=12)(hy1:ys.length=12)(hi:(P.info? T).map (·.size)=some 12)(h1:∀ v ∈ ys,v.oneCell'=true)
  (hgd:o.guard=none)(ho:o.op=.store T x y)(hd:o.dst=none)(hx:a.eval x=.pointer (some ⟨g,1,none⟩))(hy:a.eval y=.agg ys.toArray)
  (h:∀ w',Put w w' g t (Wu cop ys cr)→wpList P ops Q rest a w'):wpList P ops Q (o::rest) a w:=
 wpList_storeP T x y t g 1 [.int .i64 cop] cl cr ys (by simpa[Wu]using hW) (by rw[hy1,e1]) rfl (by rw[hy1];exact hi) h1 hgd ho hd hx hy fun w' p=>h w' ⟨by simpa[Wu]using p.whole,p.keeps⟩
theorem put_cr(T:TypeId)(x y:Operand)(t:TypeId)(g:Nat){cop:Int}{cl cr ys:List Value}(hW:Zb w g t (Wu cop cl cr).toArray)(e1:cl.length=12)(e2:cr.length=12)(hy1:ys.length=12)(hi:(P.info? T).map (·.size)=some 12)(h1:∀ v ∈ ys,v.oneCell'=true)
  (hgd:o.guard=none)(ho:o.op=.store T x y)(hd:o.dst=none)(hx:a.eval x=.pointer (some ⟨g,13,none⟩))(hy:a.eval y=.agg ys.toArray)
  (h:∀ w',Put w w' g t (Wu cop cl ys)→wpList P ops Q rest a w'):wpList P ops Q (o::rest) a w:=
 wpList_storeP T x y t g 13 ([.int .i64 cop]++cl) cr [] ys (by simpa[Wu]using hW) (by rw[hy1,e2]) (by simp[e1]) (by rw[hy1];exact hi) h1 hgd ho hd hx hy fun w' p=>h w' ⟨by simpa[Wu]using p.whole,p.keeps⟩
end
def CondPost(w:World)(q c r K:Nat)(L:List TokV)(st:St)(cop:Int)(x y:Ex)(e:Ending)(w':World):Prop:=
 ∃ cl cr:List Value,e=.returned (.agg (Wu cop cl cr).toArray)∧Deep (fun k=>w.heap.size≤k) w' x.ds cl∧Deep (fun k=>w.heap.size≤k) w' y.ds cr∧Yc w w' q c r K L st
theorem xcond(w:World)(q c r K:Nat)(L:List TokV)(st:St)(n:Nat)(h:PAt w q c r K L st)(hn:4*Zk L st+3≤n)(hLn:Zk L st≤68719476736) :
  Calls Tryz.prog 268 #[.pointer (some ⟨q,0,none⟩)] w (CondPost w q c r K L (Xb 5 L n (AH.zero 0 0 0) st).2 (Xb 5 L n (AH.zero 0 0 0) st).1.cop (Xb 5 L n (AH.zero 0 0 0) st).1.cl (Xb 5 L n (AH.zero 0 0 0) st).1.cr):=by
 have qin:=h.whole.inside;have cin:=h.cin;have rin:=h.rin;have nb:=Za w (.cells #[.int .i64 0,.int .i64 0,.int .i64 0,.int .i64 0,.int .i64 0,.int .i64 0,.int .i64 0,.slice none 0 0,.int .i64 0,.int .i64 0,.int .i64 0,.int .i64 0,.slice none 0 0,.int .i64 0,.int .i64 0,.int .i64 0,.int .i64 0,.int .i64 0,.int .i64 0,.slice none 0 0,.int .i64 0,.int .i64 0,.int .i64 0,.int .i64 0,.slice none 0 0] 55);have nb2:=Za (w.alloc (.cells #[.int .i64 0,.int .i64 0,.int .i64 0,.int .i64 0,.int .i64 0,.int .i64 0,.int .i64 0,.slice none 0 0,.int .i64 0,.int .i64 0,.int .i64 0,.int .i64 0,.slice none 0 0,.int .i64 0,.int .i64 0,.int .i64 0,.int .i64 0,.int .i64 0,.int .i64 0,.slice none 0 0,.int .i64 0,.int .i64 0,.int .i64 0,.int .i64 0,.slice none 0 0] 55)) (.cells #[.int .i64 0,.int .i64 0,.int .i64 0,.int .i64 0,.int .i64 0,.int .i64 0,.int .i64 0,.slice none 0 0,.int .i64 0,.int .i64 0,.int .i64 0,.int .i64 0,.slice none 0 0,.int .i64 0,.int .i64 0,.int .i64 0,.int .i64 0,.int .i64 0,.int .i64 0,.slice none 0 0,.int .i64 0,.int .i64 0,.int .i64 0,.int .i64 0,.slice none 0 0] 55);have M0:=Hh (((Yc.start h).next nb).next nb2);have R0:=Hh (show Zb _ w.heap.size 55 (Wu 0 zexL zexL).toArray from(Zb.made w 55 #[.int .i64 0,.int .i64 0,.int .i64 0,.int .i64 0,.int .i64 0,.int .i64 0,.int .i64 0,.slice none 0 0,.int .i64 0,.int .i64 0,.int .i64 0,.int .i64 0,.slice none 0 0,.int .i64 0,.int .i64 0,.int .i64 0,.int .i64 0,.int .i64 0,.int .i64 0,.slice none 0 0,.int .i64 0,.int .i64 0,.int .i64 0,.int .i64 0,.slice none 0 0]).alloc (.cells #[.int .i64 0,.int .i64 0,.int .i64 0,.int .i64 0,.int .i64 0,.int .i64 0,.int .i64 0,.slice none 0 0,.int .i64 0,.int .i64 0,.int .i64 0,.int .i64 0,.slice none 0 0,.int .i64 0,.int .i64 0,.int .i64 0,.int .i64 0,.int .i64 0,.int .i64 0,.slice none 0 0,.int .i64 0,.int .i64 0,.int .i64 0,.int .i64 0,.slice none 0 0] 55));have T0:=Hh (show Zb _ (w.heap.size+1) 55 (Wu 0 zexL zexL).toArray from by have e:=Zb.made (w.alloc (.cells #[.int .i64 0,.int .i64 0,.int .i64 0,.int .i64 0,.int .i64 0,.int .i64 0,.int .i64 0,.slice none 0 0,.int .i64 0,.int .i64 0,.int .i64 0,.int .i64 0,.slice none 0 0,.int .i64 0,.int .i64 0,.int .i64 0,.int .i64 0,.int .i64 0,.int .i64 0,.slice none 0 0,.int .i64 0,.int .i64 0,.int .i64 0,.int .i64 0,.slice none 0 0] 55)) 55 #[.int .i64 0,.int .i64 0,.int .i64 0,.int .i64 0,.int .i64 0,.int .i64 0,.int .i64 0,.slice none 0 0,.int .i64 0,.int .i64 0,.int .i64 0,.int .i64 0,.slice none 0 0,.int .i64 0,.int .i64 0,.int .i64 0,.int .i64 0,.int .i64 0,.int .i64 0,.slice none 0 0,.int .i64 0,.int .i64 0,.int .i64 0,.int .i64 0,.slice none 0 0];rw[World.size_alloc]at e;exact e);clear nb nb2;show Calls _ _ _ _ (CondPost w q c r K L (Ya 5 L n (Yk L wOp (Ya 5 L n st).2)).2 (Zd L wOp (Ya 5 L n st).2:Int) (Ya 5 L n st).1 (Ya 5 L n (Yk L wOp (Ya 5 L n st).2)).1);have hr1:=Zat L 5 n st;have hr2:=Yt L wOp (Ya 5 L n st).2;have hl:∀ w,PAt w q c r K L st→Calls Tryz.prog 97 #[.pointer (some ⟨q,0,none⟩)] w (Zz w q c r K L (Ya 5 L n st).2 (Ya 5 L n st).1.ds):=fun w h=>xexprs w q c r K L _ n h (by omega) (by omega)
 generalize Ya 5 L n st=xa at *;have hop:∀ w,PAt w q c r K L xa.2→Calls Tryz.prog 280 #[.pointer (some ⟨q,0,none⟩)] w (Zv w q c r K L (Yk L wOp xa.2) (.int .i64 (Zd L wOp xa.2:Int))):=fun w h=>xop w q c r K L _ h
 generalize(Zd L wOp xa.2:Int)=op at *;generalize Yk L wOp xa.2=s2 at *;have hr:∀ w,PAt w q c r K L s2→Calls Tryz.prog 97 #[.pointer (some ⟨q,0,none⟩)] w (Zz w q c r K L (Ya 5 L n s2).2 (Ya 5 L n s2).1.ds):=fun w h=>xexprs w q c r K L _ n h (by omega) (by omega)
 generalize Ya 5 L n s2=xb at *;clear h hn hLn hr1 hr2;go_enter Tryz.func268,Tryz.ntmps268;go_wp2_with(first
 |(go_at_call 97;(with_reducible refine(hl _ ?_).mono ?_);exact M0.out.at_;rintro e w1 ⟨av,rfl,d1,m1⟩
   have R1:=Hh (m1.keeps.whole R0.out (by omega));have T1:=Hh (m1.keeps.whole T0.out (by omega));have M1:=Hh (M0.out.then m1);have hz1:w.heap.size+2≤w1.heap.size:=by have:=m1.keeps.size;(try simp at this);omega
   have hcell:=M1.out.at_.cell;have A1:=Hh (d1.lower (show w.heap.size+2≤_ by first | omega | (simp;done) | (simp;omega)));have AL:=Hh d1.len;clear m1 d1)
 |((with_reducible refine at_st 6 5 ?_);refine put_cl 51 _ _ 55 (w.heap.size+1) T1.out rfl A1.out.len12 Yx A1.out.one rfl rfl rfl rfl rfl ?_
   intro w2 p2;have T2:=Hh (show Zb w2 (w.heap.size+1) 55 (Wu 0 av zexL).toArray from by first | exact p2.whole | simpa using p2.whole);have R2:=Hh (p2.keeps.whole R1.out (by omega));have A2:=Hh (A1.out.put p2 (by omega));have M2:=Hh (M1.out.put p2 (by omega) qin cin rin);have hz2:=Nat.le_trans hz1 p2.keeps.size;have hcell:=M2.out.at_.cell;clear p2)
 |(go_at_call 280;refine(hop _ M2.out.at_).mono ?_;rintro e w3 ⟨rfl,m3⟩
   have R3:=Hh (m3.keeps.whole R2.out (by omega));have T3:=Hh (m3.keeps.whole T2.out (by omega));have A3:=Hh (A2.out.move m3 (by omega) (by omega));have M3:=Hh (M2.out.then m3);have hz3:=Nat.le_trans hz2 m3.keeps.size;have hcell:=M3.out.at_.cell;clear m3)
 |((with_reducible refine at_st 9 8 ?_);refine wpList_store1 3 _ _ 55 (w.heap.size+1) 0 [] (.int .i64 0) (.int .i64 op) (av++zexL) T3.out rfl Yo rfl rfl rfl rfl rfl rfl ?_
   intro w4 p4;have T4:=Hh (show Zb w4 (w.heap.size+1) 55 (Wu op av zexL).toArray from by first | exact p4.whole | simpa using p4.whole);have R4:=Hh (p4.keeps.whole R3.out (by omega));have A4:=Hh (A3.out.put p4 (by omega));have M4:=Hh (M3.out.put p4 (by omega) qin cin rin);have hz4:=Nat.le_trans hz3 p4.keeps.size;have hcell:=M4.out.at_.cell;clear p4)
 |(go_at_call 97;(with_reducible refine(hr _ ?_).mono ?_);exact M4.out.at_;rintro e w5 ⟨bv,rfl,d5,m5⟩
   have R5:=Hh (m5.keeps.whole R4.out (by omega));have T5:=Hh (m5.keeps.whole T4.out (by omega));have A5:=Hh (A4.out.move m5 (by omega) (by omega));have M5:=Hh (M4.out.then m5);have hz5:=Nat.le_trans hz4 m5.keeps.size;have hcell:=M5.out.at_.cell;have B5:=Hh (d5.lower (show w.heap.size+2≤_ by first | omega | (simp;done) | (simp;omega)));have BL:=Hh d5.len;clear m5 d5)
 |((with_reducible refine at_st 12 11 ?_);refine put_cr 51 _ _ 55 (w.heap.size+1) T5.out A5.out.len12 rfl B5.out.len12 Yx B5.out.one rfl rfl rfl rfl rfl ?_
   intro w6 p6;have T6:=Hh (show Zb w6 (w.heap.size+1) 55 (Wu op av bv).toArray from by first | exact p6.whole | simpa using p6.whole);have R6:=Hh (p6.keeps.whole R5.out (by omega));have A6:=Hh (A5.out.put p6 (by omega));have B6:=Hh (B5.out.put p6 (by omega));have M6:=Hh (M5.out.put p6 (by omega) qin cin rin);have hz6:=Nat.le_trans hz5 p6.keeps.size;have hcell:=M6.out.at_.cell;clear p6)
 |((with_reducible refine at_ld 13 ?_);refine wpList_loadW 55 _ 55 (w.heap.size+1) _ T6.out row_cond (Zgk (Zid A6.out.len12 B6.out.len12)) rfl rfl rfl ?_)
 |((with_reducible refine at_st 2 13 ?_);refine wpList_storeW 55 _ _ 55 (w.heap.size) _ (Wu op av bv) R6.out (Zid A6.out.len12 B6.out.len12) (Zgk (Zid A6.out.len12 B6.out.len12)) (Zix op A6.out B6.out).one rfl rfl rfl rfl rfl ?_
   intro w7 p7;have R7:=Hh p7.whole;have T7:=Hh (p7.keeps.whole T6.out (by omega));have A7:=Hh (A6.out.put p7 (by omega));have B7:=Hh (B6.out.put p7 (by omega));have M7:=Hh (M6.out.put p7 (by omega) qin cin rin);have hz7:=Nat.le_trans hz6 p7.keeps.size;have hcell:=M7.out.at_.cell;clear p7))
 exact Zj 2 55 55 w.heap.size _ rfl R7.out row_cond (Zgk (Zid A7.out.len12 B7.out.len12)) rfl rfl ⟨_,_,rfl,A7.out.lower (by omega),B7.out.lower (by omega),M7.out⟩
def Zac(w:World)(q c r K:Nat)(L:List TokV)(st:St)(n:Nat)(ds:Ds)(e:Ending)(w':World):Prop:=
 ∃ v,e=.returned v∧Deep (fun k=>w.heap.size≤k) w' (.row n ds .nil) [v]∧Yc w w' q c r K L st
def ActsOK(n:Nat):Prop:=∀(w:World)(q c r K:Nat)(L:List TokV)(st:St),PAt w q c r K L st→8*Zk L st+8≤n→Zk L st≤68719476736 →
 Calls Tryz.prog 211 #[.pointer (some ⟨q,0,none⟩)] w (Zac w q c r K L (Xc 5 L n st).2 (Xc 5 L n st).1.len (Xc 5 L n st).1.ds)
def BlockOK(n:Nat):Prop:=∀(w:World)(q c r K:Nat)(L:List TokV)(st:St),PAt w q c r K L st→8*Zk L st+9≤n→Zk L st≤68719476736 →
 Calls Tryz.prog 269 #[.pointer (some ⟨q,0,none⟩)] w (Zac w q c r K L (Yf 5 L n st).2 (Yf 5 L n st).1.len (Yf 5 L n st).1.ds)
def AO.ds(x:AO):Ds:=x.h.dsr x.thn.len x.thn.ds x.els.len x.els.ds
def ActOK(n:Nat):Prop:=∀(w:World)(q c r K:Nat)(L:List TokV)(st:St)(k:Nat),PAt w q c r K L st→1≤k→k≤15→8*Zk L st+11≤n→Zk L st≤68719476736 →
 Calls Tryz.prog 242 #[.pointer (some ⟨q,0,none⟩),.int .i64 k] w (Zz w q c r K L (Ws 5 L n (AH.zero 0 0 0) k st).st (Ws 5 L n (AH.zero 0 0 0) k st).ds)
theorem Deep.slice{N:Nat→Prop}{w:World}{n:Nat}{ds:Ds}{v:Value}(h:Deep N w (.row n ds .nil) [v]):∃ A c,v=.slice A n c:=by
 obtain⟨A,c,xs,t,e,_⟩:=h;injection e with e1;exact⟨A,c,e1⟩
theorem xblock(n:Nat)(ih:ActsOK n):BlockOK (n+1):=by
 intro w q c r K L st h hn hLn;have qin:=h.whole.inside;have cin:=h.cin;have hr:=Zdd L Yz st;rw[Yf];have hde:Calls Tryz.prog 255 #[.pointer (some ⟨q,0,none⟩),.string ⟨#[123]⟩] w (Zv w q c r K L (Vw L Yz st) (.tuple #[])):=xdescend w q c r K L st Yz h;generalize Vw L Yz st=s1 at *;have hac:∀ w,PAt w q c r K L s1→Calls Tryz.prog 211 #[.pointer (some ⟨q,0,none⟩)] w (Zac w q c r K L (Xc 5 L n s1).2 (Xc 5 L n s1).1.len (Xc 5 L n s1).1.ds):=fun w h=>ih w q c r K L s1 h (by omega) (by omega)
 generalize Xc 5 L n s1=x at *;clear h hn hLn hr;go_enter Tryz.func269,Tryz.ntmps269;go_wp2_with(first
 |(go_at_call 255;refine hde.mono ?_;rintro e w1 ⟨rfl,m1⟩
   have hz1:w.heap.size≤w1.heap.size:=m1.keeps.size;have M1:=Hh m1;clear m1)
 |(go_at_call 211;refine(hac _ M1.out.at_).mono ?_;rintro e w2 ⟨v,rfl,d2,m2⟩
   have D2:=Hh (d2.lower hz1);have M2:=Hh (M1.out.then m2);clear m2 d2)
 |(go_at_call 256;refine(xascend _ q c r K L _ Xl M2.out.at_).mono ?_;rintro e w3 ⟨rfl,m3⟩
   have D3:=Hh (D2.out.move m3 qin cin);have M3:=Hh (M2.out.then m3);clear m3))
 go_ret;exact⟨_,rfl,D3.out,M3.out⟩
theorem xact(n:Nat)(ih:BlockOK n):ActOK (n+1):=by
 intro w q c r K L st k h hk1 hk2 hn hLn;have qin:=h.whole.inside;have cin:=h.cin;have rin:=h.rin;have nb:=Za w (.cells Ye.toArray 57);have nb2:=Za (w.alloc (.cells Ye.toArray 57)) (.cells Ye.toArray 57);have M0:=Hh (((Yc.start h).next nb).next nb2);have R0:=Hh (show Zb _ w.heap.size 57 (Ye).toArray from(Zb.made w 57 Ye.toArray).alloc (.cells Ye.toArray 57));have T0:=Hh (show Zb _ (w.heap.size+1) 57 (Ye).toArray from by have e:=Zb.made (w.alloc (.cells Ye.toArray 57)) 57 Ye.toArray;rw[World.size_alloc]at e;exact e);clear nb nb2;have hcell:=M0.out.at_.cell;by_cases k10:k=10
 ·subst k10
  rw[show((10:Nat):Int)=10 from rfl];have hrc:=Zev L 5 n (AH.zero 0 0 0) st;have hco:∀ w,PAt w q c r K L st→Calls Tryz.prog 268 #[.pointer (some ⟨q,0,none⟩)] w (CondPost w q c r K L (Xb 5 L n (AH.zero 0 0 0) st).2 (Xb 5 L n (AH.zero 0 0 0) st).1.cop (Xb 5 L n (AH.zero 0 0 0) st).1.cl (Xb 5 L n (AH.zero 0 0 0) st).1.cr):=fun w h=>xcond w q c r K L st n h (by omega) hLn
  have hch:(Xb 5 L n (AH.zero 0 0 0) st).1=(⟨0,0,0,zSe,zEx,0,0,0,0,⟨#[]⟩,(Xb 5 L n (AH.zero 0 0 0) st).1.cop,(Xb 5 L n (AH.zero 0 0 0) st).1.cl,(Xb 5 L n (AH.zero 0 0 0) st).1.cr⟩:AH):=rfl
  have hst:Ws 5 L (n+1) (AH.zero 0 0 0) 10 st=if isS L Uu (Yf 5 L n (Xb 5 L n (AH.zero 0 0 0) st).2).2=true then
     ⟨(Xb 5 L n (AH.zero 0 0 0) st).1,(Yf 5 L n (Xb 5 L n (AH.zero 0 0 0) st).2).1,(Yf 5 L n (Xf L Uu (Yf 5 L n (Xb 5 L n (AH.zero 0 0 0) st).2).2)).1,(Yf 5 L n (Xf L Uu (Yf 5 L n (Xb 5 L n (AH.zero 0 0 0) st).2).2)).2⟩
    else⟨(Xb 5 L n (AH.zero 0 0 0) st).1,(Yf 5 L n (Xb 5 L n (AH.zero 0 0 0) st).2).1,.nil,(Yf 5 L n (Xb 5 L n (AH.zero 0 0 0) st).2).2⟩:=by rw[Ws,if_pos rfl]
  rw[hst];clear hst;generalize Xb 5 L n (AH.zero 0 0 0) st=xc at *;obtain⟨xh,s2⟩:=xc;dsimp only at *;obtain⟨_,_,_,_,_,_,_,_,_,_,cop,cl,cr⟩:=xh;injection hch with e1 e2 e3 e4 e5 e6 e7 e8 e9 e10 _ _ _;subst e1 e2 e3 e4 e5 e6 e7 e8 e9 e10;dsimp only at *;have hrb:=Zir L 5 n s2;have hb1:∀ w,PAt w q c r K L s2→Calls Tryz.prog 269 #[.pointer (some ⟨q,0,none⟩)] w (Zac w q c r K L (Yf 5 L n s2).2 (Yf 5 L n s2).1.len (Yf 5 L n s2).1.ds):=fun w h=>ih w q c r K L s2 h (by omega) (by omega)
  generalize Yf 5 L n s2=xb at *;obtain⟨bt,s3⟩:=xb;dsimp only at *;by_cases he:isS L Uu s3=true
  · rw[if_pos he]
    have hrt:=Zhe L Uu s3;have htk:∀ w,PAt w q c r K L s3→Calls Tryz.prog 136 #[Xn c s3,.string ⟨#[101,108,115,101]⟩] w (Zv w q c r K L (Xf L Uu s3) (.bool true)):=fun w h=>by rw[←he];exact Wo w q c r K L s3 Uu h
    generalize Xf L Uu s3=s4 at *;have hb2:∀ w,PAt w q c r K L s4→Calls Tryz.prog 269 #[.pointer (some ⟨q,0,none⟩)] w (Zac w q c r K L (Yf 5 L n s4).2 (Yf 5 L n s4).1.len (Yf 5 L n s4).1.ds):=fun w h=>ih w q c r K L s4 h (by omega) (by omega)
    generalize Yf 5 L n s4=xe at *;obtain⟨be,s5⟩:=xe;dsimp only at *;clear h hn hLn hrc hrb hrt he hk1 hk2;go_enter Tryz.func242,Tryz.ntmps242;go_wp2_with(first
 |(go_at_call 268;refine(hco _ M0.out.at_).mono ?_;rintro e w1 ⟨clv,crv,rfl,dx1,dy1,m1⟩
   have R1:=Hh (m1.keeps.whole R0.out (by omega));have T1:=Hh (m1.keeps.whole T0.out (by omega));have M1:=Hh (M0.out.then m1);have hz1:w.heap.size+2≤w1.heap.size:=by have:=m1.keeps.size;(try simp at this);omega
   have hcell:=M1.out.at_.cell;have X1:=Hh (dx1.lower (show w.heap.size+2≤_ by first | omega | (simp;done) | (simp;omega)));have Y1:=Hh (dy1.lower (show w.heap.size+2≤_ by first | omega | (simp;done) | (simp;omega)));clear m1 dx1 dy1)
 |((with_reducible refine at_st 16 15 ?_);refine put_cond 55 _ _ 57 (w.heap.size+1) T1.out rfl rfl rfl rfl X1.out.len12 Y1.out.len12 Zin (Zix cop X1.out Y1.out).one rfl rfl rfl rfl rfl ?_
   intro w2 p2;have T2:=Hh (show Zb w2 (w.heap.size+1) 57 (Zt 0 0 0 zseL zexL 0 0 0 0 ⟨#[]⟩ cop clv crv (.slice none 0 0) (.slice none 0 0)).toArray from by first | exact p2.whole | simpa using p2.whole);have R2:=Hh (p2.keeps.whole R1.out (by omega));have X2:=Hh (X1.out.put p2 (by omega));have Y2:=Hh (Y1.out.put p2 (by omega));have M2:=Hh (M1.out.put p2 (by omega) qin cin rin);have hz2:=Nat.le_trans hz1 p2.keeps.size;have hcell:=M2.out.at_.cell;clear p2)
 |(go_at_call 269;(with_reducible refine(hb1 _ ?_).mono ?_);exact M2.out.at_;rintro e w3 ⟨pv,rfl,d3,m3⟩
   have R3:=Hh (m3.keeps.whole R2.out (by omega));have T3:=Hh (m3.keeps.whole T2.out (by omega));have X3:=Hh (X2.out.move m3 (by omega) (by omega));have Y3:=Hh (Y2.out.move m3 (by omega) (by omega));have M3:=Hh (M2.out.then m3);have hz3:=Nat.le_trans hz2 m3.keeps.size;have hcell:=M3.out.at_.cell;have P3:=Hh (d3.lower (show w.heap.size+2≤_ by first | omega | (simp;done) | (simp;omega)));obtain⟨Pa,Pc,rfl⟩:=P3.out.slice;clear m3 d3)
 |((with_reducible refine at_st 19 18 ?_);refine put_thn 41 _ _ 57 (w.heap.size+1) T3.out rfl rfl X3.out.len12 Y3.out.len12 Zbm rfl rfl rfl rfl rfl rfl ?_
   intro w4 p4;have T4:=Hh (show Zb w4 (w.heap.size+1) 57 (Zt 0 0 0 zseL zexL 0 0 0 0 ⟨#[]⟩ cop clv crv (.slice Pa bt.len Pc) (.slice none 0 0)).toArray from by first | exact p4.whole | simpa using p4.whole);have R4:=Hh (p4.keeps.whole R3.out (by omega));have X4:=Hh (X3.out.put p4 (by omega));have Y4:=Hh (Y3.out.put p4 (by omega));have P4:=Hh (P3.out.put p4 (by omega));have M4:=Hh (M3.out.put p4 (by omega) qin cin rin);have hz4:=Nat.le_trans hz3 p4.keeps.size;have hcell:=M4.out.at_.cell;clear p4)
 |(go_at_call 136;refine(htk _ M4.out.at_).mono ?_;rintro e w5 ⟨rfl,m5⟩
   have R5:=Hh (m5.keeps.whole R4.out (by omega));have T5:=Hh (m5.keeps.whole T4.out (by omega));have X5:=Hh (X4.out.move m5 (by omega) (by omega));have Y5:=Hh (Y4.out.move m5 (by omega) (by omega));have P5:=Hh (P4.out.move m5 (by omega) (by omega));have M5:=Hh (M4.out.then m5);have hz5:=Nat.le_trans hz4 m5.keeps.size;have hcell:=M5.out.at_.cell;clear m5)
 |(go_at_call 269;(with_reducible refine(hb2 _ ?_).mono ?_);exact M5.out.at_;rintro e w6 ⟨uv,rfl,d6,m6⟩
   have R6:=Hh (m6.keeps.whole R5.out (by omega));have T6:=Hh (m6.keeps.whole T5.out (by omega));have X6:=Hh (X5.out.move m6 (by omega) (by omega));have Y6:=Hh (Y5.out.move m6 (by omega) (by omega));have P6:=Hh (P5.out.move m6 (by omega) (by omega));have M6:=Hh (M5.out.then m6);have hz6:=Nat.le_trans hz5 m6.keeps.size;have hcell:=M6.out.at_.cell;have U6:=Hh (d6.lower (show w.heap.size+2≤_ by first | omega | (simp;done) | (simp;omega)));obtain⟨Ua,Uc,rfl⟩:=U6.out.slice;clear m6 d6)
 |((with_reducible refine at_st 27 26 ?_);refine put_els 41 _ _ 57 (w.heap.size+1) T6.out rfl rfl X6.out.len12 Y6.out.len12 Zbm rfl rfl rfl rfl rfl rfl ?_
   intro w7 p7;have T7:=Hh (show Zb w7 (w.heap.size+1) 57 (Zt 0 0 0 zseL zexL 0 0 0 0 ⟨#[]⟩ cop clv crv (.slice Pa bt.len Pc) (.slice Ua be.len Uc)).toArray from by first | exact p7.whole | simpa using p7.whole);have R7:=Hh (p7.keeps.whole R6.out (by omega));have X7:=Hh (X6.out.put p7 (by omega));have Y7:=Hh (Y6.out.put p7 (by omega));have P7:=Hh (P6.out.put p7 (by omega));have U7:=Hh (U6.out.put p7 (by omega));have M7:=Hh (M6.out.put p7 (by omega) qin cin rin);have hz7:=Nat.le_trans hz6 p7.keeps.size;have hcell:=M7.out.at_.cell;clear p7)
 |((with_reducible refine at_ld 36 ?_);refine wpList_loadW 57 _ 57 (w.heap.size+1) _ T7.out row_act (Zx ((show Deep (fun k=>w.heap.size+2≤k) w7 ((⟨0,0,0,zSe,zEx,0,0,0,0,⟨#[]⟩,cop,cl,cr⟩:AH).dsr bt.len bt.ds be.len be.ds) (Zt 0 0 0 zseL zexL 0 0 0 0 ⟨#[]⟩ cop clv crv (.slice Pa bt.len Pc) (.slice Ua be.len Uc))from Zm _ _ _ _ _ _ _ _ _ (Yj _ _) (Zc _ _) (X7.out) (Y7.out) (P7.out) (U7.out)).len.trans (AH.dsr_len _ _ _ _ _))) rfl rfl rfl ?_)
 |((with_reducible refine at_st 4 36 ?_);refine wpList_storeW 57 _ _ 57 (w.heap.size) _ (Zt 0 0 0 zseL zexL 0 0 0 0 ⟨#[]⟩ cop clv crv (.slice Pa bt.len Pc) (.slice Ua be.len Uc)) R7.out ((show Deep (fun k=>w.heap.size+2≤k) w7 ((⟨0,0,0,zSe,zEx,0,0,0,0,⟨#[]⟩,cop,cl,cr⟩:AH).dsr bt.len bt.ds be.len be.ds) (Zt 0 0 0 zseL zexL 0 0 0 0 ⟨#[]⟩ cop clv crv (.slice Pa bt.len Pc) (.slice Ua be.len Uc))from Zm _ _ _ _ _ _ _ _ _ (Yj _ _) (Zc _ _) (X7.out) (Y7.out) (P7.out) (U7.out)).len.trans (AH.dsr_len _ _ _ _ _)) (Zx ((show Deep (fun k=>w.heap.size+2≤k) w7 ((⟨0,0,0,zSe,zEx,0,0,0,0,⟨#[]⟩,cop,cl,cr⟩:AH).dsr bt.len bt.ds be.len be.ds) (Zt 0 0 0 zseL zexL 0 0 0 0 ⟨#[]⟩ cop clv crv (.slice Pa bt.len Pc) (.slice Ua be.len Uc))from Zm _ _ _ _ _ _ _ _ _ (Yj _ _) (Zc _ _) (X7.out) (Y7.out) (P7.out) (U7.out)).len.trans (AH.dsr_len _ _ _ _ _))) (show Deep (fun k=>w.heap.size+2≤k) w7 ((⟨0,0,0,zSe,zEx,0,0,0,0,⟨#[]⟩,cop,cl,cr⟩:AH).dsr bt.len bt.ds be.len be.ds) (Zt 0 0 0 zseL zexL 0 0 0 0 ⟨#[]⟩ cop clv crv (.slice Pa bt.len Pc) (.slice Ua be.len Uc))from Zm _ _ _ _ _ _ _ _ _ (Yj _ _) (Zc _ _) (X7.out) (Y7.out) (P7.out) (U7.out)).one rfl rfl rfl rfl rfl ?_
   intro w8 p8;have R8:=Hh p8.whole;have T8:=Hh (p8.keeps.whole T7.out (by omega));have X8:=Hh (X7.out.put p8 (by omega));have Y8:=Hh (Y7.out.put p8 (by omega));have P8:=Hh (P7.out.put p8 (by omega));have U8:=Hh (U7.out.put p8 (by omega));have M8:=Hh (M7.out.put p8 (by omega) qin cin rin);have hz8:=Nat.le_trans hz7 p8.keeps.size;have hcell:=M8.out.at_.cell
   clear p8))
    exact Zj 4 57 57 w.heap.size _ rfl R8.out row_act (Zx ((show Deep (fun k=>w.heap.size+2≤k) w8 ((⟨0,0,0,zSe,zEx,0,0,0,0,⟨#[]⟩,cop,cl,cr⟩:AH).dsr bt.len bt.ds be.len be.ds) (Zt 0 0 0 zseL zexL 0 0 0 0 ⟨#[]⟩ cop clv crv (.slice Pa bt.len Pc) (.slice Ua be.len Uc))from Zm _ _ _ _ _ _ _ _ _ (Yj _ _) (Zc _ _) (X8.out) (Y8.out) (P8.out) (U8.out)).len.trans (AH.dsr_len _ _ _ _ _))) rfl rfl ⟨_,rfl,Deep.lower (show Deep (fun k=>w.heap.size+2≤k) w8 ((⟨0,0,0,zSe,zEx,0,0,0,0,⟨#[]⟩,cop,cl,cr⟩:AH).dsr bt.len bt.ds be.len be.ds) (Zt 0 0 0 zseL zexL 0 0 0 0 ⟨#[]⟩ cop clv crv (.slice Pa bt.len Pc) (.slice Ua be.len Uc))from Zm _ _ _ _ _ _ _ _ _ (Yj _ _) (Zc _ _) (X8.out) (Y8.out) (P8.out) (U8.out)) (by omega),M8.out⟩
  · have hne:isS L Uu s3=false:=by simpa using he
    rw[if_neg he];have htk:∀ w,PAt w q c r K L s3→Calls Tryz.prog 136 #[Xn c s3,.string ⟨#[101,108,115,101]⟩] w (Zv w q c r K L s3 (.bool false)):=fun w h=>by have h1:=Wo w q c r K L s3 Uu h;rw[hne,Xj hne]at h1;exact h1
    clear h hn hLn hrc hrb he hne hk1 hk2;go_enter Tryz.func242,Tryz.ntmps242;go_wp2_with(first
 |(go_at_call 268;refine(hco _ M0.out.at_).mono ?_;rintro e w1 ⟨clv,crv,rfl,dx1,dy1,m1⟩
   have R1:=Hh (m1.keeps.whole R0.out (by omega));have T1:=Hh (m1.keeps.whole T0.out (by omega));have M1:=Hh (M0.out.then m1);have hz1:w.heap.size+2≤w1.heap.size:=by have:=m1.keeps.size;(try simp at this);omega
   have hcell:=M1.out.at_.cell;have X1:=Hh (dx1.lower (show w.heap.size+2≤_ by first | omega | (simp;done) | (simp;omega)));have Y1:=Hh (dy1.lower (show w.heap.size+2≤_ by first | omega | (simp;done) | (simp;omega)));clear m1 dx1 dy1)
 |((with_reducible refine at_st 16 15 ?_);refine put_cond 55 _ _ 57 (w.heap.size+1) T1.out rfl rfl rfl rfl X1.out.len12 Y1.out.len12 Zin (Zix cop X1.out Y1.out).one rfl rfl rfl rfl rfl ?_
   intro w2 p2;have T2:=Hh (show Zb w2 (w.heap.size+1) 57 (Zt 0 0 0 zseL zexL 0 0 0 0 ⟨#[]⟩ cop clv crv (.slice none 0 0) (.slice none 0 0)).toArray from by first | exact p2.whole | simpa using p2.whole);have R2:=Hh (p2.keeps.whole R1.out (by omega));have X2:=Hh (X1.out.put p2 (by omega));have Y2:=Hh (Y1.out.put p2 (by omega));have M2:=Hh (M1.out.put p2 (by omega) qin cin rin);have hz2:=Nat.le_trans hz1 p2.keeps.size;have hcell:=M2.out.at_.cell;clear p2)
 |(go_at_call 269;(with_reducible refine(hb1 _ ?_).mono ?_);exact M2.out.at_;rintro e w3 ⟨pv,rfl,d3,m3⟩
   have R3:=Hh (m3.keeps.whole R2.out (by omega));have T3:=Hh (m3.keeps.whole T2.out (by omega));have X3:=Hh (X2.out.move m3 (by omega) (by omega));have Y3:=Hh (Y2.out.move m3 (by omega) (by omega));have M3:=Hh (M2.out.then m3);have hz3:=Nat.le_trans hz2 m3.keeps.size;have hcell:=M3.out.at_.cell;have P3:=Hh (d3.lower (show w.heap.size+2≤_ by first | omega | (simp;done) | (simp;omega)));obtain⟨Pa,Pc,rfl⟩:=P3.out.slice;clear m3 d3)
 |((with_reducible refine at_st 19 18 ?_);refine put_thn 41 _ _ 57 (w.heap.size+1) T3.out rfl rfl X3.out.len12 Y3.out.len12 Zbm rfl rfl rfl rfl rfl rfl ?_
   intro w4 p4;have T4:=Hh (show Zb w4 (w.heap.size+1) 57 (Zt 0 0 0 zseL zexL 0 0 0 0 ⟨#[]⟩ cop clv crv (.slice Pa bt.len Pc) (.slice none 0 0)).toArray from by first | exact p4.whole | simpa using p4.whole);have R4:=Hh (p4.keeps.whole R3.out (by omega));have X4:=Hh (X3.out.put p4 (by omega));have Y4:=Hh (Y3.out.put p4 (by omega));have P4:=Hh (P3.out.put p4 (by omega));have M4:=Hh (M3.out.put p4 (by omega) qin cin rin);have hz4:=Nat.le_trans hz3 p4.keeps.size;have hcell:=M4.out.at_.cell;clear p4)
 |(go_at_call 136;refine(htk _ M4.out.at_).mono ?_;rintro e w5 ⟨rfl,m5⟩
   have R5:=Hh (m5.keeps.whole R4.out (by omega));have T5:=Hh (m5.keeps.whole T4.out (by omega));have X5:=Hh (X4.out.move m5 (by omega) (by omega));have Y5:=Hh (Y4.out.move m5 (by omega) (by omega));have P5:=Hh (P4.out.move m5 (by omega) (by omega));have M5:=Hh (M4.out.then m5);have hz5:=Nat.le_trans hz4 m5.keeps.size;have hcell:=M5.out.at_.cell;clear m5)
 |((with_reducible refine at_ld 36 ?_);refine wpList_loadW 57 _ 57 (w.heap.size+1) _ T5.out row_act (Zx ((show Deep (fun k=>w.heap.size+2≤k) w5 ((⟨0,0,0,zSe,zEx,0,0,0,0,⟨#[]⟩,cop,cl,cr⟩:AH).dsr bt.len bt.ds 0 .nil) (Zt 0 0 0 zseL zexL 0 0 0 0 ⟨#[]⟩ cop clv crv (.slice Pa bt.len Pc) (.slice none 0 0))from Zm _ _ _ _ _ _ _ _ _ (Yj _ _) (Zc _ _) (X5.out) (Y5.out) (P5.out) (Zg _ _)).len.trans (AH.dsr_len _ _ _ _ _))) rfl rfl rfl ?_)
 |((with_reducible refine at_st 4 36 ?_);refine wpList_storeW 57 _ _ 57 (w.heap.size) _ (Zt 0 0 0 zseL zexL 0 0 0 0 ⟨#[]⟩ cop clv crv (.slice Pa bt.len Pc) (.slice none 0 0)) R5.out ((show Deep (fun k=>w.heap.size+2≤k) w5 ((⟨0,0,0,zSe,zEx,0,0,0,0,⟨#[]⟩,cop,cl,cr⟩:AH).dsr bt.len bt.ds 0 .nil) (Zt 0 0 0 zseL zexL 0 0 0 0 ⟨#[]⟩ cop clv crv (.slice Pa bt.len Pc) (.slice none 0 0))from Zm _ _ _ _ _ _ _ _ _ (Yj _ _) (Zc _ _) (X5.out) (Y5.out) (P5.out) (Zg _ _)).len.trans (AH.dsr_len _ _ _ _ _)) (Zx ((show Deep (fun k=>w.heap.size+2≤k) w5 ((⟨0,0,0,zSe,zEx,0,0,0,0,⟨#[]⟩,cop,cl,cr⟩:AH).dsr bt.len bt.ds 0 .nil) (Zt 0 0 0 zseL zexL 0 0 0 0 ⟨#[]⟩ cop clv crv (.slice Pa bt.len Pc) (.slice none 0 0))from Zm _ _ _ _ _ _ _ _ _ (Yj _ _) (Zc _ _) (X5.out) (Y5.out) (P5.out) (Zg _ _)).len.trans (AH.dsr_len _ _ _ _ _))) (show Deep (fun k=>w.heap.size+2≤k) w5 ((⟨0,0,0,zSe,zEx,0,0,0,0,⟨#[]⟩,cop,cl,cr⟩:AH).dsr bt.len bt.ds 0 .nil) (Zt 0 0 0 zseL zexL 0 0 0 0 ⟨#[]⟩ cop clv crv (.slice Pa bt.len Pc) (.slice none 0 0))from Zm _ _ _ _ _ _ _ _ _ (Yj _ _) (Zc _ _) (X5.out) (Y5.out) (P5.out) (Zg _ _)).one rfl rfl rfl rfl rfl ?_
   intro w6 p6;have R6:=Hh p6.whole;have T6:=Hh (p6.keeps.whole T5.out (by omega));have X6:=Hh (X5.out.put p6 (by omega));have Y6:=Hh (Y5.out.put p6 (by omega));have P6:=Hh (P5.out.put p6 (by omega));have M6:=Hh (M5.out.put p6 (by omega) qin cin rin);have hz6:=Nat.le_trans hz5 p6.keeps.size;have hcell:=M6.out.at_.cell
   clear p6))
    exact Zj 4 57 57 w.heap.size _ rfl R6.out row_act (Zx ((show Deep (fun k=>w.heap.size+2≤k) w6 ((⟨0,0,0,zSe,zEx,0,0,0,0,⟨#[]⟩,cop,cl,cr⟩:AH).dsr bt.len bt.ds 0 .nil) (Zt 0 0 0 zseL zexL 0 0 0 0 ⟨#[]⟩ cop clv crv (.slice Pa bt.len Pc) (.slice none 0 0))from Zm _ _ _ _ _ _ _ _ _ (Yj _ _) (Zc _ _) (X6.out) (Y6.out) (P6.out) (Zg _ _)).len.trans (AH.dsr_len _ _ _ _ _))) rfl rfl ⟨_,rfl,Deep.lower (show Deep (fun k=>w.heap.size+2≤k) w6 ((⟨0,0,0,zSe,zEx,0,0,0,0,⟨#[]⟩,cop,cl,cr⟩:AH).dsr bt.len bt.ds 0 .nil) (Zt 0 0 0 zseL zexL 0 0 0 0 ⟨#[]⟩ cop clv crv (.slice Pa bt.len Pc) (.slice none 0 0))from Zm _ _ _ _ _ _ _ _ _ (Yj _ _) (Zc _ _) (X6.out) (Y6.out) (P6.out) (Zg _ _)) (by omega),M6.out⟩
 ·by_cases k11:k=11
  · subst k11
    rw[show((11:Nat):Int)=11 from rfl];have hrs:=Ur L 5 n st;have hse:∀ w,PAt w q c r K L st→Calls Tryz.prog 219 #[.pointer (some ⟨q,0,none⟩)] w (Zz w q c r K L (Xy 5 L n st).2 (Xy 5 L n st).1.ds):=fun w h=>xsel w q c r K L st n h (by omega) (by omega)
    have hst:Ws 5 L (n+1) (AH.zero 0 0 0) 11 st=⟨(⟨0,0,0,(Xy 5 L n st).1,zEx,0,0,0,0,⟨#[]⟩,0,zEx,zEx⟩:AH),(Yf 5 L n (Xy 5 L n st).2).1,.nil,(Yf 5 L n (Xy 5 L n st).2).2⟩:=by rw[Ws,if_neg (by decide),if_pos rfl];rfl
    rw[hst];clear hst;generalize Xy 5 L n st=xc at *;obtain⟨xs,s2⟩:=xc;dsimp only at *;have hb1:∀ w,PAt w q c r K L s2→Calls Tryz.prog 269 #[.pointer (some ⟨q,0,none⟩)] w (Zac w q c r K L (Yf 5 L n s2).2 (Yf 5 L n s2).1.len (Yf 5 L n s2).1.ds):=fun w h=>ih w q c r K L s2 h (by omega) (by omega)
    generalize Yf 5 L n s2=xb at *;obtain⟨bt,s3⟩:=xb;dsimp only at *;clear h hn hLn hrs hk1 hk2 k10;go_enter Tryz.func242,Tryz.ntmps242;go_wp2_with(first
 |(go_at_call 219;refine(hse _ M0.out.at_).mono ?_;rintro e w1 ⟨sv,rfl,d1,m1⟩
   have R1:=Hh (m1.keeps.whole R0.out (by omega));have T1:=Hh (m1.keeps.whole T0.out (by omega));have M1:=Hh (M0.out.then m1);have hz1:w.heap.size+2≤w1.heap.size:=by have:=m1.keeps.size;(try simp at this);omega
   have hcell:=M1.out.at_.cell;have S1:=Hh (d1.lower (show w.heap.size+2≤_ by first | omega | (simp;done) | (simp;omega)));have SL:=Hh d1.len;clear m1 d1)
 |((with_reducible refine at_st 32 31 ?_);refine Zki 46 _ _ 57 (w.heap.size+1) T1.out rfl S1.out.len6 Wz S1.out.one rfl rfl rfl rfl rfl ?_
   intro w2 p2;have T2:=Hh (show Zb w2 (w.heap.size+1) 57 (Zt 0 0 0 sv zexL 0 0 0 0 ⟨#[]⟩ 0 zexL zexL (.slice none 0 0) (.slice none 0 0)).toArray from by first | exact p2.whole | simpa using p2.whole);have R2:=Hh (p2.keeps.whole R1.out (by omega));have S2:=Hh (S1.out.put p2 (by omega));have M2:=Hh (M1.out.put p2 (by omega) qin cin rin);have hz2:=Nat.le_trans hz1 p2.keeps.size;have hcell:=M2.out.at_.cell;clear p2)
 |(go_at_call 269;(with_reducible refine(hb1 _ ?_).mono ?_);exact M2.out.at_;rintro e w3 ⟨pv,rfl,d3,m3⟩
   have R3:=Hh (m3.keeps.whole R2.out (by omega));have T3:=Hh (m3.keeps.whole T2.out (by omega));have S3:=Hh (S2.out.move m3 (by omega) (by omega));have M3:=Hh (M2.out.then m3);have hz3:=Nat.le_trans hz2 m3.keeps.size;have hcell:=M3.out.at_.cell;have P3:=Hh (d3.lower (show w.heap.size+2≤_ by first | omega | (simp;done) | (simp;omega)));obtain⟨Pa,Pc,rfl⟩:=P3.out.slice;clear m3 d3)
 |((with_reducible refine at_st 35 34 ?_);refine put_thn 41 _ _ 57 (w.heap.size+1) T3.out S3.out.len6 rfl rfl rfl Zbm rfl rfl rfl rfl rfl rfl ?_
   intro w4 p4;have T4:=Hh (show Zb w4 (w.heap.size+1) 57 (Zt 0 0 0 sv zexL 0 0 0 0 ⟨#[]⟩ 0 zexL zexL (.slice Pa bt.len Pc) (.slice none 0 0)).toArray from by first | exact p4.whole | simpa using p4.whole);have R4:=Hh (p4.keeps.whole R3.out (by omega));have S4:=Hh (S3.out.put p4 (by omega));have P4:=Hh (P3.out.put p4 (by omega));have M4:=Hh (M3.out.put p4 (by omega) qin cin rin);have hz4:=Nat.le_trans hz3 p4.keeps.size;have hcell:=M4.out.at_.cell;clear p4)
 |((with_reducible refine at_ld 36 ?_);refine wpList_loadW 57 _ 57 (w.heap.size+1) _ T4.out row_act (Zx ((show Deep (fun k=>w.heap.size+2≤k) w4 ((⟨0,0,0,xs,zEx,0,0,0,0,⟨#[]⟩,0,zEx,zEx⟩:AH).dsr bt.len bt.ds 0 .nil) (Zt 0 0 0 sv zexL 0 0 0 0 ⟨#[]⟩ 0 zexL zexL (.slice Pa bt.len Pc) (.slice none 0 0))from Zm _ _ _ _ _ _ _ _ _ (S4.out) (Zc _ _) (Zc _ _) (Zc _ _) (P4.out) (Zg _ _)).len.trans (AH.dsr_len _ _ _ _ _))) rfl rfl rfl ?_)
 |((with_reducible refine at_st 4 36 ?_);refine wpList_storeW 57 _ _ 57 (w.heap.size) _ (Zt 0 0 0 sv zexL 0 0 0 0 ⟨#[]⟩ 0 zexL zexL (.slice Pa bt.len Pc) (.slice none 0 0)) R4.out ((show Deep (fun k=>w.heap.size+2≤k) w4 ((⟨0,0,0,xs,zEx,0,0,0,0,⟨#[]⟩,0,zEx,zEx⟩:AH).dsr bt.len bt.ds 0 .nil) (Zt 0 0 0 sv zexL 0 0 0 0 ⟨#[]⟩ 0 zexL zexL (.slice Pa bt.len Pc) (.slice none 0 0))from Zm _ _ _ _ _ _ _ _ _ (S4.out) (Zc _ _) (Zc _ _) (Zc _ _) (P4.out) (Zg _ _)).len.trans (AH.dsr_len _ _ _ _ _)) (Zx ((show Deep (fun k=>w.heap.size+2≤k) w4 ((⟨0,0,0,xs,zEx,0,0,0,0,⟨#[]⟩,0,zEx,zEx⟩:AH).dsr bt.len bt.ds 0 .nil) (Zt 0 0 0 sv zexL 0 0 0 0 ⟨#[]⟩ 0 zexL zexL (.slice Pa bt.len Pc) (.slice none 0 0))from Zm _ _ _ _ _ _ _ _ _ (S4.out) (Zc _ _) (Zc _ _) (Zc _ _) (P4.out) (Zg _ _)).len.trans (AH.dsr_len _ _ _ _ _))) (show Deep (fun k=>w.heap.size+2≤k) w4 ((⟨0,0,0,xs,zEx,0,0,0,0,⟨#[]⟩,0,zEx,zEx⟩:AH).dsr bt.len bt.ds 0 .nil) (Zt 0 0 0 sv zexL 0 0 0 0 ⟨#[]⟩ 0 zexL zexL (.slice Pa bt.len Pc) (.slice none 0 0))from Zm _ _ _ _ _ _ _ _ _ (S4.out) (Zc _ _) (Zc _ _) (Zc _ _) (P4.out) (Zg _ _)).one rfl rfl rfl rfl rfl ?_
   intro w5 p5;have R5:=Hh p5.whole;have T5:=Hh (p5.keeps.whole T4.out (by omega));have S5:=Hh (S4.out.put p5 (by omega));have P5:=Hh (P4.out.put p5 (by omega));have M5:=Hh (M4.out.put p5 (by omega) qin cin rin);have hz5:=Nat.le_trans hz4 p5.keeps.size;have hcell:=M5.out.at_.cell
   clear p5))
    exact Zj 4 57 57 w.heap.size _ rfl R5.out row_act (Zx ((show Deep (fun k=>w.heap.size+2≤k) w5 ((⟨0,0,0,xs,zEx,0,0,0,0,⟨#[]⟩,0,zEx,zEx⟩:AH).dsr bt.len bt.ds 0 .nil) (Zt 0 0 0 sv zexL 0 0 0 0 ⟨#[]⟩ 0 zexL zexL (.slice Pa bt.len Pc) (.slice none 0 0))from Zm _ _ _ _ _ _ _ _ _ (S5.out) (Zc _ _) (Zc _ _) (Zc _ _) (P5.out) (Zg _ _)).len.trans (AH.dsr_len _ _ _ _ _))) rfl rfl ⟨_,rfl,Deep.lower (show Deep (fun k=>w.heap.size+2≤k) w5 ((⟨0,0,0,xs,zEx,0,0,0,0,⟨#[]⟩,0,zEx,zEx⟩:AH).dsr bt.len bt.ds 0 .nil) (Zt 0 0 0 sv zexL 0 0 0 0 ⟨#[]⟩ 0 zexL zexL (.slice Pa bt.len Pc) (.slice none 0 0))from Zm _ _ _ _ _ _ _ _ _ (S5.out) (Zc _ _) (Zc _ _) (Zc _ _) (P5.out) (Zg _ _)) (by omega),M5.out⟩
  · have hst:Ws 5 L (n+1) (AH.zero 0 0 0) k st=⟨(Yq 5 L n (AH.zero 0 0 0) k st).1,.nil,.nil,Yg L Zhd (Yq 5 L n (AH.zero 0 0 0) k st).2⟩:=by rw[Ws,if_neg k10,if_neg k11]
    rw[hst];clear hst
    have hpl:∀ w,PAt w q c r K L st→Calls Tryz.prog 270 #[.pointer (some ⟨q,0,none⟩),.int .i64 (k:Int)] w (Zz w q c r K L (Yq 5 L n (AH.zero 0 0 0) k st).2 ((Yq 5 L n (AH.zero 0 0 0) k st).1.dsr 0 .nil 0 .nil)):=fun w h=>by
     have hk:k=1∨k=2∨k=3∨k=4∨k=5∨k=6∨k=7∨k=8∨k=9∨k=12∨k=13∨k=14∨k=15:=by omega
     rcases hk with rfl | rfl | rfl | rfl | rfl | rfl | rfl | rfl | rfl | rfl | rfl | rfl | rfl
     ·exact xplainM1 1 (by decide) w q c r K L st n h (by omega) hLn
     ·exact xplainM1 2 (by decide) w q c r K L st n h (by omega) hLn
     ·exact xplainM3 3 (by decide) w q c r K L st n h (by omega) hLn
     ·exact xplain4 w q c r K L st n h (by omega) hLn
     ·exact xplainM3 5 (by decide) w q c r K L st n h (by omega) hLn
     ·exact xplain6 w q c r K L st n h (by omega) hLn
     ·exact xplainM7 7 (by decide) w q c r K L st n h (by omega) hLn
     ·exact xplain8 w q c r K L st n h (by omega) hLn
     ·exact xplainM7 9 (by decide) w q c r K L st n h (by omega) hLn
     ·exact xplainM1 12 (by decide) w q c r K L st n h (by omega) hLn
     ·exact xplainM13 13 (by decide) w q c r K L st n h (by omega) hLn
     ·exact xplainM3 14 (by decide) w q c r K L st n h (by omega) hLn
     ·exact xplainM13 15 (by decide) w q c r K L st n h (by omega) hLn
    show Calls _ _ _ _ (Zz w q c r K L (Yg L Zhd (Yq 5 L n (AH.zero 0 0 0) k st).2) ((Yq 5 L n (AH.zero 0 0 0) k st).1.dsr 0 .nil 0 .nil));generalize Yq 5 L n (AH.zero 0 0 0) k st=xp at *;have q10:((k:Int) == 10)=false:=by rw[beq_eq_false_iff_ne];omega
    have q11:((k:Int) == 11)=false:=by rw[beq_eq_false_iff_ne];omega
    clear h hn hLn hk1 hk2 k10 k11;go_enter Tryz.func242,Tryz.ntmps242;go_wp2_with(first
 |(go_at_call 270;refine(hpl _ M0.out.at_).mono ?_;rintro e w1 ⟨av,rfl,d1,m1⟩
   have R1:=Hh (m1.keeps.whole R0.out (by omega));have T1:=Hh (m1.keeps.whole T0.out (by omega));have M1:=Hh (M0.out.then m1);have hz1:w.heap.size+2≤w1.heap.size:=by have:=m1.keeps.size;(try simp at this);omega
   have hcell:=M1.out.at_.cell;have A1:=Hh (d1.lower (show w.heap.size+2≤_ by first | omega | (simp;done) | (simp;omega)));have AL:=Hh d1.len;clear m1 d1)
 |((with_reducible refine at_st 5 9 ?_);refine wpList_storeW 57 _ _ 57 (w.heap.size+1) _ (av) T1.out (A1.out.len.trans (AH.dsr_len _ _ _ _ _)) (Zx (A1.out.len.trans (AH.dsr_len _ _ _ _ _))) A1.out.one rfl rfl rfl rfl rfl ?_
   intro w2 p2;have T2:=Hh p2.whole;have R2:=Hh (p2.keeps.whole R1.out (by omega));have A2:=Hh (A1.out.put p2 (by omega));have M2:=Hh (M1.out.put p2 (by omega) qin cin rin);have hz2:=Nat.le_trans hz1 p2.keeps.size;have hcell:=M2.out.at_.cell;clear p2)
 |(go_at_call 178;refine(Zcv _ q c r K L _ Zhd M2.out.at_).mono ?_;rintro e w3 ⟨rfl,m3⟩
   have R3:=Hh (m3.keeps.whole R2.out (by omega));have T3:=Hh (m3.keeps.whole T2.out (by omega));have A3:=Hh (A2.out.move m3 (by omega) (by omega));have M3:=Hh (M2.out.then m3);have hz3:=Nat.le_trans hz2 m3.keeps.size;have hcell:=M3.out.at_.cell;clear m3)
 |((with_reducible refine at_ld 36 ?_);refine wpList_loadW 57 _ 57 (w.heap.size+1) _ T3.out row_act (Zx (A3.out.len.trans (AH.dsr_len _ _ _ _ _))) rfl rfl rfl ?_)
 |((with_reducible refine at_st 4 36 ?_);refine wpList_storeW 57 _ _ 57 (w.heap.size) _ (av) R3.out (A3.out.len.trans (AH.dsr_len _ _ _ _ _)) (Zx (A3.out.len.trans (AH.dsr_len _ _ _ _ _))) A3.out.one rfl rfl rfl rfl rfl ?_
   intro w4 p4;have R4:=Hh p4.whole;have T4:=Hh (p4.keeps.whole T3.out (by omega));have A4:=Hh (A3.out.put p4 (by omega));have M4:=Hh (M3.out.put p4 (by omega) qin cin rin);have hz4:=Nat.le_trans hz3 p4.keeps.size;have hcell:=M4.out.at_.cell
   clear p4))
    exact Zj 4 57 57 w.heap.size _ rfl R4.out row_act (Zx (A4.out.len.trans (AH.dsr_len _ _ _ _ _))) rfl rfl ⟨_,rfl,Deep.lower A4.out (by omega),M4.out⟩
end Go.Proofs.YtljdgdphldckhaaGreat
