/- Parts of the proof. No conditions but those that each names. -/
import Derived.StillTailTactics
import Derived.Deep.RegionHeld3
import Derived.Test.YtbdecchpleiepaaGreatQL20
set_option maxRecDepth 20000
set_option maxHeartbeats 99000000
set_option linter.unusedVariables false
set_option linter.unusedSimpArgs false
namespace Go.Proofs.YtbdecchpleiepaaGreat
open Go.Value renaming int→I,slice→Λ,pointer→Ω,string→Ψ,oneCell'→Γ
open Go.IntKind renaming i64→J
open _root_.Go.Proofs.Tryz renaming prog→Φ
open And renaming intro→ζ
open Go.Ending renaming returned→η
open Go Go.RowKit
theorem six:∀ vs:List Value,vs.length=6→∃ a b c d e f,vs=[a,b,c,d,e,f]
 |[a,b,c,d,e,f],_=>⟨a,b,c,d,e,f,rfl⟩
theorem lPart_else(whn st ln cl:Int)(pl ea:Bool)(A:Option Addr)(rn rk:Nat)(aln acl sd tk tl how cop:Int)(nm:ByteArray)(a0 a1 a2 a3 a4 a5 n0 n1 n2 n3 n4 n5 n6 n7 n8 n9 n10 n11 p0 p1 p2 p3 p4 p5 p6 p7 p8 p9 p10 p11 q0 q1 q2 q3 q4 q5 q6 q7 q8 q9 q10 q11 u v:Value)(k:Int)(w:World)(h1:(k == 1)=false)(h2:(k == 2)=false)(h12:(k == 12)=false)(h3:(k == 3)=false)(h5:(k == 5)=false)(h14:(k == 14)=false)(h11:(k == 11)=false)(h4:(k == 4)=false)(h6:(k == 6)=false)(h7:(k == 7)=false)(h9:(k == 9)=false)(h8:(k == 8)=false)(h13:(k == 13)=false)(h15:(k == 15)=false)(h10:(k == 10)=false) :
  Calls Φ 101 #[.agg ([I J whn,I J st,I J ln,I J cl,Λ A rn rk,.bool pl,.bool ea]:List Value).toArray,.agg ([I J k,I J aln,I J acl,a0,a1,a2,a3,a4,a5,n0,n1,n2,n3,n4,n5,n6,n7,n8,n9,n10,n11,I J sd,I J tk,I J tl,I J how,Ψ nm,I J cop,p0,p1,p2,p3,p4,p5,p6,p7,p8,p9,p10,p11,q0,q1,q2,q3,q4,q5,q6,q7,q8,q9,q10,q11,u,v]:List Value).toArray] w fun e w'=>e=η (I J 0)∧Below w.heap.size w w':=by
 have T:=Hh (Env.start w);go_enter Tryz.func101,Tryz.ntmps101;go_wp2_with(first
 |((with_reducible refine Zd 2 ?_);refine Zf T.out 107 _ ([I J whn,I J st,I J ln,I J cl,Λ A rn rk,.bool pl,.bool ea]) rfl rfl rfl ?_;intro wa g0 tn;have T:=Hh tn;clear tn;obtain⟨fc0,fc1,fc2,fc3,fc4,fc5,fc6⟩:=Yo (T.out.get 0 rfl))
 |((with_reducible refine Zd 3 ?_);refine Zf T.out 85 _ ([I J k,I J aln,I J acl,a0,a1,a2,a3,a4,a5,n0,n1,n2,n3,n4,n5,n6,n7,n8,n9,n10,n11,I J sd,I J tk,I J tl,I J how,Ψ nm,I J cop,p0,p1,p2,p3,p4,p5,p6,p7,p8,p9,p10,p11,q0,q1,q2,q3,q4,q5,q6,q7,q8,q9,q10,q11,u,v]) rfl rfl rfl ?_;intro wb g1 tn;have T:=Hh tn;clear tn;obtain⟨fc0,fc1,fc2,fc3,fc4,fc5,fc6⟩:=Yo (T.out.get 0 rfl);have fd0:=T.out.cell 1 0 rfl rfl))
 go_ret;exact⟨rfl,T.out.below⟩
section
variable (c:Sc) (st ln cl:Int) (A:Option Addr) (rn rk:Nat)
theorem lParts_any(h:AH)(tn en:Nat)(t e:Ds)(w:World)(N:Nat→Prop)(ys:List Value)(hd:Zs N w (h.dsr tn t en e) ys) :
  Calls Φ 101 #[.agg (scL c st ln cl A rn rk).toArray,.agg ys.toArray] w fun e w'=>e=η (I J (Zax c h))∧Below w.heap.size w w':=by
 obtain⟨sel,num,pl,pr,thn,els,rfl,h1,h2,h3,h4,_,_⟩:=Znd hd;clear hd;have hsel:=fun x (hb:Below w.heap.size w x)=>lSel_any c st ln cl A rn rk h.sel x N sel (h1.below hb)
 have hnum:=fun x (hb:Below w.heap.size w x)=>Zgp c st ln cl A rn rk h.num x N num (h2.below hb)
 have hcl:=fun x (hb:Below w.heap.size w x)=>Zgp c st ln cl A rn rk h.cl x N pl (h3.below hb)
 have hcr:=fun x (hb:Below w.heap.size w x)=>Zgp c st ln cl A rn rk h.cr x N pr (h4.below hb)
 have hside:=fun x=>Zmy c st ln cl A rn rk h.side x
 have hto:=fun x=>lTo_any h.tk h.tl x
 have e1:sel.length=6:=by rw[h1.len,Se.ds_len]
 have e2:num.length=12:=by rw[h2.len,Ex.ds_len]
 have e3:pl.length=12:=by rw[h3.len,Ex.ds_len]
 have e4:pr.length=12:=by rw[h4.len,Ex.ds_len]
 clear h1 h2 h3 h4;obtain⟨a0,a1,a2,a3,a4,a5,rfl⟩:=six sel e1;obtain⟨n0,n1,n2,n3,n4,n5,n6,n7,n8,n9,n10,n11,rfl⟩:=Zda num e2;obtain⟨p0,p1,p2,p3,p4,p5,p6,p7,p8,p9,p10,p11,rfl⟩:=Zda pl e3;obtain⟨q0,q1,q2,q3,q4,q5,q6,q7,q8,q9,q10,q11,rfl⟩:=Zda pr e4;clear e1 e2 e3 e4;obtain⟨kind,aln,acl,hs,hn,sd,tk,tl,how,nm,cop,xl,xr⟩:=h;dsimp only at *;unfold scL at *;obtain⟨pla,whn,ea⟩:=c;dsimp only at *;simp only[Ym,List.cons_append,List.nil_append];by_cases k1:kind=1
 ·subst k1
  exact(lPart_1 _ _ _ _ _ _ _ _ _ _ _ _ _ _ _ _ _ _ _ _ _ _ _ _ _ _ _ _ _ _ _ _ _ _ _ _ _ _ _ _ _ _ _ _ _ _ _ _ _ _ _ _ _ _ _ _ _ _ _ _ _ w _ _ hsel hnum).mono fun e w' ⟨he,hb⟩=>⟨by rw[he,orE2];rfl,hb⟩
 by_cases k2:kind=2
 ·subst k2
  exact(lPart_2 _ _ _ _ _ _ _ _ _ _ _ _ _ _ _ _ _ _ _ _ _ _ _ _ _ _ _ _ _ _ _ _ _ _ _ _ _ _ _ _ _ _ _ _ _ _ _ _ _ _ _ _ _ _ _ _ _ _ _ _ _ w _ _ hsel hnum).mono fun e w' ⟨he,hb⟩=>⟨by rw[he,orE2];rfl,hb⟩
 by_cases k12:kind=12
 ·subst k12
  exact(lPart_12 _ _ _ _ _ _ _ _ _ _ _ _ _ _ _ _ _ _ _ _ _ _ _ _ _ _ _ _ _ _ _ _ _ _ _ _ _ _ _ _ _ _ _ _ _ _ _ _ _ _ _ _ _ _ _ _ _ _ _ _ _ w _ _ hsel hnum).mono fun e w' ⟨he,hb⟩=>⟨by rw[he,orE2];rfl,hb⟩
 by_cases k3:kind=3
 ·subst k3
  exact(lPart_3 _ _ _ _ _ _ _ _ _ _ _ _ _ _ _ _ _ _ _ _ _ _ _ _ _ _ _ _ _ _ _ _ _ _ _ _ _ _ _ _ _ _ _ _ _ _ _ _ _ _ _ _ _ _ _ _ _ _ _ _ _ w _ hsel).mono fun e w' ⟨he,hb⟩=>⟨by rw[he];rfl,hb⟩
 by_cases k5:kind=5
 ·subst k5
  exact(lPart_5 _ _ _ _ _ _ _ _ _ _ _ _ _ _ _ _ _ _ _ _ _ _ _ _ _ _ _ _ _ _ _ _ _ _ _ _ _ _ _ _ _ _ _ _ _ _ _ _ _ _ _ _ _ _ _ _ _ _ _ _ _ w _ hsel).mono fun e w' ⟨he,hb⟩=>⟨by rw[he];rfl,hb⟩
 by_cases k14:kind=14
 ·subst k14
  exact(lPart_14 _ _ _ _ _ _ _ _ _ _ _ _ _ _ _ _ _ _ _ _ _ _ _ _ _ _ _ _ _ _ _ _ _ _ _ _ _ _ _ _ _ _ _ _ _ _ _ _ _ _ _ _ _ _ _ _ _ _ _ _ _ w _ hsel).mono fun e w' ⟨he,hb⟩=>⟨by rw[he];rfl,hb⟩
 by_cases k11:kind=11
 ·subst k11
  exact(lPart_11 _ _ _ _ _ _ _ _ _ _ _ _ _ _ _ _ _ _ _ _ _ _ _ _ _ _ _ _ _ _ _ _ _ _ _ _ _ _ _ _ _ _ _ _ _ _ _ _ _ _ _ _ _ _ _ _ _ _ _ _ _ w _ hsel).mono fun e w' ⟨he,hb⟩=>⟨by rw[he];rfl,hb⟩
 by_cases k4:kind=4
 ·subst k4
  exact(lPart_4 _ _ _ _ _ _ _ _ _ _ _ _ _ _ _ _ _ _ _ _ _ _ _ _ _ _ _ _ _ _ _ _ _ _ _ _ _ _ _ _ _ _ _ _ _ _ _ _ _ _ _ _ _ _ _ _ _ _ _ _ _ w _ _ hsel hto).mono fun e w' ⟨he,hb⟩=>⟨by rw[he,orE2];rfl,hb⟩
 by_cases k6:kind=6
 ·subst k6
  exact(lPart_6 _ _ _ _ _ _ _ _ _ _ _ _ _ _ _ _ _ _ _ _ _ _ _ _ _ _ _ _ _ _ _ _ _ _ _ _ _ _ _ _ _ _ _ _ _ _ _ _ _ _ _ _ _ _ _ _ _ _ _ _ _ w _ _ _ hside hto hnum).mono fun e w' ⟨he,hb⟩=>⟨by rw[he,orE3];rfl,hb⟩
 by_cases k7:kind=7
 ·subst k7
  exact(lPart_7 _ _ _ _ _ _ _ _ _ _ _ _ _ _ _ _ _ _ _ _ _ _ _ _ _ _ _ _ _ _ _ _ _ _ _ _ _ _ _ _ _ _ _ _ _ _ _ _ _ _ _ _ _ _ _ _ _ _ _ _ _ w _ _ hside hnum).mono fun e w' ⟨he,hb⟩=>⟨by rw[he,orE2];rfl,hb⟩
 by_cases k9:kind=9
 ·subst k9
  exact(lPart_9 _ _ _ _ _ _ _ _ _ _ _ _ _ _ _ _ _ _ _ _ _ _ _ _ _ _ _ _ _ _ _ _ _ _ _ _ _ _ _ _ _ _ _ _ _ _ _ _ _ _ _ _ _ _ _ _ _ _ _ _ _ w _ _ hside hnum).mono fun e w' ⟨he,hb⟩=>⟨by rw[he,orE2];rfl,hb⟩
 by_cases k8:kind=8
 ·subst k8
  exact(lPart_8 _ _ _ _ _ _ _ _ _ _ _ _ _ _ _ _ _ _ _ _ _ _ _ _ _ _ _ _ _ _ _ _ _ _ _ _ _ _ _ _ _ _ _ _ _ _ _ _ _ _ _ _ _ _ _ _ _ _ _ _ _ w _ hside).mono fun e w' ⟨he,hb⟩=>⟨by rw[he];rfl,hb⟩
 by_cases k13:kind=13
 ·subst k13
  exact(lPart_13 _ _ _ _ _ _ _ _ _ _ _ _ _ _ _ _ _ _ _ _ _ _ _ _ _ _ _ _ _ _ _ _ _ _ _ _ _ _ _ _ _ _ _ _ _ _ _ _ _ _ _ _ _ _ _ _ _ _ _ _ _ w _ _ hside hto).mono fun e w' ⟨he,hb⟩=>⟨by rw[he,orE2];rfl,hb⟩
 by_cases k15:kind=15
 ·subst k15
  exact(lPart_15 _ _ _ _ _ _ _ _ _ _ _ _ _ _ _ _ _ _ _ _ _ _ _ _ _ _ _ _ _ _ _ _ _ _ _ _ _ _ _ _ _ _ _ _ _ _ _ _ _ _ _ _ _ _ _ _ _ _ _ _ _ w _ _ hside hto).mono fun e w' ⟨he,hb⟩=>⟨by rw[he,orE2];rfl,hb⟩
 by_cases k10:kind=10
 ·subst k10
  exact(lPart_10 _ _ _ _ _ _ _ _ _ _ _ _ _ _ _ _ _ _ _ _ _ _ _ _ _ _ _ _ _ _ _ _ _ _ _ _ _ _ _ _ _ _ _ _ _ _ _ _ _ _ _ _ _ _ _ _ _ _ _ _ _ w _ _ hcl hcr).mono fun e w' ⟨he,hb⟩=>⟨by rw[he,orE2];rfl,hb⟩
 have hv:Zax ⟨pla,whn,ea⟩ ⟨kind,aln,acl,hs,hn,sd,tk,tl,how,nm,cop,xl,xr⟩=0:=by
  unfold Zax;dsimp only;rw[if_neg (by omega),if_neg (by omega),if_neg (by omega),if_neg (by omega),if_neg (by omega),if_neg (by omega),if_neg (by omega),if_neg (by omega)]
 rw[hv];exact lPart_else _ _ _ _ _ _ _ _ _ _ _ _ _ _ _ _ _ _ _ _ _ _ _ _ _ _ _ _ _ _ _ _ _ _ _ _ _ _ _ _ _ _ _ _ _ _ _ _ _ _ _ _ _ _ _ _ _ _ _ _ _ kind w (by rw[beq_eq_false_iff_ne];exact k1) (by rw[beq_eq_false_iff_ne];exact k2) (by rw[beq_eq_false_iff_ne];exact k12) (by rw[beq_eq_false_iff_ne];exact k3) (by rw[beq_eq_false_iff_ne];exact k5) (by rw[beq_eq_false_iff_ne];exact k14) (by rw[beq_eq_false_iff_ne];exact k11) (by rw[beq_eq_false_iff_ne];exact k4) (by rw[beq_eq_false_iff_ne];exact k6) (by rw[beq_eq_false_iff_ne];exact k7) (by rw[beq_eq_false_iff_ne];exact k9) (by rw[beq_eq_false_iff_ne];exact k8) (by rw[beq_eq_false_iff_ne];exact k13) (by rw[beq_eq_false_iff_ne];exact k15) (by rw[beq_eq_false_iff_ne];exact k10)
end
open Go.ChangeShapes Go.WideShapes Go.ChangeAt Go.RowKit
theorem Xu{w:World}{g:Nat}{t:TypeId}{a b c d e f:Value}(h:Zi w g t #[a,b,c,d,e,f]):w.cell? ⟨g,0,none⟩=some a∧w.cell? ⟨g,1,none⟩=some b∧w.cell? ⟨g,2,none⟩=some c∧w.cell? ⟨g,3,none⟩=some d∧w.cell? ⟨g,4,none⟩=some e∧w.cell? ⟨g,5,none⟩=some f:=
 ⟨by rw[h.read];rfl,by rw[h.read];rfl,by rw[h.read];rfl,by rw[h.read];rfl,by rw[h.read];rfl,by rw[h.read];rfl⟩
theorem Uk{o:Oper}{xs:Nat→Option Bool}(h:o.guard=none):Region.wanted o xs=true:=by unfold Region.wanted;rw[h]
section
variable {P:Program} {ops:Array Oper} {S:World→Prop} {o:Oper} {a:Act}
theorem Zds{x:Operand}{v:Value}(g:o.guard=none)(ho:o.op=.move x)(e:a.eval x=v):YieldsIf P ops S o v a:=
 .inl ⟨(by unfold Region.wanted;rw[g]),fun w _=>by unfold execOp;rw[ho];simp[e,Sem.run_pure]⟩
theorem yield_index{t e:TypeId}{x y:Operand}{b n c k sz:Nat}(g:o.guard=none)(ho:o.op=.indexAddr t x y)(hx:a.eval x=Λ (some ⟨b,0,none⟩) n c)(hy:a.eval y=I J (k:Int))(hk:k<n)
  (hu:P.underlying t=some (.slice e))(hs:(P.info? e).map (·.size)=some sz):YieldsIf P ops S o (Ω (some ⟨b,k*sz,none⟩)) a:=
 .inl ⟨(by unfold Region.wanted;rw[g]),fun w _=>by
  obtain⟨i,hi,hz⟩:=Option.map_eq_some_iff.1 hs;unfold execOp;rw[ho];have h0:(0:Int)≤(k:Int):=by omega
  have h1:(k:Int)<(n:Int):=by omega
  have h2:((k:Int)).toNat=k:=by omega
  simp[hx,hy,Instr.indexAt,asIntOf,run_underlying hu,sizeOf,typeInfo,hi,hz,h1,Addr.add_lit,Sem.run_bind,Sem.run_pure];intro hle;omega⟩
theorem Ui{T:TypeId}{x:Operand}{b k:Nat}{ys:List Value}(g:o.guard=none)(ho:o.op=.load T x)(hx:a.eval x=Ω (some ⟨b,k,none⟩))(hS:∀ w,S w→w.rangeAt b k ys)
  (hu:(P.underlying T).map TypeDesc.isRow=some true)(hi:(P.info? T).map (·.size)=some ys.length):YieldsIf P ops S o (.agg ys.toArray) a:=by
 obtain⟨d,hu,hr⟩:=Option.map_eq_some_iff.1 hu;exact yieldsIf_load_mid ((by unfold Region.wanted;rw[g])) T x ho b k hx ys d hS hu hr hi
end
theorem Wu:(Tryz.prog.info? 29).map (fun i=>i.zero.map Value.cells)=some (some ([I J 0,I J 0,I J 0]:List Value).toArray):=by kernel_rfl
theorem Zex:(Tryz.prog.underlying 107).map TypeDesc.isRow=some true:=by kernel_rfl
theorem Zcf:(Tryz.prog.info? 107).map (·.size)=some 7:=by kernel_rfl
theorem Vn:(Tryz.prog.underlying 85).map TypeDesc.isRow=some true:=by kernel_rfl
theorem Xe:(Tryz.prog.info? 85).map (·.size)=some 53:=by kernel_rfl
theorem Zi.nth{w:World}{g:Nat}{t:TypeId}{l:List Value}(h:Zi w g t l.toArray)(i:Nat){v:Value}(hv:l[i]?=some v):w.cell? ⟨g,i,none⟩=some v:=by
 rw[h.read,List.getElem?_toArray];exact hv
theorem Zi.range0{w:World}{g:Nat}{t:TypeId}{l:List Value}(h:Zi w g t l.toArray):w.rangeAt g 0 l:=by
 have:=Zi.range (a:=[]) (b:=l) (c:=[]) (by simpa using h);exact this
theorem Yv{P:Program}{md:Region.Mode}{ops:Array Oper}{Q:Exit→Act→World→Prop}{S:World→Prop}{i k:Nat}{oi:Oper}{v:Value}{fuel:Nat}{listed:Array Bool}{l:List Value}{d:List Deferred}{w:World}(hi:ops[i]?=some oi)(hd:oi.dst=some k)
  (hs:Region.noSelect ops=true)(hf:Region.free md ops listed i=true)(hr:(Region.ready md ops listed).contains i=true)
  (hQ:∀ c a w,Q (.panic c) (a.put oi.dst v) w→Q (.panic c) a w)(hy:YieldsIf P ops S oi v ⟨l.toArray,d⟩)(hS:S w)
  (h:wpAnyH P md ops Q S fuel (listed.setIfInBounds i true) ⟨(l.set k v).toArray,d⟩ w):wpAnyH P md ops Q S (fuel+1) listed ⟨l.toArray,d⟩ w:=by
 refine wpAnyH_take hi hs hf hr hQ hy hS ?_;rw[hd];simpa[Act.put]using h
theorem Zhq(F:Fa):∀ v ∈ faL F,v.oneCell'=true:=by simp[faL,Γ]
theorem lsize_bool:(Tryz.prog.info? 4).map (·.size)=some 1:=by kernel_rfl
theorem Zir{w:World}{g:Nat}{t:TypeId}{a b c:Value}(h:Zi w g t #[a,b,c])(x0 x1 x2:Value):Put w (((w.setCell ⟨g,0,none⟩ x0).setCell ⟨g,1,none⟩ x1).setCell ⟨g,2,none⟩ x2) g t [x0,x1,x2]:=
 ⟨Zi.set3 h x0 x1 x2,(((Zy.refl (fun k=>k=g) w).setCell (p:=⟨g,0,none⟩) rfl x0).setCell (p:=⟨g,1,none⟩) rfl x1).setCell (p:=⟨g,2,none⟩) rfl x2⟩
theorem flatB{w x:World}{g0 g1 g2:Nat}{whn st ln cl:Int}{pl ea:Bool}{A U V:Option Addr}{rn rk tn uc en vc:Nat}{ys:List Value}(h51:ys[51]?=some (Λ U tn uc))(h52:ys[52]?=some (Λ V en vc))(h:∃ a b c,Env w [(g0,107,[I J whn,I J st,I J ln,I J cl,Λ A rn rk,.bool pl,.bool ea]),(g1,85,ys),(g2,29,[a,b,c])] [] [] x):(∃ a b c,Env w [(g0,107,[I J whn,I J st,I J ln,I J cl,Λ A rn rk,.bool pl,.bool ea]),(g1,85,ys),(g2,29,[a,b,c])] [] [] x)∧x.cell? ⟨g0,0,none⟩=some (I J whn)∧x.cell? ⟨g0,1,none⟩=some (I J st)∧x.cell? ⟨g0,2,none⟩=some (I J ln)∧x.cell? ⟨g0,3,none⟩=some (I J cl)∧x.cell? ⟨g0,4,none⟩=some (Λ A rn rk)∧x.cell? ⟨g0,5,none⟩=some (.bool pl)∧x.cell? ⟨g0,6,none⟩=some (.bool ea)∧x.cell? ⟨g1,51,none⟩=some (Λ U tn uc)∧x.cell? ⟨g1,52,none⟩=some (Λ V en vc):=by
 obtain⟨a,b,c,h1⟩:=id h;have W0:=h1.get 0 rfl;have W1:=h1.get 1 rfl;exact⟨h,W0.read 0,W0.read 1,W0.read 2,W0.read 3,W0.read 4,W0.read 5,W0.read 6,W1.nth 51 h51,W1.nth 52 h52⟩
theorem ES_call{w x y:World}{g0 g1 g2:Nat}{l m:List Value}{s t u:TypeId}(h:∃ a b c,Env w [(g0,s,l),(g1,t,m),(g2,u,[a,b,c])] [] [] x)(b:Below x.heap.size x y):∃ a b c,Env w [(g0,s,l),(g1,t,m),(g2,u,[a,b,c])] [] [] y:=by
 obtain⟨a,d,c,h1⟩:=h;exact⟨a,d,c,h1.call b⟩
theorem ES_below{w x:World}{g0 g1 g2:Nat}{l m:List Value}{s t u:TypeId}(h:∃ a b c,Env w [(g0,s,l),(g1,t,m),(g2,u,[a,b,c])] [] [] x):Below w.heap.size w x:=by
 obtain⟨a,d,c,h1⟩:=h;exact h1.below
theorem lAct_raw(whn st ln cl:Int)(pl ea:Bool)(A:Option Addr)(rn rk:Nat)(aln acl:Int)(U V:Option Addr)(tn uc en vc:Nat)(ys:List Value)(k:Int)(i:Int)(w:World)(s1 s2:Int)(hyl:ys.length=53)(h0:ys[0]?=some (I J k))(h1:ys[1]?=some (I J aln))(h2:ys[2]?=some (I J acl))(h51:ys[51]?=some (Λ U tn uc))(h52:ys[52]?=some (Λ V en vc))
  (hst:∀ x,Calls Φ 100 #[.agg ([I J whn,I J st,I J ln,I J cl,Λ A rn rk,.bool pl,.bool ea]:List Value).toArray,I J i,I J k] x fun e w'=>e=η (I J s1)∧Below x.heap.size x w')
  (hpa:∀ x,Below w.heap.size w x→Calls Φ 101 #[.agg ([I J whn,I J st,I J ln,I J cl,Λ A rn rk,.bool pl,.bool ea]:List Value).toArray,.agg ys.toArray] x fun e w'=>e=η (I J s2)∧Below x.heap.size x w')
  (F G H:Fa)(hth:k=10→∀ x,Below w.heap.size w x→Calls Φ 50 #[.agg ([I J whn,I J st,I J ln,I J cl,Λ A rn rk,.bool pl,.bool ea]:List Value).toArray,Λ U tn uc] x fun e w'=>e=η (faV F)∧Below x.heap.size x w')
  (hel:k=10→∀ x,Below w.heap.size w x→Calls Φ 50 #[.agg ([I J whn,I J st,I J ln,I J cl,Λ A rn rk,.bool pl,.bool ea]:List Value).toArray,Λ V en vc] x fun e w'=>e=η (faV G)∧Below x.heap.size x w')
  (hea:k=11→∀ x,Below w.heap.size w x→Calls Φ 50 #[.agg ([I J whn,I J st,I J ln,I J cl,Λ A rn rk,.bool pl,.bool true]:List Value).toArray,Λ U tn uc] x fun e w'=>e=η (faV H)∧Below x.heap.size x w') :
  Calls Φ 69 #[.agg ([I J whn,I J st,I J ln,I J cl,Λ A rn rk,.bool pl,.bool ea]:List Value).toArray,I J i,.agg ys.toArray] w fun e w'=>e=η (faV (if Wm [s1,s2]≠0 then(Wm [s1,s2],aln,acl)else if k=10 then Jl [F,G]else if k=11 then H else(0,0,0)))∧Below w.heap.size w w':=by
 have hor:=fun x g (hW:Zi x g 27 #[I J s1,I J s2])=>Zod [s1,s2] 2 2 g x rfl (by omega) hW
 have SY:(Tryz.prog.info? 85).map (·.size)=some ys.length:=by rw[hyl];exact Xe
 have T:=Hh (Env.start w);generalize Wm [s1,s2]=z at *;obtain⟨R,hR⟩:∃ R,R=(if z≠0 then(z,aln,acl)else if k=10 then Jl [F,G]else if k=11 then H else(0,0,0)):=⟨_,rfl⟩
 rw[←hR];have HR:=Hh hR;clear hR;have HY:=Hh (ζ h0 (ζ h1 (ζ h2 (ζ h51 h52))));clear h0 h1 h2 h51 h52;go_enter Tryz.func69,Tryz.ntmps69;go_upto_region 1 with(first
 |((with_reducible refine Zd 3 ?_);refine Zf T.out 107 _ ([I J whn,I J st,I J ln,I J cl,Λ A rn rk,.bool pl,.bool ea]) rfl rfl rfl ?_;intro wa g0 tn;have T:=Hh tn;clear tn)
 |((with_reducible refine Zd 5 ?_);refine Zf T.out 85 _ (ys) rfl rfl rfl ?_;intro wb g1 tn;have T:=Hh tn;clear tn)
 |((with_reducible refine Zd 6 ?_);refine Zb T.out 29 _ rfl rfl Wu ?_;intro wc g2 tn;have T:=Hh tn;clear tn))
 refine wp_region_held_drew (S:=fun x=>Env w [(g0,107,[I J whn,I J st,I J ln,I J cl,Λ A rn rk,.bool pl,.bool ea]),(g1,85,ys),(g2,29,[I J 0,I J 0,I J 0])] [] [] x) (by kernel_rfl) T.out.drew (fun hS=>?_);refine Yv (i:=0) (v:=.agg ([I J whn,I J st,I J ln,I J cl,Λ A rn rk,.bool pl,.bool ea]:List Value).toArray) rfl rfl (by kernel_rfl) (by kernel_rfl) (by kernel_rfl) (fun _ _ _ h=>h) (Ui rfl rfl rfl (fun y hy=>(Env.get hy 0 rfl).range0) Zex Zcf) hS ?_;try simp only[Qy,Qx]
 refine Yv (i:=1) (v:=I J i) rfl rfl (by kernel_rfl) (by kernel_rfl) (by kernel_rfl) (fun _ _ _ h=>h) (Zds rfl rfl rfl) hS ?_;try simp only[Qy,Qx]
 refine Yv (i:=2) (v:=Ω (some ⟨g1,0,none⟩)) rfl rfl (by kernel_rfl) (by kernel_rfl) (by kernel_rfl) (fun _ _ _ h=>h) (Or.inl ⟨by rfl,fun y hy=>by go_simp⟩) hS ?_;try simp only[Qy,Qx]
 refine Yv (i:=3) (v:=I J k) rfl rfl (by kernel_rfl) (by kernel_rfl) (by kernel_rfl) (fun _ _ _ h=>h) (Or.inl ⟨by rfl,fun y hy=>by have c0:=(Env.get hy 1 rfl).nth 0 HY.out.1;go_simp⟩) hS ?_;try simp only[Qy,Qx]
 refine Yv (i:=5) (v:=.agg ([I J whn,I J st,I J ln,I J cl,Λ A rn rk,.bool pl,.bool ea]:List Value).toArray) rfl rfl (by kernel_rfl) (by kernel_rfl) (by kernel_rfl) (fun _ _ _ h=>h) (Ui rfl rfl rfl (fun y hy=>(Env.get hy 0 rfl).range0) Zex Zcf) hS ?_;try simp only[Qy,Qx]
 refine Yv (i:=6) (v:=.agg ys.toArray) rfl rfl (by kernel_rfl) (by kernel_rfl) (by kernel_rfl) (fun _ _ _ h=>h) (Ui rfl rfl rfl (fun y hy=>(Env.get hy 1 rfl).range0) Vn SY) hS ?_;try simp only[Qy,Qx]
 refine wpAnyH_ready (rs:=[4]) (by kernel_rfl) (by simp) (AllReadyH.cons rfl (fun K hK=>?_) AllReadyH.nil);go_simp;go_at_call 100
 refine(hst _).mono ?_;rintro e wf ⟨rfl,bn⟩;try go_wp2
 refine hK.out _ _ (hS.call bn) (fun hS=>?_);clear hK K bn;try simp only[Act.put,Qz,Qy,Qx]
 refine wpAnyH_ready (rs:=[7]) (by kernel_rfl) (by simp) (AllReadyH.cons rfl (fun K hK=>?_) AllReadyH.nil);go_simp;go_at_call 101
 refine(hpa _ hS.below).mono ?_;rintro e wf ⟨rfl,bn⟩;try go_wp2
 refine hK.out _ _ (hS.call bn) (fun hS=>?_);clear hK K bn;try simp only[Act.put,Qz,Qy,Qx]
 refine wpAnyH_ready (rs:=[8]) (by kernel_rfl) (by simp) (AllReadyH.cons rfl (fun K hK=>?_) AllReadyH.nil);go_simp;refine hK.out _ _ (hS.call (Zh _ _)) (fun hS2=>?_);clear hK K;try simp only[Act.put,Qz,Qy,Qx]
 refine wpAnyH_ready (rs:=[9]) (by kernel_rfl) (by simp) (AllReadyH.cons rfl (fun K hK=>?_) AllReadyH.nil);go_simp;go_at_call 99
 refine(hor _ _ (Zi.made _ _ _)).mono ?_;rintro e we ⟨rfl,bn⟩;try go_wp2
 refine hK.out _ _ (hS2.call bn) (fun hS=>?_);clear hK K bn hS2;try simp only[Act.put,Qz,Qy,Qx]
 refine wpAnyH_ready (rs:=[10]) (by kernel_rfl) (by simp) (AllReadyH.cons rfl (fun K hK=>?_) AllReadyH.nil);go_simp;refine hK.out _ _ hS (fun hS=>?_);clear hK K;try simp only[Act.put,Qz,Qy,Qx]
 refine wpAnyH_done (by kernel_rfl) ?_ _;have T:=Hh hS;clear hS;by_cases hz:z≠0
 ·have hR:=HR.out
  rw[if_pos hz]at hR;subst hR;have bz:(z == 0)=false:=by simpa using hz
  have hat:atF z aln acl=(z,aln,acl):=if_neg hz;have hfa:=fun x=>lFaultAt z aln acl x
  rw[hat]at hfa;clear hz hat hth hel hea;clear hst hpa hor HR;have fd1:we.cell? ⟨g1,1,none⟩=some (I J aln):=(T.out.get 1 rfl).nth 1 HY.out.2.1;have fd2:we.cell? ⟨g1,2,none⟩=some (I J acl):=(T.out.get 1 rfl).nth 2 HY.out.2.2.1;go_wp2_with(first
 |(go_at_call 66;refine(hfa _).mono ?_;rintro e wf ⟨rfl,bn⟩;have T:=Hh (T.out.call bn);clear bn)
 |((with_reducible refine Zg 6 25 ?_);refine Za 29 _ _ 29 g2 _ (faL (z,aln,acl)) (T.out.get 2 rfl) rfl Zj (Zhq _) rfl rfl rfl rfl rfl ?_;intro wd p;have T:=Hh (T.out.put 2 rfl p);clear p))
  exact Ya 6 29 29 g2 _ rfl (T.out.get 2 rfl) Yf Zj rfl rfl ⟨rfl,T.out.below⟩
 ·have hR:=HR.out
  rw[if_neg hz]at hR;obtain rfl:z=0:=by omega
  clear hz;by_cases h10:k=10
  · rw[if_pos h10]at hR
    subst h10;have hth1:=hth rfl;have hel1:=hel rfl;clear hea hth hel;clear hst hpa hor HR;have hof:=fun x g (hW:Zi x g 29 ([F,G].flatMap faL).toArray)=>lOrF [F,G] 2 2 g x rfl (by omega) hW
    generalize Jl [F,G]=FG at *;subst hR;have fd0:we.cell? ⟨g1,0,none⟩=some (I J 10):=(T.out.get 1 rfl).nth 0 HY.out.1;go_upto_region 7 with(fail)
    obtain⟨fc0,fc1,fc2,fc3,fc4,fc5,fc6⟩:=Yo (T.out.get 0 rfl);have fd51:we.cell? ⟨g1,51,none⟩=some (Λ U tn uc):=(T.out.get 1 rfl).nth 51 HY.out.2.2.2.1;have fd52:we.cell? ⟨g1,52,none⟩=some (Λ V en vc):=(T.out.get 1 rfl).nth 52 HY.out.2.2.2.2;obtain⟨e0,e1,e2,z0,z1,z2⟩:=Zo (T.out.get 2 rfl);go_region_held3 (fun x=>(∃ a b c,Env w [(g0,107,[I J whn,I J st,I J ln,I J cl,Λ A rn rk,.bool pl,.bool ea]),(g1,85,ys),(g2,29,[a,b,c])] [] [] x)∧x.cell? ⟨g0,0,none⟩=some (I J whn)∧x.cell? ⟨g0,1,none⟩=some (I J st)∧x.cell? ⟨g0,2,none⟩=some (I J ln)∧x.cell? ⟨g0,3,none⟩=some (I J cl)∧x.cell? ⟨g0,4,none⟩=some (Λ A rn rk)∧x.cell? ⟨g0,5,none⟩=some (.bool pl)∧x.cell? ⟨g0,6,none⟩=some (.bool ea)∧x.cell? ⟨g1,51,none⟩=some (Λ U tn uc)∧x.cell? ⟨g1,52,none⟩=some (Λ V en vc)) (first
 |assumption
 |exact flatB HY.out.2.2.2.1 HY.out.2.2.2.2 ⟨_,_,_,T.out⟩
 |exact flatB HY.out.2.2.2.1 HY.out.2.2.2.2 ⟨_,_,_,T.out.drew⟩
 |exact flatB HY.out.2.2.2.1 HY.out.2.2.2.2 (ES_call (by first | assumption | exact And.left (by assumption)) bn)
 |exact flatB HY.out.2.2.2.1 HY.out.2.2.2.2 (ES_call (by first | assumption | exact And.left (by assumption)) (Zh _ _))
 |exact flatB HY.out.2.2.2.1 HY.out.2.2.2.2 ⟨_,_,_,HE.out.put 2 rfl (Zir (HE.out.get 2 rfl) _ _ _)⟩) (first
 |(go_at_call 50;(with_reducible refine(hth1 _ (ES_below (by first | assumption | exact And.left (by assumption)))).mono ?_);rintro e wf ⟨rfl,bn⟩;simp only[faV])
 |(go_at_call 50;(with_reducible refine(hel1 _ (ES_below (by first | assumption | exact And.left (by assumption)))).mono ?_);rintro e wg ⟨rfl,bn⟩;simp only[faV])
 |(go_at_call 27;refine(hof _ _ (Zi.made _ _ _)).mono ?_;rintro e wh ⟨rfl,bn⟩;obtain⟨x0,x1,x2,hE⟩:=ES_call (by first | assumption | exact And.left (by assumption)) bn;have HE:=Hh hE;obtain⟨e0,e1,e2,z0,z1,z2⟩:=Zo (hE.get 2 rfl);clear hE;simp only[faV]))
    all_goals
     have TT:=HE.out.put 2 rfl (Zir (HE.out.get 2 rfl) (I J R.1) (I J R.2.1) (I J R.2.2));go_wp2
     exact Ya 6 29 29 g2 _ rfl (TT.get 2 rfl) Yf Zj rfl rfl ⟨rfl,TT.below⟩
  · rw[if_neg h10]at hR
    have b10:(k == 10)=false:=by simpa using h10
    by_cases h11:k=11
    ·rw[if_pos h11]at hR
     subst h11 hR;have hea1:=hea rfl;clear hth hel hea h10 b10;clear hst hpa hor;have fd0:we.cell? ⟨g1,0,none⟩=some (I J 11):=(T.out.get 1 rfl).nth 0 HY.out.1;go_wp2_with(first
 |((with_reducible refine Jb ?_);refine Zp 4 _ (.const (.bool true)) 107 g0 6 [I J whn,I J st,I J ln,I J cl,Λ A rn rk,.bool pl] (.bool ea) (.bool true) [] (T.out.get 0 rfl) rfl lsize_bool rfl rfl rfl rfl rfl rfl ?_;intro wd p;have T:=Hh (T.out.put 0 rfl p);clear p;obtain⟨fc0,fc1,fc2,fc3,fc4,fc5,fc6⟩:=Yo (T.out.get 0 rfl);have fd51:wd.cell? ⟨g1,51,none⟩=some (Λ U tn uc):=(T.out.get 1 rfl).nth 51 HY.out.2.2.2.1)
 |(go_at_call 50;refine(hea1 _ T.out.below).mono ?_;rintro e wf ⟨rfl,bn⟩;have T:=Hh (T.out.call bn);clear bn)
 |((with_reducible refine Zg 6 47 ?_);refine Za 29 _ _ 29 g2 _ (faL R) (T.out.get 2 rfl) rfl Zj (Zhq _) rfl rfl rfl rfl rfl ?_;intro wd p;have T:=Hh (T.out.put 2 rfl p);clear p))
     exact Ya 6 29 29 g2 _ rfl (T.out.get 2 rfl) Yf Zj rfl rfl ⟨rfl,T.out.below⟩
    ·rw[if_neg h11]at hR
     subst hR;have b11:(k == 11)=false:=by simpa using h11
     clear hth hel hea h10 h11;clear hst hpa hor;have fd0:we.cell? ⟨g1,0,none⟩=some (I J k):=(T.out.get 1 rfl).nth 0 HY.out.1;go_wp2_with(first
 |((with_reducible refine Zg 6 28 ?_);refine Za 29 _ _ 29 g2 _ ([I J 0,I J 0,I J 0]) (T.out.get 2 rfl) rfl Zj (by simp[Γ]) rfl rfl rfl rfl rfl ?_;intro wd p;have T:=Hh (T.out.put 2 rfl p);clear p))
     exact Ya 6 29 29 g2 _ rfl (T.out.get 2 rfl) Yf Zj rfl rfl ⟨rfl,T.out.below⟩
def Zob(l:Acs):Prop:=∀(c:Sc)(st ln cl:Int)(A:Option Addr)(rn rk:Nat)(w:World)(N:Nat→Prop)(v:Value),Zs N w (.row l.len l.ds .nil) [v] →
 Calls Φ 50 #[.agg (scL c st ln cl A rn rk).toArray,v] w fun e w'=>e=η (faV (Vf c 0 l))∧Below w.heap.size w w'
theorem lAct_any(c:Sc)(st ln cl:Int)(A:Option Addr)(rn rk:Nat)(h:AH)(t e:Acs)(ht:Zob t)(he:Zob e)(i:Int)(w:World)(N:Nat→Prop)(ys:List Value)(hd:Zs N w (h.dsr t.len t.ds e.len e.ds) ys) :
  Calls Φ 69 #[.agg (scL c st ln cl A rn rk).toArray,I J i,.agg ys.toArray] w fun r w'=>r=η (faV (lAct c i h t e))∧Below w.heap.size w w':=by
 have hpa:=fun x (hb:Below w.heap.size w x)=>lParts_any c st ln cl A rn rk h t.len e.len t.ds e.ds x N ys (hd.below hb)
 have hst:=fun x=>lStand_any c st ln cl A rn rk i h.kind x
 obtain⟨sel,num,pl,pr,thn,els,rfl,h1,h2,h3,h4,h5,h6⟩:=Znd hd;clear hd;have hth:=fun x (hb:Below w.heap.size w x)=>ht c st ln cl A rn rk x N thn (h5.below hb)
 have hea:=fun x (hb:Below w.heap.size w x)=>ht ⟨c.place,c.whn,true⟩ st ln cl A rn rk x N thn (h5.below hb)
 have hel:=fun x (hb:Below w.heap.size w x)=>he c st ln cl A rn rk x N els (h6.below hb)
 obtain⟨U,uc,_,rfl,_⟩:=h5.inRow;obtain⟨V,vc,_,rfl,_⟩:=h6.inRow;have e1:sel.length=6:=by rw[h1.len,Se.ds_len]
 have e2:num.length=12:=by rw[h2.len,Ex.ds_len]
 have e3:pl.length=12:=by rw[h3.len,Ex.ds_len]
 have e4:pr.length=12:=by rw[h4.len,Ex.ds_len]
 obtain⟨c0,c1,c2,_,_,_,_,_,_,c51,c52⟩:=actV_at (k:=h.kind) (l:=h.line) (c:=h.col) (sd:=h.side) (tk:=h.tk) (tl:=h.tl) (how:=h.how) (nm:=h.name) (cop:=h.cop) (thn:=Λ U t.len uc) (els:=Λ V e.len vc) e1 e2 e3 e4;have hyl:(Ym h.kind h.line h.col sel num h.side h.tk h.tl h.how h.name h.cop pl pr (Λ U t.len uc) (Λ V e.len vc)).length=53:=by simp[Ym,e1,e2,e3,e4]
 clear h1 h2 h3 h4 h5 h6
 have hv:lAct c i h t e=if Wm [Zea c i h.kind,Zax c h]≠0 then(Wm [Zea c i h.kind,Zax c h],h.line,h.col)else if h.kind=10 then Jl [Vf c 0 t,Vf c 0 e]else if h.kind=11 then Vf ⟨c.place,c.whn,true⟩ 0 t else(0,0,0):=by
  rw[orE2,orF2];rfl
 rw[hv];generalize Ym h.kind h.line h.col sel num h.side h.tk h.tl h.how h.name h.cop pl pr (Λ U t.len uc) (Λ V e.len vc)=ys at *;exact lAct_raw _ _ _ _ _ _ _ _ _ _ _ _ _ _ _ _ _ ys h.kind i w _ _ hyl c0 c1 c2 c51 c52 hst hpa _ _ _ (fun _=>hth) (fun _=>hel) (fun _=>hea)
def Acs.dropA:Acs→Nat→Acs
 |x,0=>x
 |.nil,_=>.nil
 |.cons _ _ _ r,n+1=>r.dropA n
theorem Acs.drop_at:∀(l:Acs)(k:Nat)(u:AH×Acs×Acs),l.at? k=some u→l.dropA k=.cons u.1 u.2.1 u.2.2 (l.dropA (k+1))
 |.nil,k,u,h=>by cases k<;>cases h
 |.cons h t e r,0,u,hu=>by
  have hu:some (h,t,e)=some u:=hu;injection hu with hu;subst hu;show Acs.cons h t e r=.cons h t e (r.dropA 0);cases r<;>rfl
 |.cons h t e r,k+1,u,hu=>Acs.drop_at r k u hu
theorem Acs.drop_end:∀(l:Acs)(k:Nat),l.len≤k→l.dropA k=.nil
 |.nil,0,_=>rfl
 |.nil,k+1,_=>rfl
 |.cons h t e r,0,hl=>by unfold Acs.len at hl;omega
 |.cons h t e r,k+1,hl=>Acs.drop_end r k (by unfold Acs.len at hl;omega)
def zAc:List Value:=[I J 0,I J 0,I J 0,I J 0,I J 0,I J 0,I J 0,Λ none 0 0,I J 0,I J 0,I J 0,I J 0,I J 0,I J 0,I J 0,Λ none 0 0,I J 0,I J 0,I J 0,I J 0,Λ none 0 0,I J 0,I J 0,I J 0,I J 0,Ψ ⟨#[]⟩,I J 0,I J 0,I J 0,I J 0,I J 0,I J 0,I J 0,Λ none 0 0,I J 0,I J 0,I J 0,I J 0,Λ none 0 0,I J 0,I J 0,I J 0,I J 0,I J 0,I J 0,Λ none 0 0,I J 0,I J 0,I J 0,I J 0,Λ none 0 0,Λ none 0 0,Λ none 0 0]
theorem Zgn:(Tryz.prog.info? 85).map (fun i=>i.zero.map Value.cells)=some (some zAc.toArray):=by kernel_rfl
theorem lActs_walk(l:Acs)(hall:∀ k u,l.at? k=some u→Zob u.2.1∧Zob u.2.2):Zob l:=by
 intro c st ln cl A rn rk w N v hv;obtain⟨B,bc,xs,rfl,hn,hw,hd⟩:=hv.inRow;clear hv;obtain⟨n,hn0⟩:∃ n,n=l.len:=⟨_,rfl⟩
 rw[←hn0]at hn ⊢;have HN:=Hh hn0;have HW:=Hh (ζ hw hd);have HA:=Hh hall;obtain⟨R,hR⟩:∃ R,R=Vf c 0 l:=⟨_,rfl⟩
 rw[←hR];have HV:=Hh hR;clear hw hd hall hn0 hR;have l63:(n:Int)≤9223372036854775807:=by omega
 obtain⟨pl,whn,ea⟩:=c;have hax:=fun(h:AH)(t e:Acs)(ht:Zob t)(he:Zob e)(i:Int)(w:World)(N:Nat→Prop)(ys:List Value) hd=>lAct_any ⟨pl,whn,ea⟩ st ln cl A rn rk h t e ht he i w N ys hd
 dsimp only[scL]at *;have HX:=Hh hax;clear hax;have T:=Hh (Env.start w);go_enter Tryz.func50,Tryz.ntmps50;go_wp2_with(first
 |((with_reducible refine Zd 2 ?_);refine Zf T.out 107 _ ([I J whn,I J st,I J ln,I J cl,Λ A rn rk,.bool pl,.bool ea]) rfl rfl rfl ?_;intro wa g0 tn;have T:=Hh tn;clear tn)
 |((with_reducible refine Zd 4 ?_);refine Zb T.out 29 _ rfl rfl Wu ?_;intro wb g1 tn;have T:=Hh tn;clear tn))
 go_loopw [10] (fun i wr=>∃ m:Nat,i=I J m∧m≤n∧Env w [(g0,107,[I J whn,I J st,I J ln,I J cl,Λ A rn rk,.bool pl,.bool ea]),(g1,29,[I J 0,I J 0,I J 0])] [] [] wr∧Hid (R=Vf ⟨pl,whn,ea⟩ m (l.dropA m))) (fun i _=>n - (intOf i).toNat)
 case atStart=>exact⟨0,by go_num,Nat.zero_le _,T.out,Hh (by rw[HV.out];cases l<;>rfl)⟩
 case round=>
  obtain⟨m,rfl,hm,hT,hz⟩:=hrel;have T:=Hh hT;clear hT;by_cases hlt:m<n
  · obtain⟨u,hu⟩:=Acs.at_some l m (by rw[←HN.out];exact hlt)
    obtain⟨g,ys,rfl,hg,hR,hy⟩:=act_at HW.out.1 HW.out.2 hu;have hyl:ys.length=53:=by rw[hy.len,AH.dsr_len]
    have hz2:=hz.out;rw[Acs.drop_at l m u hu,lActs_cons]at hz2;have hx:=fun x (hb:Below w.heap.size w x)=>HX.out u.1 u.2.1 u.2.2 (HA.out m u hu).1 (HA.out m u hu).2 (m:Int) x N ys (hy.below hb)
    generalize lAct ⟨pl,whn,ea⟩ (m:Int) u.1 u.2.1 u.2.2=X at *;have HR:Hid (∀ y,Below w.heap.size w y→y.rangeAt g (m*53) ys):=Hh fun y hb j v hv=>(World.cell?_of_block (a:=⟨g,m*53+j,none⟩) (hb.block g hg)).trans (hR j v hv)
    have HY:=Hh hy;clear hy hR hu hz;obtain⟨x0,x1,x2⟩:=X;unfold faV at hx;dsimp only at hx hz2;have lk:(m:Int)<(n:Int):=by omega
    by_cases h0:x0=0
    ·rw[if_pos h0]at hz2
     have HZ:=Hh hz2;clear hz2;subst h0;go_wp2_with(first
 |((with_reducible refine Zd 14 ?_);refine Zw 85 _ g (m*53) ys (HR.out _ T.out.below) Vn (by rw[hyl];exact Xe) rfl rfl rfl ?_)
 |((with_reducible refine Zd 6 ?_);refine Zb T.out 85 _ rfl rfl Zgn ?_;intro wc g2 tn;have T:=Hh tn;clear tn)
 |((with_reducible refine Zg 6 14 ?_);refine Za 85 _ _ 85 g2 _ (ys) (T.out.get 2 rfl) hyl (by rw[hyl];exact Xe) HY.out.one rfl rfl rfl rfl rfl ?_;intro wd p;have T:=Hh (T.out.put 2 rfl p);clear p)
 |((with_reducible refine Zd 15 ?_);refine Zc 107 _ 107 g0 ([I J whn,I J st,I J ln,I J cl,Λ A rn rk,.bool pl,.bool ea]) (T.out.get 0 rfl) Zex Zcf rfl rfl rfl ?_)
 |((with_reducible refine Zd 17 ?_);refine Zc 85 _ 85 g2 (ys) (T.out.get 2 rfl) Vn (by rw[hyl];exact Xe) rfl rfl rfl ?_)
 |(go_at_call 69;refine(hx _ T.out.below).mono ?_;rintro e we ⟨rfl,bn⟩;have T:=Hh (T.out.call bn);clear bn)
 |((with_reducible refine Zd 7 ?_);refine Zb T.out 29 _ rfl rfl Wu ?_;intro wf g3 tn;have T:=Hh tn;clear tn)
 |((with_reducible refine Zg 7 18 ?_);refine Za 29 _ _ 29 g3 _ ([I J 0,I J x1,I J x2]) (T.out.get 3 rfl) rfl Zj (by simp[Γ]) rfl rfl rfl rfl rfl ?_;intro wd p;have T:=Hh (T.out.put 3 rfl p);clear p;obtain⟨y0,y1,y2,_,_,_⟩:=Zo (T.out.get 3 rfl))
 |((with_reducible refine Zd 22 ?_);refine Zc 29 _ 29 g3 ([I J 0,I J x1,I J x2]) (T.out.get 3 rfl) Yf Zj rfl rfl rfl ?_)
 |((with_reducible refine Zg 4 22 ?_);refine Za 29 _ _ 29 g1 _ ([I J 0,I J x1,I J x2]) (T.out.get 1 rfl) rfl Zj (by simp[Γ]) rfl rfl rfl rfl rfl ?_;intro wd p;have T:=Hh (T.out.put 1 rfl p);clear p))
     go_roundw
     case rel=>exact⟨m+1,by go_num,by omega,T.out.less (bs:=[_,_]) (cs:=[_,_]) (ts:=[]) (us:=[]),HZ⟩
     case measure=>simp[intOf];omega
    ·rw[if_neg h0]at hz2
     subst hz2;have hb0:(x0 == 0)=false:=by simpa using h0
     clear h0;go_wp2_with(first
 |((with_reducible refine Zd 14 ?_);refine Zw 85 _ g (m*53) ys (HR.out _ T.out.below) Vn (by rw[hyl];exact Xe) rfl rfl rfl ?_)
 |((with_reducible refine Zd 6 ?_);refine Zb T.out 85 _ rfl rfl Zgn ?_;intro wc g2 tn;have T:=Hh tn;clear tn)
 |((with_reducible refine Zg 6 14 ?_);refine Za 85 _ _ 85 g2 _ (ys) (T.out.get 2 rfl) hyl (by rw[hyl];exact Xe) HY.out.one rfl rfl rfl rfl rfl ?_;intro wd p;have T:=Hh (T.out.put 2 rfl p);clear p)
 |((with_reducible refine Zd 15 ?_);refine Zc 107 _ 107 g0 ([I J whn,I J st,I J ln,I J cl,Λ A rn rk,.bool pl,.bool ea]) (T.out.get 0 rfl) Zex Zcf rfl rfl rfl ?_)
 |((with_reducible refine Zd 17 ?_);refine Zc 85 _ 85 g2 (ys) (T.out.get 2 rfl) Vn (by rw[hyl];exact Xe) rfl rfl rfl ?_)
 |(go_at_call 69;refine(hx _ T.out.below).mono ?_;rintro e we ⟨rfl,bn⟩;have T:=Hh (T.out.call bn);clear bn)
 |((with_reducible refine Zd 7 ?_);refine Zb T.out 29 _ rfl rfl Wu ?_;intro wf g3 tn;have T:=Hh tn;clear tn)
 |((with_reducible refine Zg 7 18 ?_);refine Za 29 _ _ 29 g3 _ ([I J x0,I J x1,I J x2]) (T.out.get 3 rfl) rfl Zj (by simp[Γ]) rfl rfl rfl rfl rfl ?_;intro wd p;have T:=Hh (T.out.put 3 rfl p);clear p;obtain⟨y0,y1,y2,_,_,_⟩:=Zo (T.out.get 3 rfl))
 |((with_reducible refine Zd 22 ?_);refine Zc 29 _ 29 g3 ([I J x0,I J x1,I J x2]) (T.out.get 3 rfl) Yf Zj rfl rfl rfl ?_)
 |((with_reducible refine Zg 4 22 ?_);refine Za 29 _ _ 29 g1 _ ([I J x0,I J x1,I J x2]) (T.out.get 1 rfl) rfl Zj (by simp[Γ]) rfl rfl rfl rfl rfl ?_;intro wd p;have T:=Hh (T.out.put 1 rfl p);clear p))
     exact Ya 4 29 29 g1 ([I J x0,I J x1,I J x2]) rfl (T.out.get 1 rfl) Yf Zj rfl rfl ⟨rfl,T.out.below⟩
  · have hz2:=hz.out
    rw[Acs.drop_end l m (by have:=HN.out;omega)]at hz2;have hz2:R=(0,0,0):=hz2;subst hz2;clear hz;go_wp2_with(first
 |((with_reducible refine Zg 4 24 ?_);refine Za 29 _ _ 29 g1 _ ([I J 0,I J 0,I J 0]) (T.out.get 1 rfl) rfl Zj (by simp[Γ]) rfl rfl rfl rfl rfl ?_;intro wd p;have T:=Hh (T.out.put 1 rfl p);clear p))
    exact Ya 4 29 29 g1 ([I J 0,I J 0,I J 0]) rfl (T.out.get 1 rfl) Yf Zj rfl rfl ⟨rfl,T.out.below⟩
theorem lActs_ok(l:Acs):Zob l:=
 lActs_walk l fun k u hu=>
  have h:=Acs.at_lt l k u hu
  ⟨lActs_ok u.2.1,lActs_ok u.2.2⟩
termination_by SizeOf.sizeOf l
decreasing_by
 ·exact(Acs.at_lt l k u hu).1
 ·exact(Acs.at_lt l k u hu).2
def exKind:Ex→Int
 |.leaf k _ _ _ _ _=>k
 |.bin _ _ _=>7
def Zco:Ex→List Ex
 |.leaf _ _ _ _ _ _=>[]
 |.bin _ l r=>[l,r]
def Zkm:List Ex→Int
 |[]=>0
 |x::r=>exZ x+Zkm r
theorem sumZ_snoc(x:Ex):∀ l:List Ex,Zkm (l++[x])=Zkm l+exZ x
 |[]=>by simp[Zkm]
 |y::l=>by show exZ y+Zkm (l++[x])=exZ y+Zkm l+exZ x;rw[sumZ_snoc x l];omega
theorem exZ_eq(x:Ex):exZ x=if exKind x=7 then 1+Zkm (Zco x)else 1:=by
 cases x with
 |leaf k n s sd tk tl=>show(1:Int)=if k=7 then 1+0 else 1;split<;>rfl
 |bin op l r=>show 1+exZ l+exZ r=if(7:Int)=7 then 1+(exZ l+(exZ r+0))else 1;rw[if_pos rfl];omega
theorem Zme{N:Nat→Prop}{w:World}{x:Ex}{vs:List Value}(h:Zs N w x.ds vs):vs[0]?=some (I J (exKind x))∧∃ C kc xs,vs[11]?=some (.slice C (Zco x).length kc)∧Zbo N w C xs∧Zs N w (lxsDs (Zco x)) xs:=by
 cases x with
 |leaf k n s sd tk tl=>
  obtain⟨_,rfl,_,rfl,h⟩:=h;obtain⟨sv,_,rfl,hs,h⟩:=Zs.split (x:=s.ds) h;obtain⟨_,rfl,_,rfl,_,rfl,C,kc,xs,_,rfl,_,hw,hd,rfl⟩:=h;have hl:sv.length=6:=by rw[hs.len,Se.ds_len]
  exact⟨rfl,C,kc,xs,by simp[List.getElem?_append,hl,Zco],hw,hd⟩
 |bin op l r=>
  obtain⟨_,rfl,_,rfl,h⟩:=h;obtain⟨sv,_,rfl,hs,h⟩:=Zs.split (x:=zSe.ds) h;obtain⟨_,rfl,_,rfl,_,rfl,C,kc,xs,_,rfl,_,hw,hd,rfl⟩:=h;have hl:sv.length=6:=by rw[hs.len,Se.ds_len]
  exact⟨rfl,C,kc,xs,by simp[List.getElem?_append,hl,Zco],hw,by show Zs N w (l.ds.app (r.ds.app .nil)) xs;rw[Ds.app_nil];exact hd⟩
def LZOK(x:Ex):Prop:=∀(w:World)(N:Nat→Prop)(vs:List Value),Zs N w x.ds vs →
 Calls Φ 70 #[.agg vs.toArray] w fun e w'=>e=η (I J (Go.Proofs.YtbdecchpleiepaaGreat.wr (exZ x)))∧Below w.heap.size w w'
theorem Zlv(x:Ex)(IH:∀ y ∈ Zco x,LZOK y):LZOK x:=by
 intro w N vs h;obtain⟨c0,C,kc,xs,c11,hw,hd⟩:=Zme h;have hv:=exZ_eq x;have hxl:(Zco x).length≤2:=by cases x<;>simp[Zco]
 generalize exZ x=V at *;generalize exKind x=kk at *;generalize Zco x=K at *;obtain⟨kn,hkn⟩:∃ kn,kn=K.length:=⟨_,rfl⟩
 rw[←hkn]at hxl c11;have HK:=Hh hkn;have HW:=Hh (ζ hw hd);have HI:=Hh IH;have HC:=Hh (ζ c0 c11);have l2:(kn:Int)≤2:=by omega
 clear hkn hw hd IH c0 c11 h;have T:=Hh (Env.start w);go_enter Tryz.func70,Tryz.ntmps70;by_cases h7:kk=7
 ·subst h7
  rw[if_pos rfl]at hv;have HV:=Hh hv;clear hv;go_wp2_with(((with_reducible refine Zd 1 ?_);refine Zf T.out 81 _ (vs) rfl rfl rfl ?_;intro wa g0 tn;have T:=Hh tn;clear tn;have fd0:wa.cell? ⟨g0,0,none⟩=some (I J 7):=(T.out.get 0 rfl).nth 0 HC.out.1;have fd11:wa.cell? ⟨g0,11,none⟩=some (Λ C kn kc):=(T.out.get 0 rfl).nth 11 HC.out.2))
  go_loopw [3,12] (fun s i wy=>∃ m:Nat,i=I J m∧m≤kn∧s=I J (Go.Proofs.YtbdecchpleiepaaGreat.wr (1+Zkm (K.take m)))∧Env w [(g0,81,vs)] [] [] wy) (fun _ i _=>kn - (intOf i).toNat)
  case atStart=>exact⟨0,by go_num,Nat.zero_le _,by rw[List.take_zero];rfl,T.out⟩
  case round=>
    obtain⟨m,rfl,hm,rfl,hT⟩:=hrel;have T:=Hh hT;clear hT;by_cases hlt:m<kn
    ·have hk1:m<K.length:=by rw[←HK.out];exact hlt
     obtain⟨pre,ys,post,hxs,hp,hy⟩:=lxs_at HW.out.2 m hk1;have hyl:ys.length=12:=by rw[hy.len,Ex.ds_len]
     obtain⟨g,rfl,hg,hc⟩:=HW.out.1.reads (by rw[hxs];simp;omega);have hx:=HI.out (K[m]'hk1) (List.getElem_mem hk1);have hR:w.rangeAt g (m*12) ys:=Ut (by rw[hxs]at hc;exact hc) hp;have HR:Hid (∀ y,Below w.heap.size w y→y.rangeAt g (m*12) ys):=Hh fun y hb j v hv=>(World.cell?_of_block (a:=⟨g,m*12+j,none⟩) (hb.block g hg)).trans (hR j v hv)
     have hsum:IntKind.i64.wrap (Go.Proofs.YtbdecchpleiepaaGreat.wr (1+Zkm (K.take m))+Go.Proofs.YtbdecchpleiepaaGreat.wr (exZ (K[m]'hk1)))=Go.Proofs.YtbdecchpleiepaaGreat.wr (1+Zkm (K.take (m+1))):=by
      rw[show K.take (m+1)=K.take m++[K[m]'hk1]from by rw[List.take_add_one,List.getElem?_eq_getElem hk1];rfl,sumZ_snoc];rw[show(1:Int)+(Zkm (K.take m)+exZ (K[m]'hk1))=1+Zkm (K.take m)+exZ (K[m]'hk1)from by omega];exact Zmn _ _
     unfold LZOK at hx;generalize K[m]=y0 at *;have HY:=Hh hy;generalize Go.Proofs.YtbdecchpleiepaaGreat.wr (1+Zkm (K.take m))=s0 at *;have HS:Hid (∃ s1,s1=Go.Proofs.YtbdecchpleiepaaGreat.wr (1+Zkm (K.take (m+1)))):=Hh ⟨_,rfl⟩;obtain⟨s1,hs1⟩:=HS.out;rw[←hs1]at hsum;have HS1:=Hh hs1;generalize Go.Proofs.YtbdecchpleiepaaGreat.wr (exZ (K[m]'hk1))=v0 at *;clear hxs hp hc hR hy hk1 hs1 HS;have lk:(m:Int)<(kn:Int):=by omega
     go_wp2_with(first
 |((with_reducible refine Zd 15 ?_);refine Zw 81 _ g (m*12) ys (HR.out _ T.out.below) Yy (by rw[hyl];exact Yi) rfl rfl rfl ?_)
 |((with_reducible refine Zd 5 ?_);refine Zb T.out 81 _ rfl rfl lz_ex ?_;intro wc g2 tn;have T:=Hh tn;clear tn)
 |((with_reducible refine Zg 5 15 ?_);refine Za 81 _ _ 81 g2 _ (ys) (T.out.get 1 rfl) hyl (by rw[hyl];exact Yi) HY.out.one rfl rfl rfl rfl rfl ?_;intro wd p;have T:=Hh (T.out.put 1 rfl p);clear p)
 |((with_reducible refine Zd 17 ?_);refine Zc 81 _ 81 g2 (ys) (T.out.get 1 rfl) Yy (by rw[hyl];exact Yi) rfl rfl rfl ?_)
 |(go_at_call 70;refine(hx _ _ _ (HY.out.below T.out.below)).mono ?_;rintro e we ⟨rfl,bn⟩;have T:=Hh (T.out.call bn);clear bn))
     go_roundw
     case rel=>exact⟨m+1,by go_num,by omega,by rw[HS1.out],T.out.less (bs:=[_]) (cs:=[_]) (ts:=[]) (us:=[])⟩
     case measure=>simp[intOf];omega
    ·have hf:Go.Proofs.YtbdecchpleiepaaGreat.wr (1+Zkm (K.take m))=Go.Proofs.YtbdecchpleiepaaGreat.wr V:=by rw[List.take_of_length_le (by have:=HK.out;omega),HV.out]
     rw[hf];go_wp2
     go_ret;exact⟨rfl,T.out.below⟩
 ·rw[if_neg h7]at hv
  subst hv;have b7:(kk == 7)=false:=by simpa using h7
  go_wp2_with(((with_reducible refine Zd 1 ?_);refine Zf T.out 81 _ (vs) rfl rfl rfl ?_;intro wa g0 tn;have T:=Hh tn;clear tn;have fd0:wa.cell? ⟨g0,0,none⟩=some (I J kk):=(T.out.get 0 rfl).nth 0 HC.out.1;have fd11:wa.cell? ⟨g0,11,none⟩=some (Λ C kn kc):=(T.out.get 0 rfl).nth 11 HC.out.2))
  go_ret;exact⟨by rw[wr_small (by omega) (by omega)];rfl,T.out.below⟩
theorem Zek:∀ x:Ex,LZOK x
 |.leaf k n s sd tk tl=>Zlv _ (fun y hy=>by cases hy)
 |.bin op l r=>by
  have hl:=Zek l;have hr:=Zek r;refine Zlv _ (fun y hy=>?_);rcases List.mem_cons.1 hy with rfl | hy
  ·exact hl
  ·cases List.mem_singleton.1 hy;exact hr
open Go
def TokSim(pl:Bool)(u v:TokV):Prop:=u.k=v.k∧u.t=v.t∧u.n=v.n∧(pl=true→u.line=v.line∧u.col=v.col)
structure RowSim(pl:Bool)(L M:List TokV):Prop where
 len:L.length=M.length
 tok:∀ a,TokSim pl (Yb L a) (Yb M a)
def FltSim(pl:Bool)(F G:Int×Nat×Nat):Prop:=F.1=G.1∧(pl=true→F=G)
def StSim(pl:Bool):St→St→Prop
 |.ok a d,.ok b e=>a=b∧d=e
 |.bad F,.bad G=>FltSim pl F G
 |_,_=>False
theorem StSim.good{pl:Bool}:∀{s t:St},StSim pl s t→s.good=t.good
 |.ok _ _,.ok _ _,_=>rfl
 |.bad _,.bad _,_=>rfl
section
variable {pl:Bool} {L M:List TokV} (h:RowSim pl L M)
include h
end
theorem Ur{L:List TokV}{t:ByteArray}:∀{s:St},(Zz L t s).good=true→s.good=true
 |.ok a d,_=>rfl
 |.bad F,h=>h
theorem Zbl{L:List TokV}{ws:List ByteArray}:∀{s:St},(Zn L ws s).good=true→s.good=true
 |.ok a d,_=>rfl
 |.bad F,h=>h
theorem Zor:∀{s:St},(upS s).good=true→s.good=true
 |.ok a d,_=>rfl
 |.bad F,h=>h
theorem filters_stop0(nk:Int)(L:List TokV)(n:Nat)(F:Int×Nat×Nat):Yk nk L (n+1) (.bad F)=([],.bad F):=by rw[Yk];exact if_pos rfl
theorem Zma{nk:Int}{L:List TokV}:∀{n:Nat}{s:St},(Yk nk L n s).2.good=true→s.good=true
 |_,.ok a d,_=>rfl
 |0,.bad F,h=>h
 |n+1,.bad F,h=>by rw[filters_stop0 nk L n F]at h;exact h
section
variable {pl:Bool} {L M:List TokV} (h:RowSim pl L M) (a b:Int)
include h
end
section
variable {nk:Int} {L:List TokV}
theorem Zjt:∀ n:Nat,(∀ F,(Yj nk L n (.bad F)).2=.bad F)∧(∀ e F,(Jz nk L n (e,.bad F)).2=.bad F)∧(∀ F,(Vp nk L n (.bad F)).2=.bad F)∧(∀ e F,(Jv nk L n (e,.bad F)).2=.bad F)∧(∀ F,(Ww nk L n (.bad F)).2=.bad F)
 |0=>⟨fun F=>rfl,fun e F=>rfl,fun F=>rfl,fun e F=>rfl,fun F=>rfl⟩
 |n+1=>by
  obtain⟨e1,e2,e3,e4,e5⟩:=Zjt n;refine⟨fun F=>?_,fun e F=>?_,fun F=>?_,fun e F=>?_,fun F=>?_⟩
  ·rw[Yj]
   have:Vp nk L n (.bad F)=((Vp nk L n (.bad F)).1,.bad F):=Prod.ext rfl (e3 F);rw[this];exact e2 _ F
  ·rw[Jz]
   show(if(0:Nat)=0 then(e,St.bad F)else _).2=_;rw[if_pos rfl]
  ·rw[Vp]
   have:Ww nk L n (.bad F)=((Ww nk L n (.bad F)).1,.bad F):=Prod.ext rfl (e5 F);rw[this];exact e4 _ F
  ·rw[Jv]
   show(if false=true then _ else(e,St.bad F)).2=_;rw[if_neg Bool.false_ne_true]
  ·rw[Ww]
   have h1:¬ isS L Zab (.bad F)=true:=Bool.false_ne_true;have h2:Zk L Wa (.bad F)=0:=rfl;rw[if_neg h1,if_pos h2];rfl
theorem Zgs{n:Nat}:∀{s:St},(Yj nk L n s).2.good=true→s.good=true
 |.ok a d,_=>rfl
 |.bad F,h=>by rw[(Zjt n).1 F]at h;exact h
theorem Zos:∀{s:St},(toS L s).good=true→s.good=true
 |.ok a d,_=>rfl
 |.bad F,h=>h
end
def AHSim(pl:Bool)(x y:AH):Prop:=x = { y with line:=x.line,col:=x.col }∧(pl=true→x.line=y.line∧x.col=y.col)
section
variable {pl:Bool} {L M:List TokV} (h:RowSim pl L M) (a b:Int)
include h
end
theorem acts_bad{nk:Int}{L:List TokV}:∀(n:Nat)(F:Int×Nat×Nat),(Xm nk L n (.bad F)).2=.bad F
 |0,F=>rfl
 |n+1,F=>by
  have h2:Zk L Wj (.bad F)=0:=rfl;rw[Xm,if_pos h2]
theorem Zjq{nk:Int}{L:List TokV}{n:Nat}:∀{s:St},(Xm nk L n s).2.good=true→s.good=true
 |.ok a d,_=>rfl
 |.bad F,h=>by rw[acts_bad n F]at h;exact h
theorem Zhp{nk:Int}{L:List TokV}:∀{n:Nat}{s:St},(Yt nk L n s).2.good=true→s.good=true
 |_,.ok a d,_=>rfl
 |0,.bad F,h=>h
 |n+1,.bad F,h=>by
  rw[Yt]at h;have h1:=Zjq (Ur (Zor h));exact h1
theorem good_take{L:List TokV}{t:ByteArray}:∀{s:St},(Vu L t s).good=true→s.good=true
 |.ok a d,_=>rfl
 |.bad F,h=>h
section
variable {pl:Bool} {L M:List TokV} (h:RowSim pl L M) (a b:Int)
include h
end
theorem Zla{nk:Int}{L:List TokV}:∀{n:Nat}{s:St},(Wi nk L n s).2.good=true→s.good=true
 |_,.ok a d,_=>rfl
 |0,.bad F,h=>h
 |n+1,.bad F,h=>by
  have h2:Zk L Xf (.bad F)=0:=rfl;rw[Wi,if_pos h2]at h;exact h
theorem good_body{nk:Int}{L:List TokV}{n:Nat}{s:St}(h:(Zbn nk L n s).2.good=true):s.good=true:=Ur (Zla (Ur h))
theorem good_file{nk:Int}{L:List TokV}:∀{n:Nat}{s:St},(Wk nk L n s).2.good=true→s.good=true
 |_,.ok a d,_=>rfl
 |0,.bad F,h=>h
 |n+1,.bad F,h=>by
  have h2:Zk L Xp (.bad F)=0:=rfl;rw[Wk,if_pos h2]at h;exact h
section
variable {pl:Bool} {L M:List TokV} (h:RowSim pl L M) (a b:Int)
include h
end
structure PT where
 k:Int
 t:ByteArray
 n:Int
def PT.v(p:PT):TokV:=⟨p.k,p.t,p.n,0,0,0⟩
theorem n1:(1:Int)≠0:=by decide
theorem n4:(4:Int)≠0:=by decide
def wd(ws:List ByteArray)(k:Int):ByteArray:=ws[k.toNat - 1]?.getD ⟨#[]⟩
def pw(ws:List ByteArray)(k:Int):PT:=⟨1,wd ws k,0⟩
section
variable {L:List TokV}
end
def Zhv(s:ByteArray):Prop:=Zce s=true∧(∀ x ∈ bL s,0≤x∧x<256∧x≠34)
def VFl(f:Fl):Prop:=
 ((f.kind=1∨f.kind=2)∧(1≤f.op∧f.op≤6)∧(-99≤f.n∧f.n≤99)∧f.name=⟨#[]⟩)∨(f.kind=3∧f.op=0∧f.n=0∧Zhv f.name) ∨
   ((f.kind=4∨f.kind=5)∧f.op=0∧f.n=0∧f.name=⟨#[]⟩)
def VSe(s:Se):Prop:=
 ((s.kind=1∨s.kind=2)∧s.side=0∧s.wh=0∧s.lane=0∧s.fs=[]∧s.pick=0) ∨
   (s.kind=3∧(1≤s.side∧s.side≤3)∧(1≤s.wh∧s.wh≤4)∧(0≤s.lane∧s.lane≤99)∧(s.wh≠3→s.lane=0)∧(∀ f ∈ s.fs,VFl f)∧(1≤s.pick∧s.pick≤5))
section
variable {L:List TokV} {nk:Int}
def VTo(k l:Int):Prop:=((1≤k∧k≤3)∧l=0)∨(k=4∧0≤l∧l≤99)
end
def Ex.isBin:Ex→Bool
 |.leaf .. =>false
 |.bin .. =>true
def Ex.isSum:Ex→Bool
 |.leaf .. =>false
 |.bin o _ _=>decide (o<3)
def must(right:Bool)(op:Int)(x:Ex):Bool:=(decide (op=3) && x.isSum) || (right && x.isBin && (x.isSum || decide (op=3)))
theorem Zmz:∀{x:Ex},x.isSum=true→x.isBin=true
 |.leaf ..,h=>h
 |.bin ..,_=>rfl
theorem must_sum{op:Int}(h3:op≠3)(l r:Ex):must false op l=false∧must true op r=r.isSum:=by
 constructor
 ·unfold must;simp[h3]
 ·unfold must;simp[h3]
  exact Zmz
theorem must_times(l r:Ex):must false 3 l=l.isSum∧must true 3 r=r.isBin:=by
 constructor
 ·unfold must;simp
 ·unfold must;simp
  exact Zmz
def VLeaf(kind n:Int)(sel:Se)(side tk tl:Int):Prop:=
 (kind=1∧(-99≤n∧n≤99)∧sel=zSe∧side=0∧tk=0∧tl=0)∨((kind=2∨kind=3)∧n=0∧VSe sel∧side=0∧tk=0∧tl=0) ∨
   (kind=4∧n=0∧sel=zSe∧side=0∧tk=0∧tl=0)∨(kind=5∧n=0∧sel=zSe∧(1≤side∧side≤3)∧tk=0∧tl=0) ∨
   (kind=6∧n=0∧sel=zSe∧(1≤side∧side≤3)∧VTo tk tl)
def VEx:Ex→Prop
 |.leaf kind n sel side tk tl=>VLeaf kind n sel side tk tl
 |.bin op l r=>(1≤op∧op≤3)∧VEx l∧VEx r
def kD(b:Bool)(n:Nat):Nat:=if b=true then n+1 else n
def pD:Ex→Nat
 |.leaf .. =>0
 |.bin op l r=>max (kD (must false op l) (pD l)) (kD (must true op r) (pD r))
section
variable {L:List TokV} {nk:Int}
end
def Zdk(d:Nat)(h:AH):Prop:=
 ((h.kind=1∨h.kind=2∨h.kind=12)∧h = { AH.zero h.kind h.line h.col with sel:=h.sel,num:=h.num }∧VSe h.sel∧VEx h.num∧pD h.num+d≤8) ∨
 ((h.kind=3∨h.kind=5∨h.kind=14)∧h = { AH.zero h.kind h.line h.col with sel:=h.sel }∧VSe h.sel) ∨
 (h.kind=4∧h = { AH.zero h.kind h.line h.col with sel:=h.sel,tk:=h.tk,tl:=h.tl }∧VSe h.sel∧VTo h.tk h.tl) ∨
 (h.kind=6∧h = { AH.zero h.kind h.line h.col with name:=h.name,side:=h.side,tk:=h.tk,tl:=h.tl,num:=h.num }∧Zhv h.name∧(1≤h.side∧h.side≤3)∧VTo h.tk h.tl∧VEx h.num∧pD h.num+d≤8) ∨
 ((h.kind=7∨h.kind=9)∧h = { AH.zero h.kind h.line h.col with side:=h.side,num:=h.num }∧(1≤h.side∧h.side≤3)∧VEx h.num∧pD h.num+d≤8) ∨
 (h.kind=8∧h = { AH.zero h.kind h.line h.col with side:=h.side,how:=h.how }∧(1≤h.side∧h.side≤3)∧(1≤h.how∧h.how≤4)) ∨
 ((h.kind=13∨h.kind=15)∧h = { AH.zero h.kind h.line h.col with side:=h.side,tk:=h.tk,tl:=h.tl }∧(1≤h.side∧h.side≤3)∧VTo h.tk h.tl)
def Zkj(d:Nat)(h:AH):Prop:=h = { AH.zero 10 h.line h.col with cop:=h.cop,cl:=h.cl,cr:=h.cr }∧(1≤h.cop∧h.cop≤6)∧(VEx h.cl∧pD h.cl+d≤8)∧(VEx h.cr∧pD h.cr+d≤8)
def Zmi(h:AH):Prop:=h = { AH.zero 11 h.line h.col with sel:=h.sel }∧VSe h.sel
def Zbw:Nat→Acs→Prop
 |_,.nil=>True
 |d,.cons h t e r=>((d<8∧Zkj d h∧Zbw (d+1) t∧Zbw (d+1) e)∨(d<8∧Zmi h∧Zbw (d+1) t∧e=.nil)∨(Zdk d h∧t=.nil∧e=.nil))∧Zbw d r
theorem Zkj.kind{d:Nat}{h:AH}(v:Zkj d h):h.kind=10:=(congrArg AH.kind v.1 :)
theorem Zmi.kind{h:AH}(v:Zmi h):h.kind=11:=(congrArg AH.kind v.1 :)
theorem Zdk.kind{d:Nat}{h:AH}(v:Zdk d h):1≤h.kind∧h.kind≤15∧h.kind≠10∧h.kind≠11:=by
 rcases v with⟨k,_⟩ | ⟨k,_⟩ | ⟨k,_⟩ | ⟨k,_⟩ | ⟨k,_⟩ | ⟨k,_⟩ | ⟨k,_⟩<;>omega
section
variable {L:List TokV} {nk:Int}
theorem AHSim.any(h:AH)(l c:Int):AHSim false h { h with line:=l,col:=c }:=⟨rfl,fun hh=>by cases hh⟩
end
def VRu(r:Ru):Prop:=(1≤r.when_∧r.when_≤6)∧(0≤r.stratum∧r.stratum≤99)∧(r.when_≠5→r.stratum=0)∧Zbw 0 r.acts
def VCa(c:Ca):Prop:=Zhv c.name∧(0≤c.cost∧c.cost≤99)∧(-99≤c.power∧c.power≤99)∧∀ r ∈ c.rules,VRu r
def VPl(p:Pl):Prop:=Zhv p.name∧∀ r ∈ p.rules,VRu r
def VFi(f:Fi):Prop:=(∀ c ∈ f.cards,VCa c)∧∀ p ∈ f.places,VPl p
section
variable {L:List TokV} {nk:Int}
end
def acZ6(k z1 z5 z6 z7 z8:Int)(en:Nat):Int:=
 if k=1∨k=2∨k=6∨k=7∨k=9∨k=12 then z1+1 else if k=10 then z5+z6+z7+1+(if 0<en then z8+1 else 0)else if k=11 then z7+2 else 1
theorem lActSize_raw(ys num xl xr:List Value)(U V:Option Addr)(tn uc en vc:Nat)(k:Int)(w:World)(z1 z5 z6 z7 z8:Int)(hyl:ys.length=53)(h0:ys[0]?=some (I J k))(h51:ys[51]?=some (Λ U tn uc))(h52:ys[52]?=some (Λ V en vc))(hen:en≤9223372036854775807)
  (hr1:∀ x g t,Zi x g t ys.toArray→x.rangeAt g 9 num)(hr5:∀ x g t,Zi x g t ys.toArray→x.rangeAt g 27 xl)(hr6:∀ x g t,Zi x g t ys.toArray→x.rangeAt g 39 xr)(hsnum:(Tryz.prog.info? 81).map (·.size)=some num.length)(hsxl:(Tryz.prog.info? 81).map (·.size)=some xl.length)(hsxr:(Tryz.prog.info? 81).map (·.size)=some xr.length)
  (hnum:∀ x,Below w.heap.size w x→Calls Φ 70 #[.agg num.toArray] x fun e w'=>e=η (I J (wr z1))∧Below x.heap.size x w')(hxl:∀ x,Below w.heap.size w x→Calls Φ 70 #[.agg xl.toArray] x fun e w'=>e=η (I J (wr z5))∧Below x.heap.size x w')(hxr:∀ x,Below w.heap.size w x→Calls Φ 70 #[.agg xr.toArray] x fun e w'=>e=η (I J (wr z6))∧Below x.heap.size x w')
  (hth:∀ x,Below w.heap.size w x→Calls Φ 32 #[Λ U tn uc] x fun e w'=>e=η (I J (wr z7))∧Below x.heap.size x w')(hel:∀ x,Below w.heap.size w x→Calls Φ 32 #[Λ V en vc] x fun e w'=>e=η (I J (wr z8))∧Below x.heap.size x w') :
  Calls Φ 52 #[.agg ys.toArray] w fun e w'=>e=η (I J (wr (acZ6 k z1 z5 z6 z7 z8 en)))∧Below w.heap.size w w':=by
 have a1:IntKind.i64.wrap (wr z1+1)=wr (z1+1):=Zbq _ _;have b1:IntKind.i64.wrap (wr z5+wr z6)=wr (z5+z6):=Zmn _ _;have b2:IntKind.i64.wrap (wr (z5+z6)+wr z7)=wr (z5+z6+z7):=Zmn _ _;have b3:IntKind.i64.wrap (wr (z5+z6+z7)+1)=wr (z5+z6+z7+1):=Zbq _ _;have b4:IntKind.i64.wrap (wr z8+1)=wr (z8+1):=Zbq _ _;have b5:IntKind.i64.wrap (wr (z5+z6+z7+1)+wr (z8+1))=wr (z5+z6+z7+1+(z8+1)):=Zmn _ _;have d1:IntKind.i64.wrap (wr z7+2)=wr (z7+2):=Zbq _ _;obtain⟨R,hR⟩:∃ R,R=wr (acZ6 k z1 z5 z6 z7 z8 en):=⟨_,rfl⟩
 rw[←hR];unfold acZ6 at hR;have HR:=Hh hR;clear hR;have T:=Hh (Env.start w);have HC:=Hh (ζ h0 (ζ h51 h52));clear h0 h51 h52;have hr:(Tryz.prog.info? 85).map (·.size)=some ys.length:=by rw[hyl];exact Xe
 go_enter Tryz.func52,Tryz.ntmps52;by_cases h1:k=1∨k=2∨k=6∨k=7∨k=9∨k=12
 ·have hR:=HR.out
  rw[if_pos h1]at hR;subst hR;generalize wr (z1+1)=A1 at *;generalize wr z1=B1 at *;clear b1 b2 b3 b4 b5 d1 HR;rcases h1 with rfl | rfl | rfl | rfl | rfl | rfl
  · go_wp2_with(first
 |((with_reducible refine Zd 1 ?_);refine Zf T.out 85 _ (ys) rfl rfl rfl ?_;intro wa g0 tn;have T:=Hh tn;clear tn;have fd0:wa.cell? ⟨g0,0,none⟩=some (I J 1):=(T.out.get 0 rfl).nth 0 HC.out.1)
 |((with_reducible refine Zd 14 ?_);refine Zw 81 _ g0 9 num (hr1 _ _ _ (T.out.get 0 rfl)) Yy hsnum rfl rfl rfl ?_)
 |(go_at_call 70;refine(hnum _ T.out.below).mono ?_;rintro e we ⟨rfl,bn⟩;have T:=Hh (T.out.call bn);clear bn))
    go_ret;exact⟨rfl,T.out.below⟩
  · go_wp2_with(first
 |((with_reducible refine Zd 1 ?_);refine Zf T.out 85 _ (ys) rfl rfl rfl ?_;intro wa g0 tn;have T:=Hh tn;clear tn;have fd0:wa.cell? ⟨g0,0,none⟩=some (I J 2):=(T.out.get 0 rfl).nth 0 HC.out.1)
 |((with_reducible refine Zd 14 ?_);refine Zw 81 _ g0 9 num (hr1 _ _ _ (T.out.get 0 rfl)) Yy hsnum rfl rfl rfl ?_)
 |(go_at_call 70;refine(hnum _ T.out.below).mono ?_;rintro e we ⟨rfl,bn⟩;have T:=Hh (T.out.call bn);clear bn))
    go_ret;exact⟨rfl,T.out.below⟩
  · go_wp2_with(first
 |((with_reducible refine Zd 1 ?_);refine Zf T.out 85 _ (ys) rfl rfl rfl ?_;intro wa g0 tn;have T:=Hh tn;clear tn;have fd0:wa.cell? ⟨g0,0,none⟩=some (I J 6):=(T.out.get 0 rfl).nth 0 HC.out.1)
 |((with_reducible refine Zd 14 ?_);refine Zw 81 _ g0 9 num (hr1 _ _ _ (T.out.get 0 rfl)) Yy hsnum rfl rfl rfl ?_)
 |(go_at_call 70;refine(hnum _ T.out.below).mono ?_;rintro e we ⟨rfl,bn⟩;have T:=Hh (T.out.call bn);clear bn))
    go_ret;exact⟨rfl,T.out.below⟩
  · go_wp2_with(first
 |((with_reducible refine Zd 1 ?_);refine Zf T.out 85 _ (ys) rfl rfl rfl ?_;intro wa g0 tn;have T:=Hh tn;clear tn;have fd0:wa.cell? ⟨g0,0,none⟩=some (I J 7):=(T.out.get 0 rfl).nth 0 HC.out.1)
 |((with_reducible refine Zd 14 ?_);refine Zw 81 _ g0 9 num (hr1 _ _ _ (T.out.get 0 rfl)) Yy hsnum rfl rfl rfl ?_)
 |(go_at_call 70;refine(hnum _ T.out.below).mono ?_;rintro e we ⟨rfl,bn⟩;have T:=Hh (T.out.call bn);clear bn))
    go_ret;exact⟨rfl,T.out.below⟩
  · go_wp2_with(first
 |((with_reducible refine Zd 1 ?_);refine Zf T.out 85 _ (ys) rfl rfl rfl ?_;intro wa g0 tn;have T:=Hh tn;clear tn;have fd0:wa.cell? ⟨g0,0,none⟩=some (I J 9):=(T.out.get 0 rfl).nth 0 HC.out.1)
 |((with_reducible refine Zd 14 ?_);refine Zw 81 _ g0 9 num (hr1 _ _ _ (T.out.get 0 rfl)) Yy hsnum rfl rfl rfl ?_)
 |(go_at_call 70;refine(hnum _ T.out.below).mono ?_;rintro e we ⟨rfl,bn⟩;have T:=Hh (T.out.call bn);clear bn))
    go_ret;exact⟨rfl,T.out.below⟩
  · go_wp2_with(first
 |((with_reducible refine Zd 1 ?_);refine Zf T.out 85 _ (ys) rfl rfl rfl ?_;intro wa g0 tn;have T:=Hh tn;clear tn;have fd0:wa.cell? ⟨g0,0,none⟩=some (I J 12):=(T.out.get 0 rfl).nth 0 HC.out.1)
 |((with_reducible refine Zd 14 ?_);refine Zw 81 _ g0 9 num (hr1 _ _ _ (T.out.get 0 rfl)) Yy hsnum rfl rfl rfl ?_)
 |(go_at_call 70;refine(hnum _ T.out.below).mono ?_;rintro e we ⟨rfl,bn⟩;have T:=Hh (T.out.call bn);clear bn))
    go_ret;exact⟨rfl,T.out.below⟩
 ·have hR:=HR.out
  rw[if_neg h1]at hR;have n1:(k == 1)=false:=by rw[beq_eq_false_iff_ne];omega
  have n2:(k == 2)=false:=by rw[beq_eq_false_iff_ne];omega
  have n6:(k == 6)=false:=by rw[beq_eq_false_iff_ne];omega
  have n7:(k == 7)=false:=by rw[beq_eq_false_iff_ne];omega
  have n9:(k == 9)=false:=by rw[beq_eq_false_iff_ne];omega
  have n12:(k == 12)=false:=by rw[beq_eq_false_iff_ne];omega
  by_cases h10:k=10
  · subst h10
    rw[if_pos rfl]at hR;clear n1 n2 n6 n7 n9 n12 h1 HR a1 d1;have HR:=Hh hR;clear hR;have D0:=Hh (Eq.refl (wr (z5+z6+z7+1)));have D9:=Hh (Eq.refl (wr (z5+z6+z7+1+(z8+1))));generalize hD1:wr (z5+z6)=D1 at b1 b2;generalize hD2:wr (z5+z6+z7)=D2 at b2 b3;generalize hD3:wr (z5+z6+z7+1)=D3 at b3 b5;generalize hD4:wr (z8+1)=D4 at b4 b5;generalize hD5:wr (z5+z6+z7+1+(z8+1))=D5 at b5;have H3:=Hh hD3;have H5:=Hh hD5;clear hD1 hD2 hD3 hD4 hD5 D0 D9;generalize wr z5=y5 at *;generalize wr z6=y6 at *;generalize wr z7=y7 at *;generalize wr z8=y8 at *;go_upto_region 11 with(((with_reducible refine Zd 1 ?_);refine Zf T.out 85 _ (ys) rfl rfl rfl ?_;intro wa g0 tn;have T:=Hh tn;clear tn;have fd0:wa.cell? ⟨g0,0,none⟩=some (I J 10):=(T.out.get 0 rfl).nth 0 HC.out.1))
    refine wp_region_held_drew (S:=fun x=>Env w [(g0,85,ys)] [] [] x) (by kernel_rfl) T.out.drew (fun hS=>?_);refine Yv (i:=0) (v:=Ω (some ⟨g0,26,none⟩)) rfl rfl (by kernel_rfl) (by kernel_rfl) (by kernel_rfl) (fun _ _ _ h=>h) (Or.inl ⟨by rfl,fun y hy=>by go_simp⟩) hS ?_;try simp only[Qy,Qx]
    refine Yv (i:=1) (v:=Ω (some ⟨g0,27,none⟩)) rfl rfl (by kernel_rfl) (by kernel_rfl) (by kernel_rfl) (fun _ _ _ h=>h) (Or.inl ⟨by rfl,fun y hy=>by go_simp⟩) hS ?_;try simp only[Qy,Qx]
    refine Yv (i:=2) (v:=.agg xl.toArray) rfl rfl (by kernel_rfl) (by kernel_rfl) (by kernel_rfl) (fun _ _ _ h=>h) (Ui rfl rfl rfl (fun y hy=>hr5 _ _ _ (Env.get hy 0 rfl)) Yy hsxl) hS ?_;try simp only[Qy,Qx]
    refine Yv (i:=4) (v:=Ω (some ⟨g0,26,none⟩)) rfl rfl (by kernel_rfl) (by kernel_rfl) (by kernel_rfl) (fun _ _ _ h=>h) (Or.inl ⟨by rfl,fun y hy=>by go_simp⟩) hS ?_;try simp only[Qy,Qx]
    refine Yv (i:=5) (v:=Ω (some ⟨g0,39,none⟩)) rfl rfl (by kernel_rfl) (by kernel_rfl) (by kernel_rfl) (fun _ _ _ h=>h) (Or.inl ⟨by rfl,fun y hy=>by go_simp⟩) hS ?_;try simp only[Qy,Qx]
    refine Yv (i:=6) (v:=.agg xr.toArray) rfl rfl (by kernel_rfl) (by kernel_rfl) (by kernel_rfl) (fun _ _ _ h=>h) (Ui rfl rfl rfl (fun y hy=>hr6 _ _ _ (Env.get hy 0 rfl)) Yy hsxr) hS ?_;try simp only[Qy,Qx]
    refine Yv (i:=9) (v:=Ω (some ⟨g0,51,none⟩)) rfl rfl (by kernel_rfl) (by kernel_rfl) (by kernel_rfl) (fun _ _ _ h=>h) (Or.inl ⟨by rfl,fun y hy=>by go_simp⟩) hS ?_;try simp only[Qy,Qx]
    refine Yv (i:=10) (v:=Λ U tn uc) rfl rfl (by kernel_rfl) (by kernel_rfl) (by kernel_rfl) (fun _ _ _ h=>h) (Or.inl ⟨by rfl,fun y hy=>by have c0:=(Env.get hy 0 rfl).nth 51 HC.out.2.1;go_simp⟩) hS ?_;try simp only[Qy,Qx]
    refine wpAnyH_ready (rs:=[3]) (by kernel_rfl) (by simp) (AllReadyH.cons rfl (fun K hK=>?_) AllReadyH.nil);go_simp;go_at_call 70
    refine(hxl _ hS.below).mono ?_;rintro e wf ⟨rfl,bn⟩;try go_wp2
    refine hK.out _ _ (hS.call bn) (fun hS=>?_);clear hK K bn;try simp only[Act.put,Qz,Qy,Qx]
    refine wpAnyH_ready (rs:=[7]) (by kernel_rfl) (by simp) (AllReadyH.cons rfl (fun K hK=>?_) AllReadyH.nil);go_simp;go_at_call 70
    refine(hxr _ hS.below).mono ?_;rintro e wf ⟨rfl,bn⟩;try go_wp2
    refine hK.out _ _ (hS.call bn) (fun hS=>?_);clear hK K bn;try simp only[Act.put,Qz,Qy,Qx]
    refine Yv (i:=8) (v:=I J D1) rfl rfl (by kernel_rfl) (by kernel_rfl) (by kernel_rfl) (fun _ _ _ h=>h) (Or.inl ⟨by rfl,fun y hy=>by go_simp⟩) hS ?_;try simp only[Qy,Qx]
    refine wpAnyH_ready (rs:=[11]) (by kernel_rfl) (by simp) (AllReadyH.cons rfl (fun K hK=>?_) AllReadyH.nil);go_simp;go_at_call 32
    refine(hth _ hS.below).mono ?_;rintro e we ⟨rfl,bn⟩;try go_wp2
    refine hK.out _ _ (hS.call bn) (fun hS=>?_);clear hK K bn;try simp only[Act.put,Qz,Qy,Qx]
    refine Yv (i:=12) (v:=I J D2) rfl rfl (by kernel_rfl) (by kernel_rfl) (by kernel_rfl) (fun _ _ _ h=>h) (Or.inl ⟨by rfl,fun y hy=>by go_simp⟩) hS ?_;try simp only[Qy,Qx]
    refine Yv (i:=13) (v:=I J D3) rfl rfl (by kernel_rfl) (by kernel_rfl) (by kernel_rfl) (fun _ _ _ h=>h) (Or.inl ⟨by rfl,fun y hy=>by go_simp⟩) hS ?_;try simp only[Qy,Qx]
    refine wpAnyH_ready (rs:=[14]) (by kernel_rfl) (by simp) (AllReadyH.cons rfl (fun K hK=>?_) AllReadyH.nil);go_simp;refine hK.out _ _ hS (fun hS=>?_);clear hK K;try simp only[Act.put,Qz,Qy,Qx]
    refine wpAnyH_done (by kernel_rfl) ?_ _;have T:=Hh hS;clear hS;have fd52:we.cell? ⟨g0,52,none⟩=some (Λ V en vc):=(T.out.get 0 rfl).nth 52 HC.out.2.2;have hen2:(en:Int)≤9223372036854775807:=by omega
    by_cases hE:0<en
    ·have hE2:(0:Int)<(en:Int):=by omega
     have hR:=HR.out;rw[if_pos hE,H5.out]at hR;subst hR;go_wp2_with(first
 |(go_at_call 32;refine(hel _ T.out.below).mono ?_;rintro e we ⟨rfl,bn⟩;have T:=Hh (T.out.call bn);clear bn))
     go_ret;exact⟨rfl,T.out.below⟩
    ·have hE2:¬(0:Int)<(en:Int):=by omega
     have hR:=HR.out;rw[if_neg hE,Int.add_zero,H3.out]at hR;subst hR;go_wp2
     go_ret;exact⟨rfl,T.out.below⟩
  · rw[if_neg h10]at hR
    have n10:(k == 10)=false:=by simpa using h10
    by_cases h11:k=11
    ·subst h11
     rw[if_pos rfl]at hR;subst hR;generalize wr (z7+2)=A1 at *;generalize wr z7=B1 at *;clear n1 n2 n6 n7 n9 n12 n10 h1 h10 HR a1 b1 b2 b3 b4 b5;go_wp2_with(first
 |((with_reducible refine Zd 1 ?_);refine Zf T.out 85 _ (ys) rfl rfl rfl ?_;intro wa g0 tn;have T:=Hh tn;clear tn;have fd0:wa.cell? ⟨g0,0,none⟩=some (I J 11):=(T.out.get 0 rfl).nth 0 HC.out.1;have fd51:wa.cell? ⟨g0,51,none⟩=some (Λ U tn uc):=(T.out.get 0 rfl).nth 51 HC.out.2.1)
 |(go_at_call 32;refine(hth _ T.out.below).mono ?_;rintro e we ⟨rfl,bn⟩;have T:=Hh (T.out.call bn);clear bn))
     go_ret;exact⟨rfl,T.out.below⟩
    ·rw[if_neg h11]at hR
     have n11:(k == 11)=false:=by simpa using h11
     rw[wr_small (by omega) (by omega)]at hR;subst hR;clear h1 h10 h11 HR a1 b1 b2 b3 b4 b5 d1;go_wp2_with(first
 |((with_reducible refine Zd 1 ?_);refine Zf T.out 85 _ (ys) rfl rfl rfl ?_;intro wa g0 tn;have T:=Hh tn;clear tn;have fd0:wa.cell? ⟨g0,0,none⟩=some (I J k):=(T.out.get 0 rfl).nth 0 HC.out.1))
     go_ret;exact⟨rfl,T.out.below⟩
def LSZOK(l:Acs):Prop:=∀(w:World)(N:Nat→Prop)(v:Value),Zs N w (.row l.len l.ds .nil) [v] →
 Calls Φ 32 #[v] w fun e w'=>e=η (I J (wr (We l)))∧Below w.heap.size w w'
theorem Zi.sub{w:World}{g:Nat}{t:TypeId}{l pre vs post:List Value}(h:Zi w g t l.toArray)(hl:l=pre++vs++post){n:Nat}(hn:pre.length=n):w.rangeAt g n vs:=by
 subst hl hn;exact Zi.range h
theorem lActSize_any(h:AH)(t e:Acs)(ht:LSZOK t)(he:LSZOK e)(w:World)(N:Nat→Prop)(ys:List Value)(hd:Zs N w (h.dsr t.len t.ds e.len e.ds) ys) :
  Calls Φ 52 #[.agg ys.toArray] w fun r w'=>r=η (I J (wr (acZ h (We t) (We e) e.len)))∧Below w.heap.size w w':=by
 obtain⟨sel,num,pl,pr,thn,els,rfl,h1,h2,h3,h4,h5,h6⟩:=Znd hd;clear hd;have hnum:=fun x (hb:Below w.heap.size w x)=>Zek h.num x N num (h2.below hb)
 have hcl:=fun x (hb:Below w.heap.size w x)=>Zek h.cl x N pl (h3.below hb)
 have hcr:=fun x (hb:Below w.heap.size w x)=>Zek h.cr x N pr (h4.below hb)
 have hth:=fun x (hb:Below w.heap.size w x)=>ht x N thn (h5.below hb)
 have hel:=fun x (hb:Below w.heap.size w x)=>he x N els (h6.below hb)
 obtain⟨U,uc,_,rfl,_⟩:=h5.inRow;obtain⟨V,vc,_,rfl,⟨hen,_⟩,_⟩:=h6.inRow;have e1:sel.length=6:=by rw[h1.len,Se.ds_len]
 have e2:num.length=12:=by rw[h2.len,Ex.ds_len]
 have e3:pl.length=12:=by rw[h3.len,Ex.ds_len]
 have e4:pr.length=12:=by rw[h4.len,Ex.ds_len]
 obtain⟨c0,c1,c2,_,_,_,_,_,_,c51,c52⟩:=actV_at (k:=h.kind) (l:=h.line) (c:=h.col) (sd:=h.side) (tk:=h.tk) (tl:=h.tl) (how:=h.how) (nm:=h.name) (cop:=h.cop) (thn:=Λ U t.len uc) (els:=Λ V e.len vc) e1 e2 e3 e4;have hyl:(Ym h.kind h.line h.col sel num h.side h.tk h.tl h.how h.name h.cop pl pr (Λ U t.len uc) (Λ V e.len vc)).length=53:=by simp[Ym,e1,e2,e3,e4]
 have r1:∀ x g t',Zi x g t' (Ym h.kind h.line h.col sel num h.side h.tk h.tl h.how h.name h.cop pl pr (Λ U t.len uc) (Λ V e.len vc)).toArray→x.rangeAt g 9 num:=fun x g t' hW=>
  hW.sub (pre:=[I J h.kind,I J h.line,I J h.col]++sel) (post:=I J h.side::I J h.tk::I J h.tl::I J h.how::Ψ h.name::I J h.cop::(pl++(pr++[Λ U t.len uc,Λ V e.len vc]))) (by simp[Ym]) (by simp[e1])
 have r5:∀ x g t',Zi x g t' (Ym h.kind h.line h.col sel num h.side h.tk h.tl h.how h.name h.cop pl pr (Λ U t.len uc) (Λ V e.len vc)).toArray→x.rangeAt g 27 pl:=fun x g t' hW=>
  hW.sub (pre:=[I J h.kind,I J h.line,I J h.col]++sel++num++[I J h.side,I J h.tk,I J h.tl,I J h.how,Ψ h.name,I J h.cop]) (post:=pr++[Λ U t.len uc,Λ V e.len vc]) (by simp[Ym]) (by simp[e1,e2])
 have r6:∀ x g t',Zi x g t' (Ym h.kind h.line h.col sel num h.side h.tk h.tl h.how h.name h.cop pl pr (Λ U t.len uc) (Λ V e.len vc)).toArray→x.rangeAt g 39 pr:=fun x g t' hW=>
  hW.sub (pre:=[I J h.kind,I J h.line,I J h.col]++sel++num++[I J h.side,I J h.tk,I J h.tl,I J h.how,Ψ h.name,I J h.cop]++pl) (post:=[Λ U t.len uc,Λ V e.len vc]) (by simp[Ym]) (by simp[e1,e2,e3])
 have hv:acZ h (We t) (We e) e.len=acZ6 h.kind (exZ h.num) (exZ h.cl) (exZ h.cr) (We t) (We e) e.len:=rfl;rw[hv];generalize Ym h.kind h.line h.col sel num h.side h.tk h.tl h.how h.name h.cop pl pr (Λ U t.len uc) (Λ V e.len vc)=ys at *;exact lActSize_raw ys num pl pr U V t.len uc e.len vc h.kind w _ _ _ _ _ hyl c0 c51 c52 hen r1 r5 r6 (by rw[e2];exact Yi) (by rw[e3];exact Yi) (by rw[e4];exact Yi) hnum hcl hcr hth hel
theorem lActsSize_walk(l:Acs)(hall:∀ k u,l.at? k=some u→LSZOK u.2.1∧LSZOK u.2.2):LSZOK l:=by
 intro w N v hv;obtain⟨B,bc,xs,rfl,hn,hw,hd⟩:=hv.inRow;clear hv;obtain⟨n,hn0⟩:∃ n,n=l.len:=⟨_,rfl⟩
 rw[←hn0]at hn ⊢;have HN:=Hh hn0;have HW:=Hh (ζ hw hd);have HA:=Hh hall;obtain⟨R,hR⟩:∃ R,R=We l:=⟨_,rfl⟩
 rw[←hR];have HV:=Hh hR;clear hw hd hall hn0 hR;have l63:(n:Int)≤9223372036854775807:=by omega
 have T:=Hh (Env.start w);go_enter Tryz.func32,Tryz.ntmps32;go_wp2
 go_loopw [3,8] (fun s i wy=>∃ m:Nat,i=I J m∧m≤n∧s=I J (Go.Proofs.YtbdecchpleiepaaGreat.wr (R - We (l.dropA m)))∧Env w [] [] [] wy) (fun _ i _=>n - (intOf i).toNat)
 case atStart=>exact⟨0,by go_num,Nat.zero_le _,by rw[show l.dropA 0=l from by cases l<;>rfl,HV.out,Int.sub_self];rfl,T.out⟩
 case round=>
  obtain⟨m,rfl,hm,rfl,hT⟩:=hrel;have T:=Hh hT;clear hT;by_cases hlt:m<n
  · obtain⟨u,hu⟩:=Acs.at_some l m (by rw[←HN.out];exact hlt)
    obtain⟨g,ys,rfl,hg,hR,hy⟩:=act_at HW.out.1 HW.out.2 hu;have hyl:ys.length=53:=by rw[hy.len,AH.dsr_len]
    have hx:=fun x (hb:Below w.heap.size w x)=>lActSize_any u.1 u.2.1 u.2.2 (HA.out m u hu).1 (HA.out m u hu).2 x N ys (hy.below hb)
    have hsum:IntKind.i64.wrap (Go.Proofs.YtbdecchpleiepaaGreat.wr (R - We (l.dropA m))+Go.Proofs.YtbdecchpleiepaaGreat.wr (acZ u.1 (We u.2.1) (We u.2.2) u.2.2.len))=Go.Proofs.YtbdecchpleiepaaGreat.wr (R - We (l.dropA (m+1))):=by
     have e:=Acs.drop_at l m u hu;have e2:We (l.dropA m)=acZ u.1 (We u.2.1) (We u.2.2) u.2.2.len+We (l.dropA (m+1)):=by rw[e];rfl
     rw[show R - We (l.dropA (m+1))=R - We (l.dropA m)+acZ u.1 (We u.2.1) (We u.2.2) u.2.2.len from by omega];exact Zmn _ _
    generalize acZ u.1 (We u.2.1) (We u.2.2) u.2.2.len=X at *;have HR:Hid (∀ y,Below w.heap.size w y→y.rangeAt g (m*53) ys):=Hh fun y hb j v hv=>(World.cell?_of_block (a:=⟨g,m*53+j,none⟩) (hb.block g hg)).trans (hR j v hv)
    have HY:=Hh hy;clear hy hR hu;have lk:(m:Int)<(n:Int):=by omega
    generalize Go.Proofs.YtbdecchpleiepaaGreat.wr (R - We (l.dropA m))=s0 at *;generalize Go.Proofs.YtbdecchpleiepaaGreat.wr X=x0 at *;obtain⟨s1,hs1⟩:∃ s1,s1=Go.Proofs.YtbdecchpleiepaaGreat.wr (R - We (l.dropA (m+1))):=⟨_,rfl⟩
    rw[←hs1]at hsum;have HS:=Hh hs1;clear hs1;go_wp2_with(first
 |((with_reducible refine Zd 11 ?_);refine Zw 85 _ g (m*53) ys (HR.out _ T.out.below) Vn (by rw[hyl];exact Xe) rfl rfl rfl ?_)
 |((with_reducible refine Zd 5 ?_);refine Zb T.out 85 _ rfl rfl Zgn ?_;intro wc g2 tn;have T:=Hh tn;clear tn)
 |((with_reducible refine Zg 5 11 ?_);refine Za 85 _ _ 85 g2 _ (ys) (T.out.get 0 rfl) hyl (by rw[hyl];exact Xe) HY.out.one rfl rfl rfl rfl rfl ?_;intro wd p;have T:=Hh (T.out.put 0 rfl p);clear p)
 |((with_reducible refine Zd 13 ?_);refine Zc 85 _ 85 g2 (ys) (T.out.get 0 rfl) Vn (by rw[hyl];exact Xe) rfl rfl rfl ?_)
 |(go_at_call 52;refine(hx _ T.out.below).mono ?_;rintro e we ⟨rfl,bn⟩;have T:=Hh (T.out.call bn);clear bn))
    go_roundw
    case rel=>exact⟨m+1,by go_num,by omega,by rw[HS.out],T.out.less (bs:=[]) (cs:=[_]) (ts:=[]) (us:=[])⟩
    case measure=>simp[intOf];omega
  · have hf:Go.Proofs.YtbdecchpleiepaaGreat.wr (R - We (l.dropA m))=Go.Proofs.YtbdecchpleiepaaGreat.wr R:=by rw[Acs.drop_end l m (by have:=HN.out;omega)];show Go.Proofs.YtbdecchpleiepaaGreat.wr (R - 0)=_;rw[Int.sub_zero]
    rw[hf];go_wp2
    go_ret;exact⟨rfl,T.out.below⟩
theorem Zhn(l:Acs):LSZOK l:=
 lActsSize_walk l fun k u hu=>
  have h:=Acs.at_lt l k u hu
  ⟨Zhn u.2.1,Zhn u.2.2⟩
termination_by SizeOf.sizeOf l
decreasing_by
 ·exact(Acs.at_lt l k u hu).1
 ·exact(Acs.at_lt l k u hu).2
theorem lSize_any(a b c d:Int)(l:Acs)(w:World)(N:Nat→Prop)(v:Value)(h:Zs N w (.row l.len l.ds .nil) [v]) :
  Calls Φ 11 #[.agg ([I J a,I J b,I J c,I J d,v]:List Value).toArray] w fun e w'=>e=η (I J (wr (We l)))∧Below w.heap.size w w':=by
 have hs:=fun x (hb:Below w.heap.size w x)=>Zhn l x N v (h.below hb)
 obtain⟨A,k,_,rfl,_⟩:=h.inRow;clear h;generalize wr (We l)=Z at *;go_enter Tryz.func11,Tryz.ntmps11;go_wp2_with(go_at_call 32;refine(hs _ (Zh _ _)).mono ?_;rintro e w1 ⟨rfl,b1⟩)
 go_ret;exact⟨rfl,Wg (Zh _ _) b1⟩
section
variable (c:Sc) (st ln cl:Int) (A:Option Addr) (rn rk:Nat)
theorem lFault_any(e:Int)(w:World):Calls Φ 48 #[.agg (scL c st ln cl A rn rk).toArray,I J e] w fun r w'=>r=η (faV (atF e ln cl))∧Below w.heap.size w w':=by
 have hf:=fun x=>lFaultAt e ln cl x
 generalize atF e ln cl=F at *;obtain⟨pl,whn,ea⟩:=c;dsimp only[scL]at *;have T:=Hh (Env.start w);go_enter Tryz.func48,Tryz.ntmps48;go_wp2_with(first
 |((with_reducible refine Zd 2 ?_);refine Zf T.out 107 _ ([I J whn,I J st,I J ln,I J cl,Λ A rn rk,.bool pl,.bool ea]) rfl rfl rfl ?_;intro wa g0 tn;have T:=Hh tn;clear tn)
 |((with_reducible refine Zd 4 ?_);refine Zb T.out 29 _ rfl rfl Wu ?_;intro wb g1 tn;have T:=Hh tn;clear tn;obtain⟨fc0,fc1,fc2,fc3,fc4,fc5,fc6⟩:=Yo (T.out.get 0 rfl))
 |(go_at_call 66;refine(hf _).mono ?_;rintro r wc ⟨rfl,bn⟩;have T:=Hh (T.out.call bn);clear bn)
 |((with_reducible refine Zg 4 12 ?_);refine Za 29 _ _ 29 g1 _ (faL F) (T.out.get 1 rfl) rfl Zj (Zhq _) rfl rfl rfl rfl rfl ?_;intro wd p;have T:=Hh (T.out.put 1 rfl p);clear p))
 exact Ya 4 29 29 g1 (faL F) rfl (T.out.get 1 rfl) Yf Zj rfl rfl ⟨rfl,T.out.below⟩
theorem lBehind_any(l:Acs)(w:World)(N:Nat→Prop)(h:Zs N w (.row l.len l.ds .nil) [Λ A rn rk]) :
  Calls Φ 51 #[.agg (scL c st ln cl A rn rk).toArray] w fun e w'=>e=η (I J (if 96<wr (We l)then 3 else 0))∧Below w.heap.size w w':=by
 have hs:=fun x (hb:Below w.heap.size w x)=>lSize_any c.whn st ln cl l x N _ (h.below hb)
 clear h;generalize wr (We l)=Z at *;obtain⟨pl,whn,ea⟩:=c;dsimp only[scL]at *;go_enter Tryz.func51,Tryz.ntmps51;by_cases hz:96<Z
 ·rw[if_pos hz]
  go_wp2_with(go_at_call 11;refine(hs _ (Zh _ _)).mono ?_;rintro e w1 ⟨rfl,b1⟩)
  go_ret;exact⟨rfl,Wg (Zh _ _) b1⟩
 ·rw[if_neg hz]
  go_wp2_with(go_at_call 11;refine(hs _ (Zh _ _)).mono ?_;rintro e w1 ⟨rfl,b1⟩)
  go_ret;exact⟨rfl,Wg (Zh _ _) b1⟩
theorem lBefore_any(i:Int)(w:World):Calls Φ 49 #[.agg (scL c st ln cl A rn rk).toArray,I J i] w fun e w'=>e=η (I J (Zap c.place i ⟨c.whn,st,ln,cl,.nil⟩))∧Below w.heap.size w w':=by
 have ht:=fun x=>lTriggered c st ln cl A rn rk x
 have ha:=fun x=>lAlways c st ln cl A rn rk x
 have ho:=fun x=>Ziv st 1 3 x
 have hv:Zap c.place i ⟨c.whn,st,ln,cl,.nil⟩=if 4≤i then 9 else if(if c.whn=6 then c.place else if c.whn=2∨c.whn=3 then !c.place else true)=false then 13 else if(c.whn == 5 && Zew st 1 3)=true then 12 else 0:=rfl
 generalize Zap c.place i ⟨c.whn,st,ln,cl,.nil⟩=V at *;generalize(if c.whn=6 then c.place else if c.whn=2∨c.whn=3 then !c.place else true)=q1 at *;generalize(c.whn == 5)=q2 at *;generalize Zew st 1 3=q3 at *;obtain⟨pl,whn,ea⟩:=c;dsimp only[scL]at *;have T:=Hh (Env.start w);go_enter Tryz.func49,Tryz.ntmps49;by_cases h4:4≤i
 ·go_wp2_with(first
 |((with_reducible refine Zd 2 ?_);refine Zf T.out 107 _ ([I J whn,I J st,I J ln,I J cl,Λ A rn rk,.bool pl,.bool ea]) rfl rfl rfl ?_;intro wn gn tn;have T:=Hh tn;clear tn;obtain⟨fc0,fc1,fc2,fc3,fc4,fc5,fc6⟩:=Yo (T.out.get 0 rfl))
 |(go_at_call 67;refine(ht _).mono ?_;rintro e wn ⟨rfl,bn⟩;have T:=Hh (T.out.call bn);clear bn;obtain⟨fc0,fc1,fc2,fc3,fc4,fc5,fc6⟩:=Yo (T.out.get 0 rfl))
 |(go_at_call 68;refine(ha _).mono ?_;rintro e wn ⟨rfl,bn⟩;have T:=Hh (T.out.call bn);clear bn;obtain⟨fc0,fc1,fc2,fc3,fc4,fc5,fc6⟩:=Yo (T.out.get 0 rfl))
 |(go_at_call 30;refine(ho _).mono ?_;rintro e wn ⟨rfl,bn⟩;have T:=Hh (T.out.call bn);clear bn;obtain⟨fc0,fc1,fc2,fc3,fc4,fc5,fc6⟩:=Yo (T.out.get 0 rfl)))
  go_ret;exact⟨by rw[hv,if_pos h4];rfl,T.out.below⟩
 ·rw[if_neg h4]at hv
  cases q1
  · rw[if_pos rfl]at hv
    go_wp2_with(first
 |((with_reducible refine Zd 2 ?_);refine Zf T.out 107 _ ([I J whn,I J st,I J ln,I J cl,Λ A rn rk,.bool pl,.bool ea]) rfl rfl rfl ?_;intro wn gn tn;have T:=Hh tn;clear tn;obtain⟨fc0,fc1,fc2,fc3,fc4,fc5,fc6⟩:=Yo (T.out.get 0 rfl))
 |(go_at_call 67;refine(ht _).mono ?_;rintro e wn ⟨rfl,bn⟩;have T:=Hh (T.out.call bn);clear bn;obtain⟨fc0,fc1,fc2,fc3,fc4,fc5,fc6⟩:=Yo (T.out.get 0 rfl))
 |(go_at_call 68;refine(ha _).mono ?_;rintro e wn ⟨rfl,bn⟩;have T:=Hh (T.out.call bn);clear bn;obtain⟨fc0,fc1,fc2,fc3,fc4,fc5,fc6⟩:=Yo (T.out.get 0 rfl))
 |(go_at_call 30;refine(ho _).mono ?_;rintro e wn ⟨rfl,bn⟩;have T:=Hh (T.out.call bn);clear bn;obtain⟨fc0,fc1,fc2,fc3,fc4,fc5,fc6⟩:=Yo (T.out.get 0 rfl)))
    go_ret;exact⟨by rw[hv];rfl,T.out.below⟩
  · rw[if_neg (by decide)]at hv
    cases q2<;>cases q3 <;>
    ·simp only[Bool.false_and,Bool.true_and,Bool.and_self,Bool.and_false,if_true,if_false,Bool.false_eq_true]at hv
     go_wp2_with(first
 |((with_reducible refine Zd 2 ?_);refine Zf T.out 107 _ ([I J whn,I J st,I J ln,I J cl,Λ A rn rk,.bool pl,.bool ea]) rfl rfl rfl ?_;intro wn gn tn;have T:=Hh tn;clear tn;obtain⟨fc0,fc1,fc2,fc3,fc4,fc5,fc6⟩:=Yo (T.out.get 0 rfl))
 |(go_at_call 67;refine(ht _).mono ?_;rintro e wn ⟨rfl,bn⟩;have T:=Hh (T.out.call bn);clear bn;obtain⟨fc0,fc1,fc2,fc3,fc4,fc5,fc6⟩:=Yo (T.out.get 0 rfl))
 |(go_at_call 68;refine(ha _).mono ?_;rintro e wn ⟨rfl,bn⟩;have T:=Hh (T.out.call bn);clear bn;obtain⟨fc0,fc1,fc2,fc3,fc4,fc5,fc6⟩:=Yo (T.out.get 0 rfl))
 |(go_at_call 30;refine(ho _).mono ?_;rintro e wn ⟨rfl,bn⟩;have T:=Hh (T.out.call bn);clear bn;obtain⟨fc0,fc1,fc2,fc3,fc4,fc5,fc6⟩:=Yo (T.out.get 0 rfl)))
     go_ret;exact⟨by rw[hv];rfl,T.out.below⟩
end
end Go.Proofs.YtbdecchpleiepaaGreat
