/- Parts of the proof. No conditions but those that each names. -/
import Derived.Test.YtbdecchpleiepaaGreatQL23
import Derived.Test.YtbdecchpleiepaaGreatQL24
set_option maxRecDepth 20000
set_option maxHeartbeats 99000000
set_option linter.unusedVariables false
set_option linter.unusedSimpArgs false
namespace Go.Proofs.YtbdecchpleiepaaGreat
open Go.Value renaming int→I,slice→Λ,pointer→Ω,string→Ψ
open Go.IntKind renaming i64→J
open _root_.Go.Proofs.Tryz renaming prog→Φ
open Go.Ending renaming returned→η
open Go.ChangeShapes Go.WideShapes Go.ChangeAt Go.RowKit
structure ActX(ys sel num cl cr:List Value)(k sd tk tl ln co:Int)(thn els:Value):Prop where
 len:ys.length=53
 e1:sel.length=6
 e2:num.length=12
 e3:cl.length=12
 e4:cr.length=12
 c0:ys[0]?=some (I J k)
 c1:ys[1]?=some (I J ln)
 c2:ys[2]?=some (I J co)
 c21:ys[21]?=some (I J sd)
 c22:ys[22]?=some (I J tk)
 c23:ys[23]?=some (I J tl)
 c51:ys[51]?=some thn
 c52:ys[52]?=some els
 rs:∀(x:World)(g:Nat)(t:TypeId),Zi x g t ys.toArray→x.rangeAt g 3 sel
 rn:∀(x:World)(g:Nat)(t:TypeId),Zi x g t ys.toArray→x.rangeAt g 9 num
 rl:∀(x:World)(g:Nat)(t:TypeId),Zi x g t ys.toArray→x.rangeAt g 27 cl
 rr:∀(x:World)(g:Nat)(t:TypeId),Zi x g t ys.toArray→x.rangeAt g 39 cr
theorem Zcm{x:World}{g n:Nat}{t:TypeId}{pre vs post ys:List Value}(e:ys=pre++vs++post)(hn:pre.length=n)(hw:Zi x g t ys.toArray):x.rangeAt g n vs:=by
 subst e hn;exact hw.range
theorem bool_neT{a b:Bool}(h:(a != b)=true):(a == b)=false:=by cases a<;>cases b<;>first | rfl | cases h
theorem bool_neF{a b:Bool}(h:(a != b)=false):(a == b)=true:=by cases a<;>cases b<;>first | rfl | cases h
theorem Vd{w y:World}{g k:Nat}{vs:List Value}(h:w.rangeAt g k vs)(hg:g<w.heap.size)(b:Below w.heap.size w y):y.rangeAt g k vs:=fun j v hv=>(World.cell?_of_block (a:=⟨g,k+j,none⟩) (b.block g hg)).trans (h j v hv)
theorem actX{k l c sd tk tl how cop:Int}{nm:ByteArray}{sel num cl cr:List Value}{thn els:Value}(e1:sel.length=6)(e2:num.length=12)(e3:cl.length=12)(e4:cr.length=12) :
  ActX (Ym k l c sel num sd tk tl how nm cop cl cr thn els) sel num cl cr k sd tk tl l c thn els:=by
 obtain⟨c0,c1,c2,c21,c22,c23,_,_,_,c51,c52⟩:=actV_at (k:=k) (l:=l) (c:=c) (sd:=sd) (tk:=tk) (tl:=tl) (how:=how) (nm:=nm) (cop:=cop) (thn:=thn) (els:=els) e1 e2 e3 e4;refine⟨by simp[Ym,e1,e2,e3,e4],e1,e2,e3,e4,c0,c1,c2,c21,c22,c23,c51,c52,fun x g t hw=>?_,fun x g t hw=>?_,fun x g t hw=>?_,fun x g t hw=>?_⟩
 ·exact Zcm (pre:=[I J k,I J l,I J c]) (post:=num++(I J sd::I J tk::I J tl::I J how::Ψ nm::I J cop::(cl++(cr++[thn,els])))) (by simp[Ym]) (by simp) hw
 ·exact Zcm (pre:=[I J k,I J l,I J c]++sel) (post:=I J sd::I J tk::I J tl::I J how::Ψ nm::I J cop::(cl++(cr++[thn,els]))) (by simp[Ym]) (by simp[e1]) hw
 ·exact Zcm (pre:=[I J k,I J l,I J c]++sel++num++[I J sd,I J tk,I J tl,I J how,Ψ nm,I J cop]) (post:=cr++[thn,els]) (by simp[Ym]) (by simp[e1,e2]) hw
 ·exact Zcm (pre:=[I J k,I J l,I J c]++sel++num++[I J sd,I J tk,I J tl,I J how,Ψ nm,I J cop]++cl) (post:=[thn,els]) (by simp[Ym]) (by simp[e1,e2,e3]) hw
theorem built3(A B C:List Value)(ha:A.length=12)(hb:B.length=12)(hc:C.length=12):Tryz.prog.builtSlice 81 3 [(0,.agg A.toArray),(1,.agg B.toArray),(2,.agg C.toArray)]=some (A++B++C).toArray:=by
 obtain⟨a0,a1,a2,a3,a4,a5,a6,a7,a8,a9,a10,a11,rfl⟩:=Zda A ha;obtain⟨b0,b1,b2,b3,b4,b5,b6,b7,b8,b9,b10,b11,rfl⟩:=Zda B hb;obtain⟨c0,c1,c2,c3,c4,c5,c6,c7,c8,c9,c10,c11,rfl⟩:=Zda C hc;kernel_rfl
theorem Zif{ops:Array Oper}{rest:List Oper}{o:Oper}{a:Act}{w x:World}{Q:Exit→Act→World→Prop}{bs:List Bk}{ts:List (Ds×List Value)}{d:Tmp}(h:Env w bs [] ts x)(hd:o.dst=some d)(x1 x2 x3:Operand)(A B C:List Value)(ha:A.length=12)(hb:B.length=12)(hc:C.length=12)
  (hg:o.guard=none)(ho:o.op=.buildSlice 79 3 #[(0,x1),(1,x2),(2,x3)])(h1:a.eval x1=.agg A.toArray)(h2:a.eval x2=.agg B.toArray)(h3:a.eval x3=.agg C.toArray)
  (k:∀ y g,Env w (bs++[(g,81,A++B++C)]) [] ts y→wpList Φ ops Q rest (a.put (some d) (Λ (some ⟨g,0,none⟩) 3 3)) y):wpList Φ ops Q (o::rest) a x:=
 Great.wpList_buildSliceTo hg _ 81 3 _ ho x.heap.size rfl (some d) hd lund_exs (A++B++C).toArray (by simpa[h1,h2,h3]using built3 A B C ha hb hc) (k _ _ (h.box 81 (A++B++C)))
theorem rAct_any(c:Sc)(h:AH)(tn en:Nat)(t e:Ds)(w:World)(N:Nat→Prop)(ys:List Value)(hd:Zs N w (h.dsr tn t en e) ys) :
  Calls Φ 53 #[.agg (inL c).toArray,.agg ys.toArray] w fun r w'=>r=η (I J (rAct c h))∧Below w.heap.size w w':=by
 obtain⟨sel,num,cl,cr,thn,els,rfl,h1,h2,h3,h4,h5,h6⟩:=Znd hd;have e1:sel.length=6:=by rw[h1.len,Se.ds_len]
 have ha:=actX (k:=h.kind) (l:=h.line) (c:=h.col) (sd:=h.side) (tk:=h.tk) (tl:=h.tl) (how:=h.how) (cop:=h.cop) (nm:=h.name) (thn:=thn) (els:=els) e1 h2.len12 h3.len12 h4.len12;have HS:=Hh (fun y (b:Below w.heap.size w y)=>rSel c h.sel y N sel (h1.below b));have HD:=Hh (fun y=>rSide c h.side y);have HT:=Hh (fun y=>rLane h.tk h.tl y);obtain⟨R,hR⟩:∃ R:Nat→Int,R=fun m=>Zka c ([h.num,h.cl,h.cr].drop m):=⟨_,rfl⟩
 have HX3:Hid (∀ m,m<3→∃ vs v,vs.length=12∧R m=orE v (R (m+1))∧(∀(y:World)(g:Nat)(t:TypeId),Zi y g t (num++cl++cr).toArray→y.rangeAt g (m*12) vs) ∧
    ∀ y,Below w.heap.size w y→Calls Φ 74 #[.agg (inL c).toArray,.agg vs.toArray] y fun e w'=>e=η (I J v)∧Below y.heap.size y w'):=Hh fun m hm=>by
  rw[hR];rcases(show m=0∨m=1∨m=2 by omega)with rfl | rfl | rfl
  ·exact⟨num,_,h2.len12,rfl,fun y g t hw=>Zcm (pre:=[]) (post:=cl++cr) (by simp) rfl hw,fun y b=>Zgk c h.num y N num (h2.below b)⟩
  ·exact⟨cl,_,h3.len12,rfl,fun y g t hw=>Zcm (pre:=num) (post:=cr) rfl (by simp[h2.len12]) hw,fun y b=>Zgk c h.cl y N cl (h3.below b)⟩
  ·exact⟨cr,_,h4.len12,rfl,fun y g t hw=>Zcm (pre:=num++cl) (post:=[]) (by simp) (by simp[h2.len12,h3.len12]) hw,fun y b=>Zgk c h.cr y N cr (h4.below b)⟩
 have HR3:Hid (R 3=0):=Hh (by rw[hR];rfl);have hp:rParts c h=orE (orE (orE (Jy c h.sel) (Uo c h.side)) (lTo h.tk h.tl)) (R 0):=by rw[hR];rfl
 rw[lSide_rs,lTo_rl]at hp;obtain⟨V,hV⟩:∃ V,V=rAct c h:=⟨_,rfl⟩
 rw[←hV];unfold rAct at hV;generalize rParts c h=PV at *;generalize Ym h.kind h.line h.col sel num h.side h.tk h.tl h.how h.name h.cop cl cr thn els=ys at *;generalize Jy c h.sel=s0 at *;generalize rsB c h.side=b1 at *;generalize rlB h.tk h.tl=b2 at *;generalize h.kind=K at *;generalize h.side=sd at *;generalize h.tk=tk at *;generalize h.tl=tl at *;generalize h.line=ln at *;generalize h.col=co at *;have HA:=Hh ha;clear ha h1 h2 h3 h4 h5 h6 hd e1 hR;obtain⟨pl,whn,ea⟩:=c;simp only[inL]at *;have T:=Hh (Env.start w)
 have hc:(V=13∧(K != 10)=true∧(decide (11<K) != (whn == 5))=true)∨(V=8∧K=11∧ea=true∧(whn == 5)=false)∨(V=PV∧((K=10)∨((K != 10)=true∧(decide (11<K) != (whn == 5))=false∧(K == 11)=false)∨(K=11∧ea=false∧(whn == 5)=false))):=by
  by_cases k10:K=10
  · subst k10
    exact .inr (.inr ⟨hV.trans rfl,.inl rfl⟩)
  · have f1:(K != 10)=true:=by simpa using k10
    have f1':(!(K == 10))=true:=f1;rw[f1',Bool.true_and]at hV;cases q:(decide (11<K) != (whn == 5))with
    |true=>rw[q]at hV;exact .inl ⟨hV,f1,rfl⟩
    |false=>
     rw[q]at hV;by_cases k11:K=11
     ·subst k11
      have f3:(whn == 5)=false:=by
       cases z:(whn == 5)with
       |false=>rfl
       |true=>rw[z]at q;exact absurd q (by decide)
      cases ea
      ·exact .inr (.inr ⟨hV,.inr (.inr ⟨rfl,rfl,f3⟩)⟩)
      ·exact .inr (.inl ⟨hV,rfl,rfl,f3⟩)
     ·have f3:(K == 11)=false:=by simpa using k11
      rw[f3]at hV;exact .inr (.inr ⟨hV,.inr (.inl ⟨f1,rfl,f3⟩)⟩)
 clear hV;rcases hc with⟨rfl,f1,f2⟩ | ⟨rfl,rfl,he,f2⟩ | ⟨rfl,hc⟩
 ·have f2:=bool_neT f2
  go_enter Tryz.func53,Tryz.ntmps53;go_wp2_with(first
 |((with_reducible refine Zd 2 ?_);refine Zf T.out 89 _ ([.bool pl,I J whn,.bool ea]) rfl rfl rfl ?_;intro wa g0 tn;have T:=Hh tn;clear tn)
 |((with_reducible refine Zd 3 ?_);refine Zf T.out 85 _ ys rfl rfl rfl ?_;intro wb g1 tn;have T:=Hh tn;clear tn;have c00:=T.out.cell 0 0 rfl rfl;have c01:=T.out.cell 0 1 rfl rfl;have c02:=T.out.cell 0 2 rfl rfl;have c10:=T.out.cell 1 0 rfl HA.out.c0;have c11:=T.out.cell 1 21 rfl HA.out.c21;have c12:=T.out.cell 1 22 rfl HA.out.c22;have c13:=T.out.cell 1 23 rfl HA.out.c23))
  go_ret;exact⟨rfl,T.out.below⟩
 ·go_enter Tryz.func53,Tryz.ntmps53
  go_wp2_with(first
 |((with_reducible refine Zd 2 ?_);refine Zf T.out 89 _ ([.bool pl,I J whn,.bool ea]) rfl rfl rfl ?_;intro wa g0 tn;have T:=Hh tn;clear tn)
 |((with_reducible refine Zd 3 ?_);refine Zf T.out 85 _ ys rfl rfl rfl ?_;intro wb g1 tn;have T:=Hh tn;clear tn;have c00:=T.out.cell 0 0 rfl rfl;have c01:=T.out.cell 0 1 rfl rfl;have c02:=T.out.cell 0 2 rfl rfl;have c10:=T.out.cell 1 0 rfl HA.out.c0;have c11:=T.out.cell 1 21 rfl HA.out.c21;have c12:=T.out.cell 1 22 rfl HA.out.c22;have c13:=T.out.cell 1 23 rfl HA.out.c23))
  go_ret;exact⟨rfl,T.out.below⟩
 ·have hn:∃ u,V=orE u (R 0)∧((u≠0∧(s0=u∨(s0=0∧b1=true∧u=24)∨(s0=0∧b1=false∧b2=true∧u=20)))∨(u=0∧s0=0∧b1=false∧b2=false)):=by
    by_cases q0:s0=0
    ·subst q0
     cases b1<;>cases b2
     ·exact⟨0,hp,.inr ⟨rfl,rfl,rfl,rfl⟩⟩
     ·exact⟨20,hp,.inl ⟨by decide,.inr (.inr ⟨rfl,rfl,rfl,rfl⟩)⟩⟩
     ·exact⟨24,hp,.inl ⟨by decide,.inr (.inl ⟨rfl,rfl,rfl⟩)⟩⟩
     ·exact⟨24,hp,.inl ⟨by decide,.inr (.inl ⟨rfl,rfl,rfl⟩)⟩⟩
    ·refine⟨s0,?_,.inl ⟨q0,.inl rfl⟩⟩
     rw[hp,show orE s0 (if b1=true then 24 else 0)=s0 from if_neg q0,show orE s0 (if b2=true then 20 else 0)=s0 from if_neg q0]
  clear hp;obtain⟨u,hz,hn⟩:=hn;have HZ0:=Hh hz;clear hz;go_enter Tryz.func53,Tryz.ntmps53;go_upto_region 2 with(first
 |((with_reducible refine Zd 2 ?_);refine Zf T.out 89 _ ([.bool pl,I J whn,.bool ea]) rfl rfl rfl ?_;intro wa g0 tn;have T:=Hh tn;clear tn)
 |((with_reducible refine Zd 3 ?_);refine Zf T.out 85 _ ys rfl rfl rfl ?_;intro wb g1 tn;have T:=Hh tn;clear tn;have c00:=T.out.cell 0 0 rfl rfl;have c01:=T.out.cell 0 1 rfl rfl;have c02:=T.out.cell 0 2 rfl rfl;have c10:=T.out.cell 1 0 rfl HA.out.c0;have c11:=T.out.cell 1 21 rfl HA.out.c21;have c12:=T.out.cell 1 22 rfl HA.out.c22;have c13:=T.out.cell 1 23 rfl HA.out.c23))
  go_cut [20]from 11 to 20 (fun c wx=>c=.bool false∧Env w [(g0,89,[.bool pl,I J whn,.bool ea]),(g1,85,ys)] [] [] wx)
  case first=>
    rcases hc with rfl | ⟨f1,f2,f3⟩ | ⟨rfl,he,f2⟩
    all_goals
     try have f2:=bool_neF f2
     go_wp2
     go_meet
     exact⟨rfl,T.out⟩
  case rest=>
    obtain⟨rfl,hT⟩:=hcut;have T:=Hh hT;clear hT c00 c01 c02 c10 c11 c12 c13;have c00:=T.out.cell 0 0 rfl rfl;have c01:=T.out.cell 0 1 rfl rfl;have c02:=T.out.cell 0 2 rfl rfl;have c10:=T.out.cell 1 0 rfl HA.out.c0;have c11:=T.out.cell 1 21 rfl HA.out.c21;have c12:=T.out.cell 1 22 rfl HA.out.c22;have c13:=T.out.cell 1 23 rfl HA.out.c23;go_upto_region 4 with fail
    go_cut [26]from 21 to 26 (fun c wx=>c=.bool false∧Env w [(g0,89,[.bool pl,I J whn,.bool ea]),(g1,85,ys)] [] [] wx)
    case first=>
     rcases hc with rfl | ⟨f1,f2,f3⟩ | ⟨rfl,he,f2⟩
     rotate_right
     rw[he]at c02;clear he
     all_goals
      go_wp2
      go_meet
      exact⟨rfl,T.out⟩
    case rest=>
    obtain⟨rfl,hT⟩:=hcut;have T:=Hh hT;clear hT hc c00 c01 c02 c10 c11 c12 c13;have c00:=T.out.cell 0 0 rfl rfl;have c01:=T.out.cell 0 1 rfl rfl;have c02:=T.out.cell 0 2 rfl rfl;have c10:=T.out.cell 1 0 rfl HA.out.c0;have c11:=T.out.cell 1 21 rfl HA.out.c21;have c12:=T.out.cell 1 22 rfl HA.out.c22;have c13:=T.out.cell 1 23 rfl HA.out.c23;rcases hn with⟨n0,hn⟩ | ⟨rfl,rfl,rfl,rfl⟩
    ·have hb0:(u == 0)=false:=by simpa using n0
     have HVU:=Hh (show V=u∧(u == 0)=false from⟨HZ0.out.trans (if_neg n0),hb0⟩);clear n0;rcases hn with rfl | ⟨rfl,rfl,rfl⟩ | ⟨rfl,rfl,rfl,rfl⟩
     all_goals
      go_wp2_with(first
 |((with_reducible refine Zd 27 ?_);refine Zc 89 _ 89 g0 ([.bool pl,I J whn,.bool ea]) (T.out.get 0 rfl) Jr Wq rfl rfl rfl ?_)
 |((with_reducible refine Zd 34 ?_);refine Zc 89 _ 89 g0 ([.bool pl,I J whn,.bool ea]) (T.out.get 0 rfl) Jr Wq rfl rfl rfl ?_)
 |((with_reducible refine Zd 29 ?_);refine Zw 76 _ g1 3 sel (HA.out.rs _ _ _ (T.out.get 1 rfl)) lrow_se (by rw[HA.out.e1];exact lsize_se) rfl rfl rfl ?_)
 |((with_reducible refine Zd 47 ?_);refine Zw 81 _ g1 9 num (HA.out.rn _ _ _ (T.out.get 1 rfl)) Yy (Wo HA.out.e2) rfl rfl rfl ?_)
 |((with_reducible refine Zd 50 ?_);refine Zw 81 _ g1 27 cl (HA.out.rl _ _ _ (T.out.get 1 rfl)) Yy (Wo HA.out.e3) rfl rfl rfl ?_)
 |((with_reducible refine Zd 53 ?_);refine Zw 81 _ g1 39 cr (HA.out.rr _ _ _ (T.out.get 1 rfl)) Yy (Wo HA.out.e4) rfl rfl rfl ?_)
 |(go_at_call 71;refine(HS.out _ T.out.below).mono ?_;rintro e wn ⟨rfl,bn⟩;have T:=Hh (T.out.call bn);clear c00 c01 c02 c10 c11 c12 c13 bn;have c00:=T.out.cell 0 0 rfl rfl;have c01:=T.out.cell 0 1 rfl rfl;have c02:=T.out.cell 0 2 rfl rfl;have c10:=T.out.cell 1 0 rfl HA.out.c0;have c11:=T.out.cell 1 21 rfl HA.out.c21;have c12:=T.out.cell 1 22 rfl HA.out.c22;have c13:=T.out.cell 1 23 rfl HA.out.c23)
 |(go_at_call 72;refine(HD.out _).mono ?_;rintro e wn ⟨rfl,bn⟩;have T:=Hh (T.out.call bn);clear c00 c01 c02 c10 c11 c12 c13 bn;have c00:=T.out.cell 0 0 rfl rfl;have c01:=T.out.cell 0 1 rfl rfl;have c02:=T.out.cell 0 2 rfl rfl;have c10:=T.out.cell 1 0 rfl HA.out.c0;have c11:=T.out.cell 1 21 rfl HA.out.c21;have c12:=T.out.cell 1 22 rfl HA.out.c22;have c13:=T.out.cell 1 23 rfl HA.out.c23)
 |(go_at_call 73;refine(HT.out _).mono ?_;rintro e wn ⟨rfl,bn⟩;have T:=Hh (T.out.call bn);clear c00 c01 c02 c10 c11 c12 c13 bn;have c00:=T.out.cell 0 0 rfl rfl;have c01:=T.out.cell 0 1 rfl rfl;have c02:=T.out.cell 0 2 rfl rfl;have c10:=T.out.cell 1 0 rfl HA.out.c0;have c11:=T.out.cell 1 21 rfl HA.out.c21;have c12:=T.out.cell 1 22 rfl HA.out.c22;have c13:=T.out.cell 1 23 rfl HA.out.c23)
 |((with_reducible refine Zd 54 ?_);refine Zif T.out rfl _ _ _ num cl cr HA.out.e2 HA.out.e3 HA.out.e4 rfl rfl rfl rfl rfl ?_;intro wd g2 tn;have T:=Hh tn;clear tn))
      go_loopw [6,8] (fun s i wr=>i=I J 0∧∃ v:Int,s=I J v∧Hid (V=v∧(v == 0)=false)∧Env w [(g0,89,[.bool pl,I J whn,.bool ea]),(g1,85,ys),(g2,81,num++cl++cr)] [] [] wr) (fun _ i _=>3 - (intOf i).toNat)
      case atStart=>exact⟨by go_num,_,rfl,HVU,T.out⟩
      case round=>
       obtain⟨rfl,v,rfl,hv,hT⟩:=hrel;have T:=Hh hT;clear hT c00 c01 c02 c10 c11 c12 c13;have hb1:=hv.out.2;go_wp2_with fail
       go_ret;exact⟨by rw[hv.out.1];rfl,T.out.below⟩
    ·skip
     go_wp2_with(first
 |((with_reducible refine Zd 27 ?_);refine Zc 89 _ 89 g0 ([.bool pl,I J whn,.bool ea]) (T.out.get 0 rfl) Jr Wq rfl rfl rfl ?_)
 |((with_reducible refine Zd 34 ?_);refine Zc 89 _ 89 g0 ([.bool pl,I J whn,.bool ea]) (T.out.get 0 rfl) Jr Wq rfl rfl rfl ?_)
 |((with_reducible refine Zd 29 ?_);refine Zw 76 _ g1 3 sel (HA.out.rs _ _ _ (T.out.get 1 rfl)) lrow_se (by rw[HA.out.e1];exact lsize_se) rfl rfl rfl ?_)
 |((with_reducible refine Zd 47 ?_);refine Zw 81 _ g1 9 num (HA.out.rn _ _ _ (T.out.get 1 rfl)) Yy (Wo HA.out.e2) rfl rfl rfl ?_)
 |((with_reducible refine Zd 50 ?_);refine Zw 81 _ g1 27 cl (HA.out.rl _ _ _ (T.out.get 1 rfl)) Yy (Wo HA.out.e3) rfl rfl rfl ?_)
 |((with_reducible refine Zd 53 ?_);refine Zw 81 _ g1 39 cr (HA.out.rr _ _ _ (T.out.get 1 rfl)) Yy (Wo HA.out.e4) rfl rfl rfl ?_)
 |(go_at_call 71;refine(HS.out _ T.out.below).mono ?_;rintro e wn ⟨rfl,bn⟩;have T:=Hh (T.out.call bn);clear c00 c01 c02 c10 c11 c12 c13 bn;have c00:=T.out.cell 0 0 rfl rfl;have c01:=T.out.cell 0 1 rfl rfl;have c02:=T.out.cell 0 2 rfl rfl;have c10:=T.out.cell 1 0 rfl HA.out.c0;have c11:=T.out.cell 1 21 rfl HA.out.c21;have c12:=T.out.cell 1 22 rfl HA.out.c22;have c13:=T.out.cell 1 23 rfl HA.out.c23)
 |(go_at_call 72;refine(HD.out _).mono ?_;rintro e wn ⟨rfl,bn⟩;have T:=Hh (T.out.call bn);clear c00 c01 c02 c10 c11 c12 c13 bn;have c00:=T.out.cell 0 0 rfl rfl;have c01:=T.out.cell 0 1 rfl rfl;have c02:=T.out.cell 0 2 rfl rfl;have c10:=T.out.cell 1 0 rfl HA.out.c0;have c11:=T.out.cell 1 21 rfl HA.out.c21;have c12:=T.out.cell 1 22 rfl HA.out.c22;have c13:=T.out.cell 1 23 rfl HA.out.c23)
 |(go_at_call 73;refine(HT.out _).mono ?_;rintro e wn ⟨rfl,bn⟩;have T:=Hh (T.out.call bn);clear c00 c01 c02 c10 c11 c12 c13 bn;have c00:=T.out.cell 0 0 rfl rfl;have c01:=T.out.cell 0 1 rfl rfl;have c02:=T.out.cell 0 2 rfl rfl;have c10:=T.out.cell 1 0 rfl HA.out.c0;have c11:=T.out.cell 1 21 rfl HA.out.c21;have c12:=T.out.cell 1 22 rfl HA.out.c22;have c13:=T.out.cell 1 23 rfl HA.out.c23)
 |((with_reducible refine Zd 54 ?_);refine Zif T.out rfl _ _ _ num cl cr HA.out.e2 HA.out.e3 HA.out.e4 rfl rfl rfl rfl rfl ?_;intro wd g2 tn;have T:=Hh tn;clear tn))
     go_loopw [6,8] (fun s i wr=>∃(m:Nat)(v:Int),i=I J m∧m≤3∧s=I J v∧Env w [(g0,89,[.bool pl,I J whn,.bool ea]),(g1,85,ys),(g2,81,num++cl++cr)] [] [] wr∧Hid (V=orE v (R m))) (fun _ i _=>3 - (intOf i).toNat)
     case atStart=>exact⟨0,_,by go_num,by omega,rfl,T.out,HZ0⟩
     case round=>
      obtain⟨m,u,rfl,hm,rfl,hT,hz⟩:=hrel;have T:=Hh hT;clear hT;clear c00 c01 c02 c10 c11 c12 c13;by_cases hlt:m<3
      ·have lk:(m:Int)<3:=by omega
       by_cases h0:u=0
       ·subst h0
        obtain⟨vs,v,hl,hr,hrg,hx⟩:=HX3.out m hlt;have HZ:Hid (V=orE v (R (m+1))):=Hh (by rw[hz.out,hr];rfl);have HR:=Hh (fun y (hw:Zi y g2 81 (num++cl++cr).toArray)=>hrg y g2 _ hw);have HRL:=Hh hl;have HX:=Hh hx;clear hz hl hr hrg hx;go_wp2_with fail
        refine Vv (fun x=>Env w [(g0,89,[.bool pl,I J whn,.bool ea]),(g1,85,ys),(g2,81,num++cl++cr)] [] [] x) (by kernel_rfl) T.out.drew ?_;have hst:Zgz (fun x=>Env w [(g0,89,[.bool pl,I J whn,.bool ea]),(g1,85,ys),(g2,81,num++cl++cr)] [] [] x):=fun x y h e=>Env.call h e
        refine AB.tk 0 (.agg ([.bool pl,I J whn,.bool ea]:List Value).toArray) rfl rfl (by kernel_rfl) (fun _ _ _ h=>h) hst (Wv (by rfl) rfl rfl (fun y hy=>(hy.get 0 rfl).range0) Jr Wq) ?_;simp only[Qy,Qx];refine AB.tk 1 (Λ (some ⟨g2,0,none⟩) 3 3) rfl rfl (by kernel_rfl) (fun _ _ _ h=>h) hst (Uu rfl rfl rfl) ?_;simp only[Qy,Qx];refine AB.tk 2 (I J (m:Int)) rfl rfl (by kernel_rfl) (fun _ _ _ h=>h) hst (Uu rfl rfl rfl) ?_;simp only[Qy,Qx];refine AB.tk 3 (Ω (some ⟨g2,m*12,none⟩)) rfl rfl (by kernel_rfl) (fun _ _ _ h=>h) hst (Zbm (by rfl) rfl rfl rfl hlt lund_exs Yi) ?_;simp only[Qy,Qx];refine AB.tk 4 (.agg vs.toArray) rfl rfl (by kernel_rfl) (fun _ _ _ h=>h) hst (Wv (by rfl) rfl rfl (fun y hy=>HR.out y (hy.get 2 rfl)) Yy (Wo HRL.out)) ?_;simp only[Qy,Qx];refine AB.tk 5 (I J v) rfl rfl (by kernel_rfl) (fun _ _ _ h=>h) hst (Wx.call rfl (fun w=>by kernel_rfl) (fun y hy=>HX.out y hy.below)) ?_;simp only[Qy,Qx];refine AB.tk 6 (I J v) rfl rfl (by kernel_rfl) (fun _ _ _ h=>h) hst (Yg rfl (fun y hy=>by go_simp)) ?_;simp only[Qy,Qx];refine AB.done (by kernel_rfl) (fun wn hS=>?_);have T:=Hh hS;clear hS;go_wp2
        go_roundw
        case rel=>exact⟨m+1,v,by go_num,by omega,rfl,T.out,HZ⟩
        case measure=>simp[intOf];omega
       ·have hb0:(u == 0)=false:=by simpa using h0
        have hf:V=u:=by rw[hz.out];exact if_neg h0
        subst hf;clear hz h0;go_wp2_with fail
        go_ret;exact⟨rfl,T.out.below⟩
      ·obtain rfl:m=3:=by omega
       have hf:V=u:=by rw[hz.out,HR3.out];exact Wb u
       subst hf;clear hz;go_wp2_with fail
       go_ret;exact⟨rfl,T.out.below⟩
end Go.Proofs.YtbdecchpleiepaaGreat
