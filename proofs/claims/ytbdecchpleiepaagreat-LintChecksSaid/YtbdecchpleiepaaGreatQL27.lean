/- Parts of the proof. No conditions but those that each names. -/
import Derived.Great.Walk
import Derived.RegionTactic
import Derived.Test.YtbdecchpleiepaaGreatQL26
set_option maxRecDepth 20000
set_option maxHeartbeats 99000000
set_option linter.unusedVariables false
set_option linter.unusedSimpArgs false
namespace Go.Proofs.YtbdecchpleiepaaGreat
open Go.Value renaming int→I,slice→Λ,pointer→Ω,string→Ψ
open Go.IntKind renaming i64→J
open _root_.Go.Proofs.Tryz renaming prog→Φ
open Nat renaming le_refl→Θ
open And renaming intro→ζ
open Go.Ending renaming returned→η
open Go.ChangeShapes Go.WideShapes Go.ChangeAt Go.RowKit
def RZOK(x:Ex):Prop:=∀(w:World)(N:Nat→Prop)(vs:List Value),Zs N w x.ds vs →
 Calls Φ 33 #[.agg vs.toArray] w fun e w'=>e=η (I J (Go.Proofs.YtbdecchpleiepaaGreat.wr (exZ x)))∧Below w.heap.size w w'
theorem rZ_any:∀ x:Ex,VEx x→RZOK x
 |.leaf k n s sd tk tl,hv=>fun w N vs h=>by
  have hk:k≠7:=by unfold VEx VLeaf at hv;omega
  obtain⟨c0,_⟩:=Zme h;have hb:(k == 7)=false:=by simpa using hk
  have HC:=Hh (show vs[0]?=some (I J k)from c0);clear c0 h hv hk;have T:=Hh (Env.start w);go_enter Tryz.func33,Tryz.ntmps33;go_wp2_with(((with_reducible refine Zd 1 ?_);refine Zf T.out 81 _ vs rfl rfl rfl ?_;intro wa g0 tn;have T:=Hh tn;clear tn;have k0:=T.out.cell 0 0 rfl HC.out))
  go_ret;exact⟨rfl,T.out.below⟩
 |.bin op l r,hv=>fun w N vs h=>by
  have ihl:=rZ_any l hv.2.1;have ihr:=rZ_any r hv.2.2;obtain⟨c0,C,kc,xs,c11,hw,hd⟩:=Zme h;have c0:vs[0]?=some (I J 7):=c0;have c11:vs[11]?=some (Λ C 2 kc):=c11;obtain⟨xl,xt,hxs,h1,hd2⟩:=Zs.split (x:=l.ds) hd;obtain⟨xr,xt2,hxt,h2,hd3⟩:=Zs.split (x:=r.ds) hd2;have hd3:xt2=[]:=hd3;subst hd3 hxt;have e1:xl.length=12:=h1.len12;have e2:xr.length=12:=h2.len12;obtain⟨g,rfl,hg,hc⟩:=hw.reads (by rw[hxs];simp;omega);rw[hxs]at hc;have HL:=Hh (fun y (b:Below w.heap.size w y)=>ihl y N xl (h1.below b));have HRr:=Hh (fun y (b:Below w.heap.size w y)=>ihr y N xr (h2.below b));have R0:w.rangeAt g (0*12) xl:=Ut (pre:=[]) (post:=xr) (by simpa using hc) rfl;have R1:w.rangeAt g (1*12) xr:=Ut (pre:=xl) (post:=[]) (by simpa using hc) e1;have HR0:=Hh (fun y (b:Below w.heap.size w y)=>(by simpa using Vd R0 hg b:y.rangeAt g 0 xl));have HR1:=Hh (fun y (b:Below w.heap.size w y)=>(by simpa using Vd R1 hg b:y.rangeAt g 12 xr));have HC0:=Hh c0;have HC:=Hh c11
  have hz:Go.Proofs.YtbdecchpleiepaaGreat.wr (exZ (.bin op l r))=Go.Proofs.YtbdecchpleiepaaGreat.wr (Go.Proofs.YtbdecchpleiepaaGreat.wr (Go.Proofs.YtbdecchpleiepaaGreat.wr (exZ l)+Go.Proofs.YtbdecchpleiepaaGreat.wr (exZ r))+1):=by
   rw[Zmn,Zbq];show Go.Proofs.YtbdecchpleiepaaGreat.wr (1+exZ l+exZ r)=_;congr 1;omega
  rw[hz];generalize Go.Proofs.YtbdecchpleiepaaGreat.wr (exZ l)=a at *;generalize Go.Proofs.YtbdecchpleiepaaGreat.wr (exZ r)=b at *;have HV:Hid (Go.Proofs.YtbdecchpleiepaaGreat.wr (Go.Proofs.YtbdecchpleiepaaGreat.wr (a+b)+1)=IntKind.i64.wrap (IntKind.i64.wrap (a+b)+1)):=Hh rfl;rw[HV.out];obtain⟨n1,w1⟩:∃ n,IntKind.i64.wrap (a+b)=n:=⟨_,rfl⟩
  rw[w1];obtain⟨n2,w2⟩:∃ n,IntKind.i64.wrap (n1+1)=n:=⟨_,rfl⟩
  rw[w2];clear hz HV c0 c11 hw hd hd2 hc h1 h2 h R0 R1 ihl ihr hxs hv;have T:=Hh (Env.start w);go_enter Tryz.func33,Tryz.ntmps33;go_wp2_with(((with_reducible refine Zd 1 ?_);refine Zf T.out 81 _ vs rfl rfl rfl ?_;intro wa g0 tn;have T:=Hh tn;clear tn;have k0:=T.out.cell 0 0 rfl HC0.out))
  refine Vv (fun x=>Env w [(g0,81,vs)] [] [] x) (by kernel_rfl) T.out.drew ?_;have hst:Zgz (fun x=>Env w [(g0,81,vs)] [] [] x):=fun x y h e=>Env.call h e
  refine AB.tk 0 (Ω (some ⟨g0,11,none⟩)) rfl rfl (by kernel_rfl) (fun _ _ _ h=>h) hst (Yg rfl (fun y hy=>by go_simp)) ?_;simp only[Qy,Qx];refine AB.tk 1 (Λ (some ⟨g,0,none⟩) 2 kc) rfl rfl (by kernel_rfl) (fun _ _ _ h=>h) hst (Yg rfl (fun y hy=>by have c0:=Env.cell hy 0 11 rfl HC.out;go_simp)) ?_;simp only[Qy,Qx];refine AB.tk 2 (Ω (some ⟨g,0,none⟩)) rfl rfl (by kernel_rfl) (fun _ _ _ h=>h) hst (Yg rfl (fun y hy=>by go_simp)) ?_;simp only[Qy,Qx];refine AB.tk 3 (.agg xl.toArray) rfl rfl (by kernel_rfl) (fun _ _ _ h=>h) hst (Wv (by rfl) rfl rfl (fun y hy=>HR0.out y hy.below) Yy (Wo (by assumption))) ?_;simp only[Qy,Qx];refine AB.tk 4 (I J a) rfl rfl (by kernel_rfl) (fun _ _ _ h=>h) hst (Wx.call rfl (fun w=>by kernel_rfl) (fun y hy=>HL.out y hy.below)) ?_;simp only[Qy,Qx];refine AB.tk 5 (Ω (some ⟨g0,11,none⟩)) rfl rfl (by kernel_rfl) (fun _ _ _ h=>h) hst (Yg rfl (fun y hy=>by go_simp)) ?_;simp only[Qy,Qx];refine AB.tk 6 (Λ (some ⟨g,0,none⟩) 2 kc) rfl rfl (by kernel_rfl) (fun _ _ _ h=>h) hst (Yg rfl (fun y hy=>by have c0:=Env.cell hy 0 11 rfl HC.out;go_simp)) ?_;simp only[Qy,Qx];refine AB.tk 7 (Ω (some ⟨g,12,none⟩)) rfl rfl (by kernel_rfl) (fun _ _ _ h=>h) hst (Yg rfl (fun y hy=>by go_simp)) ?_;simp only[Qy,Qx];refine AB.tk 8 (.agg xr.toArray) rfl rfl (by kernel_rfl) (fun _ _ _ h=>h) hst (Wv (by rfl) rfl rfl (fun y hy=>HR1.out y hy.below) Yy (Wo (by assumption))) ?_;simp only[Qy,Qx];refine AB.tk 9 (I J b) rfl rfl (by kernel_rfl) (fun _ _ _ h=>h) hst (Wx.call rfl (fun w=>by kernel_rfl) (fun y hy=>HRr.out y hy.below)) ?_;simp only[Qy,Qx];refine AB.tk 10 (I J n1) rfl rfl (by kernel_rfl) (fun _ _ _ h=>h) hst (Yg rfl (fun y hy=>by go_simp)) ?_;simp only[Qy,Qx];refine AB.tk 11 (I J n2) rfl rfl (by kernel_rfl) (fun _ _ _ h=>h) hst (Yg rfl (fun y hy=>by go_simp)) ?_;simp only[Qy,Qx];refine AB.tk 12 (I J n2) rfl rfl (by kernel_rfl) (fun _ _ _ h=>h) hst (Yg rfl (fun y hy=>by go_simp)) ?_;simp only[Qy,Qx];refine AB.done (by kernel_rfl) (fun wn hS=>?_);have T:=Hh hS;clear hS;go_wp2
  go_ret;exact⟨rfl,T.out.below⟩
def RSOK(l:Acs):Prop:=∀(d:Nat),Zbw d l→∀(w:World)(N:Nat→Prop)(v:Value),Zs N w (.row l.len l.ds .nil) [v] →
 Calls Φ 12 #[v] w fun e w'=>e=η (I J (Go.Proofs.YtbdecchpleiepaaGreat.wr (We l)))∧Below w.heap.size w w'
theorem Zmm(n:Int):∃ k:Int,Go.Proofs.YtbdecchpleiepaaGreat.wr n=n+k*18446744073709551616:=by
 rw[wr_eq];split
 ·exact⟨-(n / 18446744073709551616) - 1,by omega⟩
 ·exact⟨-(n / 18446744073709551616),by omega⟩
theorem Zof(n k:Int):Go.Proofs.YtbdecchpleiepaaGreat.wr (n+k*18446744073709551616)=Go.Proofs.YtbdecchpleiepaaGreat.wr n:=by rw[wr_eq,wr_eq,Int.add_mul_emod_self_right]
theorem Zie(a b c:Int):Go.Proofs.YtbdecchpleiepaaGreat.wr (Go.Proofs.YtbdecchpleiepaaGreat.wr a+b+c)=Go.Proofs.YtbdecchpleiepaaGreat.wr (a+b+c):=by rw[Int.add_assoc,Zbq,Int.add_assoc]
theorem Zlf(a b c d:Int):Go.Proofs.YtbdecchpleiepaaGreat.wr (Go.Proofs.YtbdecchpleiepaaGreat.wr a+b+c+d)=Go.Proofs.YtbdecchpleiepaaGreat.wr (a+b+c+d):=by rw[Int.add_assoc,Zie,Int.add_assoc (a+b)]
theorem wr_wr(n:Int):Go.Proofs.YtbdecchpleiepaaGreat.wr (Go.Proofs.YtbdecchpleiepaaGreat.wr n)=Go.Proofs.YtbdecchpleiepaaGreat.wr n:=by have:=Zbq n 0;rwa [Int.add_zero,Int.add_zero]at this
theorem Zbw.at_:∀(l:Acs)(d k:Nat)(u:AH×Acs×Acs),Zbw d l→l.at? k=some u→((Zkj d u.1∧Zbw (d+1) u.2.1∧Zbw (d+1) u.2.2)∨(Zmi u.1∧Zbw (d+1) u.2.1∧u.2.2=.nil)∨(Zdk d u.1∧u.2.1=.nil∧u.2.2=.nil))
 |.nil,d,k,u,hv,hu=>by cases k<;>cases hu
 |.cons h t e r,d,0,u,hv,hu=>by
  injection hu with hu;subst hu;rcases hv.1 with⟨_,a,b,c⟩ | ⟨_,a,b,c⟩ | ⟨a,b,c⟩
  ·exact .inl ⟨a,b,c⟩
  ·exact .inr (.inl ⟨a,b,c⟩)
  ·exact .inr (.inr ⟨a,b,c⟩)
 |.cons h t e r,d,k+1,u,hv,hu=>Zbw.at_ r d k u hv.2 hu
theorem acsZ_cons(h:AH)(t e r:Acs):We (.cons h t e r)=acZ h (We t) (We e) e.len+We r:=rfl
theorem rSize_walk(l:Acs)(hall:∀ k u,l.at? k=some u→RSOK u.2.1∧RSOK u.2.2):RSOK l:=by
 intro d hvl w N v hv;obtain⟨B,bc,xs,rfl,hn,hw,hd⟩:=hv.inRow;clear hv;obtain⟨n,hn0⟩:∃ n,n=l.len:=⟨_,rfl⟩
 rw[←hn0]at hn ⊢;have HN:=Hh hn0;have HW:=Hh (ζ hw hd);have HH:=Hh hall;have HVL:=Hh hvl;obtain⟨R,hR⟩:∃ R,R=Go.Proofs.YtbdecchpleiepaaGreat.wr (We l):=⟨_,rfl⟩
 rw[←hR];have HV:=Hh hR;clear hw hd hall hn0 hR hvl;have l63:(n:Int)≤9223372036854775807:=by omega
 have T:=Hh (Env.start w);go_enter Tryz.func12,Tryz.ntmps12;go_wp2_with fail
 go_loopw [3,4] (fun s i wr=>∃(m:Nat)(v:Int),i=I J m∧m≤n∧s=I J v∧Env w [] [] [] wr∧Hid (R=Go.Proofs.YtbdecchpleiepaaGreat.wr (v+We (l.dropA m))∧Go.Proofs.YtbdecchpleiepaaGreat.wr v=v)) (fun _ i _=>n - (intOf i).toNat)
 case atStart=>exact⟨0,0,by go_num,Nat.zero_le _,rfl,T.out,Hh ⟨by rw[HV.out];cases l<;>simp[Acs.dropA],by decide +kernel⟩⟩
 case round=>
  obtain⟨m,v,rfl,hm,rfl,hT,hz⟩:=hrel;have T:=Hh hT;clear hT;by_cases hlt:m<n
  · obtain⟨u,hu⟩:=Acs.at_some l m (by rw[←HN.out];exact hlt)
    obtain⟨g,ys,rfl,hg,hR,hy⟩:=act_at HW.out.1 HW.out.2 hu;obtain⟨h,t,e⟩:=u;dsimp only at hy;have hvu:=Zbw.at_ l d m _ HVL.out hu;have hz2:=hz.out.1;rw[Acs.drop_at l m _ hu,acsZ_cons]at hz2;obtain⟨iht,ihe⟩:=HH.out m _ hu;dsimp only at hvu iht ihe hz2;have HO:=Hh hy.one;obtain⟨sel,num,cl,cr,thn,els,hys,h1,h2,h3,h4,h5,h6⟩:=Znd hy;have ha:=actX (k:=h.kind) (l:=h.line) (c:=h.col) (sd:=h.side) (tk:=h.tk) (tl:=h.tl) (how:=h.how) (cop:=h.cop) (nm:=h.name) (thn:=thn) (els:=els) (h1.len.trans (Se.ds_len _)) h2.len12 h3.len12 h4.len12;rw[←hys]at ha;have HR:Hid (∀ y,Below w.heap.size w y→y.rangeAt g (m*53) ys):=Hh fun y hb j v hv=>(World.cell?_of_block (a:=⟨g,m*53+j,none⟩) (hb.block g hg)).trans (hR j v hv)
    obtain⟨U,uc,_,rfl,_⟩:=h5.inRow;obtain⟨V,vc,_,rfl,⟨hen,_⟩,_⟩:=h6.inRow;have HA:=Hh ha;have HX:=Hh (fun(q:VEx h.num) y (b:Below w.heap.size w y)=>rZ_any h.num q y N num (h2.below b));have HL:=Hh (fun(q:VEx h.cl) y (b:Below w.heap.size w y)=>rZ_any h.cl q y N cl (h3.below b));have HRr:=Hh (fun(q:VEx h.cr) y (b:Below w.heap.size w y)=>rZ_any h.cr q y N cr (h4.below b));have HT:=Hh (fun(q:Zbw (d+1) t) y (b:Below w.heap.size w y)=>iht _ q y N _ (h5.below b));have HE:=Hh (fun(q:Zbw (d+1) e) y (b:Below w.heap.size w y)=>ihe _ q y N _ (h6.below b));clear hys h1 h2 h3 h4 h5 h6 ha hy hR hu hz iht ihe;have lk:(m:Int)<(n:Int):=by omega
    obtain⟨n1,w1⟩:∃ n,IntKind.i64.wrap (v+1)=n:=⟨_,rfl⟩
    have q1:Go.Proofs.YtbdecchpleiepaaGreat.wr (v+1)=n1:=w1;have Q1:=Hh q1;clear q1;rcases hvu with⟨vc',vt,ve⟩ | ⟨vc',vt,rfl⟩ | ⟨vc',rfl,rfl⟩
    ·have k10:h.kind=10:=congrArg AH.kind vc'.1
     have hq:acZ h (We t) (We e) e.len=exZ h.cl+exZ h.cr+We t+1+(if 0<e.len then We e+1 else 0):=by unfold acZ;rw[if_neg (by omega),if_pos k10]
     rw[hq]at hz2;rw[k10]at HA;have HL:=Hh (HL.out vc'.2.2.1.1);have HRr:=Hh (HRr.out vc'.2.2.2.1);have HT:=Hh (HT.out vt);have HE:=Hh (HE.out ve);clear hq k10 vc' HX vt ve
     have hz3:R=Go.Proofs.YtbdecchpleiepaaGreat.wr (v+(Go.Proofs.YtbdecchpleiepaaGreat.wr (exZ h.cl)+Go.Proofs.YtbdecchpleiepaaGreat.wr (exZ h.cr)+Go.Proofs.YtbdecchpleiepaaGreat.wr (We t)+1+(if 0<e.len then Go.Proofs.YtbdecchpleiepaaGreat.wr (We e)+1 else 0))+We (l.dropA (m+1))):=by
      rw[hz2];obtain⟨k1,e1⟩:=Zmm (exZ h.cl);obtain⟨k2,e2⟩:=Zmm (exZ h.cr);obtain⟨k3,e3⟩:=Zmm (We t);obtain⟨k4,e4⟩:=Zmm (We e);rw[e1,e2,e3,e4];split
      ·exact(Zof _ (k1+k2+k3+k4)).symm.trans (congrArg _ (by omega))
      ·exact(Zof _ (k1+k2+k3)).symm.trans (congrArg _ (by omega))
     clear hz2;generalize Go.Proofs.YtbdecchpleiepaaGreat.wr (exZ h.cl)=a at *;generalize Go.Proofs.YtbdecchpleiepaaGreat.wr (exZ h.cr)=b at *;generalize Go.Proofs.YtbdecchpleiepaaGreat.wr (We t)=tz at *;generalize Go.Proofs.YtbdecchpleiepaaGreat.wr (We e)=ez at *;generalize t.len=tn at *;generalize e.len=en at *;have HZ3:=Hh hz3;clear hz3;obtain⟨n2,w2⟩:∃ n,IntKind.i64.wrap (n1+a)=n:=⟨_,rfl⟩
     obtain⟨n3,w3⟩:∃ n,IntKind.i64.wrap (n2+b)=n:=⟨_,rfl⟩
     obtain⟨n4,w4⟩:∃ n,IntKind.i64.wrap (n3+tz)=n:=⟨_,rfl⟩
     have hs4:n4=Go.Proofs.YtbdecchpleiepaaGreat.wr (v+1+a+b+tz):=by
      have q2:Go.Proofs.YtbdecchpleiepaaGreat.wr (n1+a)=n2:=w2;have q3:Go.Proofs.YtbdecchpleiepaaGreat.wr (n2+b)=n3:=w3;have q4:Go.Proofs.YtbdecchpleiepaaGreat.wr (n3+tz)=n4:=w4;rw[←q4,←q3,←q2,←Q1.out];simp only[Zbq,Zie,Zlf]
     by_cases h0:0<en
     ·have l0:(0:Int)<(en:Int):=by omega
      obtain⟨n5,w5⟩:∃ n,IntKind.i64.wrap (n4+ez)=n:=⟨_,rfl⟩
      obtain⟨n6,w6⟩:∃ n,IntKind.i64.wrap (n5+1)=n:=⟨_,rfl⟩
      have HZ:Hid (R=Go.Proofs.YtbdecchpleiepaaGreat.wr (n6+We (l.dropA (m+1)))∧Go.Proofs.YtbdecchpleiepaaGreat.wr n6=n6):=Hh (ζ (by
       have q5:Go.Proofs.YtbdecchpleiepaaGreat.wr (n4+ez)=n5:=w5;have q6:Go.Proofs.YtbdecchpleiepaaGreat.wr (n5+1)=n6:=w6;rw[HZ3.out,if_pos h0,←q6,←q5,hs4];simp only[Zbq,Zie,Zlf];congr 1;omega) (by rw[←show Go.Proofs.YtbdecchpleiepaaGreat.wr (n5+1)=n6 from w6];exact wr_wr _))
      have HS4:=Hh hs4;clear hs4 h0;go_wp2_with(first
 |((with_reducible refine Zd 16 ?_);refine Zw 85 _ g (m*53) ys (HR.out _ T.out.below) Vn (by rw[HA.out.len];exact Xe) rfl rfl rfl ?_)
 |((with_reducible refine Zd 5 ?_);refine Zb T.out 85 _ rfl rfl Zgn ?_;intro wa g0 tn;have T:=Hh tn;clear tn)
 |((with_reducible refine Zg 5 16 ?_);refine Za 85 _ _ 85 g0 _ (ys) (T.out.get 0 rfl) HA.out.len (by rw[HA.out.len];exact Xe) HO.out rfl rfl rfl rfl rfl ?_;intro wd p;have T:=Hh (T.out.put 0 rfl p);clear p;have k0:=T.out.cell 0 0 rfl HA.out.c0;have k51:=T.out.cell 0 51 rfl HA.out.c51;have k52:=T.out.cell 0 52 rfl HA.out.c52))
      refine Vv (fun x=>Env w [(g0,85,ys)] [] [] x) (by kernel_rfl) T.out.drew ?_;have hst:Zgz (fun x=>Env w [(g0,85,ys)] [] [] x):=fun x y h e=>Env.call h e
      refine AB.tk 0 (I J n1) rfl rfl (by kernel_rfl) (fun _ _ _ h=>h) hst (Uu rfl rfl rfl) ?_;simp only[Qy,Qx];refine AB.tk 1 (Ω (some ⟨g0,26,none⟩)) rfl rfl (by kernel_rfl) (fun _ _ _ h=>h) hst (Yg rfl (fun y hy=>by go_simp)) ?_;simp only[Qy,Qx];refine AB.tk 2 (Ω (some ⟨g0,27,none⟩)) rfl rfl (by kernel_rfl) (fun _ _ _ h=>h) hst (Yg rfl (fun y hy=>by go_simp)) ?_;simp only[Qy,Qx];refine AB.tk 3 (.agg cl.toArray) rfl rfl (by kernel_rfl) (fun _ _ _ h=>h) hst (Wv (by rfl) rfl rfl (fun y hy=>HA.out.rl _ _ _ (hy.get 0 rfl)) Yy (Wo HA.out.e3)) ?_;simp only[Qy,Qx];refine AB.tk 4 (I J a) rfl rfl (by kernel_rfl) (fun _ _ _ h=>h) hst (Wx.call rfl (fun w=>by kernel_rfl) (fun y hy=>HL.out y hy.below)) ?_;simp only[Qy,Qx];refine AB.tk 5 (I J n2) rfl rfl (by kernel_rfl) (fun _ _ _ h=>h) hst (Yg rfl (fun y hy=>by go_simp)) ?_;simp only[Qy,Qx];refine AB.tk 6 (Ω (some ⟨g0,26,none⟩)) rfl rfl (by kernel_rfl) (fun _ _ _ h=>h) hst (Yg rfl (fun y hy=>by go_simp)) ?_;simp only[Qy,Qx];refine AB.tk 7 (Ω (some ⟨g0,39,none⟩)) rfl rfl (by kernel_rfl) (fun _ _ _ h=>h) hst (Yg rfl (fun y hy=>by go_simp)) ?_;simp only[Qy,Qx];refine AB.tk 8 (.agg cr.toArray) rfl rfl (by kernel_rfl) (fun _ _ _ h=>h) hst (Wv (by rfl) rfl rfl (fun y hy=>HA.out.rr _ _ _ (hy.get 0 rfl)) Yy (Wo HA.out.e4)) ?_;simp only[Qy,Qx];refine AB.tk 9 (I J b) rfl rfl (by kernel_rfl) (fun _ _ _ h=>h) hst (Wx.call rfl (fun w=>by kernel_rfl) (fun y hy=>HRr.out y hy.below)) ?_;simp only[Qy,Qx];refine AB.tk 10 (I J n3) rfl rfl (by kernel_rfl) (fun _ _ _ h=>h) hst (Yg rfl (fun y hy=>by go_simp)) ?_;simp only[Qy,Qx];refine AB.tk 11 (Ω (some ⟨g0,51,none⟩)) rfl rfl (by kernel_rfl) (fun _ _ _ h=>h) hst (Yg rfl (fun y hy=>by go_simp)) ?_;simp only[Qy,Qx];refine AB.tk 12 (Λ U tn uc) rfl rfl (by kernel_rfl) (fun _ _ _ h=>h) hst (Yg rfl (fun y hy=>by have c0:=Env.cell hy 0 51 rfl HA.out.c51;go_simp)) ?_;simp only[Qy,Qx];refine AB.tk 13 (I J tz) rfl rfl (by kernel_rfl) (fun _ _ _ h=>h) hst (Wx.call rfl (fun w=>by kernel_rfl) (fun y hy=>HT.out y hy.below)) ?_;simp only[Qy,Qx];refine AB.tk 14 (I J n4) rfl rfl (by kernel_rfl) (fun _ _ _ h=>h) hst (Yg rfl (fun y hy=>by go_simp)) ?_;simp only[Qy,Qx];refine AB.tk 15 (I J n4) rfl rfl (by kernel_rfl) (fun _ _ _ h=>h) hst (Yg rfl (fun y hy=>by go_simp)) ?_;simp only[Qy,Qx];refine AB.done (by kernel_rfl) (fun wn hS=>?_);have T:=Hh hS;clear hS;have k52:=T.out.cell 0 52 rfl HA.out.c52;go_wp2_with(first
 |(go_at_call 12;refine(HE.out _ T.out.below).mono ?_;rintro e we ⟨rfl,bn⟩;have T:=Hh (T.out.call bn);clear bn))
      go_roundw
      case rel=>exact⟨m+1,_,by go_num,by omega,rfl,(T.out.less (bs:=[]) (cs:=[_]) (ts:=[]) (us:=[])),HZ⟩
      case measure=>simp[intOf];omega
     ·have l0:¬(0:Int)<(en:Int):=by omega
      have HZ:Hid (R=Go.Proofs.YtbdecchpleiepaaGreat.wr (n4+We (l.dropA (m+1)))∧Go.Proofs.YtbdecchpleiepaaGreat.wr n4=n4):=Hh (ζ (by
       rw[HZ3.out,if_neg h0,hs4,Zbq];congr 1;omega) (by rw[hs4];exact wr_wr _))
      have HS4:=Hh hs4;clear hs4 h0;go_wp2_with(first
 |((with_reducible refine Zd 16 ?_);refine Zw 85 _ g (m*53) ys (HR.out _ T.out.below) Vn (by rw[HA.out.len];exact Xe) rfl rfl rfl ?_)
 |((with_reducible refine Zd 5 ?_);refine Zb T.out 85 _ rfl rfl Zgn ?_;intro wa g0 tn;have T:=Hh tn;clear tn)
 |((with_reducible refine Zg 5 16 ?_);refine Za 85 _ _ 85 g0 _ (ys) (T.out.get 0 rfl) HA.out.len (by rw[HA.out.len];exact Xe) HO.out rfl rfl rfl rfl rfl ?_;intro wd p;have T:=Hh (T.out.put 0 rfl p);clear p;have k0:=T.out.cell 0 0 rfl HA.out.c0;have k51:=T.out.cell 0 51 rfl HA.out.c51;have k52:=T.out.cell 0 52 rfl HA.out.c52))
      refine Vv (fun x=>Env w [(g0,85,ys)] [] [] x) (by kernel_rfl) T.out.drew ?_;have hst:Zgz (fun x=>Env w [(g0,85,ys)] [] [] x):=fun x y h e=>Env.call h e
      refine AB.tk 0 (I J n1) rfl rfl (by kernel_rfl) (fun _ _ _ h=>h) hst (Uu rfl rfl rfl) ?_;simp only[Qy,Qx];refine AB.tk 1 (Ω (some ⟨g0,26,none⟩)) rfl rfl (by kernel_rfl) (fun _ _ _ h=>h) hst (Yg rfl (fun y hy=>by go_simp)) ?_;simp only[Qy,Qx];refine AB.tk 2 (Ω (some ⟨g0,27,none⟩)) rfl rfl (by kernel_rfl) (fun _ _ _ h=>h) hst (Yg rfl (fun y hy=>by go_simp)) ?_;simp only[Qy,Qx];refine AB.tk 3 (.agg cl.toArray) rfl rfl (by kernel_rfl) (fun _ _ _ h=>h) hst (Wv (by rfl) rfl rfl (fun y hy=>HA.out.rl _ _ _ (hy.get 0 rfl)) Yy (Wo HA.out.e3)) ?_;simp only[Qy,Qx];refine AB.tk 4 (I J a) rfl rfl (by kernel_rfl) (fun _ _ _ h=>h) hst (Wx.call rfl (fun w=>by kernel_rfl) (fun y hy=>HL.out y hy.below)) ?_;simp only[Qy,Qx];refine AB.tk 5 (I J n2) rfl rfl (by kernel_rfl) (fun _ _ _ h=>h) hst (Yg rfl (fun y hy=>by go_simp)) ?_;simp only[Qy,Qx];refine AB.tk 6 (Ω (some ⟨g0,26,none⟩)) rfl rfl (by kernel_rfl) (fun _ _ _ h=>h) hst (Yg rfl (fun y hy=>by go_simp)) ?_;simp only[Qy,Qx];refine AB.tk 7 (Ω (some ⟨g0,39,none⟩)) rfl rfl (by kernel_rfl) (fun _ _ _ h=>h) hst (Yg rfl (fun y hy=>by go_simp)) ?_;simp only[Qy,Qx];refine AB.tk 8 (.agg cr.toArray) rfl rfl (by kernel_rfl) (fun _ _ _ h=>h) hst (Wv (by rfl) rfl rfl (fun y hy=>HA.out.rr _ _ _ (hy.get 0 rfl)) Yy (Wo HA.out.e4)) ?_;simp only[Qy,Qx];refine AB.tk 9 (I J b) rfl rfl (by kernel_rfl) (fun _ _ _ h=>h) hst (Wx.call rfl (fun w=>by kernel_rfl) (fun y hy=>HRr.out y hy.below)) ?_;simp only[Qy,Qx];refine AB.tk 10 (I J n3) rfl rfl (by kernel_rfl) (fun _ _ _ h=>h) hst (Yg rfl (fun y hy=>by go_simp)) ?_;simp only[Qy,Qx];refine AB.tk 11 (Ω (some ⟨g0,51,none⟩)) rfl rfl (by kernel_rfl) (fun _ _ _ h=>h) hst (Yg rfl (fun y hy=>by go_simp)) ?_;simp only[Qy,Qx];refine AB.tk 12 (Λ U tn uc) rfl rfl (by kernel_rfl) (fun _ _ _ h=>h) hst (Yg rfl (fun y hy=>by have c0:=Env.cell hy 0 51 rfl HA.out.c51;go_simp)) ?_;simp only[Qy,Qx];refine AB.tk 13 (I J tz) rfl rfl (by kernel_rfl) (fun _ _ _ h=>h) hst (Wx.call rfl (fun w=>by kernel_rfl) (fun y hy=>HT.out y hy.below)) ?_;simp only[Qy,Qx];refine AB.tk 14 (I J n4) rfl rfl (by kernel_rfl) (fun _ _ _ h=>h) hst (Yg rfl (fun y hy=>by go_simp)) ?_;simp only[Qy,Qx];refine AB.tk 15 (I J n4) rfl rfl (by kernel_rfl) (fun _ _ _ h=>h) hst (Yg rfl (fun y hy=>by go_simp)) ?_;simp only[Qy,Qx];refine AB.done (by kernel_rfl) (fun wn hS=>?_);have T:=Hh hS;clear hS;have k52:=T.out.cell 0 52 rfl HA.out.c52;go_wp2
      go_roundw
      case rel=>exact⟨m+1,_,by go_num,by omega,rfl,(T.out.less (bs:=[]) (cs:=[_]) (ts:=[]) (us:=[])),HZ⟩
      case measure=>simp[intOf];omega
    ·have k11:h.kind=11:=congrArg AH.kind vc'.1
     have hq:acZ h (We t) (We .nil) Acs.nil.len=We t+2:=by unfold acZ;rw[if_neg (by omega),if_neg (by omega),if_pos k11]
     rw[hq]at hz2;rw[k11]at HA;have HT:=Hh (HT.out vt);clear hq k11 vc' HX HL HRr vt HE
     have hz3:R=Go.Proofs.YtbdecchpleiepaaGreat.wr (v+(Go.Proofs.YtbdecchpleiepaaGreat.wr (We t)+2)+We (l.dropA (m+1))):=by
      obtain⟨k3,e3⟩:=Zmm (We t);rw[hz2,e3];exact(Zof _ k3).symm.trans (congrArg _ (by omega))
     clear hz2;generalize Go.Proofs.YtbdecchpleiepaaGreat.wr (We t)=tz at *;generalize t.len=tn at *;generalize Acs.nil.len=en at *;obtain⟨n2,w2⟩:∃ n,IntKind.i64.wrap (n1+tz)=n:=⟨_,rfl⟩
     obtain⟨n3,w3⟩:∃ n,IntKind.i64.wrap (n2+1)=n:=⟨_,rfl⟩
     have HZ:Hid (R=Go.Proofs.YtbdecchpleiepaaGreat.wr (n3+We (l.dropA (m+1)))∧Go.Proofs.YtbdecchpleiepaaGreat.wr n3=n3):=Hh (ζ (by
      have q2:Go.Proofs.YtbdecchpleiepaaGreat.wr (n1+tz)=n2:=w2;have q3:Go.Proofs.YtbdecchpleiepaaGreat.wr (n2+1)=n3:=w3;rw[hz3,←q3,←q2,←Q1.out];simp only[Zbq,Zie,Zlf];congr 1;omega) (by rw[←show Go.Proofs.YtbdecchpleiepaaGreat.wr (n2+1)=n3 from w3];exact wr_wr _))
     clear hz3;go_wp2_with(first
 |((with_reducible refine Zd 16 ?_);refine Zw 85 _ g (m*53) ys (HR.out _ T.out.below) Vn (by rw[HA.out.len];exact Xe) rfl rfl rfl ?_)
 |((with_reducible refine Zd 5 ?_);refine Zb T.out 85 _ rfl rfl Zgn ?_;intro wa g0 tn;have T:=Hh tn;clear tn)
 |((with_reducible refine Zg 5 16 ?_);refine Za 85 _ _ 85 g0 _ (ys) (T.out.get 0 rfl) HA.out.len (by rw[HA.out.len];exact Xe) HO.out rfl rfl rfl rfl rfl ?_;intro wd p;have T:=Hh (T.out.put 0 rfl p);clear p;have k0:=T.out.cell 0 0 rfl HA.out.c0;have k51:=T.out.cell 0 51 rfl HA.out.c51;have k52:=T.out.cell 0 52 rfl HA.out.c52)
 |(go_at_call 12;refine(HT.out _ T.out.below).mono ?_;rintro e we ⟨rfl,bn⟩;have T:=Hh (T.out.call bn);clear bn))
     go_roundw
     case rel=>exact⟨m+1,_,by go_num,by omega,rfl,T.out.less (bs:=[]) (cs:=[_]) (ts:=[]) (us:=[]),HZ⟩
     case measure=>simp[intOf];omega
    ·have hk:h.kind≠10∧h.kind≠11:=by unfold Zdk at vc';omega
     have hb10:(h.kind == 10)=false:=by simpa using hk.1
     have hb11:(h.kind == 11)=false:=by simpa using hk.2
     by_cases hy:h.kind=1∨h.kind=2∨h.kind=6∨h.kind=7∨h.kind=9∨h.kind=12
     ·have hq:acZ h (We .nil) (We .nil) Acs.nil.len=exZ h.num+1:=by unfold acZ;rw[if_pos hy]
      rw[hq]at hz2
      have vn:VEx h.num:=by
       rcases vc' with⟨k,_,_,v1,_⟩ | ⟨k,_⟩ | ⟨k,_⟩ | ⟨k,_,_,_,_,v1,_⟩ | ⟨k,_,_,v1,_⟩ | ⟨k,_⟩ | ⟨k,_⟩
       ·exact v1
       ·omega
       ·omega
       ·exact v1
       ·exact v1
       ·omega
       ·omega
      have HX:=Hh (HX.out vn);clear hq vc' HL HRr HT HE vn hk
      have hz3:R=Go.Proofs.YtbdecchpleiepaaGreat.wr (v+(Go.Proofs.YtbdecchpleiepaaGreat.wr (exZ h.num)+1)+We (l.dropA (m+1))):=by
       obtain⟨k3,e3⟩:=Zmm (exZ h.num);rw[hz2,e3];exact(Zof _ k3).symm.trans (congrArg _ (by omega))
      clear hz2;generalize Go.Proofs.YtbdecchpleiepaaGreat.wr (exZ h.num)=a at *;generalize h.kind=K at *;obtain⟨n2,w2⟩:∃ n,IntKind.i64.wrap (n1+a)=n:=⟨_,rfl⟩
      have HZ:Hid (R=Go.Proofs.YtbdecchpleiepaaGreat.wr (n2+We (l.dropA (m+1)))∧Go.Proofs.YtbdecchpleiepaaGreat.wr n2=n2):=Hh (ζ (by
       have q2:Go.Proofs.YtbdecchpleiepaaGreat.wr (n1+a)=n2:=w2;rw[hz3,←q2,←Q1.out];simp only[Zbq,Zie,Zlf];congr 1;omega) (by rw[←show Go.Proofs.YtbdecchpleiepaaGreat.wr (n1+a)=n2 from w2];exact wr_wr _))
      clear hz3;rcases hy with rfl | rfl | rfl | rfl | rfl | rfl
      all_goals
       go_wp2_with(first
 |((with_reducible refine Zd 16 ?_);refine Zw 85 _ g (m*53) ys (HR.out _ T.out.below) Vn (by rw[HA.out.len];exact Xe) rfl rfl rfl ?_)
 |((with_reducible refine Zd 5 ?_);refine Zb T.out 85 _ rfl rfl Zgn ?_;intro wa g0 tn;have T:=Hh tn;clear tn)
 |((with_reducible refine Zg 5 16 ?_);refine Za 85 _ _ 85 g0 _ (ys) (T.out.get 0 rfl) HA.out.len (by rw[HA.out.len];exact Xe) HO.out rfl rfl rfl rfl rfl ?_;intro wd p;have T:=Hh (T.out.put 0 rfl p);clear p;have k0:=T.out.cell 0 0 rfl HA.out.c0;have k51:=T.out.cell 0 51 rfl HA.out.c51;have k52:=T.out.cell 0 52 rfl HA.out.c52)
 |((with_reducible refine Zd 80 ?_);refine Zw 81 _ g0 9 num (HA.out.rn _ _ _ (T.out.get 0 rfl)) Yy (Wo HA.out.e2) rfl rfl rfl ?_)
 |(go_at_call 33;refine(HX.out _ T.out.below).mono ?_;rintro e we ⟨rfl,bn⟩;have T:=Hh (T.out.call bn);clear bn))
       go_roundw
       case rel=>exact⟨m+1,_,by go_num,by omega,rfl,T.out.less (bs:=[]) (cs:=[_]) (ts:=[]) (us:=[]),HZ⟩
       case measure=>simp[intOf];omega
     ·have hq:acZ h (We .nil) (We .nil) Acs.nil.len=1:=by unfold acZ;rw[if_neg hy,if_neg hk.1,if_neg hk.2]
      rw[hq]at hz2;have g1:(h.kind == 1)=false:=by rw[beq_eq_false_iff_ne];omega
      have g2:(h.kind == 2)=false:=by rw[beq_eq_false_iff_ne];omega
      have g6:(h.kind == 6)=false:=by rw[beq_eq_false_iff_ne];omega
      have g7:(h.kind == 7)=false:=by rw[beq_eq_false_iff_ne];omega
      have g9:(h.kind == 9)=false:=by rw[beq_eq_false_iff_ne];omega
      have g12:(h.kind == 12)=false:=by rw[beq_eq_false_iff_ne];omega
      have HZ:Hid (R=Go.Proofs.YtbdecchpleiepaaGreat.wr (n1+We (l.dropA (m+1)))∧Go.Proofs.YtbdecchpleiepaaGreat.wr n1=n1):=Hh (ζ (by rw[hz2,←Q1.out,Zbq];congr 1;omega) (by rw[←Q1.out];exact wr_wr _));clear hq vc' HL HRr HT HE HX hk hy hz2;generalize h.kind=K at *;go_wp2_with(first
 |((with_reducible refine Zd 16 ?_);refine Zw 85 _ g (m*53) ys (HR.out _ T.out.below) Vn (by rw[HA.out.len];exact Xe) rfl rfl rfl ?_)
 |((with_reducible refine Zd 5 ?_);refine Zb T.out 85 _ rfl rfl Zgn ?_;intro wa g0 tn;have T:=Hh tn;clear tn)
 |((with_reducible refine Zg 5 16 ?_);refine Za 85 _ _ 85 g0 _ (ys) (T.out.get 0 rfl) HA.out.len (by rw[HA.out.len];exact Xe) HO.out rfl rfl rfl rfl rfl ?_;intro wd p;have T:=Hh (T.out.put 0 rfl p);clear p;have k0:=T.out.cell 0 0 rfl HA.out.c0;have k51:=T.out.cell 0 51 rfl HA.out.c51;have k52:=T.out.cell 0 52 rfl HA.out.c52))
      go_roundw
      case rel=>exact⟨m+1,_,by go_num,by omega,rfl,T.out.less (bs:=[]) (cs:=[_]) (ts:=[]) (us:=[]),HZ⟩
      case measure=>simp[intOf];omega
  · obtain⟨hz2,hz3⟩:=hz.out
    rw[Acs.drop_end l m (by have:=HN.out;omega)]at hz2;have hz2:R=v:=hz2.trans ((congrArg _ (Int.add_zero v)).trans hz3);subst hz2;clear hz hz3;go_wp2_with fail
    go_ret;exact⟨rfl,T.out.below⟩
theorem Zlp(l:Acs):RSOK l:=
 rSize_walk l fun k u hu=>
  have h:=Acs.at_lt l k u hu
  ⟨Zlp u.2.1,Zlp u.2.2⟩
termination_by SizeOf.sizeOf l
decreasing_by
 ·exact(Acs.at_lt l k u hu).1
 ·exact(Acs.at_lt l k u hu).2
theorem fold_fill:∀(l:List Value)(k:Nat)(cs:Array Value),cs.size=k+l.length→(l.zipIdx k).foldl (fun cs x=>cs.setIfInBounds (0+x.2) x.1) cs=(cs.toList.take k++l).toArray
 |[],k,cs,h=>by
  rw[List.length_nil,Nat.add_zero]at h;have:cs.toList.take k=cs.toList:=List.take_of_length_le (by rw[Array.length_toList,h];exact Θ k);simp[this]
 |v::l,k,cs,h=>by
  rw[List.length_cons]at h;rw[List.zipIdx_cons,List.foldl_cons];dsimp only;rw[Nat.zero_add,fold_fill l (k+1) (cs.setIfInBounds k v) (by simp;omega)];congr 1
  rw[show v::l=[v]++l from rfl,←List.append_assoc];congr 1
  rw[Array.toList_setIfInBounds];apply List.ext_getElem?;intro i;rw[List.getElem?_take,List.getElem?_append,List.getElem?_take,List.getElem?_set,List.length_take,Array.length_toList];have hm:min k cs.size=k:=by omega
  rw[hm];by_cases h1:i<k
  ·rw[if_pos (by omega),if_neg (by omega),if_pos h1,if_pos h1]
  ·by_cases h2:i=k
   ·subst h2
    rw[if_pos (by omega),if_pos rfl,if_pos (by omega),if_neg (by omega)];simp
   ·rw[if_neg (by omega),if_neg h1]
    simp;omega
theorem built_one{P:Program}{e:TypeId}{vs:List Value}{sz:Nat}{z:Value}{bytes:Nat}(hinfo:(P.info? e).map (fun i=>(i.zero,i.size,i.bytes))=some (some z,sz,bytes))(hl:vs.length=sz)(hp:0<sz)(hs:sz≤1000):P.builtSlice e 1 [(0,.agg vs.toArray)]=some vs.toArray:=by
 obtain⟨i,hi,hz,hsize,hbytes⟩:=info_parts hinfo;unfold Program.builtSlice;rw[hi];dsimp only;rw[hz];dsimp only;rw[hsize,if_neg (by omega)];unfold Instr.fill;dsimp only;have hv:(Value.agg vs.toArray).cells=vs.toArray:=rfl;rw[hv];have hc:((Array.range (1*sz)).map (z.cells[· % z.cells.size]!)).size=0+vs.length:=by simp[hl]
 rw[if_neg (by simp[hl])];unfold Instr.fill;have:=fold_fill vs 0 _ hc;simp only[Nat.zero_mul];rw[show vs.toArray.zipIdx=(vs.zipIdx 0).toArray from by simp];rw[List.foldl_toArray']
 ·rw[this];simp
 ·simp
theorem Uz{P:Program}{ops:Array Oper}{rest:List Oper}{o:Oper}{a:Act}{w:World}{Q:Exit→Act→World→Prop}(t e:TypeId)(x:Operand)(d:Tmp)(sz bytes:Nat)(z:Value)(vs:List Value)
  (hinfo:(P.info? e).map (fun i=>(i.zero,i.size,i.bytes))=some (some z,sz,bytes))(hl:vs.length=sz)(hp:0<sz)(hs:sz≤1000)(hu:P.underlying t=some (.slice e))
  (hg:o.guard=none)(ho:o.op=.buildSlice t 1 #[(0,x)])(hd:o.dst=some d)(hx:a.eval x=.agg vs.toArray)
  (h:wpList P ops Q rest (a.put (some d) (Λ (some ⟨w.heap.size,0,none⟩) 1 1)) (w.alloc (.cells vs.toArray e))):wpList P ops Q (o::rest) a w:=
 Great.wpList_buildSliceTo hg t e 1 #[(0,x)] ho w.heap.size rfl (some d) hd hu vs.toArray (by simpa[hx]using built_one hinfo hl hp hs) h
section
variable {P:Program} {ops:Array Oper} {rest:List Oper} {o:Oper} {a:Act} {w:World} {Q:Exit→Act→World→Prop}
end
def Zjw(w:World)(q c r K:Nat)(L:List TokV)(st:St)(n:Nat)(ds:Ds)(e:Ending)(w':World):Prop:=
 ∃ v,e=η v∧Zs (fun k=>w.heap.size≤k) w' (.row n ds .nil) [v]∧Xw w w' q c r K L st
def AO.ds(x:AO):Ds:=x.h.dsr x.thn.len x.thn.ds x.els.len x.els.ds
theorem Zs.slice{N:Nat→Prop}{w:World}{n:Nat}{ds:Ds}{v:Value}(h:Zs N w (.row n ds .nil) [v]):∃ A c,v=Λ A n c:=by
 obtain⟨A,c,xs,t,e,_⟩:=h;injection e with e1;exact⟨A,c,e1⟩
theorem plain_head(nk:Int)(L:List TokV)(n:Nat)(a b c:Int)(k:Nat)(st:St):(Xi nk L n (AH.zero a b c) k st).1 = { (Xi nk L n (AH.zero 0 0 0) k st).1 with kind:=a,line:=b,col:=c }∧(Xi nk L n (AH.zero a b c) k st).2=(Xi nk L n (AH.zero 0 0 0) k st).2:=by
 unfold Xi;by_cases h1:k=1∨k=2∨k=12
 ·rw[if_pos h1,if_pos h1];exact⟨rfl,rfl⟩
 rw[if_neg h1,if_neg h1];by_cases h2:k=3∨k=5∨k=14
 ·rw[if_pos h2,if_pos h2];exact⟨rfl,rfl⟩
 rw[if_neg h2,if_neg h2];by_cases h3:k=4
 ·rw[if_pos h3,if_pos h3];exact⟨rfl,rfl⟩
 rw[if_neg h3,if_neg h3];by_cases h4:k=6
 ·rw[if_pos h4,if_pos h4];exact⟨rfl,rfl⟩
 rw[if_neg h4,if_neg h4];by_cases h5:k=7∨k=9
 ·rw[if_pos h5,if_pos h5];exact⟨rfl,rfl⟩
 rw[if_neg h5,if_neg h5];by_cases h6:k=8
 ·rw[if_pos h6,if_pos h6];exact⟨rfl,rfl⟩
 rw[if_neg h6,if_neg h6];by_cases h7:k=13∨k=15
 ·rw[if_pos h7,if_pos h7];exact⟨rfl,rfl⟩
 rw[if_neg h7,if_neg h7];exact⟨rfl,rfl⟩
theorem act_head(nk:Int)(L:List TokV)(n:Nat)(a b c:Int)(k:Nat)(st:St) :
  (Ud nk L n (AH.zero a b c) k st).h = { (Ud nk L n (AH.zero 0 0 0) k st).h with kind:=a,line:=b,col:=c }∧(Ud nk L n (AH.zero a b c) k st).thn=(Ud nk L n (AH.zero 0 0 0) k st).thn ∧
  (Ud nk L n (AH.zero a b c) k st).els=(Ud nk L n (AH.zero 0 0 0) k st).els∧(Ud nk L n (AH.zero a b c) k st).st=(Ud nk L n (AH.zero 0 0 0) k st).st:=by
 cases n with
 |zero=>exact⟨rfl,rfl,rfl,rfl⟩
 |succ n=>
  have e2:(Jm nk L n (AH.zero a b c) st).2=(Jm nk L n (AH.zero 0 0 0) st).2:=rfl;have e1:(Jm nk L n (AH.zero a b c) st).1 = { (Jm nk L n (AH.zero 0 0 0) st).1 with kind:=a,line:=b,col:=c }:=rfl;obtain⟨p1,p2⟩:=plain_head nk L n a b c k st;rw[Ud,Ud,e2,e1,p1,p2];by_cases h1:k=10
  ·rw[if_pos h1,if_pos h1]
   by_cases h2:isS L Zbg (Yt nk L n (Jm nk L n (AH.zero 0 0 0) st).2).2=true
   ·rw[if_pos h2,if_pos h2];exact⟨rfl,rfl,rfl,rfl⟩
   ·rw[if_neg h2,if_neg h2];exact⟨rfl,rfl,rfl,rfl⟩
  ·rw[if_neg h1,if_neg h1]
   by_cases h2:k=11
   ·rw[if_pos h2,if_pos h2];exact⟨rfl,rfl,rfl,rfl⟩
   ·rw[if_neg h2,if_neg h2];exact⟨rfl,rfl,rfl,rfl⟩
theorem act_ds(nk:Int)(L:List TokV)(n:Nat)(a b c:Int)(k:Nat)(st:St):∃ k0 l0 c0 tl,(Ud nk L n (AH.zero 0 0 0) k st).ds=.int k0 (.int l0 (.int c0 tl))∧(Ud nk L n (AH.zero a b c) k st).ds=.int a (.int b (.int c tl)):=by
 obtain⟨h1,h2,h3,h4⟩:=act_head nk L n a b c k st;refine⟨_,_,_,_,rfl,?_⟩;unfold AO.ds;rw[h1,h2,h3];rfl
theorem Acs.ds_app(y:Acs):∀ x:Acs,(x.app y).ds=x.ds.app y.ds
 |.nil=>rfl
 |.cons h t e r=>by
  show(h.dsr t.len t.ds e.len e.ds).app (r.app y).ds=((h.dsr t.len t.ds e.len e.ds).app r.ds).app y.ds;rw[Acs.ds_app y r,Ds.app_assoc]
structure RowD(w:World)(q c r K:Nat)(L:List TokV)(e:TypeId)(sz:Nat)(st:St)(n:Nat)(ds:Ds)(xs:List Value)(v:Value)(wr:World):Prop where
 row:Znf w q c r K L e sz st n xs v wr
 deep:Zs (fun k=>w.heap.size≤k∧v.ownBlock≠some k) wr ds xs
def Zag(q c:Nat)(wr x:World):Prop:=Zy (fun k=>(k=q∨k=c)∨wr.heap.size≤k) wr x
theorem Zag.start(q c:Nat)(w:World):Zag q c w w:=Zy.refl _ _
theorem Zag.move{q c r K:Nat}{L:List TokV}{st:St}{wr x y:World}(h:Zag q c wr x)(m:Xw x y q c r K L st):Zag q c wr y:=Zy.trans h (m.keeps.mono fun k hk=>.inl hk)
theorem Zag.next{q c:Nat}{wr x y:World}(h:Zag q c wr x)(hb:Below x.heap.size x y):Zag q c wr y:=Zy.trans h (Zy.of_below hb)
theorem Zag.put{q c:Nat}{wr x y:World}(h:Zag q c wr x){g:Nat}{t:TypeId}{vs:List Value}(p:Put x y g t vs)(hg:wr.heap.size≤g):Zag q c wr y:=Zy.trans h (p.keeps.mono fun k hk=>.inr (hk ▸ hg))
theorem Zag.drew{q c:Nat}{wr x:World}(h:Zag q c wr x):Zag q c wr x.drew:=Zy.drew h
theorem RowD.round{w x y:World}{q c r K n sz:Nat}{L:List TokV}{e:TypeId}{st st':St}{ds:Ds}{xs:List Value}{v:Value}(h:RowD w q c r K L e sz st n ds xs v x)(f:Zag q c x y)(m:Xw w y q c r K L st'):RowD w q c r K L e sz st' n ds xs v y:=
 ⟨⟨m,f.owns h.row.row (fun k hk c=>by have:=h.row.row.lt k hk;have:=h.row.qin;have:=h.row.cin;omega),h.row.qin,h.row.cin,h.row.rin⟩,
   h.deep.keeps f fun k hk hn=>⟨by have:=h.row.qin;have:=h.row.cin;omega,hn⟩⟩
theorem RowD.push{w x y:World}{q c r K n sz:Nat}{L:List TokV}{e:TypeId}{st:St}{ds es:Ds}{xs ys:List Value}{v v':Value}(h:RowD w q c r K L e sz st n ds xs v x)(ho:y.ownsRow w.heap.size e sz v' (n+1) (xs++ys))(hg:x.grownBy y v.ownBlock)(hat:v'.ownBlock=v.ownBlock∨v'.ownBlock=some x.heap.size)
  (d:Zs (fun k=>w.heap.size≤k∧v.ownBlock≠some k) x es ys):RowD w q c r K L e sz st (n+1) (ds.app es) (xs++ys) v' y:=by
 have hk:Zy (fun k=>v.ownBlock=some k) x y:=Zy.grown (Zy.refl _ _) hg fun k hk=>hk
 have hs:∀ k,k<x.heap.size→(w.heap.size≤k∧v.ownBlock≠some k)→¬(v.ownBlock=some k)∧(w.heap.size≤k∧v'.ownBlock≠some k):=fun k hk hn=>by
  refine⟨hn.2,hn.1,fun c=>?_⟩;rcases hat with e1 | e1
  ·rw[e1]at c;exact hn.2 c
  ·rw[e1]at c;injection c with c;omega
 exact⟨h.row.push ho hg,Zs.app (d.keeps hk hs) (h.deep.keeps hk hs)⟩
theorem Zi.set3L{w:World}{g:Nat}{t:TypeId}{a b c:Value}{l:List Value}(h:Zi w g t (a::b::c::l).toArray)(x y z:Value) :
  Put w (((w.setCell ⟨g,0,none⟩ x).setCell ⟨g,1,none⟩ y).setCell ⟨g,2,none⟩ z) g t (x::y::z::l):=by
 have h1:=Zi.setCells (g:=g) (t:=t) l [x,y,z] [a,b,c] [] w rfl h;exact⟨h1,Zy.setCells (S:=fun k=>k=g) (g:=g) rfl [x,y,z] 0 (Zy.refl _ w)⟩
theorem Zlh:Tryz.prog.underlying 39=some (.slice 85):=by kernel_rfl
def zact:Value:=.agg #[I J 0,I J 0,I J 0,I J 0,I J 0,I J 0,I J 0,Λ none 0 0,I J 0,I J 0,I J 0,I J 0,I J 0,I J 0,I J 0,Λ none 0 0,I J 0,I J 0,I J 0,I J 0,Λ none 0 0,I J 0,I J 0,I J 0,I J 0,Ψ ⟨#[]⟩,I J 0,I J 0,I J 0,I J 0,I J 0,I J 0,I J 0,Λ none 0 0,I J 0,I J 0,I J 0,I J 0,Λ none 0 0,I J 0,I J 0,I J 0,I J 0,I J 0,I J 0,Λ none 0 0,I J 0,I J 0,I J 0,I J 0,Λ none 0 0,Λ none 0 0,Λ none 0 0]
theorem Zly:(Tryz.prog.info? 85).map (fun i=>(i.zero,i.size,i.bytes))=some (some zact,53,576):=by kernel_rfl
theorem acts_step(nk:Int)(L:List TokV)(m:Nat)(st:St)(h:¬ Zk L Wj st=0):Xm nk L (m+1) st =
  (.cons (Ud nk L m (AH.zero (Zk L Wj st) (st.tok L).line (st.tok L).col) (Zk L Wj st) (Ye L Wj st)).h
     (Ud nk L m (AH.zero (Zk L Wj st) (st.tok L).line (st.tok L).col) (Zk L Wj st) (Ye L Wj st)).thn
     (Ud nk L m (AH.zero (Zk L Wj st) (st.tok L).line (st.tok L).col) (Zk L Wj st) (Ye L Wj st)).els
     (Xm nk L m (Ud nk L m (AH.zero (Zk L Wj st) (st.tok L).line (st.tok L).col) (Zk L Wj st) (Ye L Wj st)).st).1,
    (Xm nk L m (Ud nk L m (AH.zero (Zk L Wj st) (st.tok L).line (st.tok L).col) (Zk L Wj st) (Ye L Wj st)).st).2):=by
 rw[Xm,if_neg h]
theorem Znc(nk:Int)(L:List TokV)(m:Nat)(st:St)(h:Zk L Wj st=0):Xm nk L (m+1) st=(.nil,st):=by rw[Xm,if_pos h]
def Ru.ds(x:Ru):Ds:=.int x.when_ (.int x.stratum (.int x.line (.int x.col (.row x.acts.len x.acts.ds .nil))))
def Un:List Ru→Ds
 |[]=>.nil
 |x::r=>x.ds.app (Un r)
theorem Zhg(x:Ru):∀ l:List Ru,Un (l++[x])=(Un l).app x.ds
 |[]=>Ds.app_nil _
 |y::l=>by show y.ds.app (Un (l++[x]))=(y.ds.app (Un l)).app x.ds;rw[Zhg x l,Ds.app_assoc]
theorem Zlg:Tryz.prog.underlying 34=some (.slice 41):=by kernel_rfl
theorem Zlx:(Tryz.prog.info? 41).map (fun i=>(i.zero,i.size,i.bytes))=some (some (.agg #[I J 0,I J 0,I J 0,I J 0,Λ none 0 0]),5,56):=by kernel_rfl
theorem row_ru:(Tryz.prog.underlying 41).map TypeDesc.isRow=some true:=by kernel_rfl
theorem Zlj:(Tryz.prog.info? 41).map (·.size)=some 5:=by kernel_rfl
theorem size_rus:(Tryz.prog.info? 34).map (·.size)=some 1:=by kernel_rfl
theorem row_ca:(Tryz.prog.underlying 36).map TypeDesc.isRow=some true:=by kernel_rfl
theorem size_ca:(Tryz.prog.info? 36).map (·.size)=some 6:=by kernel_rfl
theorem row_pl:(Tryz.prog.underlying 45).map TypeDesc.isRow=some true:=by kernel_rfl
theorem Zoi:(Tryz.prog.info? 45).map (·.size)=some 4:=by kernel_rfl
theorem rules_step(nk:Int)(L:List TokV)(m:Nat)(st:St)(h:¬ Zk L Xf st=0):Wi nk L (m+1) st =
 (⟨Zk L Xf st,strN L (Zk L Xf st) (Ye L Xf st),(st.tok L).line,(st.tok L).col,(Xm nk L m (Zz L Yu (Zbc L (Zk L Xf st) (Ye L Xf st)))).1⟩ ::
    (Wi nk L m (Zz L Xl (Xm nk L m (Zz L Yu (Zbc L (Zk L Xf st) (Ye L Xf st)))).2)).1,
   (Wi nk L m (Zz L Xl (Xm nk L m (Zz L Yu (Zbc L (Zk L Xf st) (Ye L Xf st)))).2)).2):=by rw[Wi,if_neg h]
theorem Zko(nk:Int)(L:List TokV)(m:Nat)(st:St)(h:Zk L Xf st=0):Wi nk L (m+1) st=([],st):=by rw[Wi,if_pos h]
def Ca.ds(x:Ca):Ds:=.str x.name (.int x.cost (.int x.power (.int x.line (.int x.col (.row x.rules.length (Un x.rules) .nil)))))
def Pl.ds(x:Pl):Ds:=.str x.name (.int x.line (.int x.col (.row x.rules.length (Un x.rules) .nil)))
def Zcg:List Ca→Ds
 |[]=>.nil
 |x::r=>x.ds.app (Zcg r)
def Zde:List Pl→Ds
 |[]=>.nil
 |x::r=>x.ds.app (Zde r)
theorem casDs_snoc(x:Ca):∀ l:List Ca,Zcg (l++[x])=(Zcg l).app x.ds
 |[]=>Ds.app_nil _
 |y::l=>by show y.ds.app (Zcg (l++[x]))=(y.ds.app (Zcg l)).app x.ds;rw[casDs_snoc x l,Ds.app_assoc]
theorem Zkt(x:Pl):∀ l:List Pl,Zde (l++[x])=(Zde l).app x.ds
 |[]=>Ds.app_nil _
 |y::l=>by show y.ds.app (Zde (l++[x]))=(y.ds.app (Zde l)).app x.ds;rw[Zkt x l,Ds.app_assoc]
def Fi.ds(x:Fi):Ds:=.row x.cards.length (Zcg x.cards) (.row x.places.length (Zde x.places) .nil)
theorem und_cas:Tryz.prog.underlying 23=some (.slice 36):=by kernel_rfl
theorem und_pls:Tryz.prog.underlying 24=some (.slice 45):=by kernel_rfl
theorem info_ca:(Tryz.prog.info? 36).map (fun i=>(i.zero,i.size,i.bytes))=some (some (.agg #[Ψ ⟨#[]⟩,I J 0,I J 0,I J 0,I J 0,Λ none 0 0]),6,72):=by kernel_rfl
theorem info_pl:(Tryz.prog.info? 45).map (fun i=>(i.zero,i.size,i.bytes))=some (some (.agg #[Ψ ⟨#[]⟩,I J 0,I J 0,Λ none 0 0]),4,56):=by kernel_rfl
theorem size_cas:(Tryz.prog.info? 23).map (·.size)=some 1:=by kernel_rfl
theorem size_pls:(Tryz.prog.info? 24).map (·.size)=some 1:=by kernel_rfl
theorem Zck:(Tryz.prog.underlying 26).map TypeDesc.isRow=some true:=by kernel_rfl
theorem Va:(Tryz.prog.info? 26).map (·.size)=some 2:=by kernel_rfl
end Go.Proofs.YtbdecchpleiepaaGreat
