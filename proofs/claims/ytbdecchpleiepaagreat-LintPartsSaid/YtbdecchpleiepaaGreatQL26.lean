/- Parts of the proof. No conditions but those that each names. -/
import Derived.Test.YtbdecchpleiepaaGreatQL25
set_option maxRecDepth 20000
set_option maxHeartbeats 99000000
set_option linter.unusedVariables false
set_option linter.unusedSimpArgs false
namespace Go.Proofs.YtbdecchpleiepaaGreat
open Go.Value renaming int→I,oneCell'→Γ
open Go.IntKind renaming i64→J
open _root_.Go.Proofs.Tryz renaming prog→Φ
open And renaming intro→ζ
open Go.Ending renaming returned→η
open Go.ChangeShapes Go.WideShapes Go.ChangeAt Go.RowKit
theorem lz_in:(Tryz.prog.info? 89).map (fun i=>i.zero.map Value.cells)=some (some ([.bool false,I J 0,.bool false]:List Value).toArray):=by kernel_rfl
theorem one3(a:Bool)(b:Int)(c:Bool):∀ v ∈ [Value.bool a,I J b,.bool c],v.oneCell'=true:=by simp[Γ]
def RAsOK(l:Acs):Prop:=∀(c:Sc)(w:World)(N:Nat→Prop)(v:Value),Zs N w (.row l.len l.ds .nil) [v] →
 Calls Φ 34 #[.agg (inL c).toArray,v] w fun e w'=>e=η (faV (Uv c 0 l))∧Below w.heap.size w w'
theorem rActs_walk(l:Acs)(hall:∀ k u,l.at? k=some u→RAsOK u.2.1∧RAsOK u.2.2):RAsOK l:=by
 intro c w N v hv;obtain⟨B,bc,xs,rfl,hn,hw,hd⟩:=hv.inRow;clear hv;obtain⟨n,hn0⟩:∃ n,n=l.len:=⟨_,rfl⟩
 rw[←hn0]at hn ⊢;have HN:=Hh hn0;have HW:=Hh (ζ hw hd);have HH:=Hh hall;obtain⟨R,hR⟩:∃ R,R=Uv c 0 l:=⟨_,rfl⟩
 rw[←hR];have HV:=Hh hR;clear hw hd hall hn0 hR;have l63:(n:Int)≤9223372036854775807:=by omega
 obtain⟨pl,whn,ea⟩:=c;simp only[inL];have T:=Hh (Env.start w);go_enter Tryz.func34,Tryz.ntmps34;go_wp2_with(first
 |((with_reducible refine Zd 2 ?_);refine Zf T.out 89 _ ([.bool pl,I J whn,.bool ea]) rfl rfl rfl ?_;intro wa g0 tn;have T:=Hh tn;clear tn)
 |((with_reducible refine Zd 4 ?_);refine Zb T.out 29 _ rfl rfl Wu ?_;intro wa g1 tn;have T:=Hh tn;clear tn))
 go_loopw [5] (fun i wr=>∃ m:Nat,i=I J m∧m≤n∧Env w [(g0,89,[.bool pl,I J whn,.bool ea]),(g1,29,[I J 0,I J 0,I J 0])] [] [] wr∧Hid (R=Uv ⟨pl,whn,ea⟩ m (l.dropA m))) (fun i _=>n - (intOf i).toNat)
 case atStart=>exact⟨0,by go_num,Nat.zero_le _,T.out,Hh (by rw[HV.out];cases l<;>rfl)⟩
 case round=>
  obtain⟨m,rfl,hm,hT,hz⟩:=hrel;have T:=Hh hT;clear hT;by_cases hlt:m<n
  · obtain ⟨u,hu⟩:=Acs.at_some l m (by rw[←HN.out];exact hlt)
    obtain⟨g,ys,rfl,hg,hR,hy⟩:=act_at HW.out.1 HW.out.2 hu;obtain⟨h,t,e⟩:=u;dsimp only at hy;have hz2:=hz.out;rw[Acs.drop_at l m _ hu,Zkr]at hz2;obtain⟨iht,ihe⟩:=HH.out m _ hu;have HO:=Hh hy.one;have HC:=Hh (fun y (b:Below w.heap.size w y)=>rAct_any ⟨pl,whn,ea⟩ h _ _ _ _ y N ys (hy.below b));obtain⟨sel,num,cl,cr,thn,els,hys,h1,h2,h3,h4,h5,h6⟩:=Znd hy;have ha:=actX (k:=h.kind) (l:=h.line) (c:=h.col) (sd:=h.side) (tk:=h.tk) (tl:=h.tl) (how:=h.how) (cop:=h.cop) (nm:=h.name) (thn:=thn) (els:=els) (h1.len.trans (Se.ds_len _)) h2.len12 h3.len12 h4.len12;rw[←hys]at ha;have HT:=Hh (fun y (b:Below w.heap.size w y)=>iht (Sc.inner ⟨pl,whn,ea⟩ h.kind) y N thn (h5.below b));have HE:=Hh (fun y (b:Below w.heap.size w y)=>ihe (Sc.inner ⟨pl,whn,ea⟩ h.kind) y N els (h6.below b));have hei:(ea || h.kind == 11)=(Sc.inner ⟨pl,whn,ea⟩ h.kind).each:=rfl;simp only[inL,show(Sc.inner ⟨pl,whn,ea⟩ h.kind).place=pl from rfl,show(Sc.inner ⟨pl,whn,ea⟩ h.kind).whn=whn from rfl]at HT HE;rw[←hei]at HT HE;have HA:=Hh ha;have HR:Hid (∀ y,Below w.heap.size w y→y.rangeAt g (m*53) ys):=Hh fun y hb j v hv=>(World.cell?_of_block (a:=⟨g,m*53+j,none⟩) (hb.block g hg)).trans (hR j v hv)
    have hone:rOne ⟨pl,whn,ea⟩ m h=if m<12 then rAct ⟨pl,whn,ea⟩ h else 9:=rfl
    clear hys h1 h2 h3 h4 h5 h6 ha hy hR hu hz iht ihe hei;generalize Uv (Sc.inner ⟨pl,whn,ea⟩ h.kind) 0 t=X at *;generalize Uv (Sc.inner ⟨pl,whn,ea⟩ h.kind) 0 e=Y at *;generalize rAct ⟨pl,whn,ea⟩ h=A0 at *;generalize rOne ⟨pl,whn,ea⟩ m h=O at *;generalize h.kind=K at *;generalize h.side=sd at *;generalize h.tk=tk at *;generalize h.tl=tl at *;generalize h.line=ln at *;generalize h.col=co at *;obtain⟨x0,x1,x2⟩:=X;obtain⟨y0,y1,y2⟩:=Y;unfold faV at HT HE;dsimp only at HT HE hz2;have lk:(m:Int)<(n:Int):=by omega
    by_cases hO:O=0
    · have h12:m<12:=by
       refine Decidable.byContradiction fun q=>?_
       rw[if_neg q,hO]at hone;omega
      rw[if_pos h12]at hone;have lm:(m:Int)<12:=by omega
      rw[if_neg (by simpa using hO)]at hz2;subst hO;subst hone;obtain⟨ei,hei⟩:∃ b,b=(ea || K == 11):=⟨_,rfl⟩
      rw[←hei]at HT HE;by_cases hx0:x0=0
      ·subst hx0
       rw[if_pos rfl]at hz2;by_cases hy0:y0=0
       ·subst hy0
        rw[if_neg (by simp)]at hz2;have HZ:=Hh hz2;clear hz2;cases ea
        all_goals
            simp only[Bool.true_or,Bool.false_or]at hei;subst hei;go_wp2_with(first
 |((with_reducible refine Zd 19 ?_);refine Zw 85 _ g (m*53) ys (HR.out _ T.out.below) Vn (by rw[HA.out.len];exact Xe) rfl rfl rfl ?_)
 |((with_reducible refine Zd 6 ?_);refine Zb T.out 85 _ rfl rfl Zgn ?_;intro wa g2 tn;have T:=Hh tn;clear tn)
 |((with_reducible refine Zg 6 19 ?_);refine Za 85 _ _ 85 g2 _ (ys) (T.out.get 2 rfl) HA.out.len (by rw[HA.out.len];exact Xe) HO.out rfl rfl rfl rfl rfl ?_;intro wd p;have T:=Hh (T.out.put 2 rfl p);clear p;have k1:=T.out.cell 2 1 rfl HA.out.c1;have k2:=T.out.cell 2 2 rfl HA.out.c2)
 |((with_reducible refine Zd 22 ?_);refine Zc 89 _ 89 g0 ([_,_,_]) (T.out.get 0 rfl) Jr Wq rfl rfl rfl ?_)
 |((with_reducible refine Zd 23 ?_);refine Zc 85 _ 85 g2 (ys) (T.out.get 2 rfl) Vn (by rw[HA.out.len];exact Xe) rfl rfl rfl ?_)
 |(go_at_call 53;refine(HC.out _ T.out.below).mono ?_;rintro e we ⟨rfl,bn⟩;have T:=Hh (T.out.call bn);clear bn k1 k2;have k1:=T.out.cell 2 1 rfl HA.out.c1;have k2:=T.out.cell 2 2 rfl HA.out.c2;have k0:=T.out.cell 2 0 rfl HA.out.c0;have i0:=T.out.cell 0 0 rfl rfl;have i1:=T.out.cell 0 1 rfl rfl;have i2:=T.out.cell 0 2 rfl rfl)
 |((with_reducible refine Zd 8 ?_);refine Zb T.out 89 _ rfl rfl lz_in ?_;intro wa g3 tn;have T:=Hh tn;clear tn)
 |((with_reducible refine Zg 8 44 ?_);refine Za 89 _ _ 89 g3 _ ([.bool pl,I J whn,.bool true]) (T.out.get 3 rfl) rfl Wq (one3 _ _ _) rfl rfl rfl rfl rfl ?_;intro wd p;have T:=Hh (T.out.put 3 rfl p);clear p;have k51:=T.out.cell 2 51 rfl HA.out.c51)
 |((with_reducible refine Zg 8 44 ?_);refine Za 89 _ _ 89 g3 _ ([.bool pl,I J whn,.bool (K == 11)]) (T.out.get 3 rfl) rfl Wq (one3 _ _ _) rfl rfl rfl rfl rfl ?_;intro wd p;have T:=Hh (T.out.put 3 rfl p);clear p;have k51:=T.out.cell 2 51 rfl HA.out.c51)
 |((with_reducible refine Zd 45 ?_);refine Zc 89 _ 89 g3 ([_,_,_]) (T.out.get 3 rfl) Jr Wq rfl rfl rfl ?_)
 |(go_at_call 34;((with_reducible refine(HT.out _ T.out.below).mono ?_);rintro e we ⟨rfl,bn⟩;have T:=Hh (T.out.call bn);clear bn))
 |((with_reducible refine Zd 9 ?_);refine Zb T.out 29 _ rfl rfl Wu ?_;intro wa g4 tn;have T:=Hh tn;clear tn)
 |((with_reducible refine Zg 9 48 ?_);refine Za 29 _ _ 29 g4 _ ([I J 0,I J x1,I J x2]) (T.out.get 4 rfl) rfl Zj (by simp[Γ]) rfl rfl rfl rfl rfl ?_;intro wd p;have T:=Hh (T.out.put 4 rfl p);clear p;obtain⟨z0,z1,z2,_,_,_⟩:=Zo (T.out.get 4 rfl);have k52:=T.out.cell 2 52 rfl HA.out.c52)
 |((with_reducible refine Zd 52 ?_);refine Zc 89 _ 89 g3 ([_,_,_]) (T.out.get 3 rfl) Jr Wq rfl rfl rfl ?_)
 |(go_at_call 34;((with_reducible refine(HE.out _ T.out.below).mono ?_);rintro e we ⟨rfl,bn⟩;have T:=Hh (T.out.call bn);clear bn))
 |((with_reducible refine Zg 9 55 ?_);refine Za 29 _ _ 29 g4 _ ([I J 0,I J y1,I J y2]) (T.out.get 4 rfl) rfl Zj (by simp[Γ]) rfl rfl rfl rfl rfl ?_;intro wd p;have T:=Hh (T.out.put 4 rfl p);clear p;clear z0 z1 z2;obtain⟨z0,z1,z2,_,_,_⟩:=Zo (T.out.get 4 rfl)))
            go_roundw
            case rel=>exact⟨m+1,by go_num,by omega,T.out.less (bs:=[_,_]) (cs:=[_,_,_]) (ts:=[]) (us:=[]),HZ⟩
            case measure=>simp[intOf];omega
       ·rw[if_pos (by simpa using hy0)]at hz2
        subst hz2;have hb0:(y0 == 0)=false:=by simpa using hy0
        have hb1:(y0 != 0)=true:=by simpa using hy0
        clear hy0;cases ea
        all_goals
            simp only[Bool.true_or,Bool.false_or]at hei;subst hei;go_wp2_with(first
 |((with_reducible refine Zd 19 ?_);refine Zw 85 _ g (m*53) ys (HR.out _ T.out.below) Vn (by rw[HA.out.len];exact Xe) rfl rfl rfl ?_)
 |((with_reducible refine Zd 6 ?_);refine Zb T.out 85 _ rfl rfl Zgn ?_;intro wa g2 tn;have T:=Hh tn;clear tn)
 |((with_reducible refine Zg 6 19 ?_);refine Za 85 _ _ 85 g2 _ (ys) (T.out.get 2 rfl) HA.out.len (by rw[HA.out.len];exact Xe) HO.out rfl rfl rfl rfl rfl ?_;intro wd p;have T:=Hh (T.out.put 2 rfl p);clear p;have k1:=T.out.cell 2 1 rfl HA.out.c1;have k2:=T.out.cell 2 2 rfl HA.out.c2)
 |((with_reducible refine Zd 22 ?_);refine Zc 89 _ 89 g0 ([_,_,_]) (T.out.get 0 rfl) Jr Wq rfl rfl rfl ?_)
 |((with_reducible refine Zd 23 ?_);refine Zc 85 _ 85 g2 (ys) (T.out.get 2 rfl) Vn (by rw[HA.out.len];exact Xe) rfl rfl rfl ?_)
 |(go_at_call 53;refine(HC.out _ T.out.below).mono ?_;rintro e we ⟨rfl,bn⟩;have T:=Hh (T.out.call bn);clear bn k1 k2;have k1:=T.out.cell 2 1 rfl HA.out.c1;have k2:=T.out.cell 2 2 rfl HA.out.c2;have k0:=T.out.cell 2 0 rfl HA.out.c0;have i0:=T.out.cell 0 0 rfl rfl;have i1:=T.out.cell 0 1 rfl rfl;have i2:=T.out.cell 0 2 rfl rfl)
 |((with_reducible refine Zd 8 ?_);refine Zb T.out 89 _ rfl rfl lz_in ?_;intro wa g3 tn;have T:=Hh tn;clear tn)
 |((with_reducible refine Zg 8 44 ?_);refine Za 89 _ _ 89 g3 _ ([.bool pl,I J whn,.bool true]) (T.out.get 3 rfl) rfl Wq (one3 _ _ _) rfl rfl rfl rfl rfl ?_;intro wd p;have T:=Hh (T.out.put 3 rfl p);clear p;have k51:=T.out.cell 2 51 rfl HA.out.c51)
 |((with_reducible refine Zg 8 44 ?_);refine Za 89 _ _ 89 g3 _ ([.bool pl,I J whn,.bool (K == 11)]) (T.out.get 3 rfl) rfl Wq (one3 _ _ _) rfl rfl rfl rfl rfl ?_;intro wd p;have T:=Hh (T.out.put 3 rfl p);clear p;have k51:=T.out.cell 2 51 rfl HA.out.c51)
 |((with_reducible refine Zd 45 ?_);refine Zc 89 _ 89 g3 ([_,_,_]) (T.out.get 3 rfl) Jr Wq rfl rfl rfl ?_)
 |(go_at_call 34;((with_reducible refine(HT.out _ T.out.below).mono ?_);rintro e we ⟨rfl,bn⟩;have T:=Hh (T.out.call bn);clear bn))
 |((with_reducible refine Zd 9 ?_);refine Zb T.out 29 _ rfl rfl Wu ?_;intro wa g4 tn;have T:=Hh tn;clear tn)
 |((with_reducible refine Zg 9 48 ?_);refine Za 29 _ _ 29 g4 _ ([I J 0,I J x1,I J x2]) (T.out.get 4 rfl) rfl Zj (by simp[Γ]) rfl rfl rfl rfl rfl ?_;intro wd p;have T:=Hh (T.out.put 4 rfl p);clear p;obtain⟨z0,z1,z2,_,_,_⟩:=Zo (T.out.get 4 rfl);have k52:=T.out.cell 2 52 rfl HA.out.c52)
 |((with_reducible refine Zd 52 ?_);refine Zc 89 _ 89 g3 ([_,_,_]) (T.out.get 3 rfl) Jr Wq rfl rfl rfl ?_)
 |(go_at_call 34;((with_reducible refine(HE.out _ T.out.below).mono ?_);rintro e we ⟨rfl,bn⟩;have T:=Hh (T.out.call bn);clear bn))
 |((with_reducible refine Zg 9 55 ?_);refine Za 29 _ _ 29 g4 _ ([I J y0,I J y1,I J y2]) (T.out.get 4 rfl) rfl Zj (by simp[Γ]) rfl rfl rfl rfl rfl ?_;intro wd p;have T:=Hh (T.out.put 4 rfl p);clear p;clear z0 z1 z2;obtain⟨z0,z1,z2,_,_,_⟩:=Zo (T.out.get 4 rfl))
 |((with_reducible refine Zd 59 ?_);refine Zc 29 _ 29 g4 ([I J y0,I J y1,I J y2]) (T.out.get 4 rfl) Yf Zj rfl rfl rfl ?_)
 |((with_reducible refine Zg 4 59 ?_);refine Za 29 _ _ 29 g1 _ ([I J y0,I J y1,I J y2]) (T.out.get 1 rfl) rfl Zj (by simp[Γ]) rfl rfl rfl rfl rfl ?_;intro wd p;have T:=Hh (T.out.put 1 rfl p);clear p))
            exact Ya 4 29 29 g1 ([I J y0,I J y1,I J y2]) rfl (T.out.get 1 rfl) Yf Zj rfl rfl ⟨rfl,T.out.below⟩
      ·rw[if_neg hx0,if_pos (by simpa using hx0)]at hz2
       subst hz2;have hb0:(x0 == 0)=false:=by simpa using hx0
       have hb1:(x0 != 0)=true:=by simpa using hx0
       clear hx0;cases ea
       all_goals
        simp only[Bool.true_or,Bool.false_or]at hei;subst hei;go_wp2_with(first
 |((with_reducible refine Zd 19 ?_);refine Zw 85 _ g (m*53) ys (HR.out _ T.out.below) Vn (by rw[HA.out.len];exact Xe) rfl rfl rfl ?_)
 |((with_reducible refine Zd 6 ?_);refine Zb T.out 85 _ rfl rfl Zgn ?_;intro wa g2 tn;have T:=Hh tn;clear tn)
 |((with_reducible refine Zg 6 19 ?_);refine Za 85 _ _ 85 g2 _ (ys) (T.out.get 2 rfl) HA.out.len (by rw[HA.out.len];exact Xe) HO.out rfl rfl rfl rfl rfl ?_;intro wd p;have T:=Hh (T.out.put 2 rfl p);clear p;have k1:=T.out.cell 2 1 rfl HA.out.c1;have k2:=T.out.cell 2 2 rfl HA.out.c2)
 |((with_reducible refine Zd 22 ?_);refine Zc 89 _ 89 g0 ([_,_,_]) (T.out.get 0 rfl) Jr Wq rfl rfl rfl ?_)
 |((with_reducible refine Zd 23 ?_);refine Zc 85 _ 85 g2 (ys) (T.out.get 2 rfl) Vn (by rw[HA.out.len];exact Xe) rfl rfl rfl ?_)
 |(go_at_call 53;refine(HC.out _ T.out.below).mono ?_;rintro e we ⟨rfl,bn⟩;have T:=Hh (T.out.call bn);clear bn k1 k2;have k1:=T.out.cell 2 1 rfl HA.out.c1;have k2:=T.out.cell 2 2 rfl HA.out.c2;have k0:=T.out.cell 2 0 rfl HA.out.c0;have i0:=T.out.cell 0 0 rfl rfl;have i1:=T.out.cell 0 1 rfl rfl;have i2:=T.out.cell 0 2 rfl rfl)
 |((with_reducible refine Zd 8 ?_);refine Zb T.out 89 _ rfl rfl lz_in ?_;intro wa g3 tn;have T:=Hh tn;clear tn)
 |((with_reducible refine Zg 8 44 ?_);refine Za 89 _ _ 89 g3 _ ([.bool pl,I J whn,.bool true]) (T.out.get 3 rfl) rfl Wq (one3 _ _ _) rfl rfl rfl rfl rfl ?_;intro wd p;have T:=Hh (T.out.put 3 rfl p);clear p;have k51:=T.out.cell 2 51 rfl HA.out.c51)
 |((with_reducible refine Zg 8 44 ?_);refine Za 89 _ _ 89 g3 _ ([.bool pl,I J whn,.bool (K == 11)]) (T.out.get 3 rfl) rfl Wq (one3 _ _ _) rfl rfl rfl rfl rfl ?_;intro wd p;have T:=Hh (T.out.put 3 rfl p);clear p;have k51:=T.out.cell 2 51 rfl HA.out.c51)
 |((with_reducible refine Zd 45 ?_);refine Zc 89 _ 89 g3 ([_,_,_]) (T.out.get 3 rfl) Jr Wq rfl rfl rfl ?_)
 |(go_at_call 34;((with_reducible refine(HT.out _ T.out.below).mono ?_);rintro e we ⟨rfl,bn⟩;have T:=Hh (T.out.call bn);clear bn))
 |((with_reducible refine Zd 9 ?_);refine Zb T.out 29 _ rfl rfl Wu ?_;intro wa g4 tn;have T:=Hh tn;clear tn)
 |((with_reducible refine Zg 9 48 ?_);refine Za 29 _ _ 29 g4 _ ([I J x0,I J x1,I J x2]) (T.out.get 4 rfl) rfl Zj (by simp[Γ]) rfl rfl rfl rfl rfl ?_;intro wd p;have T:=Hh (T.out.put 4 rfl p);clear p;obtain⟨z0,z1,z2,_,_,_⟩:=Zo (T.out.get 4 rfl);have k52:=T.out.cell 2 52 rfl HA.out.c52)
 |((with_reducible refine Zd 59 ?_);refine Zc 29 _ 29 g4 ([I J x0,I J x1,I J x2]) (T.out.get 4 rfl) Yf Zj rfl rfl rfl ?_)
 |((with_reducible refine Zg 4 59 ?_);refine Za 29 _ _ 29 g1 _ ([I J x0,I J x1,I J x2]) (T.out.get 1 rfl) rfl Zj (by simp[Γ]) rfl rfl rfl rfl rfl ?_;intro wd p;have T:=Hh (T.out.put 1 rfl p);clear p))
        exact Ya 4 29 29 g1 ([I J x0,I J x1,I J x2]) rfl (T.out.get 1 rfl) Yf Zj rfl rfl ⟨rfl,T.out.below⟩
    · rw[if_pos (by simpa using hO)]at hz2
      subst hz2;have hb1:(O != 0)=true:=by simpa using hO
      by_cases h12:m<12
      ·rw[if_pos h12]at hone
       have lm:(m:Int)<12:=by omega
       subst hone;clear hO;go_wp2_with(first
 |((with_reducible refine Zd 19 ?_);refine Zw 85 _ g (m*53) ys (HR.out _ T.out.below) Vn (by rw[HA.out.len];exact Xe) rfl rfl rfl ?_)
 |((with_reducible refine Zd 6 ?_);refine Zb T.out 85 _ rfl rfl Zgn ?_;intro wa g2 tn;have T:=Hh tn;clear tn)
 |((with_reducible refine Zg 6 19 ?_);refine Za 85 _ _ 85 g2 _ (ys) (T.out.get 2 rfl) HA.out.len (by rw[HA.out.len];exact Xe) HO.out rfl rfl rfl rfl rfl ?_;intro wd p;have T:=Hh (T.out.put 2 rfl p);clear p;have k1:=T.out.cell 2 1 rfl HA.out.c1;have k2:=T.out.cell 2 2 rfl HA.out.c2)
 |((with_reducible refine Zd 22 ?_);refine Zc 89 _ 89 g0 ([_,_,_]) (T.out.get 0 rfl) Jr Wq rfl rfl rfl ?_)
 |((with_reducible refine Zd 23 ?_);refine Zc 85 _ 85 g2 (ys) (T.out.get 2 rfl) Vn (by rw[HA.out.len];exact Xe) rfl rfl rfl ?_)
 |(go_at_call 53;refine(HC.out _ T.out.below).mono ?_;rintro e we ⟨rfl,bn⟩;have T:=Hh (T.out.call bn);clear bn k1 k2;have k1:=T.out.cell 2 1 rfl HA.out.c1;have k2:=T.out.cell 2 2 rfl HA.out.c2;have k0:=T.out.cell 2 0 rfl HA.out.c0;have i0:=T.out.cell 0 0 rfl rfl;have i1:=T.out.cell 0 1 rfl rfl;have i2:=T.out.cell 0 2 rfl rfl)
 |((with_reducible refine Zg 4 32 ?_);refine Za 29 _ _ 29 g1 _ ([I J O,I J ln,I J co]) (T.out.get 1 rfl) rfl Zj (by simp[Γ]) rfl rfl rfl rfl rfl ?_;intro wd p;have T:=Hh (T.out.put 1 rfl p);clear p))
       exact Ya 4 29 29 g1 ([I J O,I J ln,I J co]) rfl (T.out.get 1 rfl) Yf Zj rfl rfl ⟨rfl,T.out.below⟩
      ·rw[if_neg h12]at hone
       have lm:¬(m:Int)<12:=by omega
       subst hone;clear hO;go_wp2_with(first
 |((with_reducible refine Zd 19 ?_);refine Zw 85 _ g (m*53) ys (HR.out _ T.out.below) Vn (by rw[HA.out.len];exact Xe) rfl rfl rfl ?_)
 |((with_reducible refine Zd 6 ?_);refine Zb T.out 85 _ rfl rfl Zgn ?_;intro wa g2 tn;have T:=Hh tn;clear tn)
 |((with_reducible refine Zg 6 19 ?_);refine Za 85 _ _ 85 g2 _ (ys) (T.out.get 2 rfl) HA.out.len (by rw[HA.out.len];exact Xe) HO.out rfl rfl rfl rfl rfl ?_;intro wd p;have T:=Hh (T.out.put 2 rfl p);clear p;have k1:=T.out.cell 2 1 rfl HA.out.c1;have k2:=T.out.cell 2 2 rfl HA.out.c2)
 |((with_reducible refine Zd 22 ?_);refine Zc 89 _ 89 g0 ([_,_,_]) (T.out.get 0 rfl) Jr Wq rfl rfl rfl ?_)
 |((with_reducible refine Zd 23 ?_);refine Zc 85 _ 85 g2 (ys) (T.out.get 2 rfl) Vn (by rw[HA.out.len];exact Xe) rfl rfl rfl ?_)
 |(go_at_call 53;refine(HC.out _ T.out.below).mono ?_;rintro e we ⟨rfl,bn⟩;have T:=Hh (T.out.call bn);clear bn k1 k2;have k1:=T.out.cell 2 1 rfl HA.out.c1;have k2:=T.out.cell 2 2 rfl HA.out.c2;have k0:=T.out.cell 2 0 rfl HA.out.c0;have i0:=T.out.cell 0 0 rfl rfl;have i1:=T.out.cell 0 1 rfl rfl;have i2:=T.out.cell 0 2 rfl rfl)
 |((with_reducible refine Zg 4 32 ?_);refine Za 29 _ _ 29 g1 _ ([I J 9,I J ln,I J co]) (T.out.get 1 rfl) rfl Zj (by simp[Γ]) rfl rfl rfl rfl rfl ?_;intro wd p;have T:=Hh (T.out.put 1 rfl p);clear p))
       exact Ya 4 29 29 g1 ([I J 9,I J ln,I J co]) rfl (T.out.get 1 rfl) Yf Zj rfl rfl ⟨rfl,T.out.below⟩
  · have hz2:=hz.out
    rw[Acs.drop_end l m (by have:=HN.out;omega)]at hz2;have hz2:R=(0,0,0):=hz2;subst hz2;clear hz;go_wp2_with(first
 |((with_reducible refine Zg 4 60 ?_);refine Za 29 _ _ 29 g1 _ ([I J 0,I J 0,I J 0]) (T.out.get 1 rfl) rfl Zj (by simp[Γ]) rfl rfl rfl rfl rfl ?_;intro wd p;have T:=Hh (T.out.put 1 rfl p);clear p))
    exact Ya 4 29 29 g1 ([I J 0,I J 0,I J 0]) rfl (T.out.get 1 rfl) Yf Zj rfl rfl ⟨rfl,T.out.below⟩
theorem rActs_ok(l:Acs):RAsOK l:=
 rActs_walk l fun k u hu=>
  have h:=Acs.at_lt l k u hu
  ⟨rActs_ok u.2.1,rActs_ok u.2.2⟩
termination_by SizeOf.sizeOf l
decreasing_by
 ·exact(Acs.at_lt l k u hu).1
 ·exact(Acs.at_lt l k u hu).2
end Go.Proofs.YtbdecchpleiepaaGreat
