/- Parts of the proof. No conditions but those that each names. -/
import Derived.Test.YtbdecchpleiepaaGreatQL17
set_option maxRecDepth 20000
set_option maxHeartbeats 99000000
set_option linter.unusedVariables false
set_option linter.unusedSimpArgs false
namespace Go.Proofs.YtbdecchpleiepaaGreat
open Go.Value renaming int→I
open Go.IntKind renaming i64→J
open _root_.Go.Proofs.Tryz renaming prog→Φ
open Go.Ending renaming returned→η
open Go Go.RowKit
theorem lSelE_r(c:Sc)(s:Se):Jy c s=if(!(c.each || (c.place && (c.whn == 6))) && (s.kind == 2 || Zkz s 5))=true∨(c.place && (s.kind == 1 || Zkz s 4))=true∨rsB c s.side=true then 24 else if(s.wh == 3 && (decide (s.lane<1) || decide (3<s.lane)))=true then 20 else if 4<s.fs.length then 9 else 0:=by
 have e1:Zak s 2 5=(s.kind == 2 || Zkz s 5):=Bool.or_comm _ _;have e2:Zak s 1 4=(s.kind == 1 || Zkz s 4):=Bool.or_comm _ _;unfold Jy;rw[e1,e2,lSide_rs];show(if(!(c.each || (c.place && (c.whn == 6))) && (s.kind == 2 || Zkz s 5))=true then(24:Int)else if(c.place && (s.kind == 1 || Zkz s 4))=true then 24 else if(if rsB c s.side=true then(24:Int)else 0)≠0 then(if rsB c s.side=true then 24 else 0)else if(s.wh == 3 && (decide (s.lane<1) || decide (3<s.lane)))=true then 20 else if 4<s.fs.length then 9 else 0)=_;generalize(!(c.each || (c.place && (c.whn == 6))) && (s.kind == 2 || Zkz s 5))=A;generalize(c.place && (s.kind == 1 || Zkz s 4))=B;generalize rsB c s.side=C;cases A<;>cases B<;>cases C<;>simp
theorem selWays{Q:Prop}(hq:Q)(ea pl w6 C:Bool)(k2 k1 q5 q4:Bool)(V X:Int)(hv:V=if(!(ea || (pl && w6)) && (k2 || q5))=true∨(pl && (k1 || q4))=true∨C=true then 24 else X) :
  (V=24∧ea=false∧(pl=false∨pl=true∧w6=false)∧(k2=true∨k2=false∧q5=true)) ∨
  ((ea=true∨(ea=false∧pl=true∧w6=true)∨(ea=false∧(pl=false∨pl=true∧w6=false)∧k2=false∧q5=false)) ∧
    ((V=24∧pl=true∧(k1=true∨k1=false∧q4=true))∨((pl=false∨pl=true∧k1=false∧q4=false)∧(V=24∧C=true∨V=X∧C=false∧Q)))):=by
 cases ea<;>cases pl<;>cases w6<;>cases k2<;>cases q5<;>cases k1<;>cases q4<;>cases C<;>simp_all
theorem selX(wh ln n X:Int)(h:X=if(wh == 3 && (decide (ln<1) || decide (3<ln)))=true then 20 else if 4<n then 9 else 0) :
  (X=20∧wh=3∧(ln<1∨¬ ln<1∧3<ln))∨((((wh == 3)=false)∨(wh=3∧¬ ln<1∧¬ 3<ln))∧(X=9∧4<n∨X=0∧¬ 4<n)):=by
 by_cases h3:wh=3
 ·subst h3
  by_cases h1:ln<1
  ·exact .inl ⟨by rw[h];simp[h1],rfl,.inl h1⟩
  ·by_cases h2:3<ln
   ·exact .inl ⟨by rw[h];simp[h2],rfl,.inr ⟨h1,h2⟩⟩
   ·refine .inr ⟨.inr ⟨rfl,h1,h2⟩,?_⟩
    rw[if_neg (by simp[h1,h2])]at h;by_cases h4:4<n
    ·exact .inl ⟨by rw[h,if_pos h4],h4⟩
    ·exact .inr ⟨by rw[h,if_neg h4],h4⟩
 ·have h3b:(wh == 3)=false:=by simpa using h3
  refine .inr ⟨.inl h3b,?_⟩;rw[if_neg (by rw[h3b];simp)]at h;by_cases h4:4<n
  ·exact .inl ⟨by rw[h,if_pos h4],h4⟩
  ·exact .inr ⟨by rw[h,if_neg h4],h4⟩
theorem rSel(c:Sc)(s:Se)(w:World)(N:Nat→Prop)(vs:List Value)(h:Zs N w s.ds vs) :
  Calls Φ 71 #[.agg (inL c).toArray,.agg vs.toArray] w fun e w'=>e=η (I J (Jy c s))∧Below w.heap.size w w':=by
 have h5:=fun w h=>rHas s 5 w N vs h
 have h4:=fun w h=>rHas s 4 w N vs h
 have hsd:=fun w=>rSide c s.side w
 have HD:=Hh h;have hv:=lSelE_r c s;generalize Jy c s=V at *;generalize Zkz s 5=q5 at *;generalize Zkz s 4=q4 at *;generalize rsB c s.side=C at *;obtain⟨k,sd,wh,sln,fs,pk⟩:=s;obtain⟨_,rfl,_,rfl,_,rfl,_,rfl,B,c1,xs,_,rfl,hn,hA,hx,_,rfl,rfl⟩:=h;obtain⟨pl,whn,ea⟩:=c;dsimp only[inL]at *;clear hA hx;have T:=Hh (Env.start w);obtain⟨n,hn0⟩:∃ n,n=fs.length:=⟨_,rfl⟩
 rw[←hn0]at hn hv HD h4 h5 ⊢;clear hn0;obtain⟨X,hX⟩:∃ X:Int,X=if(wh == 3 && (decide (sln<1) || decide (3<sln)))=true then 20 else if 4<(n:Int)then 9 else 0:=⟨_,rfl⟩
 have hw:=selWays (selX wh sln n X hX) ea pl (whn == 6) C (k == 2) (k == 1) q5 q4 V X (by rw[hv,hX];simp only[show((4:Int)<(n:Int))=(4<n) by simp;omega]);clear hv hX;rcases hw with⟨rfl,rfl,hp | ⟨hp,f6⟩,f2 | ⟨f2,rfl⟩⟩ | ⟨rfl | ⟨rfl,hp,f6⟩ | ⟨rfl,hp | ⟨hp,f6⟩,f2,rfl⟩,⟨rfl,hq,f1 | ⟨f1,rfl⟩⟩ | ⟨hq | ⟨hq,f1,rfl⟩,⟨rfl,rfl⟩ | ⟨rfl,rfl,⟨rfl,rfl,f3 | ⟨f3,f4⟩⟩ | ⟨f3 | ⟨rfl,f3,f4⟩,⟨rfl,f5⟩ | ⟨rfl,f5⟩⟩⟩⟩⟩
 all_goals
  try cases hp
  try cases hq
 all_goals
  go_enter Tryz.func71,Tryz.ntmps71;go_wp2_with(first
 |((with_reducible refine Zd 2 ?_);refine Zf T.out 89 _ [_,_,_] rfl rfl rfl ?_;intro wn g0 tn;have T:=Hh tn;clear tn)
 |((with_reducible refine Zd 3 ?_);refine Zf T.out 76 _ [_,_,_,_,_,_] rfl rfl rfl ?_;intro wn g1 tn;have T:=Hh tn;clear tn;obtain⟨fc0,fc1,fc2,_,_,_⟩:=Zo (T.out.get 0 rfl);obtain⟨fd0,fd1,fd2,fd3,fd4,fd5⟩:=Vm (T.out.get 1 rfl))
 |(go_at_call 102;(with_reducible refine(h5 _ (HD.out.below T.out.below)).mono ?_);rintro e wn ⟨rfl,bn⟩;have T:=Hh (T.out.call bn);clear bn;obtain⟨fc0,fc1,fc2,_,_,_⟩:=Zo (T.out.get 0 rfl);obtain⟨fd0,fd1,fd2,fd3,fd4,fd5⟩:=Vm (T.out.get 1 rfl))
 |(go_at_call 102;(with_reducible refine(h4 _ (HD.out.below T.out.below)).mono ?_);rintro e wn ⟨rfl,bn⟩;have T:=Hh (T.out.call bn);clear bn;obtain⟨fc0,fc1,fc2,_,_,_⟩:=Zo (T.out.get 0 rfl);obtain⟨fd0,fd1,fd2,fd3,fd4,fd5⟩:=Vm (T.out.get 1 rfl))
 |(go_at_call 72;refine(hsd _).mono ?_;rintro e wn ⟨rfl,bn⟩;have T:=Hh (T.out.call bn);clear bn;obtain⟨fc0,fc1,fc2,_,_,_⟩:=Zo (T.out.get 0 rfl);obtain⟨fd0,fd1,fd2,fd3,fd4,fd5⟩:=Vm (T.out.get 1 rfl)))
  go_ret;exact⟨rfl,T.out.below⟩
end Go.Proofs.YtbdecchpleiepaaGreat
