/- Parts of the proof. No conditions but those that each names. -/
import Derived.Test.YtbdecchpleiepaaGreatQL15
set_option maxRecDepth 20000
set_option maxHeartbeats 99000000
set_option linter.unusedVariables false
set_option linter.unusedSimpArgs false
namespace Go.Proofs.YtbdecchpleiepaaGreat
open Go.Value renaming int→I,slice→Λ
open Go.IntKind renaming i64→J
open _root_.Go.Proofs.Tryz renaming prog→Φ
open And renaming intro→ζ
open Go.Ending renaming returned→η
open Go Go.RowKit
theorem lSpeaks(s:Se)(kd fi:Int)(w:World)(N:Nat→Prop)(vs:List Value)(h:Zs N w s.ds vs) :
  Calls Φ 155 #[.agg vs.toArray,I J kd,I J fi] w fun e w'=>e=η (.bool (Zak s kd fi))∧Below w.heap.size w w':=by
 obtain⟨k,sd,wh,ln,fs,pk⟩:=s;obtain⟨_,rfl,_,rfl,_,rfl,_,rfl,A,c,xs,_,rfl,hn,hA,hx,_,rfl,rfl⟩:=h;dsimp only at *;have HA:=Hh (ζ hA hx);clear hA hx;obtain⟨n,hn0⟩:∃ n,n=fs.length:=⟨_,rfl⟩
 rw[←hn0]at hn ⊢;have HN:=Hh hn0;clear hn0;go_enter Tryz.func155,Tryz.ntmps155;go_wp2
 go_loopw [12] (fun i wr=>∃ m:Nat,i=I J m∧m≤n∧Below w.heap.size w wr∧Zi wr w.heap.size 76 #[I J k,I J sd,I J wh,I J ln,Λ A n c,I J pk]∧∀ j (hj:j<m) (hl:j<fs.length),(fs[j]'hl).kind≠fi) (fun i _=>n - (intOf i).toNat)
 case atStart=>exact⟨0,rfl,by omega,Zh _ _,Zi.made _ _ _,fun j hj=>by omega⟩
 case round=>
  obtain⟨m,rfl,hm,hb,hW,hz⟩:=hrel;by_cases hml:m<n
  ·have hk1:m<fs.length:=by rw[←HN.out];exact hml
   obtain⟨x,rfl,hx1,p0,p1,p2,p3⟩:=fil_at (w:=wr) (HA.out.1.keeps (Zy.of_below (S:=fun _=>False) hb) (fun k _ hn=>⟨id,hn⟩)) (HA.out.2.below hb) hk1
   have hat:Zak ⟨k,sd,wh,ln,fs,pk⟩ kd fi=true∨(fs[m]'hk1).kind≠fi:=by
    by_cases q:(fs[m]'hk1).kind=fi
    ·left;unfold Zak;rw[List.any_eq_true.2 ⟨fs[m]'hk1,List.getElem_mem hk1,by simp[q]⟩];rfl
    ·exact .inr q
   have hzn:(fs[m]'hk1).kind≠fi→∀ j (hj:j<m+1) (hl:j<fs.length),(fs[j]'hl).kind≠fi:=fun q j hj hl=>by
    rcases Nat.lt_succ_iff_lt_or_eq.1 hj with r | rfl
    ·exact hz j r hl
    ·exact q
   have HZ:=Hh hzn;generalize fs[m]=t at *;obtain⟨tk,top,tn,tnm⟩:=t;dsimp only at *;clear hzn hz;have lk:(m:Int)<(n:Int):=by omega
   have lk0:(0:Int)≤(m:Int):=by omega
   have hkn:((m:Int)).toNat=m:=by omega
   clear hk1;by_cases hq:tk=fi
   ·have hv:=hat.resolve_right (fun q=>q hq)
    subst hq;go_wp2
    go_ret;exact⟨by rw[hv];rfl,hb.trans ((Zh _ _).mono hb.size)⟩
   ·have hbq:(tk == fi)=false:=by simpa using hq
    clear hat;go_wp2
    go_roundw
    case rel=>exact⟨m+1,by go_num,by omega,hb.trans ((Zh _ _).mono hb.size),hW.alloc _,HZ.out hq⟩
    case measure=>simp[intOf];omega
  ·have hv:Zak ⟨k,sd,wh,ln,fs,pk⟩ kd fi=(k == kd):=by
    unfold Zak
    have:fs.any (fun x=>x.kind == fi)=false:=by
     rw[List.any_eq_false];intro x hx;obtain⟨j,hj,rfl⟩:=List.getElem_of_mem hx;have:=hz j (by have:=HN.out;omega) hj;simpa using this
    rw[this];rfl
   obtain⟨c0,c1,c2,c3,c4,c5⟩:=Vm hW;clear hz;go_wp2
   go_ret;exact⟨by rw[hv];rfl,hb⟩
section
variable (c:Sc) (st ln cl:Int) (A:Option Addr) (rn rk:Nat)
theorem lSel_any(s:Se)(w:World)(N:Nat→Prop)(vs:List Value)(h:Zs N w s.ds vs) :
  Calls Φ 129 #[.agg (scL c st ln cl A rn rk).toArray,.agg vs.toArray] w fun e w'=>e=η (I J (Jy c s))∧Below w.heap.size w w':=by
 have he:=fun w=>lEntered c st ln cl A rn rk w
 have hs1:=fun w h=>lSpeaks s 2 5 w N vs h
 have hs2:=fun w h=>lSpeaks s 1 4 w N vs h
 have hsd:=fun w=>Zmy c st ln cl A rn rk s.side w
 have hou:=fun w=>Ziv s.lane 1 3 w
 have HD:=Hh h;have hv:Jy c s=if(!(c.each || c.entered) && Zak s 2 5)=true then 24 else if(c.place && Zak s 1 4)=true then 24 else if Uo c s.side≠0 then Uo c s.side else if(s.wh == 3 && Zew s.lane 1 3)=true then 20 else if 4<s.fs.length then 9 else 0:=rfl
 generalize Jy c s=V at *;generalize c.entered=q at *;generalize Zak s 2 5=s1 at *;generalize Zak s 1 4=s2 at *;generalize Uo c s.side=d at *;generalize Zew s.lane 1 3=ou at *;obtain⟨k,sd,wh,sln,fs,pk⟩:=s;obtain⟨_,rfl,_,rfl,_,rfl,_,rfl,B,c1,xs,_,rfl,hn,hA,hx,_,rfl,rfl⟩:=h;obtain⟨pl,whn,ea⟩:=c;dsimp only[scL]at *;clear hA hx;have T:=Hh (Env.start w);obtain⟨n,hn0⟩:∃ n,n=fs.length:=⟨_,rfl⟩
 rw[←hn0]at hn hv HD hs1 hs2 ⊢;clear hn0;go_enter Tryz.func129,Tryz.ntmps129;cases ea
 focus
  cases q
  focus
   cases s1
   focus
    cases pl
    focus
     by_cases hd:d=0
     focus
      subst hd;by_cases h3:wh=3
      focus
       subst h3;cases ou
       focus
        by_cases hl:4<n
        focus
         have hl2:(4:Int)<(n:Int):=by omega
        rotate_left 1
        focus
         have hl2:¬(4:Int)<(n:Int):=by omega
       rotate_left 2
      rotate_left 3
      focus
       have b3:(wh == 3)=false:=by simpa using h3
       by_cases hl:4<n
       focus
        have hl2:(4:Int)<(n:Int):=by omega
       rotate_left 1
       focus
        have hl2:¬(4:Int)<(n:Int):=by omega
     rotate_left 5
     focus
      have bd:(d == 0)=false:=by simpa using hd
    rotate_left 6
    focus
     cases s2
     focus
      by_cases hd:d=0
      focus
       subst hd;by_cases h3:wh=3
       focus
        subst h3;cases ou
        focus
         by_cases hl:4<n
         focus
                  have hl2:(4:Int)<(n:Int):=by omega
         rotate_left 1
         focus
                  have hl2:¬(4:Int)<(n:Int):=by omega
        rotate_left 2
       rotate_left 3
       focus
        have b3:(wh == 3)=false:=by simpa using h3
        by_cases hl:4<n
        focus
         have hl2:(4:Int)<(n:Int):=by omega
        rotate_left 1
        focus
         have hl2:¬(4:Int)<(n:Int):=by omega
      rotate_left 5
      focus
       have bd:(d == 0)=false:=by simpa using hd
     rotate_left 6
   rotate_left 13
  rotate_left 14
  focus
   cases pl
   focus
    by_cases hd:d=0
    focus
     subst hd;by_cases h3:wh=3
     focus
      subst h3;cases ou
      focus
       by_cases hl:4<n
       focus
        have hl2:(4:Int)<(n:Int):=by omega
       rotate_left 1
       focus
        have hl2:¬(4:Int)<(n:Int):=by omega
      rotate_left 2
     rotate_left 3
     focus
      have b3:(wh == 3)=false:=by simpa using h3
      by_cases hl:4<n
      focus
       have hl2:(4:Int)<(n:Int):=by omega
      rotate_left 1
      focus
       have hl2:¬(4:Int)<(n:Int):=by omega
    rotate_left 5
    focus
     have bd:(d == 0)=false:=by simpa using hd
   rotate_left 6
   focus
    cases s2
    focus
     by_cases hd:d=0
     focus
      subst hd;by_cases h3:wh=3
      focus
       subst h3;cases ou
       focus
        by_cases hl:4<n
        focus
         have hl2:(4:Int)<(n:Int):=by omega
        rotate_left 1
        focus
         have hl2:¬(4:Int)<(n:Int):=by omega
       rotate_left 2
      rotate_left 3
      focus
       have b3:(wh == 3)=false:=by simpa using h3
       by_cases hl:4<n
       focus
        have hl2:(4:Int)<(n:Int):=by omega
       rotate_left 1
       focus
        have hl2:¬(4:Int)<(n:Int):=by omega
     rotate_left 5
     focus
      have bd:(d == 0)=false:=by simpa using hd
    rotate_left 6
 rotate_left 27
 focus
  cases pl
  focus
   by_cases hd:d=0
   focus
    subst hd;by_cases h3:wh=3
    focus
     subst h3;cases ou
     focus
      by_cases hl:4<n
      focus
       have hl2:(4:Int)<(n:Int):=by omega
      rotate_left 1
      focus
       have hl2:¬(4:Int)<(n:Int):=by omega
     rotate_left 2
    rotate_left 3
    focus
     have b3:(wh == 3)=false:=by simpa using h3
     by_cases hl:4<n
     focus
      have hl2:(4:Int)<(n:Int):=by omega
     rotate_left 1
     focus
      have hl2:¬(4:Int)<(n:Int):=by omega
   rotate_left 5
   focus
    have bd:(d == 0)=false:=by simpa using hd
  rotate_left 6
  focus
   cases s2
   focus
    by_cases hd:d=0
    focus
     subst hd;by_cases h3:wh=3
     focus
      subst h3;cases ou
      focus
       by_cases hl:4<n
       focus
        have hl2:(4:Int)<(n:Int):=by omega
       rotate_left 1
       focus
        have hl2:¬(4:Int)<(n:Int):=by omega
      rotate_left 2
     rotate_left 3
     focus
      have b3:(wh == 3)=false:=by simpa using h3
      by_cases hl:4<n
      focus
       have hl2:(4:Int)<(n:Int):=by omega
      rotate_left 1
      focus
       have hl2:¬(4:Int)<(n:Int):=by omega
    rotate_left 5
    focus
     have bd:(d == 0)=false:=by simpa using hd
   rotate_left 6
 all_goals go_wp2_with(first
 |((with_reducible refine Zd 2 ?_);refine Zf T.out 107 _ _ rfl rfl rfl ?_;intro wn gn tn;have T:=Hh tn;clear tn;obtain⟨fc0,fc1,fc2,fc3,fc4,fc5,fc6⟩:=Yo (T.out.get 0 rfl))
 |((with_reducible refine Zd 3 ?_);refine Zf T.out 76 _ _ rfl rfl rfl ?_;intro wn gn tn;have T:=Hh tn;clear tn;obtain⟨fc0,fc1,fc2,fc3,fc4,fc5,fc6⟩:=Yo (T.out.get 0 rfl);obtain⟨fd0,fd1,fd2,fd3,fd4,fd5⟩:=Vm (T.out.get 1 rfl))
 |(go_at_call 154;refine(he _).mono ?_;rintro e wn ⟨rfl,bn⟩;have T:=Hh (T.out.call bn);clear bn;obtain⟨fc0,fc1,fc2,fc3,fc4,fc5,fc6⟩:=Yo (T.out.get 0 rfl);obtain⟨fd0,fd1,fd2,fd3,fd4,fd5⟩:=Vm (T.out.get 1 rfl))
 |(go_at_call 155;(with_reducible refine(hs1 _ (HD.out.below T.out.below)).mono ?_);rintro e wn ⟨rfl,bn⟩;have T:=Hh (T.out.call bn);clear bn;obtain⟨fc0,fc1,fc2,fc3,fc4,fc5,fc6⟩:=Yo (T.out.get 0 rfl);obtain⟨fd0,fd1,fd2,fd3,fd4,fd5⟩:=Vm (T.out.get 1 rfl))
 |(go_at_call 155;(with_reducible refine(hs2 _ (HD.out.below T.out.below)).mono ?_);rintro e wn ⟨rfl,bn⟩;have T:=Hh (T.out.call bn);clear bn;obtain⟨fc0,fc1,fc2,fc3,fc4,fc5,fc6⟩:=Yo (T.out.get 0 rfl);obtain⟨fd0,fd1,fd2,fd3,fd4,fd5⟩:=Vm (T.out.get 1 rfl))
 |(go_at_call 132;refine(hsd _).mono ?_;rintro e wn ⟨rfl,bn⟩;have T:=Hh (T.out.call bn);clear bn;obtain⟨fc0,fc1,fc2,fc3,fc4,fc5,fc6⟩:=Yo (T.out.get 0 rfl);obtain⟨fd0,fd1,fd2,fd3,fd4,fd5⟩:=Vm (T.out.get 1 rfl))
 |(go_at_call 30;refine(hou _).mono ?_;rintro e wn ⟨rfl,bn⟩;have T:=Hh (T.out.call bn);clear bn;obtain⟨fc0,fc1,fc2,fc3,fc4,fc5,fc6⟩:=Yo (T.out.get 0 rfl);obtain⟨fd0,fd1,fd2,fd3,fd4,fd5⟩:=Vm (T.out.get 1 rfl)))
 all_goals go_ret
 all_goals exact⟨by rw[hv];first | (simp[h3,hl];done) | (simp[hl];done) | (simp[hd];done) | (simp[h3];done) | (simp;done),T.out.below⟩
end
end Go.Proofs.YtbdecchpleiepaaGreat
