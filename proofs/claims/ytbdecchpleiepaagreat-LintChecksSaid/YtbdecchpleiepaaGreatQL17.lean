/- Parts of the proof. No conditions but those that each names. -/
import Derived.Test.YtbdecchpleiepaaGreatQL16
set_option maxRecDepth 20000
set_option maxHeartbeats 99000000
set_option linter.unusedVariables false
set_option linter.unusedSimpArgs false
namespace Go.Proofs.YtbdecchpleiepaaGreat
open Go.Value renaming int→I,slice→Λ
open Go.IntKind renaming i64→J
open _root_.Go.Proofs.Tryz renaming prog→Φ
open And renaming intro→ζ
open Go.Ending renaming returned→η
open Go Go.RowKit
def inL(c:Sc):List Value:=[.bool c.place,I J c.whn,.bool c.each]
def Zkz(s:Se)(k:Int):Bool:=s.fs.any (fun x=>x.kind == k)
def rsB(c:Sc)(n:Int):Bool:=c.place && !(c.whn == 6) && (n == 1 || n == 2)
def rlB(tk tl:Int):Bool:=tk == 4 && Zew tl 1 3
theorem lSide_rs(c:Sc)(n:Int):Uo c n=if rsB c n=true then 24 else 0:=by
 obtain⟨pl,wh,ea⟩:=c;cases pl<;>simp[Uo,rsB,Sc.entered]
theorem lTo_rl(tk tl:Int):lTo tk tl=if rlB tk tl=true then 20 else 0:=rfl
theorem rHas(s:Se)(kd:Int)(w:World)(N:Nat→Prop)(vs:List Value)(h:Zs N w s.ds vs) :
  Calls Φ 102 #[.agg vs.toArray,I J kd] w fun e w'=>e=η (.bool (Zkz s kd))∧Below w.heap.size w w':=by
 obtain⟨k,sd,wh,ln,fs,pk⟩:=s;obtain⟨_,rfl,_,rfl,_,rfl,_,rfl,A,c,xs,_,rfl,hn,hA,hx,_,rfl,rfl⟩:=h;dsimp only at *;have HA:=Hh (ζ hA hx);clear hA hx;obtain⟨n,hn0⟩:∃ n,n=fs.length:=⟨_,rfl⟩
 rw[←hn0]at hn ⊢;have HN:=Hh hn0;clear hn0;go_enter Tryz.func102,Tryz.ntmps102;go_wp2
 go_loopw [5] (fun i wy=>∃ m:Nat,i=I J m∧m≤n∧Below w.heap.size w wy∧Zi wy w.heap.size 76 #[I J k,I J sd,I J wh,I J ln,Λ A n c,I J pk]∧∀ j (hj:j<m) (hl:j<fs.length),(fs[j]'hl).kind≠kd) (fun i _=>n - (intOf i).toNat)
 case atStart=>exact⟨0,rfl,by omega,Zh _ _,Zi.made _ _ _,fun j hj=>by omega⟩
 case round=>
  obtain⟨m,rfl,hm,hb,hW,hz⟩:=hrel;obtain⟨c0,c1,c2,c3,c4,c5⟩:=Vm hW;by_cases hml:m<n
  ·have hk1:m<fs.length:=by rw[←HN.out];exact hml
   obtain⟨x,rfl,hx1,p0,p1,p2,p3⟩:=fil_at (w:=wr) (HA.out.1.keeps (Zy.of_below (S:=fun _=>False) hb) (fun k _ hn=>⟨id,hn⟩)) (HA.out.2.below hb) hk1
   have hat:Zkz ⟨k,sd,wh,ln,fs,pk⟩ kd=true∨(fs[m]'hk1).kind≠kd:=by
    by_cases q:(fs[m]'hk1).kind=kd
    ·left;unfold Zkz;exact List.any_eq_true.2 ⟨fs[m]'hk1,List.getElem_mem hk1,by simp[q]⟩
    ·exact .inr q
   have hzn:(fs[m]'hk1).kind≠kd→∀ j (hj:j<m+1) (hl:j<fs.length),(fs[j]'hl).kind≠kd:=fun q j hj hl=>by
    rcases Nat.lt_succ_iff_lt_or_eq.1 hj with r | rfl
    ·exact hz j r hl
    ·exact q
   have HZ:=Hh hzn;generalize fs[m]=t at *;obtain⟨tk,top,tn,tnm⟩:=t;dsimp only at *;clear hzn hz;have lk:(m:Int)<(n:Int):=by omega
   have lk0:(0:Int)≤(m:Int):=by omega
   have hkn:((m:Int)).toNat=m:=by omega
   clear hk1;by_cases hq:tk=kd
   ·have hv:=hat.resolve_right (fun q=>q hq)
    subst hq;go_wp2
    go_ret;exact⟨by rw[hv];rfl,hb⟩
   ·have hbq:(tk == kd)=false:=by simpa using hq
    clear hat;go_wp2
    go_roundw
    case rel=>exact⟨m+1,by go_num,by omega,hb,hW,HZ.out hq⟩
    case measure=>simp[intOf];omega
  ·have hv:Zkz ⟨k,sd,wh,ln,fs,pk⟩ kd=false:=by
    unfold Zkz;rw[List.any_eq_false];intro x hx;obtain⟨j,hj,rfl⟩:=List.getElem_of_mem hx;have hj2:j<fs.length:=hj;have:=hz j (by have:=HN.out;omega) hj2;simpa using this
   clear hz;go_wp2
   go_ret;exact⟨by rw[hv];rfl,hb⟩
theorem rSide(c:Sc)(n:Int)(w:World):Calls Φ 72 #[.agg (inL c).toArray,I J n] w fun e w'=>e=η (.bool (rsB c n))∧Below w.heap.size w w':=by
 obtain⟨pl,wh,ea⟩:=c;simp only[inL];have hv:rsB ⟨pl,wh,ea⟩ n=(pl && !(wh == 6) && (n == 1 || n == 2)):=rfl;generalize rsB ⟨pl,wh,ea⟩ n=V at *;go_enter Tryz.func72,Tryz.ntmps72;cases pl
 ·go_wp2
  go_ret;exact⟨by rw[hv];rfl,Zh _ _⟩
 ·by_cases h6:wh=6
  ·subst h6
   go_wp2
   go_ret;exact⟨by rw[hv];rfl,Zh _ _⟩
  ·have b6:(wh == 6)=false:=by simpa using h6
   by_cases h1:n=1
   ·subst h1
    go_wp2
    go_ret;exact⟨by rw[hv];simp[h6,bne],Zh _ _⟩
   ·have e1:(n == 1)=false:=by simpa using h1
    go_wp2
    go_ret;exact⟨by rw[hv,e1];simp[bne],Zh _ _⟩
theorem rLane(tk tl:Int)(w:World):Calls Φ 73 #[.agg [I J tk,I J tl].toArray] w fun e w'=>e=η (.bool (rlB tk tl))∧Below w.heap.size w w':=by
 have hv:rlB tk tl=(tk == 4 && (decide (tl<1) || decide (3<tl))):=rfl;generalize rlB tk tl=V at *;go_enter Tryz.func73,Tryz.ntmps73;by_cases h4:tk=4
 ·subst h4
  by_cases h1:tl<1
  ·go_wp2
   go_ret;exact⟨by first | (rw[hv];simp[h1];done) | (simp[h1];done) | (simp[h1];omega) | (rw[hv];simp[h1];omega),Zh _ _⟩
  ·go_wp2
   go_ret;exact⟨by first | (rw[hv];simp[h1];done) | (simp[h1];done) | (simp[h1];omega) | (rw[hv];simp[h1];omega),Zh _ _⟩
 ·have b4:(tk == 4)=false:=by simpa using h4
  go_wp2
  go_ret;exact⟨by first | (rw[hv,b4];rfl) | (simp[h4];done) | rfl,Zh _ _⟩
end Go.Proofs.YtbdecchpleiepaaGreat
