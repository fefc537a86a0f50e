/- Parts of the proof. No conditions but those that each names. -/
import Derived.Test.YtbdecchpleiepaaGreatQL4
set_option maxRecDepth 20000
set_option maxHeartbeats 99000000
set_option linter.unusedVariables false
set_option linter.unusedSimpArgs false
namespace Go.Proofs.YtbdecchpleiepaaGreat
open Go.Value renaming int→I,string→Ψ
open Go.IntKind renaming i64→J
open _root_.Go.Proofs.Tryz renaming prog→Φ
open And renaming intro→ζ
open Go.Ending renaming returned→η
open Go.ChangeShapes Go.WideShapes Go.ChangeAt Go.RowKit
def Zdp(x:Int×Nat×Nat×Nat)(a:Nat):Value:=
 if x.1 < -1 then .tuple #[I J x.1,I J 0,I J 0,I J 0]else .tuple #[I J x.1,I J ((a+x.2.1:Nat):Int),I J ((a+x.2.2.1:Nat):Int),I J ((a+x.2.2.2:Nat):Int)]
theorem rtok_word(s:ByteArray)(a:Nat)(w:World)(hs:s.size≤1099511627776)(ha:a<s.size)(hd:Zaq (gB s a)=true) :
  Calls Φ 88 #[Ψ s,I J (a:Int)] w fun e w'=>e=η (Zdp (Yh (Zl s a)) a)∧Below w.heap.size w w':=by
 obtain⟨G,hG⟩:∃ G,a+tw Zaq (Zl s a)=G:=⟨_,rfl⟩
 have hv:Zdp (Yh (Zl s a)) a=.tuple #[I J 1,I J (a:Int),I J (G:Int),I J (G:Int)]:=by
  have hk:Yh (Zl s a)=(1,0,tw Zaq (Zl s a),tw Zaq (Zl s a)):=by
   rw[Yz s ha,Ja,if_pos hd]
  rw[hk];show Value.tuple #[I J 1,I J ((a+0:Nat):Int),I J ((a+tw Zaq (Zl s a):Nat):Int),I J ((a+tw Zaq (Zl s a):Nat):Int)]=_;rw[hG];rfl
 have HV:=Hh hv;have HG:=Hh hG;have g:=Ug s a ha;have c0:=fun w=>Zjj ((s[a]'ha).toNat:Int) w
 rw[←g,hd]at c0;rw[g]at c0;have l0:decide (s.size≤a)=false:=by simp;omega
 clear hv hG hd g;go_enter Tryz.func88,Tryz.ntmps88;go_wp2_with(go_at_call 111;refine(c0 _).mono ?_;rintro e w1 ⟨rfl,rfl⟩)
 go_loop [9] (fun i=>∃ k:Nat,i=I J (k:Int)∧k≤s.size∧k+tw Zaq (Zl s k)=G) (fun i=>s.size - (intOf i).toNat)
 case atStart=>exact⟨a,rfl,by omega,HG.out⟩
 case round=>
  obtain⟨k,rfl,hk,he⟩:=hrel;by_cases h:k<s.size
  ·have g:=Ug s k h
   rw[Yz s h,g]at he;have l1:(k:Int)<(s.size:Int):=by omega
   have c1:=fun w=>Zjj ((s[k]'h).toNat:Int) w
   cases hc:Zaq ((s[k]'h).toNat:Int)with
   |true=>
    rw[hc]at c1;rw[Vw _ hc]at he;have HE:=Hh he;clear he hc g;go_wp2_with(go_at_call 111;refine(c1 _).mono ?_;rintro e w1 ⟨rfl,rfl⟩)
    go_round
    case rel=>exact⟨k+1,by go_num,by omega,by have:=HE.out;omega⟩
    case measure=>simp[intOf];omega
   |false=>
    rw[hc]at c1;rw[Zci _ hc]at he;have HE:=Hh he;clear he hc g;go_wp2_with(go_at_call 111;refine(c1 _).mono ?_;rintro e w1 ⟨rfl,rfl⟩)
    have hkG:k=G:=by have:=HE.out;omega
    subst hkG;refine bodyPost_ret (v:=.tuple #[I J 1,I J (a:Int),I J (k:Int),I J (k:Int)]) (by simp[results,Tryz.results88,go_sem]) rfl ⟨by rw[HV.out],Below.refl _ _⟩
  ·rw[Zav s (by omega),Zii]at he
   have HE:=Hh he;clear he;go_wp2
   have hkG:k=G:=by have:=HE.out;omega
   subst hkG;refine bodyPost_ret (v:=.tuple #[I J 1,I J (a:Int),I J (k:Int),I J (k:Int)]) (by simp[results,Tryz.results88,go_sem]) rfl ⟨by rw[HV.out],Below.refl _ _⟩
theorem rtok_num(s:ByteArray)(a:Nat)(w:World)(hs:s.size≤1099511627776)(ha:a<s.size)(hd:isD (gB s a)=true) :
  Calls Φ 88 #[Ψ s,I J (a:Int)] w fun e w'=>e=η (Zdp (Yh (Zl s a)) a)∧Below w.heap.size w w':=by
 obtain⟨n,hn⟩:∃ n,tw isD (Zl s a)=n:=⟨_,rfl⟩
 have hsm:Zaq (gB s a:Int)=false:=by rw[Zbs]at hd;rw[←Bool.not_eq_true,Zel];omega
 have hn1:1≤n:=by rw[←hn,Yz s ha,Vw _ hd];omega
 have hk:Yh (Zl s a)=if 2<n∨(n=2∧(gB s a:Int)=48)then(-2,0,0,0)else(2,0,n,n):=by
  rw[←hn];conv=>lhs;rw[Yz s ha]
  rw[Ja,if_neg (by rw[hsm];simp),if_pos hd,←Yz s ha]
 have hnle:a+n≤s.size:=by
  have:=Zhw isD (Zl s a);rw[Xo]at this;omega
 have g:=Ug s a ha;have c0:=fun w=>Zjj ((s[a]'ha).toNat:Int) w
 have c2:=fun w=>Zfy ((s[a]'ha).toNat:Int) w
 rw[←g,hsm]at c0;rw[←g,hd]at c2;rw[g]at c0 c2;have l0:decide (s.size≤a)=false:=by simp;omega
 have hcase:(2<n∧Zdp (Yh (Zl s a)) a=.tuple #[I J (-2),I J 0,I J 0,I J 0]) ∨
    (n=2∧(((s[a]'ha).toNat:Int) == 48)=true∧Zdp (Yh (Zl s a)) a=.tuple #[I J (-2),I J 0,I J 0,I J 0]) ∨
    (n=2∧(((s[a]'ha).toNat:Int) == 48)=false∧Zdp (Yh (Zl s a)) a=.tuple #[I J 2,I J (a:Int),I J ((a+n:Nat):Int),I J ((a+n:Nat):Int)]) ∨
    (n=1∧Zdp (Yh (Zl s a)) a=.tuple #[I J 2,I J (a:Int),I J ((a+n:Nat):Int),I J ((a+n:Nat):Int)]):=by
  rw[hk];by_cases h2:2<n
  ·rw[if_pos (Or.inl h2)];exact .inl ⟨h2,rfl⟩
  · by_cases h3:n=2
    ·by_cases h4:(gB s a:Int)=48
     ·rw[if_pos (Or.inr ⟨h3,h4⟩)];exact .inr (.inl ⟨h3,by rw[←g,h4];rfl,rfl⟩)
     ·rw[if_neg (by omega)];exact .inr (.inr (.inl ⟨h3,by rw[←g];simpa using h4,rfl⟩))
    ·rw[if_neg (by omega)];exact .inr (.inr (.inr ⟨by omega,rfl⟩))
 have HN:=Hh (ζ hn hk);clear hn hk hd hsm g;rcases hcase with⟨h2,hv⟩ | ⟨rfl,h48,hv⟩ | ⟨rfl,h48,hv⟩ | ⟨rfl,hv⟩
 ·have HV:=Hh hv
  clear hv;have hsub:((a+n:Nat):Int) - (a:Int)=(n:Int):=by omega
  go_enter Tryz.func88,Tryz.ntmps88;go_wp2_with(first
 |(go_at_call 111;refine(c0 _).mono ?_;rintro e w1 ⟨rfl,rfl⟩)
 |(go_at_call 112;refine(c2 _).mono ?_;rintro e w1 ⟨rfl,rfl⟩))
  go_loop [9] (fun i=>∃ k:Nat,i=I J (k:Int)∧k≤s.size∧k+tw isD (Zl s k)=a+n) (fun i=>s.size - (intOf i).toNat)
  case atStart=>exact⟨a,rfl,by omega,by rw[HN.out.1]⟩
  case round=>
    obtain⟨k,rfl,hk,he⟩:=hrel;by_cases h:k<s.size
    ·have g:=Ug s k h
     rw[Yz s h,g]at he;have l1:(k:Int)<(s.size:Int):=by omega
     have c1:=fun w=>Zfy ((s[k]'h).toNat:Int) w
     cases hc:isD ((s[k]'h).toNat:Int)with
     |true=>
      rw[hc]at c1;rw[Vw _ hc]at he;have HE:=Hh he;clear he hc g;go_wp2_with(go_at_call 112;refine(c1 _).mono ?_;rintro e w1 ⟨rfl,rfl⟩)
      go_round
      case rel=>exact⟨k+1,by go_num,by omega,by have:=HE.out;omega⟩
      case measure=>simp[intOf];omega
     |false=>
      rw[hc]at c1;rw[Zci _ hc]at he;obtain rfl:k=a+n:=by omega
      clear he hc g;go_wp2_with(go_at_call 112;refine(c1 _).mono ?_;rintro e w1 ⟨rfl,rfl⟩)
      refine bodyPost_ret (v:=.tuple #[I J (-2),I J 0,I J 0,I J 0]) (by simp[results,Tryz.results88,go_sem]) rfl ⟨by rw[HV.out],Below.refl _ _⟩
    ·rw[Zav s (by omega),Zii]at he
     obtain rfl:k=a+n:=by omega
     clear he;go_wp2
     refine bodyPost_ret (v:=.tuple #[I J (-2),I J 0,I J 0,I J 0]) (by simp[results,Tryz.results88,go_sem]) rfl ⟨by rw[HV.out],Below.refl _ _⟩
 ·have HV:=Hh hv
  clear hv;have hsub:((a+2:Nat):Int) - (a:Int)=2:=by omega
  go_enter Tryz.func88,Tryz.ntmps88;go_wp2_with(first
 |(go_at_call 111;refine(c0 _).mono ?_;rintro e w1 ⟨rfl,rfl⟩)
 |(go_at_call 112;refine(c2 _).mono ?_;rintro e w1 ⟨rfl,rfl⟩))
  go_loop [9] (fun i=>∃ k:Nat,i=I J (k:Int)∧k≤s.size∧k+tw isD (Zl s k)=a+2) (fun i=>s.size - (intOf i).toNat)
  case atStart=>exact⟨a,rfl,by omega,by rw[HN.out.1]⟩
  case round=>
    obtain⟨k,rfl,hk,he⟩:=hrel;by_cases h:k<s.size
    ·have g:=Ug s k h
     rw[Yz s h,g]at he;have l1:(k:Int)<(s.size:Int):=by omega
     have c1:=fun w=>Zfy ((s[k]'h).toNat:Int) w
     cases hc:isD ((s[k]'h).toNat:Int)with
     |true=>
      rw[hc]at c1;rw[Vw _ hc]at he;have HE:=Hh he;clear he hc g;go_wp2_with(go_at_call 112;refine(c1 _).mono ?_;rintro e w1 ⟨rfl,rfl⟩)
      go_round
      case rel=>exact⟨k+1,by go_num,by omega,by have:=HE.out;omega⟩
      case measure=>simp[intOf];omega
     |false=>
      rw[hc]at c1;rw[Zci _ hc]at he;obtain rfl:k=a+2:=by omega
      clear he hc g;go_wp2_with(go_at_call 112;refine(c1 _).mono ?_;rintro e w1 ⟨rfl,rfl⟩)
      refine bodyPost_ret (v:=.tuple #[I J (-2),I J 0,I J 0,I J 0]) (by simp[results,Tryz.results88,go_sem]) rfl ⟨by rw[HV.out],Below.refl _ _⟩
    ·rw[Zav s (by omega),Zii]at he
     obtain rfl:k=a+2:=by omega
     clear he;go_wp2
     refine bodyPost_ret (v:=.tuple #[I J (-2),I J 0,I J 0,I J 0]) (by simp[results,Tryz.results88,go_sem]) rfl ⟨by rw[HV.out],Below.refl _ _⟩
 ·have HV:=Hh hv
  clear hv;have hsub:((a+2:Nat):Int) - (a:Int)=2:=by omega
  go_enter Tryz.func88,Tryz.ntmps88;go_wp2_with(first
 |(go_at_call 111;refine(c0 _).mono ?_;rintro e w1 ⟨rfl,rfl⟩)
 |(go_at_call 112;refine(c2 _).mono ?_;rintro e w1 ⟨rfl,rfl⟩))
  go_loop [9] (fun i=>∃ k:Nat,i=I J (k:Int)∧k≤s.size∧k+tw isD (Zl s k)=a+2) (fun i=>s.size - (intOf i).toNat)
  case atStart=>exact⟨a,rfl,by omega,by rw[HN.out.1]⟩
  case round=>
    obtain⟨k,rfl,hk,he⟩:=hrel;by_cases h:k<s.size
    ·have g:=Ug s k h
     rw[Yz s h,g]at he;have l1:(k:Int)<(s.size:Int):=by omega
     have c1:=fun w=>Zfy ((s[k]'h).toNat:Int) w
     cases hc:isD ((s[k]'h).toNat:Int)with
     |true=>
      rw[hc]at c1;rw[Vw _ hc]at he;have HE:=Hh he;clear he hc g;go_wp2_with(go_at_call 112;refine(c1 _).mono ?_;rintro e w1 ⟨rfl,rfl⟩)
      go_round
      case rel=>exact⟨k+1,by go_num,by omega,by have:=HE.out;omega⟩
      case measure=>simp[intOf];omega
     |false=>
      rw[hc]at c1;rw[Zci _ hc]at he;obtain rfl:k=a+2:=by omega
      clear he hc g;go_wp2_with(go_at_call 112;refine(c1 _).mono ?_;rintro e w1 ⟨rfl,rfl⟩)
      refine bodyPost_ret (v:=.tuple #[I J 2,I J (a:Int),I J ((a+2:Nat):Int),I J ((a+2:Nat):Int)]) (by simp[results,Tryz.results88,go_sem]) rfl ⟨by rw[HV.out],Below.refl _ _⟩
    ·rw[Zav s (by omega),Zii]at he
     obtain rfl:k=a+2:=by omega
     clear he;go_wp2
     refine bodyPost_ret (v:=.tuple #[I J 2,I J (a:Int),I J ((a+2:Nat):Int),I J ((a+2:Nat):Int)]) (by simp[results,Tryz.results88,go_sem]) rfl ⟨by rw[HV.out],Below.refl _ _⟩
 ·have HV:=Hh hv
  clear hv;have hsub:((a+1:Nat):Int) - (a:Int)=1:=by omega
  go_enter Tryz.func88,Tryz.ntmps88;go_wp2_with(first
 |(go_at_call 111;refine(c0 _).mono ?_;rintro e w1 ⟨rfl,rfl⟩)
 |(go_at_call 112;refine(c2 _).mono ?_;rintro e w1 ⟨rfl,rfl⟩))
  go_loop [9] (fun i=>∃ k:Nat,i=I J (k:Int)∧k≤s.size∧k+tw isD (Zl s k)=a+1) (fun i=>s.size - (intOf i).toNat)
  case atStart=>exact⟨a,rfl,by omega,by rw[HN.out.1]⟩
  case round=>
    obtain⟨k,rfl,hk,he⟩:=hrel;by_cases h:k<s.size
    ·have g:=Ug s k h
     rw[Yz s h,g]at he;have l1:(k:Int)<(s.size:Int):=by omega
     have c1:=fun w=>Zfy ((s[k]'h).toNat:Int) w
     cases hc:isD ((s[k]'h).toNat:Int)with
     |true=>
      rw[hc]at c1;rw[Vw _ hc]at he;have HE:=Hh he;clear he hc g;go_wp2_with(go_at_call 112;refine(c1 _).mono ?_;rintro e w1 ⟨rfl,rfl⟩)
      go_round
      case rel=>exact⟨k+1,by go_num,by omega,by have:=HE.out;omega⟩
      case measure=>simp[intOf];omega
     |false=>
      rw[hc]at c1;rw[Zci _ hc]at he;obtain rfl:k=a+1:=by omega
      clear he hc g;go_wp2_with(go_at_call 112;refine(c1 _).mono ?_;rintro e w1 ⟨rfl,rfl⟩)
      refine bodyPost_ret (v:=.tuple #[I J 2,I J (a:Int),I J ((a+1:Nat):Int),I J ((a+1:Nat):Int)]) (by simp[results,Tryz.results88,go_sem]) rfl ⟨by rw[HV.out],Below.refl _ _⟩
    ·rw[Zav s (by omega),Zii]at he
     obtain rfl:k=a+1:=by omega
     clear he;go_wp2
     refine bodyPost_ret (v:=.tuple #[I J 2,I J (a:Int),I J ((a+1:Nat):Int),I J ((a+1:Nat):Int)]) (by simp[results,Tryz.results88,go_sem]) rfl ⟨by rw[HV.out],Below.refl _ _⟩
end Go.Proofs.YtbdecchpleiepaaGreat
