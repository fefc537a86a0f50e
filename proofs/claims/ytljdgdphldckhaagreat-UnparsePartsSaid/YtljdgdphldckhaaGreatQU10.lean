/-
  No conditions but those that each theorem names.
-/
import Derived.Deep.QuietTactic
import Derived.BigQuiet
import Derived.Test.YtljdgdphldckhaaGreatQU6
import Derived.Test.YtljdgdphldckhaaGreatQU8
import Derived.Test.YtljdgdphldckhaaGreatQU9
set_option maxRecDepth 20000
set_option maxHeartbeats 12800000
namespace Go.Proofs.YtljdgdphldckhaaGreat
open Go.ChangeShapes Go.WideShapes Go.ChangeAt Go.RowKit
set_option linter.unusedVariables false
set_option linter.unusedSimpArgs false
theorem rtMarks(w:World):Calls Tryz.prog 261 #[] w (MarksPost w):=by
 have hE:=Hh mkCs_eq;go_enter Tryz.func261,Tryz.ntmps261;go_wp2
 go_ret;refine⟨w.heap.size,rfl,Nat.le_refl _,?_,(Below.refl _ _).alloc (Nat.le_refl _) _⟩;rw[hE.out];exact Zd.made _ _ _
theorem Zkm(c:Int)(w:World):Calls Tryz.prog 223 #[.int .u8 c] w fun e w'=>e=.returned (.bool (Zba c))∧w=w':=by
 go_enter Tryz.func223,Tryz.ntmps223;go_wp2
 all_goals
  go_ret;refine⟨Vw ?_,rfl⟩;rw[Bool.eq_iff_iff,Zfj];simp;try omega
theorem Zgx(c:Int)(w:World):Calls Tryz.prog 224 #[.int .u8 c] w fun e w'=>e=.returned (.bool (isD c))∧w=w':=by
 go_enter Tryz.func224,Tryz.ntmps224;go_wp2
 all_goals
  go_ret;refine⟨Vw ?_,rfl⟩;rw[Bool.eq_iff_iff,Zce];simp;try omega
theorem rtUntil(s:ByteArray)(a:Nat)(c:Int)(w:World)(hs:s.size≤140737488355328)(ha:a≤s.size) :
  Calls Tryz.prog 225 #[.string s,.int .i64 (a:Int),.int .u8 c] w fun e w'=>e=.returned (.int .i64 ((a+tw (Xl c) (Zl s a):Nat):Int))∧w=w':=by
 obtain⟨G,hG⟩:∃ G,a+tw (Xl c) (Zl s a)=G:=⟨_,rfl⟩
 rw[hG];have HG:=Hh hG;clear hG;go_enter Tryz.func225,Tryz.ntmps225;go_wp2
 go_loop [1] (fun i=>∃ k:Nat,i=.int .i64 (k:Int)∧k≤s.size∧k+tw (Xl c) (Zl s k)=G) (fun i=>s.size - (intOf i).toNat)
 case atStart=>exact⟨a,rfl,ha,HG.out⟩
 case round=>
  obtain⟨k,rfl,hk,he⟩:=hrel;by_cases h:k<s.size
  ·have g:=Uk s k h
   rw[Xa s h,g]at he;have l1:(k:Int)<(s.size:Int):=by omega
   cases hc:Xl c ((s[k]'h).toNat:Int)with
   |true=>
    rw[Ue _ hc]at he;have hq:(((s[k]'h).toNat:Int) != c)=true:=by simpa using(Zbw _ _).1 hc
    have HE:=Hh he;clear he hc g;go_wp2
    go_round
    case rel=>exact⟨k+1,by go_num,by omega,by have:=HE.out;omega⟩
    case measure=>simp[intOf];omega
   |false=>
    rw[Zdf _ hc]at he
    have hq:(((s[k]'h).toNat:Int) != c)=false:=by
     rw[bne_eq_false_iff_eq];rcases Decidable.em (((s[k]'h).toNat:Int)=c)with e | e
     ·exact e
     ·rw[(Zbw c _).2 e]at hc;cases hc
    have HE:=Hh he;clear he hc g;go_wp2
    go_ret;exact⟨rI (by have:=HE.out;omega),rfl⟩
  ·rw[Zbg s (by omega),Zjh]at he
   have HE:=Hh he;clear he;go_wp2
   go_ret;exact⟨rI (by have:=HE.out;omega),rfl⟩
theorem prefix_test(s:ByteArray)(a:Nat)(m:List Int)(hm:∀ x ∈ m,0≤x∧x<256)(h:a+m.length≤s.size):((s.extract a (a+m.length)).toList == (strOfNums m).toList)=m.isPrefixOf (Zl s a):=by
 rw[Zhc s a m.length h,Zld _ _ (fun x hx=>Ziy s x (List.mem_of_mem_drop (List.mem_of_mem_take hx))) hm,Bool.eq_iff_iff,decide_eq_true_iff,List.isPrefixOf_iff_prefix,List.prefix_iff_eq_take];exact⟨fun e=>e.symm,fun e=>e.symm⟩
theorem prefix_long(s:ByteArray)(a:Nat)(m:List Int)(h:s.size<a+m.length)(h0:0<m.length):m.isPrefixOf (Zl s a)=false:=by
 rw[←Bool.not_eq_true,List.isPrefixOf_iff_prefix];intro hp;have:=hp.length_le;rw[Xp]at this;omega
theorem rtMark(s:ByteArray)(a:Nat)(w:World)(hs:s.size≤140737488355328)(ha:a<s.size) :
  Calls Tryz.prog 227 #[.string s,.int .i64 (a:Int)] w fun e w'=>e=.returned (.int .i64 (Zaq (Zl s a):Nat))∧Below w.heap.size w w':=by
 go_enter Tryz.func227,Tryz.ntmps227;go_wp2_with(go_at_call 261;refine(rtMarks _).mono ?_;rintro e w1 ⟨g,rfl,hg1,hW1,b1⟩)
 have HW:=Hh hW1;have HB:=Hh b1;clear hW1 b1;go_loopw [5,7] (fun n i wr=>∃ k q:Nat,k≤14∧i=.int .i64 (k:Int)∧n=.int .i64 (((mkL.take k).foldl (Vr (Zl s a)) 0:Nat):Int)∧wr=w1.drewN q) (fun _ i _=>14 - (intOf i).toNat)
 case atStart=>exact⟨0,0,by omega,rfl,rfl,rfl⟩
 case round=>
  obtain⟨k,q,hk,rfl,rfl,rfl⟩:=hrel;have hbd:=mk_bd (Zl s a) k;by_cases hkl:k<14
  ·have hst:=mk_next (Zl s a) k hkl
   have hce:w1.cell? ⟨g,k,none⟩=some (.string (strOfNums (mkL[k]'hkl))):=by
    rw[HW.out.read k];have:=mkCs_at k hkl;rw[←this];simp
   have hby:=mk_by k hkl;have hml:=mk_len k hkl;generalize mkL[k]'hkl=m at *;generalize hn:(mkL.take k).foldl (Vr (Zl s a)) 0=n at *;have hpt:=prefix_test s a m hby;have hpl:=prefix_long s a m;have hsz:(strOfNums m).size=m.length:=strOfNums_size m;have HST:=Hh hst;have HNN:=Hh hn;rw[←hsz]at hpt hpl hml;have HSZ:=Hh hsz;generalize strOfNums m=ms at *;obtain⟨s1,s2⟩:=hml;have lk:(k:Int)<14:=by omega
   have lk0:decide ((k:Int)<0)=false:=by simp
   clear hst hsz hn hby hkl;by_cases hfit:a+ms.size≤s.size
   ·have hsl:=fun w=>slice_nn (P:=Tryz.prog) 9 (by kernel_rfl) s a ms.size hfit w
    have hfi:decide ((a:Int)+(ms.size:Int)≤(s.size:Int))=true:=by simp;omega
    cases hp:m.isPrefixOf (Zl s a)with
    |true=>
     have heq:=(hpt hfit).trans hp;clear hpt hpl;by_cases hlt:(n:Int)<(ms.size:Int)
     ·have hv:Vr (Zl s a) n m=ms.size:=by unfold Vr;rw[if_pos ⟨by have:=HSZ.out;omega,hp⟩,HSZ.out]
      have hw0:IntKind.i64.wrap ((a:Int)+(ms.size:Int))=(a:Int)+(ms.size:Int):=IntWalk.i64_in _ (by omega);have HV:=Hh hv;clear hv hp;go_wp2
      go_quiet (fail)
      go_wp2
      go_roundw
      case rel=>exact⟨k+1,_,by omega,by go_num,by rw[HST.out,HV.out],rfl⟩
      case measure=>simp[intOf];omega
     ·have hv:Vr (Zl s a) n m=n:=by unfold Vr;rw[if_neg (by have:=HSZ.out;omega)]
      have hw0:IntKind.i64.wrap ((a:Int)+(ms.size:Int))=(a:Int)+(ms.size:Int):=IntWalk.i64_in _ (by omega);have HV:=Hh hv;clear hv hp;go_wp2
      go_quiet (fail)
      go_wp2
      go_roundw
      case rel=>exact⟨k+1,_,by omega,by go_num,by rw[HST.out,HV.out],rfl⟩
      case measure=>simp[intOf];omega
    |false=>
     have heq:=(hpt hfit).trans hp;have hv:Vr (Zl s a) n m=n:=by unfold Vr;rw[if_neg (by rw[hp];simp)]
     have hw0:IntKind.i64.wrap ((a:Int)+(ms.size:Int))=(a:Int)+(ms.size:Int):=IntWalk.i64_in _ (by omega);clear hpt hpl;have HV:=Hh hv;clear hv hp;go_wp2
     go_quiet (fail)
     go_wp2
     go_roundw
     case rel=>exact⟨k+1,_,by omega,by go_num,by rw[HST.out,HV.out],rfl⟩
     case measure=>simp[intOf];omega
   ·have hfi:decide ((a:Int)+(ms.size:Int)≤(s.size:Int))=false:=by simp;omega
    have hp:=hpl (by omega) (by omega);have hv:Vr (Zl s a) n m=n:=by unfold Vr;rw[if_neg (by rw[hp];simp)]
    have hw0:IntKind.i64.wrap ((a:Int)+(ms.size:Int))=(a:Int)+(ms.size:Int):=IntWalk.i64_in _ (by omega);clear hpt hpl;have HV:=Hh hv;clear hv hp;go_wp2
    go_quiet (fail)
    go_wp2
    go_roundw
    case rel=>exact⟨k+1,_,by omega,by go_num,by rw[HST.out,HV.out],rfl⟩
    case measure=>simp[intOf];omega
  ·obtain rfl:k=14:=by omega
   have hfold:(mkL.take 14).foldl (Vr (Zl s a)) 0=Zaq (Zl s a):=by rw[←mk_fold];rfl
   have HF:=Hh hfold;clear hfold hkl;go_wp2
   go_ret;exact⟨rI (by rw[HF.out]),Zoc HB.out q⟩
end Go.Proofs.YtljdgdphldckhaaGreat
