/- Parts of the proof. No conditions but those that each names. -/
import Derived.Test.YtbdecchpleiepaaGreatQL1
set_option maxRecDepth 20000
set_option maxHeartbeats 99000000
set_option linter.unusedVariables false
set_option linter.unusedSimpArgs false
namespace Go.Proofs.YtbdecchpleiepaaGreat
open Go.Value renaming int→I,slice→Λ,string→Ψ
open Go.IntKind renaming i64→J
open _root_.Go.Proofs.Tryz renaming prog→Φ
open Nat renaming le_refl→Θ
open Go.Ending renaming returned→η
open Go.ChangeShapes Go.WideShapes Go.ChangeAt Go.RowKit
theorem one_byte(a:Int)(w:World):∀ dst,Tryz.prog.underlying dst=some .string→(convert 215 dst (Λ (some ⟨w.heap.size,0,none⟩) 1 1)).run Φ (w.alloc (.cells #[.int .u8 a] 5))=.ok (Ψ (strOfNums [a])) (w.alloc (.cells #[.int .u8 a] 5)):=by
 refine run_convert_bytes_arg _ 215 5 (by kernel_rfl) (by kernel_rfl) w.heap.size 0 1 1 [a] rfl ?_;intro i hi;obtain rfl:i=0:=by omega
 go_simp
theorem putS_small{n:Int}(h0:0≤n)(h1:n<10):Zej n=strOfNums [48+n]:=by
 unfold Zej;rw[Zfm h0,Zef (by omega),Int.toNat_of_nonneg h0]
theorem putS_minus{n:Int}(hn:n<0):Zej n=strOfNums [45]++Zej (-n):=by
 unfold Zej;rw[Zkn,putL_neg hn,Zfm (by omega)];rfl
theorem putS_tens{n:Int}(hn:10≤n):Zej n=Zej (n.tdiv 10)++Zej (n.tmod 10):=by
 have e1:(n.tdiv 10).natAbs=n.natAbs / 10:=Int.natAbs_tdiv n 10;have e2:(n.tmod 10).natAbs=n.natAbs % 10:=Int.natAbs_tmod n 10;have p1:0≤n.tdiv 10:=Int.tdiv_nonneg (by omega) (by omega);have p2:0≤n.tmod 10:=Int.tmod_nonneg 10 (by omega);unfold Zej;rw[Zkn,Zfm (show 0≤n by omega),Zfm p1,Zfm p2,Zge (by omega),Zef (n:=(n.tmod 10).toNat) (by omega)];congr 3
 ·congr 1;omega
 ·congr 1;omega
theorem putS_tens_neg{n:Int}(hn:n ≤ -10):n.tdiv 10<0∧Zej n=Zej (n.tdiv 10)++Zej (-(n.tmod 10)):=by
 have e1:(n.tdiv 10).natAbs=n.natAbs / 10:=Int.natAbs_tdiv n 10;have e2:(n.tmod 10).natAbs=n.natAbs % 10:=Int.natAbs_tmod n 10
 have p1:n.tdiv 10<0:=by
  have:0≤(-n).tdiv 10:=Int.tdiv_nonneg (by omega) (by omega);rw[Int.neg_tdiv]at this;omega
 have p2:0 ≤ -(n.tmod 10):=by
  have:0≤(-n).tmod 10:=Int.tmod_nonneg 10 (by omega);rw[Int.neg_tmod]at this;exact this
 refine⟨p1,?_⟩;unfold Zej;rw[Zkn,putL_neg (show n<0 by omega),putL_neg p1,Zfm p2,Zge (n:=(-n).toNat) (by omega),Zef (n:=(-(n.tmod 10)).toNat) (by omega)];rw[List.cons_append];congr 3
 ·congr 1;omega
 ·congr 1;omega
theorem drPut_any(k:Nat):∀(n:Int)(w:World),2*n.natAbs+(if n<0 then 1 else 0)≤k → -9223372036854775808≤n→n≤9223372036854775807→Calls Φ 146 #[I J n] w fun e w'=>e=η (Ψ (Zej n))∧Below w.heap.size w w':=by
 induction k using Nat.strongRecOn with
 |ind k ih=>
  intro n w hk h1 h2;have IH:=Hh ih;clear ih;by_cases hn:n<0
  ·rw[if_pos hn]at hk
   by_cases h10 : -10<n
   ·have E:=Hh (putS_minus hn)
    have hz:=Zgm (-n) (by omega) (by omega);have hc:∀ w,Calls Φ 146 #[I J (-n)] w fun e w'=>e=η (Ψ (Zej (-n)))∧Below w.heap.size w w':=fun w=>IH.out (k - 1) (by omega) (-n) w (by rw[if_neg (by omega)];omega) (by omega) (by omega)
    clear hk;go_enter Tryz.func146,Tryz.ntmps146;go_wp2_with(go_at_call 146;refine(hc _).mono ?_;rintro e w1 ⟨rfl,b1⟩)
    go_ret;exact⟨by rw[E.out];rfl,b1⟩
   ·obtain⟨q1,q2⟩:=putS_tens_neg (n:=n) (by omega)
    have e1:(n.tdiv 10).natAbs=n.natAbs / 10:=Int.natAbs_tdiv n 10;have e2:(n.tmod 10).natAbs=n.natAbs % 10:=Int.natAbs_tmod n 10
    have p2:0 ≤ -(n.tmod 10):=by
     have:0≤(-n).tmod 10:=Int.tmod_nonneg 10 (by omega);rw[Int.neg_tmod]at this;exact this
    have hc1:∀ w,Calls Φ 146 #[I J (n.tdiv 10)] w fun e w'=>e=η (Ψ (Zej (n.tdiv 10)))∧Below w.heap.size w w':=fun w=>IH.out (k - 1) (by omega) (n.tdiv 10) w (by rw[if_pos q1];omega) (by omega) (by omega)
    have hc2:∀ w,Calls Φ 146 #[I J (-(n.tmod 10))] w fun e w'=>e=η (Ψ (Zej (-(n.tmod 10))))∧Below w.heap.size w w':=fun w=>IH.out (k - 1) (by omega) (-(n.tmod 10)) w (by rw[if_neg (by omega)];omega) (by omega) (by omega)
    have E:=Hh q2;have z1:=Zgm (n.tdiv 10) (by omega) (by omega);have z2:=Zgm (-(n.tmod 10)) (by omega) (by omega);have q4 : -9223372036854775808≤n.tdiv 10:=by omega
    have r1:n.tmod 10≤0:=by omega
    have r2 : -10<n.tmod 10:=by omega
    clear hk q2 e1 e2 p2;obtain⟨q,hq⟩:∃ q,n.tdiv 10=q:=⟨_,rfl⟩
    obtain⟨r,hr⟩:∃ r,n.tmod 10=r:=⟨_,rfl⟩
    rw[hq]at hc1 q1 q4 E z1;rw[hr]at hc2 r1 r2 E z2
    have hc:∀ m,m=q∨m = -r→∀ w,Calls Φ 146 #[I J m] w fun e w'=>e=η (Ψ (Zej m))∧Below w.heap.size w w':=by
     rintro m (rfl | rfl)
     ·exact hc1
     ·exact hc2
    clear hc1 hc2;have c0:=Below.refl w.heap.size w;go_enter Tryz.func146,Tryz.ntmps146;go_wp2_with(go_at_call 146;refine(hc _ (by first | exact .inl rfl | exact .inr rfl) _).mono ?_;rintro e w1 ⟨rfl,b1⟩;have c1:=Wg (by assumption) b1;clear b1)
    go_ret;exact⟨by rw[E.out];rfl,c1⟩
  ·rw[if_neg hn]at hk
   by_cases h10:n<10
   ·have E:=Hh (putS_small (n:=n) (by omega) h10)
    have hcv:=one_byte (48+n);go_enter Tryz.func146,Tryz.ntmps146;go_wp2
    go_ret;exact⟨by rw[E.out];rfl,(Below.refl _ _).alloc (Θ _) _⟩
   ·have q2:=putS_tens (n:=n) (by omega)
    have e1:(n.tdiv 10).natAbs=n.natAbs / 10:=Int.natAbs_tdiv n 10;have e2:(n.tmod 10).natAbs=n.natAbs % 10:=Int.natAbs_tmod n 10;have p1:0≤n.tdiv 10:=Int.tdiv_nonneg (by omega) (by omega);have p2:0≤n.tmod 10:=Int.tmod_nonneg 10 (by omega);have hc1:∀ w,Calls Φ 146 #[I J (n.tdiv 10)] w fun e w'=>e=η (Ψ (Zej (n.tdiv 10)))∧Below w.heap.size w w':=fun w=>IH.out (k - 1) (by omega) (n.tdiv 10) w (by rw[if_neg (by omega)];omega) (by omega) (by omega)
    have hc2:∀ w,Calls Φ 146 #[I J (n.tmod 10)] w fun e w'=>e=η (Ψ (Zej (n.tmod 10)))∧Below w.heap.size w w':=fun w=>IH.out (k - 1) (by omega) (n.tmod 10) w (by rw[if_neg (by omega)];omega) (by omega) (by omega)
    have E:=Hh q2;have z1:=Zgm (n.tdiv 10) (by omega) (by omega);have z2:=Zgm (n.tmod 10) (by omega) (by omega);have r2:n.tmod 10<10:=by omega
    have q3:n.tdiv 10≤9223372036854775807:=by omega
    clear hk q2 e1 e2;obtain⟨q,hq⟩:∃ q,n.tdiv 10=q:=⟨_,rfl⟩
    obtain⟨r,hr⟩:∃ r,n.tmod 10=r:=⟨_,rfl⟩
    rw[hq]at hc1 p1 q3 E z1;rw[hr]at hc2 p2 r2 E z2
    have hc:∀ m,m=q∨m=r→∀ w,Calls Φ 146 #[I J m] w fun e w'=>e=η (Ψ (Zej m))∧Below w.heap.size w w':=by
     rintro m (rfl | rfl)
     ·exact hc1
     ·exact hc2
    clear hc1 hc2;have c0:=Below.refl w.heap.size w;go_enter Tryz.func146,Tryz.ntmps146;go_wp2_with(go_at_call 146;refine(hc _ (by first | exact .inl rfl | exact .inr rfl) _).mono ?_;rintro e w1 ⟨rfl,b1⟩;have c1:=Wg (by assumption) b1;clear b1)
    go_ret;exact⟨by rw[E.out];rfl,c1⟩
theorem rPut(n:Int)(h1 : -9223372036854775808≤n)(h2:n≤9223372036854775807)(w:World):Calls Φ 146 #[I J n] w fun e w'=>e=η (Ψ (Zej n))∧Below w.heap.size w w':=
 drPut_any _ n w (Θ _) h1 h2
def Zba(l:List Int):Int:=if l≠[]∧l.length≤9∧Zcr l=true then Jt l else -1
theorem put_test(s:ByteArray)(hd:∀ x ∈ bL s,48≤x∧x≤57)(h0:bL s≠[]):((Zej (Jt (bL s))).toList == s.toList)=Zcr (bL s):=by
 have e:(s.toList)=(strOfNums (bL s)).toList:=by rw[str_bL]
 rw[e];unfold Zej;rw[str_eq_iff _ _ (putL_by _) (bL_bd s),Zfm (Zbd _ hd).1,Bool.eq_iff_iff,decide_eq_true_iff];exact digL_valL _ hd h0
theorem value_any(s:ByteArray)(w:World)(hs:s.size≤140737488355328)(hd:∀ x ∈ bL s,48≤x∧x≤57):Calls Φ 116 #[Ψ s] w fun e w'=>e=η (I J (Zba (bL s)))∧Below w.heap.size w w':=by
 have hlen:=Us s;by_cases h0:s.size=0
 ·have V:=Hh (show Zba (bL s) = -1 by unfold Zba;rw[if_neg (fun c=>c.1 (List.eq_nil_of_length_eq_zero (by omega)))])
  have l0:(s.size:Int)<1:=by omega
  clear hd hlen;go_enter Tryz.func116,Tryz.ntmps116;go_wp2
  go_ret;exact⟨by rw[V.out];rfl,Below.refl _ _⟩
 ·have l0:¬(s.size:Int)<1:=by omega
  by_cases h9:9<s.size
  ·have V:=Hh (show Zba (bL s) = -1 by unfold Zba;rw[if_neg (fun c=>by omega)])
   have l9:9<(s.size:Int):=by omega
   clear hd hlen;go_enter Tryz.func116,Tryz.ntmps116;go_wp2
   go_ret;exact⟨by rw[V.out];rfl,Below.refl _ _⟩
  ·have l9:¬ 9<(s.size:Int):=by omega
   have hn:bL s≠[]:=fun c=>by rw[c]at hlen;exact h0 hlen.symm
   have htest:=put_test s hd hn;have hvb:=Zbd (bL s) hd;have hvb2:Jt (bL s)<1000000000:=Int.lt_of_lt_of_le hvb.2 (pow10_le (by omega));have hvb1:=hvb.1;have HT:=Hh htest;have HD:=Hh hd;clear htest hd hvb;go_enter Tryz.func116,Tryz.ntmps116;go_wp2
   go_loop [3,4] (fun n i=>∃ k:Nat,i=I J k∧k≤s.size∧n=I J (Jt ((bL s).take k))) (fun _ i=>s.size - (intOf i).toNat)
   case atStart=>exact⟨0,rfl,by omega,rfl⟩
   case round=>
    obtain⟨k,rfl,hk,rfl⟩:=hrel;by_cases hkl:k<s.size
    ·have hx:(bL s)[k]'(by omega)=((s[k]'hkl).toNat:Int):=by
      have h:=Zje s k hkl;rw[List.getElem?_eq_getElem (by omega),Ug s k hkl]at h;exact Option.some.inj h
     have hv:=Zbd ((bL s).take k) (fun x hx=>HD.out x (List.mem_of_mem_take hx));have hlk:((bL s).take k).length=k:=by rw[List.length_take];omega
     rw[hlk]at hv;have hv2:Jt ((bL s).take k)<1000000000:=Int.lt_of_lt_of_le hv.2 (pow10_le (show k≤9 by omega));have hv1:=hv.1;have hd:=HD.out _ (List.getElem_mem (show k<(bL s).length by omega));rw[hx]at hd;obtain⟨hd1,hd2⟩:=hd
     have hs2:Jt ((bL s).take (k+1))=10*Jt ((bL s).take k)+(((s[k]'hkl).toNat:Int) - 48):=by
      rw[List.take_succ_eq_append_getElem (show k<(bL s).length by omega),Zjg,hx]
     have HS:=Hh hs2;have lk:(k:Int)<(s.size:Int):=by omega
     clear hs2 hv hx hlk;generalize Jt ((bL s).take k)=V at *;go_wp2
     go_round
     case rel=>exact⟨k+1,by go_num,by omega,by rw[HS.out];exact vI (by omega)⟩
     case measure=>simp[intOf];omega
    ·obtain rfl:k=s.size:=by omega
     have hL:(bL s).take s.size=bL s:=List.take_of_length_le (by omega);rw[hL];have hput:=rPut (Jt (bL s)) (by omega) (by omega);cases hp:Zcr (bL s)with
     |true=>
      have V:=Hh (show Zba (bL s)=Jt (bL s) by unfold Zba;rw[if_pos ⟨hn,by omega,hp⟩]);have ht:=HT.out;rw[hp]at ht;clear hp hL hn hlen;generalize Jt (bL s)=v at *;go_wp2_with(go_at_call 146;refine(hput _).mono ?_;rintro e w1 ⟨rfl,b1⟩)
      go_ret;exact⟨by rw[V.out];rfl,b1⟩
     |false=>
      have V:=Hh (show Zba (bL s) = -1 by unfold Zba;rw[if_neg (fun c=>by rw[hp]at c;cases c.2.2)]);have ht:=HT.out;rw[hp]at ht;clear hp hL hn hlen;generalize Jt (bL s)=v at *;go_wp2_with(go_at_call 146;refine(hput _).mono ?_;rintro e w1 ⟨rfl,b1⟩)
      go_ret;exact⟨by rw[V.out];rfl,b1⟩
theorem drTake_any(s:ByteArray)(a most:Int)(w:World)(hs:s.size≤140737488355328)(m1 : -9223372036854775808≤most)(m2:most≤9223372036854775807)(a1 : -9223372036854775808≤a)(a2:a≤9223372036854775807) :
   Calls Φ 89 #[Ψ s,I J a,I J most] w fun e w'=>e=η (takeV (Ul s a most))∧Below w.heap.size w w':=by
 by_cases h0:a<0
 · have T:=Hh (show Ul s a most=(0,0,false) by unfold Ul;rw[if_pos (.inl h0)])
   go_enter Tryz.func89,Tryz.ntmps89;go_wp2
   go_ret3
   exact⟨by rw[T.out];rfl,Below.refl _ _⟩
 · by_cases h1:(s.size:Int)≤a
   · have T:=Hh (show Ul s a most=(0,0,false) by unfold Ul;rw[if_pos (.inr h1)])
     go_enter Tryz.func89,Tryz.ntmps89;go_wp2
     go_ret3
     exact⟨by rw[T.out];rfl,Below.refl _ _⟩
   · obtain ⟨i,rfl⟩:∃ i:Nat,a=i:=⟨a.toNat,by omega⟩
     have hi:i<s.size:=by omega
     obtain⟨D,hD⟩:∃ D,Xr ((bL s).drop i)=D:=⟨_,rfl⟩
     have htk:Ul s i most=if D≠[]∧(D.length:Int)≤most∧D.length≤9∧Zcr D=true then(Jt D,(i:Int)+(D.length:Int),true)else(0,0,false):=by
       unfold Ul;rw[if_neg (by omega),Int.toNat_natCast,hD]
     have hle:D.length≤s.size - i:=by
       have:=firstD_len ((bL s).drop i);rw[hD,List.length_drop,Us]at this;exact this
     have hdr:=Zgc ((bL s).drop i);rw[hD]at hdr;have hz:i+D.length≤s.size:=by omega
     have hbx:bL (s.extract i (i+D.length))=D:=by rw[Zlc s i D.length hz,hdr]
     have hval:=value_any (s.extract i (i+D.length));rw[hbx]at hval;have hsz:(s.extract i (i+D.length)).size≤140737488355328:=by rw[size_extract _ _ _ hz];omega
     have hDD:=Hh (show ∀ x ∈ D,48≤x∧x≤57 from fun x hx=>firstD_isD _ x (by rw[hD];exact hx));have l1:decide ((i:Int)<0)=false:=by simp
     have l2:decide (s.size≤i)=false:=by simp;omega
     have l3:(i:Int)<(s.size:Int):=by omega
     have hsl:=slice_nn (P:=Φ) 9 (by kernel_rfl) s i D.length hz;have hsub:(i:Int)+(D.length:Int) - (i:Int)=(D.length:Int):=by omega
     have TK:=Hh htk;have HD:=Hh hD;clear htk hD hdr hbx;go_enter Tryz.func89,Tryz.ntmps89;go_wp2
     go_loop [9] (fun e=>∃ k:Nat,e=I J k∧k≤s.size∧k+(Xr ((bL s).drop k)).length=i+D.length) (fun e=>s.size - (intOf e).toNat)
     case atStart=>exact⟨i,rfl,by omega,by rw[HD.out]⟩
     case round=>
       obtain⟨k,rfl,hk,he⟩:=hrel;by_cases hgo:∃ h:k<s.size,isD ((s[k]'h).toNat:Int)=true
       · obtain⟨h,hd⟩:=hgo
         have hdc:=Zjv s k h;rw[Ug s k h]at hdc;rw[hdc,Zae _ hd,List.length_cons]at he;obtain⟨c1,c2⟩:=(Zbs _).1 hd;have b1:47<((s[k]'h).toNat:Int):=by omega
         have b2:((s[k]'h).toNat:Int)<58:=by omega
         have lk:(k:Int)<(s.size:Int):=by omega
         have lk2:decide (s.size≤k)=false:=by simp;omega
         have HE:=Hh he;clear he hdc hd c1 c2;go_wp2
         go_round
         case rel=>exact⟨k+1,by go_num,by omega,by have:=HE.out;omega⟩
         case measure=>simp[intOf];omega
       · have hk2:k=i+D.length:=by
           by_cases h:k<s.size
           · have hdc:=Zjv s k h
             rw[Ug s k h]at hdc;rw[hdc,Ziz _ (by cases hb:isD ((s[k]'h).toNat:Int)with | false=>rfl | true=>exact absurd ⟨h,hb⟩ hgo)]at he;exact he
           · rw[Zgf s k (by omega)]at he
             exact he
         have hstop:(k:Int)<(s.size:Int)→∀ h:k<s.size,47<((s[k]'h).toNat:Int)→¬((s[k]'h).toNat:Int)<58:=by
           intro _ h c1 c2;exact hgo ⟨h,(Zbs _).2 ⟨by omega,by omega⟩⟩
         clear hgo he
         have hout:∃ v,Zba D=v∧((v<0∧Ul s i most=(0,0,false))∨(0≤v∧most<(D.length:Int)∧Ul s i most=(0,0,false))∨(0≤v∧(D.length:Int)≤most∧Ul s i most=(v,(i:Int)+(D.length:Int),true))):=by
           refine⟨_,rfl,?_⟩;by_cases hc:D≠[]∧D.length≤9∧Zcr D=true
           · have hv:Zba D=Jt D:=by unfold Zba;rw[if_pos hc]
             rw[hv];have hv0:=(Zbd D hDD.out).1;by_cases hm:(D.length:Int)≤most
             ·exact .inr (.inr ⟨hv0,hm,by rw[TK.out,if_pos ⟨hc.1,hm,hc.2.1,hc.2.2⟩]⟩)
             ·exact .inr (.inl ⟨hv0,by omega,by rw[TK.out,if_neg (fun c=>hm c.2.1)]⟩)
           · have hv:Zba D = -1:=by unfold Zba;rw[if_neg hc]
             rw[hv];exact .inl ⟨by omega,by rw[TK.out,if_neg (fun c=>hc ⟨c.1,c.2.2⟩)]⟩
         obtain⟨v,hv,hout⟩:=hout;rw[hv]at hval;subst hk2;have hcall:∀ W,Calls Φ 116 #[Ψ (s.extract i (i+D.length))] W fun e w'=>e=η (I J v)∧Below W.heap.size W w':=fun W=>hval W hsz hDD.out
         clear hval hv
         have hexit:(s.size:Int)≤(i:Int)+(D.length:Int)∨(∃ h:i+D.length<s.size,(i:Int)+(D.length:Int)<(s.size:Int)∧((s[i+D.length]'h).toNat:Int)≤47)∨(∃ h:i+D.length<s.size,(i:Int)+(D.length:Int)<(s.size:Int)∧47<((s[i+D.length]'h).toNat:Int)∧58≤((s[i+D.length]'h).toNat:Int)):=by
           by_cases h:i+D.length<s.size
           · by_cases c1:47<((s[i+D.length]'h).toNat:Int)
             · have c2:=hstop (by omega) h c1
               exact .inr (.inr ⟨h,by omega,c1,by omega⟩)
             ·exact .inr (.inl ⟨h,by omega,by omega⟩)
           ·exact .inl (by omega)
         clear hstop;rcases hout with⟨hv0,ht⟩ | ⟨hv0,hm,ht⟩ | ⟨hv0,hm,ht⟩
         all_goals
           have T:=Hh ht;clear ht;rcases hexit with hx | ⟨hx,hx1,hx2⟩ | ⟨hx,hx1,hx2,hx3⟩
           all_goals
             go_wp2_with(go_at_call 116;refine(hcall _).mono ?_;rintro e w1 ⟨rfl,b1⟩)
             go_ret3
             exact⟨by rw[T.out];rfl,b1⟩
end Go.Proofs.YtbdecchpleiepaaGreat
