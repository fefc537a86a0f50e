/- Parts of the proof. No conditions but those that each names. -/
import Derived.Test.YtbdecchpleiepaaGreatQL1
set_option maxRecDepth 20000
set_option maxHeartbeats 99000000
set_option linter.unusedVariables false
set_option linter.unusedSimpArgs false
namespace Go.Proofs.YtbdecchpleiepaaGreat
open Go.Value renaming int→I,slice→Λ,string→Ψ
open Go.IntKind renaming i64→J
open _root_.Go.Proofs.Tryz renaming prog→Φ
open Nat renaming le_refl→Θ
open Nat renaming le_trans→Ξ
open Go.Ending renaming returned→η
open Go.ChangeShapes Go.WideShapes Go.ChangeAt Go.RowKit
theorem number_at(b:ByteArray)(n:Nat)(hn:b.size=n)(h1:1≤n)(h4:n≤4)(w:World):Calls Φ 165 #[Ψ b] w fun e w'=>e=η (I J (Zia (Ws b 0 n)))∧Below w.heap.size w w':=by
 have hn':n=1∨n=2∨n=3∨n=4:=by omega
 rcases hn' with rfl | rfl | rfl | rfl
 ·have e0:=Ug b 0 (by omega)
  have l0:=Jk b 0;rw[e0]at l0;have L0:((b[0]'(by omega)).toNat:Int)<256:=by omega
  have E0:=Hh e0;clear e0 l0;go_enter Tryz.func165,Tryz.ntmps165;go_wp2
  refine wp_loop_rounds 2 ?_;rw[rounds_succ];go_wp2
  rw[rounds_succ];go_wp2
  go_ret;refine⟨Zoj ?_,(Below.refl _ _).alloc (Θ _) _⟩;rw[numsAt1,E0.out];rfl
 ·have e0:=Ug b 0 (by omega)
  have l0:=Jk b 0;rw[e0]at l0;have L0:((b[0]'(by omega)).toNat:Int)<256:=by omega
  have e1:=Ug b 1 (by omega);have l1:=Jk b 1;rw[e1]at l1;have L1:((b[1]'(by omega)).toNat:Int)<256:=by omega
  have E0:=Hh e0;have E1:=Hh e1;clear e0 l0 e1 l1;go_enter Tryz.func165,Tryz.ntmps165;go_wp2
  refine wp_loop_rounds 3 ?_;rw[rounds_succ];go_wp2
  rw[rounds_succ];go_wp2
  rw[rounds_succ];go_wp2
  go_ret;refine⟨Zoj ?_,(Below.refl _ _).alloc (Θ _) _⟩;rw[numsAt2,E0.out,E1.out];rfl
 ·have e0:=Ug b 0 (by omega)
  have l0:=Jk b 0;rw[e0]at l0;have L0:((b[0]'(by omega)).toNat:Int)<256:=by omega
  have e1:=Ug b 1 (by omega);have l1:=Jk b 1;rw[e1]at l1;have L1:((b[1]'(by omega)).toNat:Int)<256:=by omega
  have e2:=Ug b 2 (by omega);have l2:=Jk b 2;rw[e2]at l2;have L2:((b[2]'(by omega)).toNat:Int)<256:=by omega
  have E0:=Hh e0;have E1:=Hh e1;have E2:=Hh e2;clear e0 l0 e1 l1 e2 l2;go_enter Tryz.func165,Tryz.ntmps165;go_wp2
  refine wp_loop_rounds 4 ?_;rw[rounds_succ];go_wp2
  rw[rounds_succ];go_wp2
  rw[rounds_succ];go_wp2
  rw[rounds_succ];go_wp2
  go_ret;refine⟨Zoj ?_,(Below.refl _ _).alloc (Θ _) _⟩;rw[numsAt3,E0.out,E1.out,E2.out];rfl
 ·have e0:=Ug b 0 (by omega)
  have l0:=Jk b 0;rw[e0]at l0;have L0:((b[0]'(by omega)).toNat:Int)<256:=by omega
  have e1:=Ug b 1 (by omega);have l1:=Jk b 1;rw[e1]at l1;have L1:((b[1]'(by omega)).toNat:Int)<256:=by omega
  have e2:=Ug b 2 (by omega);have l2:=Jk b 2;rw[e2]at l2;have L2:((b[2]'(by omega)).toNat:Int)<256:=by omega
  have e3:=Ug b 3 (by omega);have l3:=Jk b 3;rw[e3]at l3;have L3:((b[3]'(by omega)).toNat:Int)<256:=by omega
  have E0:=Hh e0;have E1:=Hh e1;have E2:=Hh e2;have E3:=Hh e3;clear e0 l0 e1 l1 e2 l2 e3 l3;go_enter Tryz.func165,Tryz.ntmps165;go_wp2
  refine wp_loop_rounds 5 ?_;rw[rounds_succ];go_wp2
  rw[rounds_succ];go_wp2
  rw[rounds_succ];go_wp2
  rw[rounds_succ];go_wp2
  rw[rounds_succ];go_wp2
  go_ret;refine⟨Zoj ?_,(Below.refl _ _).alloc (Θ _) _⟩;rw[numsAt4,E0.out,E1.out,E2.out,E3.out];rfl
theorem bytes1(a:Int)(w:World):∀ dst,Tryz.prog.underlying dst=some .string→(convert 215 dst (Λ (some ⟨w.heap.size,0,none⟩) 1 1)).run Φ (w.alloc (.cells #[.int .u8 a] 5))=.ok (Ψ (strOfNums [a])) (w.alloc (.cells #[.int .u8 a] 5)):=by
 refine run_convert_bytes_arg _ 215 5 (by kernel_rfl) (by kernel_rfl) w.heap.size 0 1 1 [a] rfl ?_;intro i hi;obtain rfl:i=0:=by omega
 go_simp
theorem rbytes2(a b:Int)(w:World):∀ dst,Tryz.prog.underlying dst=some .string→(convert 215 dst (Λ (some ⟨w.heap.size,0,none⟩) 2 2)).run Φ (w.alloc (.cells #[.int .u8 a,.int .u8 b] 5))=.ok (Ψ (strOfNums [a,b])) (w.alloc (.cells #[.int .u8 a,.int .u8 b] 5)):=by
 refine run_convert_bytes_arg _ 215 5 (by kernel_rfl) (by kernel_rfl) w.heap.size 0 2 2 [a,b] rfl ?_;intro i hi;have h:i=0∨i=1:=by omega
 rcases h with rfl | rfl<;>go_simp
theorem bytes3(a b c:Int)(w:World):∀ dst,Tryz.prog.underlying dst=some .string→(convert 215 dst (Λ (some ⟨w.heap.size,0,none⟩) 3 3)).run Φ (w.alloc (.cells #[.int .u8 a,.int .u8 b,.int .u8 c] 5))=.ok (Ψ (strOfNums [a,b,c])) (w.alloc (.cells #[.int .u8 a,.int .u8 b,.int .u8 c] 5)):=by
 refine run_convert_bytes_arg _ 215 5 (by kernel_rfl) (by kernel_rfl) w.heap.size 0 3 3 [a,b,c] rfl ?_;intro i hi;have h:i=0∨i=1∨i=2:=by omega
 rcases h with rfl | rfl | rfl<;>go_simp
theorem bytes4(a b c d:Int)(w:World):∀ dst,Tryz.prog.underlying dst=some .string→(convert 215 dst (Λ (some ⟨w.heap.size,0,none⟩) 4 4)).run Φ (w.alloc (.cells #[.int .u8 a,.int .u8 b,.int .u8 c,.int .u8 d] 5))=.ok (Ψ (strOfNums [a,b,c,d])) (w.alloc (.cells #[.int .u8 a,.int .u8 b,.int .u8 c,.int .u8 d] 5)):=by
 refine run_convert_bytes_arg _ 215 5 (by kernel_rfl) (by kernel_rfl) w.heap.size 0 4 4 [a,b,c,d] rfl ?_;intro i hi;have h:i=0∨i=1∨i=2∨i=3:=by omega
 rcases h with rfl | rfl | rfl | rfl<;>go_simp
set_option maxRecDepth 100000 in
theorem encode_any(n:Int)(w:World):Calls Φ 166 #[I J n] w fun e w'=>e=η (Ψ (strOfNums (Zcp n)))∧Below w.heap.size w w':=by
 by_cases h:n<0∨1114111<n∨(55296≤n∧n≤57343)
 ·have e:Zcp n=[]:=by unfold Zcp;rw[if_pos h]
  have E:=Hh e;have HH:=Hh h;clear e h;go_enter Tryz.func166,Tryz.ntmps166;go_wp2
  all_goals first
   |(exfalso;have:=HH.out;omega)
   |(go_ret;exact⟨by rw[E.out];rfl,Below.refl _ _⟩)
 ·have g0:¬ n<0:=by omega
  have g1:¬ 1114111<n:=by omega
  by_cases h1:n<128
  ·have e:Zcp n=[n]:=by unfold Zcp;rw[if_neg h,if_pos h1]
   have E:=Hh e;clear e h;have hw:=bytes1 n;go_enter Tryz.func166,Tryz.ntmps166;go_wp2
   go_ret;exact⟨by rw[E.out];rfl,(Below.refl _ _).alloc (Θ _) _⟩
  ·by_cases h2:n<2048
   ·have e:Zcp n=[192+n / 64,128+n % 64]:=by unfold Zcp;rw[if_neg h,if_neg h1,if_pos h2]
    have E:=Hh e;clear e h;have hw:=rbytes2 (192+n / 64) (128+n % 64);go_enter Tryz.func166,Tryz.ntmps166;go_wp2
    go_ret;exact⟨by rw[E.out];rfl,(Below.refl _ _).alloc (Θ _) _⟩
   ·by_cases h3:n<65536
    ·have e:Zcp n=[224+n / 4096,128+n / 64 % 64,128+n % 64]:=by unfold Zcp;rw[if_neg h,if_neg h1,if_neg h2,if_pos h3]
     have E:=Hh e;have g2:n<55296∨57343<n:=by omega
     clear e h;have hw:=bytes3 (224+n / 4096) (128+n / 64 % 64) (128+n % 64);rcases g2 with g2 | g2
     all_goals
      go_enter Tryz.func166,Tryz.ntmps166;go_wp2
      go_ret;exact⟨by rw[E.out];rfl,(Below.refl _ _).alloc (Θ _) _⟩
    ·have e:Zcp n=[240+n / 262144,128+n / 4096 % 64,128+n / 64 % 64,128+n % 64]:=by unfold Zcp;rw[if_neg h,if_neg h1,if_neg h2,if_neg h3]
     have E:=Hh e;clear e h;have hw:=bytes4 (240+n / 262144) (128+n / 4096 % 64) (128+n / 64 % 64) (128+n % 64);go_enter Tryz.func166,Tryz.ntmps166;go_wp2
     go_ret;exact⟨by rw[E.out];rfl,(Below.refl _ _).alloc (Θ _) _⟩
theorem slice_ij{P:Program}(t:TypeId)(h:P.underlying t=some .string)(s:ByteArray)(i n:Nat)(hz:i+n≤s.size)(w:World) :
  (Instr.slice t (Ψ s) (some (I J (i:Int))) (some (I J ((i:Int)+(n:Int)))) none).run P w=.ok (Ψ (s.extract i (i+n))) w:=by
 rw[run_slice_string w t s .i64 .i64 _ _ h (by omega) (by omega) (by omega)];rw[show((i:Int)+(n:Int)).toNat=i+n from by omega,Int.toNat_natCast]
theorem rAt_in(s:ByteArray)(i:Nat)(w:World)(hs:s.size≤140737488355328)(h:i<s.size):Calls Φ 143 #[Ψ s,I J i] w fun e w'=>e=η (.tuple #[I J (Utf8.decode s i).1,I J (Utf8.decode s i).2])∧Below w.heap.size w w':=by
 have hi:(0:Int)≤(i:Int):=by omega
 have hi':(i:Int)<(s.size:Int):=by omega
 have hd0:decide ((i:Int)<0)=false:=by simp
 have hd1:decide (s.size≤i)=false:=by simp;omega
 go_enter Tryz.func143,Tryz.ntmps143;go_wp2
 go_loopw [6] (fun n wr=>∃ k:Nat,1≤k∧k≤5∧n=I J k∧(∀ m,1≤m→m<k→i+m≤s.size→Zcu s i m=false)∧Below w.heap.size w wr) (fun n _=>5 - (intOf n).toNat)
 case atStart=>exact⟨1,by omega,by omega,rfl,fun m h1 h2=>by omega,Below.refl _ _⟩
 case round=>
  obtain⟨k,hk1,hk5,rfl,hno,hb⟩:=hrel;have HN:=Hh hno;have HB:=Hh hb;clear hno hb;by_cases hk:k<5
  · by_cases hz:i+k≤s.size
    ·have hz':(i:Int)+(k:Int)≤(s.size:Int):=by omega
     have hnum:=number_at (s.extract i (i+k)) k (by rw[size_extract _ _ _ hz];omega) hk1 (by omega);rw[numsAt_extract s i k hz]at hnum;have htest:=hit_test s i k hz;have HNUM:=Hh hnum;have HT:=Hh htest;clear hnum htest;have hsl:=slice_ij (P:=Φ) 9 (by kernel_rfl) s i k hz;cases hh:Zcu s i k with
     |true=>
      have hte:((strOfNums (Zcp (Zia (Ws s i k)))).toList == (s.extract i (i+k)).toList)=true:=by rw[HT.out,hh]
      have HH:=Hh hh;clear hh;go_wp2_with(first
 |(go_at_call 165;refine(HNUM.out _).mono ?_;rintro e w1 ⟨rfl,hb1⟩)
 |(go_at_call 166;refine(encode_any _ _).mono ?_;rintro e w2 ⟨rfl,hb2⟩))
      go_ret2
      have hd:=dec_hit s i k hk1 (by omega) hz HH.out;have hp:=num_nonneg s i k hk1 (by omega) HH.out;rw[hd];refine⟨?_,?_⟩
      ·show Ending.returned (.tuple #[I J (Zia (Ws s i k)),I J k])=_
       simp;omega
      ·exact(HB.out.trans (hb1.mono HB.out.size)).trans (hb2.mono (Ξ HB.out.size hb1.size))
     |false=>
      have hte:((strOfNums (Zcp (Zia (Ws s i k)))).toList == (s.extract i (i+k)).toList)=false:=by rw[HT.out,hh]
      have HH:=Hh hh;clear hh;go_wp2_with(first
 |(go_at_call 165;refine(HNUM.out _).mono ?_;rintro e w1 ⟨rfl,hb1⟩)
 |(go_at_call 166;refine(encode_any _ _).mono ?_;rintro e w2 ⟨rfl,hb2⟩))
      go_roundw
      case rel=>
       refine⟨k+1,by omega,by omega,by go_num,fun m h1 h2 h3=>?_,(HB.out.trans (hb1.mono HB.out.size)).trans (hb2.mono (Ξ HB.out.size hb1.size))⟩;by_cases hm:m=k
       ·rw[hm];exact HH.out
       ·exact HN.out m h1 (by omega) h3
      case measure=>simp[intOf];omega
    ·have hz':(s.size:Int)<(i:Int)+(k:Int):=by omega
     go_wp2
     go_ret2
     have hd:=dec_nohit s i h (fun m h1 h2 h3=>HN.out m h1 (by omega) h3);rw[hd];exact⟨rfl,HB.out⟩
  · go_wp2
    go_ret2
    have hd:=dec_nohit s i h (fun m h1 h2 h3=>HN.out m h1 (by omega) h3);rw[hd];exact⟨rfl,HB.out⟩
theorem und_ints:Tryz.prog.underlying 160=some (.slice 3):=by kernel_rfl
theorem info_int:(Tryz.prog.info? 3).map (fun i=>(i.zero,i.size,i.bytes))=some (some (I J 0),1,8):=by kernel_rfl
def Zhi(l:List (Nat×Nat)):List Value:=l.map fun x=>I J (x.1:Nat)
def pRow(l:List (Nat×Nat)):List Value:=l.map fun x=>I J (x.2:Nat)
theorem rRow_snoc(l:List (Nat×Nat))(x:Nat×Nat):Zhi (l++[x])=Zhi l++[I J (x.1:Nat)]:=by simp[Zhi]
theorem pRow_snoc(l:List (Nat×Nat))(x:Nat×Nat):pRow (l++[x])=pRow l++[I J (x.2:Nat)]:=by simp[pRow]
def AllPost(s:ByteArray)(w:World)(e:Ending)(w':World):Prop:=
 ∃ v1 v2:Value,e=η (.tuple #[v1,v2])∧w'.ownsRow w.heap.size 3 1 v1 (Yl s).length (Zhi (Yl s))∧w'.ownsRow w.heap.size 3 1 v2 (Yl s).length (pRow (Yl s))∧Zdr v1 v2∧Below w.heap.size w w'
theorem Zgl(s:ByteArray)(w:World)(hs:s.size≤1099511627776):Calls Φ 110 #[Ψ s] w (AllPost s w):=by
 go_enter Tryz.func110,Tryz.ntmps110;go_wp2
 go_loopw [4,5,6] (fun v1 v2 i wr=>∃(pos:Nat)(done:List (Nat×Nat)),i=I J pos∧Zet s pos done∧pos≤s.size∧wr.ownsRow w.heap.size 3 1 v1 done.length (Zhi done)∧wr.ownsRow w.heap.size 3 1 v2 done.length (pRow done)∧Zdr v1 v2∧Below w.heap.size w wr) (fun _ _ i _=>s.size - (intOf i).toNat)
 case atStart=>exact⟨0,[],rfl,Zet.zero s,by omega,World.ownsRow_nil _ _ _ _,World.ownsRow_nil _ _ _ _,Zdr.nil _,Below.refl _ _⟩
 case round=>
  obtain⟨pos,done,rfl,hu,hps,ho1,ho2,hap,hb⟩:=hrel;have hl:done.length≤s.size:=by have:=Ju s;rw[hu.all]at this;simp at this;omega
  have HU:=Hh hu;have HB:=Hh hb;have HO1:=Hh ho1;have HO2:=Hh ho2;have HAP:=Hh hap;clear hu hb ho1 ho2 hap;by_cases hp:pos<s.size
  · have hd:=Zby s pos hp
    obtain⟨d1,d2,d3,d4⟩:=hd;have hz0:=HB.out.size;go_wp2_with(first
 |(go_at_call 143;refine(rAt_in s pos _ (by omega) hp).mono ?_;rintro e w1 ⟨rfl,hb1⟩;have o1:=Zfc HO1.out hb1;have o2:=Zfc HO2.out hb1;have b1:=HB.out.trans (hb1.mono hz0);have hz1:=hb1.size)
 |(at_builtin;refine Znh (.tmp 19) (.tmp 21) 160 3 8 (I J 0) und_ints info_int rfl (by decide) rfl rfl w.heap.size _ _ _ _ rfl o1 rfl rfl (by omega) (by omega) ?_;intro v3 w2 o3 g3 at3;have p2:=HAP.out.symm.grown o2 (Nat.le_succ _) at3;have o4:=HAP.out.symm.kept o2 g3;have b2:=Zhs b1 o1 g3 (Θ _) (by omega);have hz2:=g3.size;clear at3 g3)
 |(at_builtin;refine Znh (.tmp 23) (.tmp 25) 160 3 8 (I J 0) und_ints info_int rfl (by decide) rfl rfl w.heap.size _ _ _ _ rfl o4 rfl rfl (by omega) (by omega) ?_;intro v5 w3 o5 g5 at5;have p3:=p2.symm.grown o3 (Nat.le_succ _) at5;have o6:=p2.symm.kept o3 g5;have b3:=Zhs b2 o4 g5 (Θ _) (by omega);clear at5 g5))
    go_roundw
    case rel=>exact⟨pos+(Utf8.decode s pos).2,done++[((Utf8.decode s pos).1,pos)],by go_num,HU.out.next hp,by omega,by rw[List.length_append,rRow_snoc];exact o6,by rw[List.length_append,pRow_snoc];exact o5,p3,b3⟩
    case measure=>simp[intOf];omega
  · have he:=HU.out.length_end (by omega)
    have HE:=Hh he;clear he;go_wp2
    go_ret2
    rw[AllPost,HE.out];exact⟨_,_,rfl,HO1.out,HO2.out,HAP.out,HB.out⟩
theorem Zol(l:List (Nat×Nat))(k:Nat)(h:k<l.length):(Zhi l)[k]?=some (I J (l[k].1:Nat)):=by simp[Zhi,h]
theorem pRow_at(l:List (Nat×Nat))(k:Nat)(h:k<l.length):(pRow l)[k]?=some (I J (l[k].2:Nat)):=by simp[pRow,h]
theorem rPlace_any(s:ByteArray)(a:Int)(w:World)(hs:s.size≤1099511627776):Calls Φ 87 #[Ψ s,I J a] w fun e w'=>e=η (.tuple #[I J ((Zt s a).1:Nat),I J ((Zt s a).2:Nat)])∧Below w.heap.size w w':=by
 go_enter Tryz.func87,Tryz.ntmps87;go_wp2_with(go_at_call 110;refine(Zgl s _ hs).mono ?_;rintro e w1 ⟨v1,v2,rfl,o1,o2,ap,b1⟩;obtain⟨A1,c1,rfl,hn1,hm1,r1⟩:=Yx o1;obtain⟨A2,c2,rfl,hn2,hm2,r2⟩:=Yx o2;clear o1 o2 ap)
 have hl:=Ju s;unfold maxLen at hm1 hm2;have hb0:=b1.size;have H1:=Hh b1;have R1:=Hh r1;have R2:=Hh r2;clear b1 r1 r2;go_loop [8,9,10] (fun l c i=>∃(k:Nat)(p:Nat×Nat),i=I J k∧k≤(Yl s).length∧l=I J (p.1:Nat)∧c=I J (p.2:Nat)∧Zdy a ((Yl s).drop k) p=Zt s a∧p.1≤k+1∧p.2≤k+1) (fun _ _ i=>(Yl s).length - (intOf i).toNat)
 case atStart=>exact⟨0,(1,1),rfl,by omega,rfl,rfl,rfl,by omega,by omega⟩
 case round=>
  obtain⟨k,p,rfl,hk,rfl,rfl,hpl,h1,h2⟩:=hrel;by_cases hkl:k<(Yl s).length
  ·have e1:=Zol _ k hkl
   have e2:=pRow_at _ k hkl;obtain⟨g1,f1,rfl,hg1,q1⟩:=R1.out.at_ (by rw[Zhi,List.length_map];omega);obtain⟨g2,f2,rfl,hg2,q2⟩:=R2.out.at_ (by rw[pRow,List.length_map];omega);have q1':=(q1 k (by rw[Zhi,List.length_map];exact hkl)).trans e1;have q2':=(q2 k (by rw[pRow,List.length_map];exact hkl)).trans e2;clear q1 q2 e1 e2;rw[List.drop_eq_getElem_cons hkl]at hpl;simp only[Zdy]at hpl;generalize hx:(Yl s)[k]=x at *;obtain⟨r,q⟩:=x;have HX:=Hh hx;have HPL:=Hh hpl;clear hx hpl;have hw1:=(Vx s s.size 0 (by omega) (r,q) (by have:=HX.out;rw[←this];exact List.getElem_mem hkl))
   obtain⟨_,hq,hr⟩:=hw1;dsimp only at hq hr q1' q2';by_cases ha:a≤(q:Int)
   ·go_wp2
    go_ret2
    have:=HPL.out;rw[if_pos ha]at this;rw[←this];exact⟨rfl,H1.out⟩
   ·by_cases hr10:r=10
    ·have hb:((r:Int) == 10)=true:=by rw[hr10];rfl
     have HR:=Hh hr10;clear hr10;go_wp2
     go_round
     case rel=>
      have:=HPL.out;rw[if_neg ha]at this;refine⟨k+1,Xa p r,by go_num,by omega,?_,?_,this,?_⟩
      ·simp[Xa,HR.out]
      ·simp[Xa,HR.out]
      ·simp only[Xa,HR.out,if_pos,if_false];omega
     case measure=>simp[intOf];omega
    ·have hb:((r:Int) == 10)=false:=by simp;omega
     have HR:=Hh hr10;clear hr10;go_wp2
     go_round
     case rel=>
      have:=HPL.out;rw[if_neg ha]at this;refine⟨k+1,Xa p r,by go_num,by omega,?_,?_,this,?_⟩
      ·simp[Xa,HR.out]
      ·simp[Xa,HR.out]
      ·simp only[Xa,HR.out,if_pos,if_false];omega
     case measure=>simp[intOf];omega
  ·rw[List.drop_eq_nil_of_le (by omega)]at hpl
   have HPL:=Hh hpl;clear hpl;go_wp2
   go_ret2
   rw[←HPL.out];exact⟨rfl,H1.out⟩
theorem Zns(n:Int):Zbb n=true↔Zga n=true∨(48≤n∧n≤57)∨n=32∨n=39∨n=45:=by
 simp only[Zbb,Bool.or_eq_true,decide_eq_true_eq,or_assoc]
theorem rName_any (s:ByteArray)(w:World)(hs:s.size≤1099511627776):Calls Φ 114 #[Ψ s] w fun e w'=>e=η (.bool (Zce s))∧Below w.heap.size w w':=by
 have hnam:Zce s=(decide (1≤(Yl s).length) && decide ((Yl s).length≤24) && (Yl s).all (fun x=>Zbb x.1) && decide (((Yl s).map (·.1)).head?≠some 32) && decide (((Yl s).map (·.1)).getLast?≠some 32)):=rfl;have HN:=Hh hnam;clear hnam;have hl:=Ju s;have hfrom:=Vx s s.size 0 (by omega);have HF:Hid (∀ x ∈ Yl s,0≤x.2∧x.2<s.size∧x.1≤1114111):=Hh hfrom;clear hfrom;by_cases h1:1≤(Yl s).length
 · by_cases h24 : (Yl s).length≤24
   · have e1 := Zol _ 0 h1
     have e2:=Zol (Yl s) ((Yl s).length - 1) (by omega);have hh:((Yl s).map (·.1)).head?=some ((Yl s)[0].1):=by rw[List.head?_eq_getElem?,List.getElem?_map,List.getElem?_eq_getElem h1];rfl
     have ht:((Yl s).map (·.1)).getLast?=some ((Yl s)[(Yl s).length - 1].1):=by rw[List.getLast?_eq_getElem?,List.getElem?_map,List.length_map,List.getElem?_eq_getElem (by omega)];rfl
     rw[hh,ht]at HN;have b0:=HF.out (Yl s)[0] (List.getElem_mem _);have b9:=HF.out (Yl s)[(Yl s).length - 1] (List.getElem_mem _);generalize hx0:(Yl s)[0].1=r0 at *;generalize hx9:(Yl s)[(Yl s).length - 1].1=r9 at *;have HX0:=Hh hx0;have HX9:=Hh hx9;have E1:=Hh e1;have E2:=Hh e2;clear hx0 hx9 e1 e2 hh ht;obtain⟨_,_,b0⟩:=b0;obtain⟨_,_,b9⟩:=b9;have l1:decide (((Yl s).length:Int)<1)=false:=by simp;omega
     have l2:decide (24<((Yl s).length:Int))=false:=by simp;omega
     by_cases h32:r0=32
     · have hb:((r0:Int) == 32)=true:=by rw[h32];rfl
       have H32:=Hh h32;clear h32;go_enter Tryz.func114,Tryz.ntmps114;go_wp2_with(go_at_call 110;refine(Zgl s _ hs).mono ?_;rintro e w1 ⟨v1,v2,rfl,o1,o2,ap,b1⟩;obtain⟨A1,c1,rfl,hn1,hm1,r1⟩:=Yx o1;obtain⟨A2,c2,rfl,hn2,hm2,r2⟩:=Yx o2;obtain⟨g1,f1,rfl,hg1,q1⟩:=r1.at_ (by rw[Zhi,List.length_map];omega);have q0:=(q1 0 (by rw[Zhi,List.length_map];omega)).trans E1.out;have q9:=(q1 ((Yl s).length - 1) (by rw[Zhi,List.length_map];omega)).trans E2.out;rw[Nat.add_zero]at q0;have Q1:=Hh q1;have B1:=Hh b1;clear o1 o2 ap r1 r2 q1 b1;unfold maxLen at hm1 hm2)
       go_ret;refine⟨Vo ?_,B1.out⟩;rw[HN.out,H32.out];simp
     · have hb : ((r0 : Int) == 32)=false:=by simp;omega
       by_cases g32:r9=32
       · have hc:((r9:Int) == 32)=true:=by rw[g32];rfl
         have H32:=Hh h32;have G32:=Hh g32;clear h32 g32;go_enter Tryz.func114,Tryz.ntmps114;go_wp2_with(go_at_call 110;refine(Zgl s _ hs).mono ?_;rintro e w1 ⟨v1,v2,rfl,o1,o2,ap,b1⟩;obtain⟨A1,c1,rfl,hn1,hm1,r1⟩:=Yx o1;obtain⟨A2,c2,rfl,hn2,hm2,r2⟩:=Yx o2;obtain⟨g1,f1,rfl,hg1,q1⟩:=r1.at_ (by rw[Zhi,List.length_map];omega);have q0:=(q1 0 (by rw[Zhi,List.length_map];omega)).trans E1.out;have q9:=(q1 ((Yl s).length - 1) (by rw[Zhi,List.length_map];omega)).trans E2.out;rw[Nat.add_zero]at q0;have Q1:=Hh q1;have B1:=Hh b1;clear o1 o2 ap r1 r2 q1 b1;unfold maxLen at hm1 hm2)
         go_ret;refine⟨Vo ?_,B1.out⟩;rw[HN.out,G32.out];simp
       · have hc : ((r9 :Int) == 32)=false:=by simp;omega
         have hn2:Zce s=(Yl s).all (fun x=>Zbb x.1):=by rw[HN.out];simp[h1,h24,h32,g32]
         have HN2:=Hh hn2;clear h32 g32 hn2;go_enter Tryz.func114,Tryz.ntmps114;go_wp2_with(go_at_call 110;refine(Zgl s _ hs).mono ?_;rintro e w1 ⟨v1,v2,rfl,o1,o2,ap,b1⟩;obtain⟨A1,c1,rfl,hn1,hm1,r1⟩:=Yx o1;obtain⟨A2,c2,rfl,hn2,hm2,r2⟩:=Yx o2;obtain⟨g1,f1,rfl,hg1,q1⟩:=r1.at_ (by rw[Zhi,List.length_map];omega);have q0:=(q1 0 (by rw[Zhi,List.length_map];omega)).trans E1.out;have q9:=(q1 ((Yl s).length - 1) (by rw[Zhi,List.length_map];omega)).trans E2.out;rw[Nat.add_zero]at q0;have Q1:=Hh q1;have B1:=Hh b1;clear o1 o2 ap r1 r2 q1 b1;unfold maxLen at hm1 hm2)
         clear q0 q9;go_loop [5] (fun i=>∃ k:Nat,i=I J k∧k≤(Yl s).length∧((Yl s).take k).all (fun x=>Zbb x.1)=true) (fun i=>(Yl s).length - (intOf i).toNat)
         case atStart=>exact⟨0,rfl,by omega,by simp⟩
         case round=>
           obtain⟨k,rfl,hk,hall⟩:=hrel;have HA:=Hh hall;clear hall;by_cases hkl:k<(Yl s).length
           · have qk := (Q1.out k (by rw[Zhi,List.length_map];exact hkl)).trans (Zol _ k hkl)
             have hts:(Yl s).take (k+1)=(Yl s).take k++[(Yl s)[k]]:=List.take_succ_eq_append_getElem hkl;have hwk:=HF.out (Yl s)[k] (List.getElem_mem _);have hmem:=List.getElem_mem hkl;generalize hx:(Yl s)[k]=x at *;obtain⟨r,q⟩:=x;obtain⟨_,_,hr⟩:=hwk;dsimp only at hr qk;have HX:=Hh hx;have HTS:=Hh hts;have HM:=Hh hmem;clear hx hts hmem;go_wp2_with(go_at_call 144;refine(rLetter_any _ _).mono ?_;rintro e w' ⟨rfl,rfl⟩)
             all_goals first
               | (have hin:Zbb (r:Int)=true:=(Zns _).2 (by first | (left;assumption) | (right;omega) | (simp only[bne_iff_ne,bne_eq_false_iff_eq,ne_eq]at *;right;omega))
                  go_round
                  case rel=>exact⟨k+1,by go_num,by omega,by rw[HTS.out,List.all_append,HA.out];simp[hin]⟩
                  case measure=>simp[intOf];omega)
               | (have hin:Zbb (r:Int)=false:=by
                    rw[←Bool.not_eq_true,Zns];intro h;rcases h with h | h
                    ·first
                        |contradiction
                        | (have h2:Zga (r:Int)=false:=by assumption
                           rw[h2]at h;cases h)
                    ·first
                        |omega
                        |(simp only[bne_iff_ne,bne_eq_false_iff_eq,ne_eq]at *;omega)
                  go_ret;refine⟨Vo ?_,B1.out⟩;rw[HN2.out];symm
                  rw[List.all_eq_false];exact⟨(r,q),HM.out,by simp[hin]⟩)
           · go_wp2
             go_ret;refine⟨Vo ?_,B1.out⟩;have:=HA.out;rw[List.take_of_length_le (by omega)]at this;rw[HN2.out,this]
   · have l1:decide (((Yl s).length:Int)<1)=false:=by simp;omega
     go_enter Tryz.func114,Tryz.ntmps114;go_wp2_with(go_at_call 110;refine(Zgl s _ hs).mono ?_;rintro e w1 ⟨v1,v2,rfl,o1,o2,ap,b1⟩;obtain⟨A1,c1,rfl,hn1,hm1,r1⟩:=Yx o1;obtain⟨A2,c2,rfl,hn2,hm2,r2⟩:=Yx o2;clear o1 o2 ap)
     go_ret;refine⟨Vo ?_,b1⟩;rw[HN.out];simp;omega
 · have e1:(Yl s).length=0:=by omega
   have E1:=Hh e1;clear e1;go_enter Tryz.func114,Tryz.ntmps114;go_wp2_with(go_at_call 110;refine(Zgl s _ hs).mono ?_;rintro e w1 ⟨v1,v2,rfl,o1,o2,ap,b1⟩;obtain⟨A1,c1,rfl,hn1,hm1,r1⟩:=Yx o1;obtain⟨A2,c2,rfl,hn2,hm2,r2⟩:=Yx o2;clear o1 o2 ap)
   go_ret;refine⟨Vo ?_,b1⟩;rw[HN.out];simp;omega
end Go.Proofs.YtbdecchpleiepaaGreat
