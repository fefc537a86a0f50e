/- Parts of the proof. No conditions but those that each names. -/
import Derived.Test.YtbdecchpleiepaaGreatRows
import Derived.WalkKit
import Derived.ProofKit
import Derived.WalkLawsBesides
import Derived.Outline
import Derived.OpenShut
import Derived.Below
import Derived.Lib.Hide
import Derived.Laws.RangeAny
import Derived.Laws.BytesArg
import Derived.Laws.Strings
import Derived.Shelf.Small.Strs
import Derived.Shelf.Strings.Prefix
import Derived.IntWalk
import Derived.Calls
import Derived.Laws.Strings2
import Derived.Laws.OwnMore
import Derived.Maps.AppendAt
import Derived.OwnWalk
import Derived.Deep.QuietTactic
import Derived.Laws.Rows
import Derived.Lib.AppendStr
import Derived.Deep.Draws
import Derived.Deep.OwnRows
import Derived.RegionTactic
import Derived.ChangeAlike
set_option maxRecDepth 20000
set_option maxHeartbeats 99000000
set_option linter.unusedVariables false
set_option linter.unusedSimpArgs false
namespace Go.Proofs.YtbdecchpleiepaaGreat
open Go.Value renaming int→I,slice→Λ,pointer→Ω,string→Ψ,oneCell'→Γ
open Go.IntKind renaming i64→J
open _root_.Go.Proofs.Tryz renaming prog→Φ
open Nat renaming le_refl→Θ
open Nat renaming le_trans→Ξ
open And renaming intro→ζ
open Go.Ending renaming returned→η
open Go.ChangeShapes Go.WideShapes Go.ChangeAt Go.RowKit
theorem Qz{α:Type}(l:List α)(i:Nat)(a:α):l.toArray.setIfInBounds i a=(l.set i a).toArray:=List.setIfInBounds_toArray l i a
theorem Qy{α:Type}{l:List α}{a b:α}:(a::l).set 0 b=b::l:=rfl
theorem Qx{α:Type}{l:List α}{i:Nat}{a b:α}:(a::l).set (i+1) b=a::l.set i b:=rfl
theorem Hh{p:Prop}(h:p):Hid p:=Lib.hid h
open Go
def gB(s:ByteArray)(i:Nat):Nat:=(s.get! i).toNat
theorem Jk(s:ByteArray)(i:Nat):gB s i<256:=(s.get! i).toNat_lt
theorem Ug(s:ByteArray)(i:Nat)(h:i<s.size):gB s i=(s[i]'h).toNat:=by
 unfold gB;have:=get_at s i h;rw[Nat.add_zero]at this;rw[this]
def cB(s:ByteArray)(i:Nat):Bool:=decide (i<s.size) && decide (128≤gB s i) && decide (gB s i<192)
theorem Zar(s:ByteArray)(i:Nat):cB s i=true↔i<s.size∧128≤gB s i∧gB s i<192:=by
 unfold cB;simp;omega
theorem Zdh(s:ByteArray)(i:Nat):Utf8.decode s i =
  if gB s i<128 then(gB s i,1)
  else if gB s i / 32=6∧cB s (i+1)=true then
   (if 128≤gB s i % 32*64+gB s (i+1) % 64 then(gB s i % 32*64+gB s (i+1) % 64,2)else(65533,1))
  else if gB s i / 16=14∧cB s (i+1)=true∧cB s (i+2)=true then
   (if 2048≤gB s i % 16*4096+gB s (i+1) % 64*64+gB s (i+2) % 64∧¬(55296≤gB s i % 16*4096+gB s (i+1) % 64*64+gB s (i+2) % 64∧gB s i % 16*4096+gB s (i+1) % 64*64+gB s (i+2) % 64≤57343)then(gB s i % 16*4096+gB s (i+1) % 64*64+gB s (i+2) % 64,3)else(65533,1))
  else if gB s i / 8=30∧cB s (i+1)=true∧cB s (i+2)=true∧cB s (i+3)=true then
   (if 65536≤gB s i % 8*262144+gB s (i+1) % 64*4096+gB s (i+2) % 64*64+gB s (i+3) % 64∧gB s i % 8*262144+gB s (i+1) % 64*4096+gB s (i+2) % 64*64+gB s (i+3) % 64≤1114111 then(gB s i % 8*262144+gB s (i+1) % 64*4096+gB s (i+2) % 64*64+gB s (i+3) % 64,4)else(65533,1))
  else(65533,1):=by
 have e:∀ k,(s.get! k).toNat=gB s k:=fun k=>rfl
 have c:∀ k,(decide (i+k<s.size) && (gB s (i+k) / 64 == 2))=cB s (i+k):=by
  intro k;rw[Bool.eq_iff_iff,Zar];simp;omega
 have h0:=Jk s i;have h1:=Jk s (i+1);have h2:=Jk s (i+2);unfold Utf8.decode;simp only[e,c,Nat.add_zero,Utf8.runeError,Bool.and_eq_true,beq_iff_eq,Utf8.valid,Bool.or_eq_true,decide_eq_true_eq,and_assoc,ge_iff_le];generalize gB s i=a at *;generalize gB s (i+1)=b at *;generalize gB s (i+2)=d at *;generalize gB s (i+3)=f at *;repeat' split
 all_goals first
  |rfl
  |(exfalso;omega)
theorem Zby(s:ByteArray)(i:Nat)(h:i<s.size):1≤(Utf8.decode s i).2∧i+(Utf8.decode s i).2≤s.size∧(Utf8.decode s i).2≤4∧(Utf8.decode s i).1≤1114111:=by
 have h0:=Jk s i;rw[Zdh];repeat' split
 all_goals simp only[Zar]at *
 all_goals((try dsimp only);omega)
theorem Zgx(s:ByteArray)(i:Nat)(h:(Utf8.decode s i).1<128):(Utf8.decode s i).1=gB s i∧(Utf8.decode s i).2=1:=by
 rw[Zdh]at h ⊢;repeat' split
 all_goals(simp only[*]at h;revert h;dsimp only;repeat' split)
 all_goals first
  |(exact fun _=>⟨rfl,rfl⟩)
  |(intro h;exfalso;simp only[*]at *;omega)
  |(intro h;exfalso;omega)
theorem Ve(s:ByteArray)(i:Nat)(h:gB s i<128):Utf8.decode s i=(gB s i,1):=by
 rw[Zdh,if_pos h]
theorem dec_last(s:ByteArray)(i:Nat)(h:1<(Utf8.decode s i).2):128≤gB s (i+(Utf8.decode s i).2 - 1):=by
 rw[Zdh]at h ⊢;repeat' split
 all_goals simp only[*,Zar]at *
 all_goals(try(simp at h;done))
 all_goals(simp;omega)
def Zcp(n:Int):List Int:=
 if n<0∨1114111<n∨(55296≤n∧n≤57343)then []
 else if n<128 then [n]
 else if n<2048 then [192+n / 64,128+n % 64]
 else if n<65536 then [224+n / 4096,128+n / 64 % 64,128+n % 64]
 else [240+n / 262144,128+n / 4096 % 64,128+n / 64 % 64,128+n % 64]
def Zia:List Int→Int
 |[a]=>a
 |[a,b]=>(a - 192)*64+b - 128
 |[a,b,c]=>(a - 224)*4096+(b - 128)*64+c - 128
 |[a,b,c,d]=>(a - 240)*262144+(b - 128)*4096+(c - 128)*64+d - 128
 |_=>0
def Ws(s:ByteArray)(i n:Nat):List Int:=(List.range n).map fun j=>(gB s (i+j):Int)
theorem Zee(s:ByteArray)(i n:Nat):(Ws s i n).length=n:=by simp[Ws]
theorem hit_iff1{a:Int}(h0:0≤a)(h1:a<256):Zcp (Zia [a])=[a]↔a<128:=by
 show Zcp (a)=_↔_;unfold Zcp;repeat' split
 all_goals simp
 all_goals omega
theorem hit_iff2{a b:Int}(h0:0≤a)(h1:a<256)(h2:0≤b)(h3:b<256):Zcp (Zia [a,b])=[a,b]↔194≤a∧a<224∧128≤b∧b<192:=by
 show Zcp ((a - 192)*64+b - 128)=_↔_;unfold Zcp;repeat' split
 all_goals simp
 all_goals omega
theorem hit_iff3{a b c:Int}(h0:0≤a)(h1:a<256)(h2:0≤b)(h3:b<256)(h4:0≤c)(h5:c<256):Zcp (Zia [a,b,c])=[a,b,c] ↔
  224≤a∧a<240∧128≤b∧b<192∧128≤c∧c<192∧2048≤(a - 224)*4096+(b - 128)*64+c - 128∧¬(55296≤(a - 224)*4096+(b - 128)*64+c - 128∧(a - 224)*4096+(b - 128)*64+c - 128≤57343):=by
 show Zcp ((a - 224)*4096+(b - 128)*64+c - 128)=_↔_;unfold Zcp;repeat' split
 all_goals simp
 all_goals omega
theorem hit_iff4{a b c d:Int}(h0:0≤a)(h1:a<256)(h2:0≤b)(h3:b<256)(h4:0≤c)(h5:c<256)(h6:0≤d)(h7:d<256):Zcp (Zia [a,b,c,d])=[a,b,c,d] ↔
  240≤a∧a<248∧128≤b∧b<192∧128≤c∧c<192∧128≤d∧d<192∧65536≤(a - 240)*262144+(b - 128)*4096+(c - 128)*64+d - 128∧(a - 240)*262144+(b - 128)*4096+(c - 128)*64+d - 128≤1114111:=by
 show Zcp ((a - 240)*262144+(b - 128)*4096+(c - 128)*64+d - 128)=_↔_;unfold Zcp;repeat' split
 all_goals simp
 all_goals omega
theorem numsAt1(s:ByteArray)(i:Nat):Ws s i 1=[(gB s i:Int)]:=rfl
theorem numsAt2(s:ByteArray)(i:Nat):Ws s i 2=[(gB s i:Int),(gB s (i+1):Int)]:=rfl
theorem numsAt3(s:ByteArray)(i:Nat):Ws s i 3=[(gB s i:Int),(gB s (i+1):Int),(gB s (i+2):Int)]:=rfl
theorem numsAt4(s:ByteArray)(i:Nat):Ws s i 4=[(gB s i:Int),(gB s (i+1):Int),(gB s (i+2):Int),(gB s (i+3):Int)]:=rfl
def Zcu(s:ByteArray)(i n:Nat):Bool:=decide (Zcp (Zia (Ws s i n))=Ws s i n)
theorem hitAt1(s:ByteArray)(i:Nat):Zcu s i 1=true↔gB s i<128:=by
 unfold Zcu;rw[decide_eq_true_iff,numsAt1,hit_iff1 (by omega) (by have:=Jk s i;omega)];omega
theorem hitAt2(s:ByteArray)(i:Nat):Zcu s i 2=true↔194≤gB s i∧gB s i<224∧128≤gB s (i+1)∧gB s (i+1)<192:=by
 have:=Jk s i;have:=Jk s (i+1);unfold Zcu;rw[decide_eq_true_iff,numsAt2,hit_iff2 (by omega) (by omega) (by omega) (by omega)];omega
theorem hitAt3(s:ByteArray)(i:Nat):Zcu s i 3=true↔224≤gB s i∧gB s i<240∧128≤gB s (i+1)∧gB s (i+1)<192∧128≤gB s (i+2)∧gB s (i+2)<192 ∧
  2048≤gB s i % 16*4096+gB s (i+1) % 64*64+gB s (i+2) % 64∧¬(55296≤gB s i % 16*4096+gB s (i+1) % 64*64+gB s (i+2) % 64∧gB s i % 16*4096+gB s (i+1) % 64*64+gB s (i+2) % 64≤57343):=by
 have:=Jk s i;have:=Jk s (i+1);have:=Jk s (i+2);unfold Zcu;rw[decide_eq_true_iff,numsAt3,hit_iff3 (by omega) (by omega) (by omega) (by omega) (by omega) (by omega)];omega
theorem hitAt4(s:ByteArray)(i:Nat):Zcu s i 4=true↔240≤gB s i∧gB s i<248∧128≤gB s (i+1)∧gB s (i+1)<192∧128≤gB s (i+2)∧gB s (i+2)<192∧128≤gB s (i+3)∧gB s (i+3)<192 ∧
  65536≤gB s i % 8*262144+gB s (i+1) % 64*4096+gB s (i+2) % 64*64+gB s (i+3) % 64∧gB s i % 8*262144+gB s (i+1) % 64*4096+gB s (i+2) % 64*64+gB s (i+3) % 64≤1114111:=by
 have:=Jk s i;have:=Jk s (i+1);have:=Jk s (i+2);have:=Jk s (i+3);unfold Zcu;rw[decide_eq_true_iff,numsAt4,hit_iff4 (by omega) (by omega) (by omega) (by omega) (by omega) (by omega) (by omega) (by omega)];omega
theorem dec_hit1(s:ByteArray)(i:Nat)(h:Zcu s i 1=true):Utf8.decode s i=((Zia (Ws s i 1)).toNat,1):=by
 rw[Ve s i ((hitAt1 s i).1 h)];rfl
theorem dec_hit2(s:ByteArray)(i:Nat)(hi:i+2≤s.size)(h:Zcu s i 2=true):Utf8.decode s i=((Zia (Ws s i 2)).toNat,2):=by
 rw[hitAt2]at h;have c1:=(Zar s (i+1)).2 ⟨by omega,by omega,by omega⟩;rw[Zdh,if_neg (by omega),if_pos ⟨by omega,c1⟩,if_pos (by omega),numsAt2];show _=((((gB s i:Int) - 192)*64+gB s (i+1) - 128).toNat,2);congr 1;omega
theorem dec_hit3(s:ByteArray)(i:Nat)(hi:i+3≤s.size)(h:Zcu s i 3=true):Utf8.decode s i=((Zia (Ws s i 3)).toNat,3):=by
 rw[hitAt3]at h;have c1:=(Zar s (i+1)).2 ⟨by omega,by omega,by omega⟩;have c2:=(Zar s (i+2)).2 ⟨by omega,by omega,by omega⟩;rw[Zdh,if_neg (by omega),if_neg (by omega),if_pos ⟨by omega,c1,c2⟩,if_pos (by omega),numsAt3];show _=((((gB s i:Int) - 224)*4096+((gB s (i+1):Int) - 128)*64+gB s (i+2) - 128).toNat,3);congr 1;omega
theorem dec_hit4(s:ByteArray)(i:Nat)(hi:i+4≤s.size)(h:Zcu s i 4=true):Utf8.decode s i=((Zia (Ws s i 4)).toNat,4):=by
 rw[hitAt4]at h;have c1:=(Zar s (i+1)).2 ⟨by omega,by omega,by omega⟩;have c2:=(Zar s (i+2)).2 ⟨by omega,by omega,by omega⟩;have c3:=(Zar s (i+3)).2 ⟨by omega,by omega,by omega⟩;rw[Zdh,if_neg (by omega),if_neg (by omega),if_neg (by omega),if_pos ⟨by omega,c1,c2,c3⟩,if_pos (by omega),numsAt4];show _=((((gB s i:Int) - 240)*262144+((gB s (i+1):Int) - 128)*4096+((gB s (i+2):Int) - 128)*64+gB s (i+3) - 128).toNat,4);congr 1;omega
theorem dec_hit(s:ByteArray)(i n:Nat)(h1:1≤n)(h4:n≤4)(hi:i+n≤s.size)(h:Zcu s i n=true):Utf8.decode s i=((Zia (Ws s i n)).toNat,n):=by
 have hn:n=1∨n=2∨n=3∨n=4:=by omega
 rcases hn with rfl | rfl | rfl | rfl
 ·exact dec_hit1 s i h
 ·exact dec_hit2 s i hi h
 ·exact dec_hit3 s i hi h
 ·exact dec_hit4 s i hi h
theorem num_nonneg(s:ByteArray)(i n:Nat)(h1:1≤n)(h4:n≤4)(h:Zcu s i n=true):0≤Zia (Ws s i n):=by
 unfold Zcu at h;rw[decide_eq_true_iff]at h;rcases Int.lt_or_le (Zia (Ws s i n)) 0 with hn | hn
 ·exfalso
  have e:Zcp (Zia (Ws s i n))=[]:=by unfold Zcp;rw[if_pos (.inl hn)]
  rw[e]at h;have:=congrArg List.length h;rw[Zee]at this;simp at this;omega
 ·exact hn
theorem dec_nohit(s:ByteArray)(i:Nat)(hi:i<s.size)(h:∀ n,1≤n→n≤4→i+n≤s.size→Zcu s i n=false):Utf8.decode s i=(65533,1):=by
 have g1:=Jk s i;have g2:=Jk s (i+1);have g3:=Jk s (i+2);have g4:=Jk s (i+3)
 have k1:¬ gB s i<128:=by
  have:=h 1 (by omega) (by omega) (by omega);rw[←hitAt1,this];simp
 have k2:i+2≤s.size→¬(194≤gB s i∧gB s i<224∧128≤gB s (i+1)∧gB s (i+1)<192):=fun hs=>by
  have:=h 2 (by omega) (by omega) hs;rw[←hitAt2,this];simp
 have k3:i+3≤s.size→_:=fun hs=>mt (hitAt3 s i).2 (by rw[h 3 (by omega) (by omega) hs];simp)
 have k4:i+4≤s.size→_:=fun hs=>mt (hitAt4 s i).2 (by rw[h 4 (by omega) (by omega) hs];simp)
 clear h;rw[Zdh,if_neg k1];repeat' split
 all_goals(try simp only[Zar]at *)
 all_goals first
  |rfl
  |(exfalso;omega)
theorem Zfs(s:ByteArray)(a b i:Nat)(h:a+i<b)(hb:b≤s.size):gB (s.extract a b) i=gB s (a+i):=by
 rw[Ug _ i (by rw[ByteArray.size_extract];omega),Ug _ (a+i) (by omega),ByteArray.getElem_extract]
theorem size_extract(s:ByteArray)(a b:Nat)(hb:b≤s.size):(s.extract a b).size=b - a:=by rw[ByteArray.size_extract];omega
theorem numsAt_extract(s:ByteArray)(a n:Nat)(h:a+n≤s.size):Ws (s.extract a (a+n)) 0 n=Ws s a n:=by
 unfold Ws;apply List.map_congr_left;intro j hj;rw[List.mem_range]at hj;rw[Nat.zero_add,Zfs s a (a+n) j (by omega) h]
theorem Zny(s:ByteArray)(a:Nat)(h:a≤s.size)(i:Nat)(hi:a+i<s.size):Utf8.decode (s.extract a s.size) i=Utf8.decode s (a+i):=by
 have hz:(s.extract a s.size).size=s.size - a:=size_extract s a s.size (Θ _);have g0:gB (s.extract a s.size) i=gB s (a+i):=Zfs s a s.size i hi (Θ _)
 have gc:∀ k,cB (s.extract a s.size) (i+k)=cB s (a+i+k)∧(cB s (a+i+k)=true→gB (s.extract a s.size) (i+k)=gB s (a+i+k)):=by
  intro k;by_cases hk:a+i+k<s.size
  ·have g:=Zfs s a s.size (i+k) (by omega) (Θ _)
   rw[show a+(i+k)=a+i+k from by omega]at g;refine⟨?_,fun _=>g⟩;unfold cB;rw[hz,g];simp only[show(i+k<s.size - a)=True from by simp;omega,hk]
  ·have e1:cB (s.extract a s.size) (i+k)=false:=by unfold cB;rw[hz];simp;omega
   have e2:cB s (a+i+k)=false:=by unfold cB;simp;omega
   exact⟨e1.trans e2.symm,fun h=>by rw[e2]at h;cases h⟩
 obtain⟨c1,d1⟩:=gc 1;obtain⟨c2,d2⟩:=gc 2;obtain⟨c3,d3⟩:=gc 3;rw[Zdh,Zdh,g0,c1,c2,c3];by_cases e1:cB s (a+i+1)=true
 ·rw[d1 e1]
  by_cases e2:cB s (a+i+2)=true
  ·rw[d2 e2]
   by_cases e3:cB s (a+i+3)=true
   ·rw[d3 e3]
   ·simp[e3]
  ·simp[e2]
 ·simp[e1]
theorem Zhe(l m:List Int)(hl:∀ x ∈ l,0≤x∧x<256)(hm:∀ x ∈ m,0≤x∧x<256)(h:strOfNums l=strOfNums m):l=m:=by
 have e:=congrArg (fun b:ByteArray=>b.data.toList.map (fun c:UInt8=>(c.toNat:Int))) h
 have k:∀ l:List Int,(∀ x ∈ l,0≤x∧x<256)→(strOfNums l).data.toList.map (fun c:UInt8=>(c.toNat:Int))=l:=by
  intro l hl;rw[strOfNums_data,List.map_map];conv=>rhs;rw[←List.map_id l]
  apply List.map_congr_left;intro x hx;have:=hl x hx;simp;omega
 rw[←k l hl,←k m hm];exact e
theorem encI_bd(n:Int):∀ x ∈ Zcp n,0≤x∧x<256:=by
 unfold Zcp;repeat' split
 all_goals(intro x hx;simp at hx;try omega)
theorem Zmx(s:ByteArray)(i n:Nat):∀ x ∈ Ws s i n,0≤x∧x<256:=by
 intro x hx;simp only[Ws,List.mem_map]at hx;obtain⟨j,_,rfl⟩:=hx;have:=Jk s (i+j);omega
theorem Zhr(s:ByteArray)(i n:Nat)(h:i+n≤s.size):s.extract i (i+n)=strOfNums (Ws s i n):=by
 have hz:(s.extract i (i+n)).size=n:=by rw[size_extract _ _ _ h];omega
 apply ByteArray.ext;apply Array.ext
 ·show(s.extract i (i+n)).size=(strOfNums (Ws s i n)).size
  rw[hz,strOfNums_size,Zee]
 ·intro j h1 h2
  have hj:j<n:=by rw[←hz];exact h1
  have e:(strOfNums (Ws s i n)).data[j]=UInt8.ofNat (gB s (i+j)):=by
   simp[strOfNums,Ws]
  rw[e];have g:=Ug s (i+j) (by omega);apply UInt8.toNat_inj.1;rw[g];simp;rfl
theorem hit_test(s:ByteArray)(i n:Nat)(h:i+n≤s.size):((strOfNums (Zcp (Zia (Ws s i n)))).toList == (s.extract i (i+n)).toList)=Zcu s i n:=by
 rw[ByteArray.toList_eq,ByteArray.toList_eq,Bool.eq_iff_iff,beq_iff_eq,Zhr s i n h];unfold Zcu;rw[decide_eq_true_iff];constructor
 ·intro e
  exact Zhe _ _ (encI_bd _) (Zmx _ _ _) (ByteArray.ext (Array.toList_inj.1 e))
 ·intro e;rw[e]
def bL(s:ByteArray):List Int:=Ws s 0 s.size
theorem Us(s:ByteArray):(bL s).length=s.size:=Zee _ _ _
theorem bL_bd(s:ByteArray):∀ x ∈ bL s,0≤x∧x<256:=Zmx _ _ _
theorem str_bL(s:ByteArray):strOfNums (bL s)=s:=by
 have h:=Zhr s 0 s.size (by omega);rw[Nat.zero_add]at h;unfold bL;rw[←h];exact ByteArray.extract_zero_size
theorem Zje(s:ByteArray)(i:Nat)(h:i<s.size):(bL s)[i]?=some (gB s i:Int):=by
 simp[bL,Ws,h]
theorem bL_str(l:List Int)(hl:∀ x ∈ l,0≤x∧x<256):bL (strOfNums l)=l:=
 Zhe _ _ (bL_bd _) hl (str_bL _)
theorem str_eq_iff(l m:List Int)(hl:∀ x ∈ l,0≤x∧x<256)(hm:∀ x ∈ m,0≤x∧x<256):((strOfNums l).toList == (strOfNums m).toList)=decide (l=m):=by
 rw[ByteArray.toList_eq,ByteArray.toList_eq,Bool.eq_iff_iff,beq_iff_eq,decide_eq_true_iff];constructor
 ·intro e;exact Zhe _ _ hl hm (ByteArray.ext (Array.toList_inj.1 e))
 ·intro e;rw[e]
theorem Zlc(s:ByteArray)(i n:Nat)(h:i+n≤s.size):bL (s.extract i (i+n))=((bL s).drop i).take n:=by
 rw[Zhr s i n h,bL_str _ (Zmx _ _ _)];apply List.ext_getElem?;intro j;by_cases hj:j<n
 ·rw[List.getElem?_take_of_lt hj,List.getElem?_drop,Zje s (i+j) (by omega)]
  simp[Ws,hj]
 ·rw[List.getElem?_eq_none (by rw[Zee];omega),List.getElem?_eq_none (by rw[List.length_take];omega)]
theorem Zkn(l m:List Int):strOfNums l++strOfNums m=strOfNums (l++m):=by
 apply ByteArray.ext;rw[ByteArray.data_append];simp[strOfNums]
def Zjz(n:Nat):List Int:=if n<10 then [48+(n:Int)]else Zjz (n / 10)++[48+((n % 10:Nat):Int)]
theorem Zef{n:Nat}(h:n<10):Zjz n=[48+(n:Int)]:=by rw[Zjz,if_pos h]
theorem Zge{n:Nat}(h:10≤n):Zjz n=Zjz (n / 10)++[48+((n % 10:Nat):Int)]:=by
 conv=>lhs;rw[Zjz]
 rw[if_neg (by omega)]
def isD(x:Int):Bool:=decide (48≤x) && decide (x≤57)
theorem Zbs(x:Int):isD x=true↔48≤x∧x≤57:=by simp[isD]
theorem digL_isD(n:Nat):∀ x ∈ Zjz n,48≤x∧x≤57:=by
 induction n using Nat.strongRecOn with
 |ind n ih=>
  by_cases h:n<10
  ·rw[Zef h];intro x hx;simp at hx;omega
  ·rw[Zge (by omega)]
   intro x hx;rcases List.mem_append.1 hx with hx | hx
   ·exact ih (n / 10) (by omega) x hx
   ·simp at hx;omega
theorem Zjb(n:Nat):Zjz n≠[]:=by
 by_cases h:n<10
 ·rw[Zef h];simp
 ·rw[Zge (by omega)];simp
theorem digL_len(n k:Nat)(hk:1≤k):(Zjz n).length≤k↔n<10 ^ k:=by
 induction k generalizing n with
 |zero=>omega
 |succ k ih=>
  by_cases h:n<10
  ·rw[Zef h]
   have:10≤10 ^ (k+1):=by
    have:=Nat.pow_le_pow_right (show 0<10 by omega) (show 1≤k+1 by omega);omega
   simp;omega
  ·rw[Zge (by omega),List.length_append]
   have e:(10:Nat) ^ (k+1)=10 ^ k*10:=Nat.pow_succ _ _;cases k with
   |zero=>
    have:=List.length_pos_iff.2 (Zjb (n / 10));rw[show 0+1=1 from rfl,Nat.pow_one,List.length_singleton];omega
   |succ k=>
    have:=ih (n / 10) (by omega);simp only[List.length_singleton];rw[e];omega
def Jt(l:List Int):Int:=l.foldl (fun n d=>10*n+(d - 48)) 0
theorem Zjg(l:List Int)(d:Int):Jt (l++[d])=10*Jt l+(d - 48):=by simp[Jt]
theorem snoc_cases(l:List Int):l=[]∨∃ m d,l=m++[d]:=by
 rcases List.eq_nil_or_concat l with h | ⟨m,d,h⟩
 ·exact .inl h
 ·exact .inr ⟨m,d,by rw[h,List.concat_eq_append]⟩
theorem Zbd(l:List Int)(hl:∀ x ∈ l,48≤x∧x≤57):0≤Jt l∧Jt l<10 ^ l.length:=by
 generalize hn:l.length=n;induction n generalizing l with
 |zero=>rw[List.eq_nil_of_length_eq_zero hn];simp[Jt]
 |succ n ih=>
  rcases snoc_cases l with rfl | ⟨m,d,rfl⟩
  ·simp at hn
  ·have:=ih m (fun x hx=>hl x (by simp[hx])) (by simpa using hn)
   have:=hl d (by simp);rw[Zjg,Int.pow_succ];omega
theorem pow10_le{k:Nat}(h:k≤9):(10:Int) ^ k≤1000000000:=by
 have h:k=0∨k=1∨k=2∨k=3∨k=4∨k=5∨k=6∨k=7∨k=8∨k=9:=by omega
 rcases h with rfl | rfl | rfl | rfl | rfl | rfl | rfl | rfl | rfl | rfl<;>decide
def Zcr(l:List Int):Bool:= !decide (l[0]?=some 48) || decide (l.length=1)
theorem digL_plain(n:Nat):Zcr (Zjz n)=true:=by
 induction n using Nat.strongRecOn with
 |ind n ih=>
  by_cases h:n<10
  ·rw[Zef h];simp[Zcr]
  ·have h1:=ih (n / 10) (by omega)
   rw[Zge (by omega)];by_cases h2:n / 10<10
   ·rw[Zef h2];simp[Zcr];omega
   ·have:=List.length_pos_iff.2 (Zjb (n / 10 / 10))
    have e:(Zjz (n / 10)).length≠1:=by rw[Zge (by omega),List.length_append,List.length_singleton];omega
    have p:=List.length_pos_iff.2 (Zjb (n / 10));simp only[Zcr,Bool.or_eq_true,Bool.not_eq_true',decide_eq_false_iff_not,decide_eq_true_iff]at h1 ⊢;left;rw[List.getElem?_append_left p];rcases h1 with h1 | h1
    ·exact h1
    ·exact absurd h1 e
theorem digL_valL(l:List Int)(hl:∀ x ∈ l,48≤x∧x≤57)(h0:l≠[]):Zjz (Jt l).toNat=l↔Zcr l=true:=by
 constructor
 ·intro h;rw[←h];exact digL_plain _
 ·generalize hn:l.length=n
  induction n generalizing l with
  |zero=>exact absurd (List.eq_nil_of_length_eq_zero hn) h0
  |succ n ih=>
   intro hp;rcases snoc_cases l with rfl | ⟨m,d,rfl⟩
   ·exact absurd rfl h0
   ·have hd:=hl d (by simp)
    have hm:=fun x hx=>hl x (List.mem_append_left [d] hx)
    have hv:=Zbd m hm;rw[Zjg];by_cases hm0:m=[]
    ·subst hm0
     simp only[Jt,List.foldl_nil];rw[Zef (by omega)];simp;omega
    ·have hpm:0<m.length:=List.length_pos_iff.2 hm0
     simp only[Zcr,Bool.or_eq_true,Bool.not_eq_true',decide_eq_false_iff_not,decide_eq_true_iff,List.length_append,List.length_singleton]at hp
     have hp1:¬(m++[d])[0]?=some 48:=by
      rcases hp with hp | hp
      ·exact hp
      ·omega
     rw[List.getElem?_append_left hpm]at hp1;have hi:=ih m hm hm0 (by simpa using hn) (by simp[Zcr,hp1])
     have hv1:Jt m≠0:=by
      intro c;rw[c]at hi;rw[←hi]at hp1;exact hp1 (by rw[show Int.toNat 0=0 from rfl,Zef (by omega)];rfl)
     rw[Zge (by omega),show(10*Jt m+(d - 48)).toNat / 10=(Jt m).toNat from by omega,hi];congr 2
     omega
def putL(n:Int):List Int:=if n<0 then 45::Zjz (-n).toNat else Zjz n.toNat
def Zej(n:Int):ByteArray:=strOfNums (putL n)
theorem putL_neg{n:Int}(h:n<0):putL n=45::Zjz (-n).toNat:=by rw[putL,if_pos h]
theorem Zfm{n:Int}(h:0≤n):putL n=Zjz n.toNat:=by rw[putL,if_neg (by omega)]
theorem putL_bd(n:Int):∀ x ∈ putL n,45≤x∧x≤57:=by
 unfold putL;split
 ·intro x hx
  rcases List.mem_cons.1 hx with h | h
  ·omega
  ·have:=digL_isD _ x h;omega
 ·intro x hx;have:=digL_isD _ x hx;omega
theorem putL_by(n:Int):∀ x ∈ putL n,0≤x∧x<256:=fun x hx=>by have:=putL_bd n x hx;omega
theorem putL_len(n:Int)(h1 : -9223372036854775808≤n)(h2:n≤9223372036854775807):(putL n).length≤20:=by
 unfold putL;split
 ·have:=(digL_len (-n).toNat 19 (by omega)).2 (by omega)
  simp;omega
 ·have:=(digL_len n.toNat 19 (by omega)).2 (by omega)
  omega
theorem Zgm(n:Int)(h1 : -9223372036854775808≤n)(h2:n≤9223372036854775807):(Zej n).size≤20:=by
 unfold Zej;rw[strOfNums_size];exact putL_len n h1 h2
def Xr(l:List Int):List Int:=l.takeWhile isD
theorem Zae{x:Int}(r:List Int)(h:isD x=true):Xr (x::r)=x::Xr r:=by simp[Xr,h]
theorem Ziz{x:Int}(r:List Int)(h:isD x=false):Xr (x::r)=[]:=by simp[Xr,h]
theorem firstD_isD(l:List Int):∀ x ∈ Xr l,48≤x∧x≤57:=by
 intro x hx
 have:isD x=true:=by
  unfold Xr at hx;exact(List.all_eq_true.1 (List.all_takeWhile (l:=l) (p:=isD))) x hx
 exact(Zbs x).1 this
theorem Zgc(l:List Int):l.take (Xr l).length=Xr l:=by
 induction l with
 |nil=>rfl
 |cons x r ih=>
  cases h:isD x with
  |true=>rw[Zae r h];simp[ih]
  |false=>rw[Ziz r h];rfl
theorem firstD_len(l:List Int):(Xr l).length≤l.length:=by
 have:=congrArg List.length (Zgc l);rw[List.length_take]at this;omega
theorem drop_cons{l:List Int}{i:Nat}(h:i<l.length):l.drop i=l[i]::l.drop (i+1):=List.drop_eq_getElem_cons h
theorem Zjv(s:ByteArray)(i:Nat)(h:i<s.size):(bL s).drop i=(gB s i:Int)::(bL s).drop (i+1):=by
 have hl:i<(bL s).length:=by rw[Us];exact h
 rw[drop_cons hl];congr 1
 have:=Zje s i h;rw[List.getElem?_eq_getElem hl]at this;exact Option.some.inj this
theorem Zgf(s:ByteArray)(i:Nat)(h:s.size≤i):(bL s).drop i=[]:=List.drop_eq_nil_of_le (by rw[Us];exact h)
def Ul(s:ByteArray)(a most:Int):Int×Int×Bool:=
 if a<0∨(s.size:Int)≤a then(0,0,false)
 else if Xr ((bL s).drop a.toNat)≠[]∧((Xr ((bL s).drop a.toNat)).length:Int)≤most∧(Xr ((bL s).drop a.toNat)).length≤9∧Zcr (Xr ((bL s).drop a.toNat))=true then
  (Jt (Xr ((bL s).drop a.toNat)),a+((Xr ((bL s).drop a.toNat)).length:Int),true)
 else(0,0,false)
def Zbr(s:ByteArray):Nat→Nat→List (Nat×Nat)
 |0,_=>[]
 |b+1,i=>if i<s.size then((Utf8.decode s i).1,i)::Zbr s b (i+(Utf8.decode s i).2)else []
theorem Zcc(s:ByteArray)(b i:Nat)(h:s.size≤i):Zbr s b i=[]:=by
 cases b with
 |zero=>rfl
 |succ b=>simp only[Zbr];rw[if_neg (by omega)]
theorem Zfk(s:ByteArray)(b i:Nat)(h:i<s.size):Zbr s (b+1) i=((Utf8.decode s i).1,i)::Zbr s b (i+(Utf8.decode s i).2):=by
 simp only[Zbr];rw[if_pos h]
theorem Zil(s:ByteArray):∀(b c i:Nat),s.size≤i+b→s.size≤i+c→Zbr s b i=Zbr s c i
 |0,c,i,h,_=>by rw[Zcc s c i (by omega)];rfl
 |b+1,0,i,_,h=>by rw[Zcc s (b+1) i (by omega)];rfl
 |b+1,c+1,i,h1,h2=>by
  by_cases h:i<s.size
  ·have:=Zby s i h
   rw[Zfk s b i h,Zfk s c i h,Zil s b c _ (by omega) (by omega)]
  ·rw[Zcc s _ i (by omega),Zcc s _ i (by omega)]
def Jf(s:ByteArray)(i:Nat):List (Nat×Nat):=Zbr s (s.size - i) i
theorem Zac(s:ByteArray)(i:Nat)(h:s.size≤i):Jf s i=[]:=Zcc s _ i h
theorem Vc(s:ByteArray)(i:Nat)(h:i<s.size):Jf s i=((Utf8.decode s i).1,i)::Jf s (i+(Utf8.decode s i).2):=by
 have:=Zby s i h;unfold Jf;rw[show s.size - i=(s.size - i - 1)+1 from by omega,Zfk s _ i h];congr 1
 exact Zil s _ _ _ (by omega) (by omega)
def Yl(s:ByteArray):List (Nat×Nat):=Jf s 0
theorem Zim(s:ByteArray):∀(b i:Nat),s.size≤i+b→(Jf s i).length≤s.size - i
 |0,i,h=>by rw[Zac s i (by omega)];simp
 |b+1,i,h=>by
  by_cases hi:i<s.size
  ·have:=Zby s i hi
   have ih:=Zim s b (i+(Utf8.decode s i).2) (by omega);rw[Vc s i hi,List.length_cons];omega
  ·rw[Zac s i (by omega)];simp
theorem Ju(s:ByteArray):(Yl s).length≤s.size:=Zim s s.size 0 (by omega)
theorem Vx(s:ByteArray):∀(b i:Nat),s.size≤i+b→∀ x ∈ Jf s i,i≤x.2∧x.2<s.size∧x.1≤1114111
 |0,i,h=>by rw[Zac s i (by omega)];simp
 |b+1,i,h=>by
  by_cases hi:i<s.size
  ·have:=Zby s i hi
   rw[Vc s i hi];intro x hx;rcases List.mem_cons.1 hx with rfl | hx
   ·dsimp only;omega
   ·have:=Vx s b (i+(Utf8.decode s i).2) (by omega) x hx
    omega
  ·rw[Zac s i (by omega)];simp
def Xa(p:Nat×Nat)(r:Nat):Nat×Nat:=if r=10 then(p.1+1,1)else(p.1,p.2+1)
def Zdy(at_:Int):List (Nat×Nat)→Nat×Nat→Nat×Nat
 |[],p=>p
 |x::l,p=>if at_≤(x.2:Int)then p else Zdy at_ l (Xa p x.1)
def Zt(s:ByteArray)(at_:Int):Nat×Nat:=Zdy at_ (Yl s) (1,1)
theorem placeStep_bd(p:Nat×Nat)(r:Nat)(m:Nat)(h1:p.1≤m)(h2:p.2≤m)(h3:1≤m): (Xa p r).1≤m+1∧(Xa p r).2≤m+1:=by
 unfold Xa;split<;>(dsimp only;omega)
theorem placeL_bd(at_:Int):∀(l:List (Nat×Nat))(p:Nat×Nat)(m:Nat),p.1≤m→p.2≤m→1≤m→(Zdy at_ l p).1≤m+l.length∧(Zdy at_ l p).2≤m+l.length
 |[],p,m,h1,h2,_=>by simp only[Zdy,List.length_nil];omega
 |x::l,p,m,h1,h2,h3=>by
  simp only[Zdy,List.length_cons];split
  ·omega
  ·have:=placeStep_bd p x.1 m h1 h2 h3
   have:=placeL_bd at_ l (Xa p x.1) (m+1) this.1 this.2 (by omega);omega
theorem Zdx(s:ByteArray)(at_:Int):(Zt s at_).1≤1+s.size∧(Zt s at_).2≤1+s.size:=by
 have h:=placeL_bd at_ (Yl s) (1,1) 1 (by simp) (by simp) (by omega);have:=Ju s;unfold Zt;omega
theorem Zke(at_:Nat):∀(done rest:List (Nat×Nat))(p:Nat×Nat),(∀ x ∈ done,x.2<at_)→(∀ x ∈ rest,at_≤x.2)→Zdy at_ (done++rest) p=done.foldl (fun p x=>Xa p x.1) p
 |[],rest,p,_,hr=>by
  cases rest with
  |nil=>rfl
  |cons x l=>
   have:=hr x (List.mem_cons_self);simp only[List.nil_append,Zdy,List.foldl_nil];rw[if_pos (by omega)]
 |x::l,rest,p,hd,hr=>by
  have:=hd x (List.mem_cons_self);simp only[List.cons_append,Zdy,List.foldl_cons];rw[if_neg (by omega),Zke at_ l rest _ (fun y hy=>hd y (List.mem_cons_of_mem _ hy)) hr]
structure Zet(s:ByteArray)(i:Nat)(done:List (Nat×Nat)):Prop where
 all:Yl s=done++Jf s i
 before:∀ x ∈ done,x.2<i
theorem Zet.zero(s:ByteArray):Zet s 0 []:=⟨rfl,fun x hx=>by cases hx⟩
theorem Zet.next{s:ByteArray}{i:Nat}{done:List (Nat×Nat)}(h:Zet s i done)(hi:i<s.size):Zet s (i+(Utf8.decode s i).2) (done++[((Utf8.decode s i).1,i)]):=by
 have:=Zby s i hi;refine⟨?_,fun x hx=>?_⟩
 ·rw[h.all,Vc s i hi];simp
 ·rcases List.mem_append.1 hx with hx | hx
  ·have:=h.before x hx;omega
  ·simp at hx;subst hx;dsimp only;omega
theorem Zet.place{s:ByteArray}{i:Nat}{done:List (Nat×Nat)}(h:Zet s i done):Zt s i=done.foldl (fun p x=>Xa p x.1) (1,1):=by
 unfold Zt;rw[h.all];exact Zke i done _ _ h.before (fun x hx=>(Vx s s.size i (by omega) x hx).1)
theorem Zet.length_end{s:ByteArray}{i:Nat}{done:List (Nat×Nat)}(h:Zet s i done)(hi:s.size≤i):Yl s=done:=by
 rw[h.all,Zac s i hi,List.append_nil]
def Zga(n:Int):Bool:=decide (97≤n∧n≤122) || decide (65≤n∧n≤90) || decide (192≤n∧n≤591∧n≠215∧n≠247)
def Zbb(n:Int):Bool:=Zga n || decide (48≤n∧n≤57) || decide (n=32) || decide (n=39) || decide (n=45)
def Zce(s:ByteArray):Bool:=decide (1≤(Yl s).length) && decide ((Yl s).length≤24) && (Yl s).all (fun x=>Zbb x.1) &&
 decide (((Yl s).map (·.1)).head?≠some 32) && decide (((Yl s).map (·.1)).getLast?≠some 32)
theorem head_space(s:ByteArray)(h:0<s.size):((Yl s).map (·.1)).head?=some 32↔gB s 0=32:=by
 unfold Yl;rw[Vc s 0 h];simp only[List.map_cons,List.head?_cons,Option.some.injEq];constructor
 ·intro e
  have:=Zgx s 0 (by omega);omega
 ·intro e
  rw[Ve s 0 (by omega)];exact e
theorem Zkg(s:ByteArray):∀(b i:Nat),s.size≤i+b→i<s.size→(((Jf s i).map (·.1)).getLast?=some 32↔gB s (s.size - 1)=32)
 |0,i,h,hi=>by omega
 |b+1,i,h,hi=>by
  have hb:=Zby s i hi;rw[Vc s i hi];by_cases hn:i+(Utf8.decode s i).2<s.size
  ·have ih:=Zkg s b (i+(Utf8.decode s i).2) (by omega) hn
   rw[←ih,Vc s _ hn];simp only[List.map_cons,List.getLast?_cons_cons]
  ·rw[Zac s _ (by omega)]
   simp only[List.map_cons,List.map_nil,List.getLast?_singleton,Option.some.injEq];constructor
   ·intro e
    have:=Zgx s i (by omega);rw[show s.size - 1=i from by omega];omega
   ·intro e
    by_cases h1:1<(Utf8.decode s i).2
    ·have:=dec_last s i h1
     rw[show i+(Utf8.decode s i).2 - 1=s.size - 1 from by omega]at this;omega
    ·rw[show s.size - 1=i from by omega]at e
     rw[Ve s i (by omega)];exact e
theorem last_space(s:ByteArray)(h:0<s.size):((Yl s).map (·.1)).getLast?=some 32↔gB s (s.size - 1)=32:=Zkg s s.size 0 (by omega) h
def Bd(s:ByteArray)(i:Nat):Prop:=i≤s.size∧∃ done,Zet s i done
theorem Bd.zero(s:ByteArray):Bd s 0:=⟨Nat.zero_le _,[],Zet.zero s⟩
theorem dec_cont(s:ByteArray)(i k:Nat)(_hi:i<s.size)(h0:0<k)(h1:k<(Utf8.decode s i).2):128≤gB s (i+k):=by
 rw[Zdh]at h1;split at h1
 ·dsimp only at h1;omega
 ·split at h1
  ·rename_i h
   have c1:=(Zar s (i+1)).1 h.2;split at h1
   ·dsimp only at h1;rw[show k=1 from by omega];omega
   ·dsimp only at h1;omega
  ·split at h1
   ·rename_i h
    have c1:=(Zar s (i+1)).1 h.2.1;have c2:=(Zar s (i+2)).1 h.2.2;split at h1
    ·dsimp only at h1
     have hk:k=1∨k=2:=by omega
     rcases hk with rfl | rfl<;>omega
    ·dsimp only at h1;omega
   ·split at h1
    ·rename_i h
     have c1:=(Zar s (i+1)).1 h.2.1;have c2:=(Zar s (i+2)).1 h.2.2.1;have c3:=(Zar s (i+3)).1 h.2.2.2;split at h1
     ·dsimp only at h1
      have hk:k=1∨k=2∨k=3:=by omega
      rcases hk with rfl | rfl | rfl<;>omega
     ·dsimp only at h1;omega
    ·dsimp only at h1;omega
theorem upto_reach(s:ByteArray)(q:Nat)(hq:q≤s.size)(ha:q=s.size∨gB s q<128):∀(b i:Nat)(done:List (Nat×Nat)),q≤i+b→i≤q→Zet s i done→∃ more,Zet s q (done++more)
 |0,i,done,h1,h2,h=>by
  have:i=q:=by omega
  subst this;exact⟨[],by simpa using h⟩
 |b+1,i,done,h1,h2,h=>by
  by_cases he:i=q
  ·subst he
   exact⟨[],by simpa using h⟩
  ·have hi:i<s.size:=by omega
   have hd:=Zby s i hi
   have hle:i+(Utf8.decode s i).2≤q:=by
    rcases Nat.lt_or_ge q (i+(Utf8.decode s i).2)with hlt | hge
    ·exfalso
     have:=dec_cont s i (q - i) hi (by omega) (by omega);rw[show i+(q - i)=q from by omega]at this;omega
    ·exact hge
   obtain⟨more,hm⟩:=upto_reach s q hq ha b _ _ (by omega) hle (h.next hi);exact⟨_::more,by simpa using hm⟩
theorem Bd.reach{s:ByteArray}{q:Nat}(hq:q≤s.size)(ha:q=s.size∨gB s q<128):Bd s q:=by
 obtain⟨m,hm⟩:=upto_reach s q hq ha q 0 [] (by omega) (by omega) (Zet.zero s);exact⟨hq,_,hm⟩
theorem Bd.end_(s:ByteArray):Bd s s.size:=Bd.reach (Θ _) (.inl rfl)
theorem Bd.next{s:ByteArray}{i:Nat}(h:Bd s i)(hi:i<s.size):Bd s (i+(Utf8.decode s i).2):=by
 obtain⟨_,d,hu⟩:=h;have:=Zby s i hi;exact⟨by omega,_,hu.next hi⟩
theorem Bd.behind{s:ByteArray}{q:Nat}(hq:q<s.size)(ha:gB s q<128):Bd s (q+1):=by
 have h:=(Bd.reach (Nat.le_of_lt hq) (.inr ha)).next hq;rwa [Ve s q ha]at h
theorem dec_part(s:ByteArray)(i j:Nat)(hj:j≤s.size)(h:i+(Utf8.decode s i).2≤j)(hi:i<j):Utf8.decode (s.extract 0 j) i=Utf8.decode s i:=by
 have hz:(s.extract 0 j).size=j:=by rw[size_extract s 0 j hj];omega
 have hg:∀ k,k<j→gB (s.extract 0 j) k=gB s k:=fun k hk=>by
  have:=Zfs s 0 j k (by omega) hj;rwa [Nat.zero_add]at this
 have hc:∀ k,k<j→cB (s.extract 0 j) k=cB s k:=fun k hk=>by
  rw[Bool.eq_iff_iff,Zar,Zar,hz,hg k hk];omega
 have hc':∀ k,cB (s.extract 0 j) k=true→k<j:=fun k hk=>by
  have:=(Zar _ _).1 hk;omega
 have h0:=hg i hi;rw[Zdh s i]at h;rw[Zdh (s.extract 0 j) i,Zdh s i,h0];by_cases ha:gB s i<128
 ·rw[if_pos ha,if_pos ha]
 ·rw[if_neg ha]at h
  rw[if_neg ha,if_neg ha];by_cases k1:i+1<j
  ·rw[hc _ k1,hg _ k1]
   by_cases k2:i+2<j
   ·rw[hc _ k2,hg _ k2]
    by_cases k3:i+3<j
    ·rw[hc _ k3,hg _ k3]
    ·have e3:cB (s.extract 0 j) (i+3)=false:=by
      rw[←Bool.not_eq_true];intro hh;exact k3 (hc' _ hh)
     rw[e3];by_cases b1:gB s i / 32=6∧cB s (i+1)=true
     ·rw[if_pos b1,if_pos b1]
     ·rw[if_neg b1]at h;rw[if_neg b1,if_neg b1]
      by_cases b2:gB s i / 16=14∧cB s (i+1)=true∧cB s (i+2)=true
      ·rw[if_pos b2,if_pos b2]
      ·rw[if_neg b2]at h;rw[if_neg b2,if_neg b2]
       rw[if_neg (by simp)];repeat' split
       all_goals first
        |rfl
        |(exfalso;simp only[*]at h;simp at h;omega)
        |(exfalso;rw[if_pos (by assumption)]at h;rw[if_pos (by assumption)]at h;dsimp only at h;omega)
   ·have e2:cB (s.extract 0 j) (i+2)=false:=by
     rw[←Bool.not_eq_true];intro hh;exact k2 (hc' _ hh)
    rw[e2];by_cases b1:gB s i / 32=6∧cB s (i+1)=true
    ·rw[if_pos b1,if_pos b1]
    ·rw[if_neg b1]at h;rw[if_neg b1,if_neg b1,if_neg (by simp),if_neg (by simp)]
     repeat' split
     all_goals first
      |rfl
      |(exfalso;rw[if_pos (by assumption)]at h;rw[if_pos (by assumption)]at h;dsimp only at h;omega)
      |(exfalso;rw[if_neg (by assumption)]at h;rw[if_pos (by assumption)]at h;rw[if_pos (by assumption)]at h;dsimp only at h;omega)
  ·have e1:cB (s.extract 0 j) (i+1)=false:=by
    rw[←Bool.not_eq_true];intro hh;exact k1 (hc' _ hh)
   rw[e1,if_neg (by simp),if_neg (by simp),if_neg (by simp)];repeat' split
   all_goals first
    |rfl
    |(exfalso;rw[if_pos (by assumption)]at h;rw[if_pos (by assumption)]at h;dsimp only at h;omega)
    |(exfalso;rw[if_neg (by assumption)]at h;rw[if_pos (by assumption)]at h;rw[if_pos (by assumption)]at h;dsimp only at h;omega)
    |(exfalso;rw[if_neg (by assumption)]at h;rw[if_neg (by assumption)]at h;rw[if_pos (by assumption)]at h;rw[if_pos (by assumption)]at h;dsimp only at h;omega)
theorem Zeb(s:ByteArray)(i j:Nat)(hij:i≤j)(hj:j≤s.size):s.extract i j=(s.extract i s.size).extract 0 (j - i):=by
 rw[ByteArray.extract_extract];congr 1<;>omega
theorem dec_piece(s:ByteArray)(i j k:Nat)(hij:i≤j)(hj:j≤s.size)(hk:i+k<j)(h:i+k+(Utf8.decode s (i+k)).2≤j):Utf8.decode (s.extract i j) k=Utf8.decode s (i+k):=by
 have e:=Zny s i (by omega) k (by omega);rw[Zeb s i j hij hj,dec_part _ _ _ (by rw[size_extract _ _ _ (Θ _)];omega) (by rw[e];omega) (by omega),e]
def fld(p:Nat×Nat)(l:List (Nat×Nat)):Nat×Nat:=l.foldl (fun p x=>Xa p x.1) p
theorem Zgt(p:Nat×Nat)(x:Nat×Nat)(l:List (Nat×Nat)):fld p (x::l)=fld (Xa p x.1) l:=rfl
theorem fld_app(p:Nat×Nat)(l m:List (Nat×Nat)):fld p (l++m)=fld (fld p l) m:=List.foldl_append
def adv(p x:Nat×Nat):Nat×Nat:=if 1<x.1 then(p.1+x.1 - 1,x.2)else(p.1,p.2+x.2 - 1)
theorem fld_adv(l:List (Nat×Nat)):∀(p q:Nat×Nat),1≤q.1→1≤q.2→fld (adv p q) l=adv p (fld q l):=by
 induction l with
 |nil=>intro p q _ _;rfl
 |cons x l ih=>
  intro p q h1 h2;rw[Zgt,Zgt]
  have e:Xa (adv p q) x.1=adv p (Xa q x.1):=by
   unfold Xa adv;by_cases hx:x.1=10
   ·simp only[if_pos hx]
    repeat' split
    all_goals first
     |(exfalso;omega)
     |(simp;try omega)
   ·simp only[if_neg hx]
    repeat' split
    all_goals(simp;try omega)
  rw[e,ih p (Xa q x.1) (by unfold Xa;split<;>(dsimp only;omega)) (by unfold Xa;split<;>(dsimp only;omega))]
theorem adv_one(p:Nat×Nat):adv p (1,1)=p:=by
 unfold adv;simp
theorem Zit(s:ByteArray)(i j:Nat)(hj:j≤s.size):∀(b k:Nat)(more:List (Nat×Nat))(done:List (Nat×Nat)),j≤i+k+b→i+k≤j→Zet s (i+k) done→Zet s j (done++more) →
  (Jf (s.extract i j) k).map (·.1)=more.map (·.1)
 |0,k,more,done,h1,h2,hu,hw=>by
  have e:i+k=j:=by omega
  have hz:(s.extract i j).size=j - i:=size_extract s i j hj;rw[Zac _ _ (by omega)];have a1:=hu.all;have a2:=hw.all;rw[e]at a1;rw[a1,List.append_assoc]at a2;have:=List.append_cancel_left a2
  have:more=[]:=by
   have hl:=congrArg List.length this;simp at hl;exact hl
  rw[this]
 |b+1,k,more,done,h1,h2,hu,hw=>by
  by_cases e:i+k=j
  ·exact Zit s i j hj 0 k more done (by omega) h2 hu hw
  ·have hlt:i+k<s.size:=by omega
   have hz:(s.extract i j).size=j - i:=size_extract s i j hj;have hn:=hu.next hlt;have a1:=hu.all;have a2:=hw.all;rw[Vc s _ hlt]at a1;rw[a1,List.append_assoc]at a2;have a3:=List.append_cancel_left a2;cases more with
   |nil=>
    exfalso;rw[List.nil_append]at a3;have hm:((Utf8.decode s (i+k)).1,i+k) ∈ Jf s j:=by rw[←a3];exact List.mem_cons_self
    have:=(Vx s s.size j (by omega) _ hm).1;simp at this;omega
   |cons x more=>
    rw[List.cons_append]at a3;have hx:x=((Utf8.decode s (i+k)).1,i+k):=(List.cons.inj a3).1.symm
    have hle:i+k+(Utf8.decode s (i+k)).2≤j:=by
     rcases Nat.lt_or_ge j (i+k+(Utf8.decode s (i+k)).2)with hlt' | hge
     ·exfalso
      have t:=(List.cons.inj a3).2;cases more with
      |nil=>
            rw[List.nil_append]at t;by_cases hjs:j<s.size
            ·rw[Vc s j hjs]at t
             have hm:((Utf8.decode s j).1,j) ∈ Jf s (i+k+(Utf8.decode s (i+k)).2):=by rw[t];exact List.mem_cons_self
             have:=(Vx s s.size _ (by omega) _ hm).1;simp at this;omega
            ·have:=Zby s (i+k) hlt
             omega
      |cons y more=>
            have hm:y ∈ Jf s (i+k+(Utf8.decode s (i+k)).2):=by rw[t];simp
            have g1:=(Vx s s.size _ (by omega) _ hm).1;have g2:=hw.before y (by simp);omega
     ·exact hge
    have hd:=dec_piece s i j k (by omega) hj (by omega) hle;have hb:=Zby s (i+k) hlt;rw[Vc _ k (by omega),hd,List.map_cons,List.map_cons,hx];congr 1
    have ih:=Zit s i j hj b (k+(Utf8.decode s (i+k)).2) more (done++[((Utf8.decode s (i+k)).1,i+k)]) (by omega) (by omega) (by rw[←Nat.add_assoc];exact hn) (by rw[List.append_assoc];rw[←hx];simpa using hw);exact ih
theorem fld_map(l m:List (Nat×Nat))(h:l.map (·.1)=m.map (·.1))(p:Nat×Nat):fld p l=fld p m:=by
 have e:∀ l:List (Nat×Nat),∀ p,fld p l=(l.map (·.1)).foldl Xa p:=by
  intro l;induction l with
  |nil=>intro p;rfl
  |cons x l ih=>intro p;rw[Zgt,ih];rfl
 rw[e,e,h]
theorem Zet.more{s:ByteArray}{i j:Nat}{d e:List (Nat×Nat)}(hi:Zet s i d)(hj:Zet s j e)(hij:i≤j):∃ more,e=d++more∧∀ x ∈ more,i≤x.2:=by
 have a1:=hi.all;have a2:=hj.all;rw[a1]at a2;rcases List.append_eq_append_iff.1 a2 with⟨m,h1,h2⟩ | ⟨m,h1,h2⟩
 ·refine⟨m,h1,fun x hx=>?_⟩
  have hm:x ∈ Jf s i:=by rw[h2];simp[hx]
  exact(Vx s s.size i (by omega) x hm).1
 ·cases m with
  |nil=>exact⟨[],by simpa using h1.symm,fun x hx=>by cases hx⟩
  |cons x m=>
   exfalso;have g1:=hi.before x (by rw[h1];simp);have hm:x ∈ Jf s j:=by rw[h2];simp
   have g2:=(Vx s s.size j (by omega) x hm).1;omega
theorem Zdw{s:ByteArray}{i:Nat}{d:List (Nat×Nat)}(h:Zet s i d):Zt s i=fld (1,1) d:=h.place
theorem place_pass{s:ByteArray}{i j:Nat}(hi:Bd s i)(hj:Bd s j)(hij:i≤j):Zt s (j:Int)=adv (Zt s (i:Int)) (Zt (s.extract i j) ((j - i:Nat):Int)):=by
 obtain⟨hi1,d,hu⟩:=hi;obtain⟨hj1,e,hv⟩:=hj;obtain⟨more,rfl,_⟩:=hu.more hv hij;have hz:(s.extract i j).size=j - i:=size_extract s i j hj1;have hp:=Zit s i j hj1 (j - i) 0 more d (by omega) (by omega) (by simpa using hu) hv;obtain⟨_,f,hw⟩:=Bd.end_ (s.extract i j);have hf:=hw.length_end (Θ _);rw[Zdw hu,Zdw hv,fld_app];rw[←hz,Zdw hw,←hf];have hf2:fld (1,1) (Yl (s.extract i j))=fld (1,1) more:=fld_map _ _ hp _;rw[hf2,←fld_adv more _ _ (by decide) (by decide),adv_one]
theorem place_lt{s:ByteArray}{i j:Nat}(hi:Bd s i)(hj:Bd s j)(hij:i<j) :
  (Zt s (i:Int)).1<(Zt s (j:Int)).1∨(Zt s (i:Int)).1=(Zt s (j:Int)).1∧(Zt s (i:Int)).2<(Zt s (j:Int)).2:=by
 obtain⟨hi1,d,hu⟩:=hi;obtain⟨hj1,e,hv⟩:=hj;obtain⟨more,rfl,hge⟩:=hu.more hv (by omega)
 have hne:more≠[]:=by
  rintro rfl;have a1:=hu.all;have a2:=hv.all;rw[List.append_nil]at a2;rw[a1]at a2;have a3:=List.append_cancel_left a2;rw[Vc s i (by omega)]at a3;have hm:((Utf8.decode s i).1,i) ∈ Jf s j:=by rw[←a3];exact List.mem_cons_self
  have:=(Vx s s.size j (by omega) _ hm).1;simp at this;omega
 rw[Zdw hu,Zdw hv,fld_app];generalize fld (1,1) d=p
 have key:∀(l:List (Nat×Nat))(p q:Nat×Nat),(p.1<q.1∨p.1=q.1∧p.2<q.2)→p.1<(fld q l).1∨p.1=(fld q l).1∧p.2<(fld q l).2:=by
  intro l;induction l with
  |nil=>intro p q h;exact h
  |cons x l ih=>
   intro p q h;rw[Zgt];apply ih;unfold Xa;split<;>(dsimp only;omega)
 cases more with
 |nil=>exact absurd rfl hne
 |cons x l=>
  rw[Zgt];apply key;unfold Xa;split<;>(dsimp only;omega)
theorem place_pos(s:ByteArray){i:Nat}(hi:Bd s i):1≤(Zt s (i:Int)).1∧1≤(Zt s (i:Int)).2:=by
 obtain⟨_,d,hu⟩:=hi;rw[Zdw hu]
 have key:∀(l:List (Nat×Nat))(p:Nat×Nat),1≤p.1→1≤p.2→1≤(fld p l).1∧1≤(fld p l).2:=by
  intro l;induction l with
  |nil=>intro p h1 h2;exact⟨h1,h2⟩
  |cons x l ih=>
   intro p h1 h2;rw[Zgt];apply ih<;>(unfold Xa;split<;>(dsimp only;omega))
 exact key _ _ (by decide) (by decide)
theorem ascii_rune(s:ByteArray)(i:Nat)(hi:i<s.size)(h:gB s i<128):(gB s i,i) ∈ Yl s:=by
 obtain⟨_,d,hu⟩:=Bd.reach (Nat.le_of_lt hi) (.inr h);rw[hu.all,Vc s i hi,Ve s i h];simp
def Zaq(x:Int):Bool:=decide (97≤x) && decide (x≤122)
theorem Zel(x:Int):Zaq x=true↔97≤x∧x≤122:=by unfold Zaq;simp
def Xh(c:Int)(x:Int):Bool:= !decide (x=c)
theorem Zbk(c x:Int):Xh c x=true↔x≠c:=by unfold Xh;simp
def Zgq(x:Int):Bool:=decide (x=32) || decide (x=9) || decide (x=10)
theorem Zem(x:Int):Zgq x=true↔x=32∨x=9∨x=10:=by unfold Zgq;simp[or_assoc]
def tw(p:Int→Bool)(l:List Int):Nat:=(l.takeWhile p).length
theorem Zii(p:Int→Bool):tw p []=0:=rfl
theorem Vw{p:Int→Bool}{x:Int}(r:List Int)(h:p x=true):tw p (x::r)=tw p r+1:=by simp[tw,h]
theorem Zci{p:Int→Bool}{x:Int}(r:List Int)(h:p x=false):tw p (x::r)=0:=by simp[tw,h]
theorem Zhw(p:Int→Bool):∀ l:List Int,tw p l≤l.length
 |[]=>Θ _
 |x::r=>by
  cases h:p x with
  |true=>rw[Vw r h,List.length_cons];have:=Zhw p r;omega
  |false=>rw[Zci r h];omega
theorem tw_at(p:Int→Bool):∀(l:List Int)(k:Nat),k<tw p l→∃ x,l[k]?=some x∧p x=true
 |[],k,h=>by rw[Zii]at h;omega
 |x::r,k,h=>by
  cases hp:p x with
  |true=>
   rw[Vw r hp]at h;cases k with
   |zero=>exact⟨x,rfl,hp⟩
   |succ k=>
    obtain⟨y,h1,h2⟩:=tw_at p r k (by omega);exact⟨y,by simpa using h1,h2⟩
  |false=>rw[Zci r hp]at h;omega
theorem tw_end(p:Int→Bool):∀(l:List Int),tw p l=l.length∨∃ x,l[tw p l]?=some x∧p x=false
 |[]=>.inl rfl
 |x::r=>by
  cases hp:p x with
  |true=>
   rw[Vw r hp];rcases tw_end p r with h | ⟨y,h1,h2⟩
   ·exact .inl (by rw[h,List.length_cons])
   ·exact .inr ⟨y,by simpa using h1,h2⟩
  |false=>rw[Zci r hp];exact .inr ⟨x,rfl,hp⟩
theorem Zoh(p:Int→Bool)(l:List Int):∀ y ∈ l.take (tw p l),p y=true:=by
 intro y hy;obtain⟨k,hk⟩:=List.mem_iff_getElem?.1 hy;rw[List.getElem?_take]at hk;split at hk
 ·rename_i h
  obtain⟨x,h1,h2⟩:=tw_at p l k h;rw[h1]at hk;cases hk
  exact h2
 ·cases hk
theorem Zdt(l:List Int):(Xr l).length=tw isD l:=rfl
theorem firstD_tw(l:List Int):Xr l=l.take (tw isD l):=(Zgc l).symm
def Jx:List Int→Nat
 |[]=>0
 |c::r=>if(c=60∨c=62∨c=33)∧r.head?=some 61 then 2
  else if c=123∨c=125∨c=40∨c=41∨c=59∨c=43∨c=45∨c=42∨c=61∨c=60∨c=62 then 1 else 0
theorem Zfo(c:Int)(r:List Int):Jx (c::r)=if(c=60∨c=62∨c=33)∧r.head?=some 61 then 2
 else if c=123∨c=125∨c=40∨c=41∨c=59∨c=43∨c=45∨c=42∨c=61∨c=60∨c=62 then 1 else 0:=rfl
def Yh:List Int→Int×Nat×Nat×Nat
 |[]=>(0,0,0,0)
 |c::r=>
  if Zaq c=true then(1,0,tw Zaq (c::r),tw Zaq (c::r))
  else if isD c=true then(if 2<tw isD (c::r)∨(tw isD (c::r)=2∧c=48)then(-2,0,0,0)else(2,0,tw isD (c::r),tw isD (c::r)))
  else if c=35 then(-1,0,tw (Xh 10) (c::r),tw (Xh 10) (c::r))
  else if c=34 then(if tw (Xh 34) r=r.length∨Zce (strOfNums (r.take (tw (Xh 34) r)))=false then(-3,0,0,0)else(3,1,tw (Xh 34) r+1,tw (Xh 34) r+2))
  else if Jx (c::r)=0 then(-4,0,0,0)else(4,0,Jx (c::r),Jx (c::r))
theorem Ja(c:Int)(r:List Int):Yh (c::r) =
 if Zaq c=true then(1,0,tw Zaq (c::r),tw Zaq (c::r))
 else if isD c=true then(if 2<tw isD (c::r)∨(tw isD (c::r)=2∧c=48)then(-2,0,0,0)else(2,0,tw isD (c::r),tw isD (c::r)))
 else if c=35 then(-1,0,tw (Xh 10) (c::r),tw (Xh 10) (c::r))
 else if c=34 then(if tw (Xh 34) r=r.length∨Zce (strOfNums (r.take (tw (Xh 34) r)))=false then(-3,0,0,0)else(3,1,tw (Xh 34) r+1,tw (Xh 34) r+2))
 else if Jx (c::r)=0 then(-4,0,0,0)else(4,0,Jx (c::r),Jx (c::r)):=rfl
theorem markL_le(l:List Int):Jx l≤l.length∧Jx l≤2:=by
 cases l with
 |nil=>simp[Jx]
 |cons c r=>
  rw[Zfo];split
  ·rename_i h
   cases r with
   |nil=>simp at h
   |cons d r=>simp
  ·split<;>simp
theorem Zaj(c:Int)(r:List Int)(P:Int×Nat×Nat×Nat→Prop)
  (h1:Zaq c=true→P (1,0,tw Zaq (c::r),tw Zaq (c::r)))
  (h2:isD c=true→tw isD (c::r)≤2→¬(tw isD (c::r)=2∧c=48)→P (2,0,tw isD (c::r),tw isD (c::r)))
  (h2e:isD c=true→(2<tw isD (c::r)∨(tw isD (c::r)=2∧c=48))→P (-2,0,0,0))
  (h3:c=35→P (-1,0,tw (Xh 10) (c::r),tw (Xh 10) (c::r)))
  (h4:c=34→tw (Xh 34) r<r.length→Zce (strOfNums (r.take (tw (Xh 34) r)))=true→P (3,1,tw (Xh 34) r+1,tw (Xh 34) r+2))
  (h4e:c=34→(tw (Xh 34) r=r.length∨Zce (strOfNums (r.take (tw (Xh 34) r)))=false)→P (-3,0,0,0))
  (h5:Zaq c=false→isD c=false→c≠35→c≠34→Jx (c::r)≠0→P (4,0,Jx (c::r),Jx (c::r)))
  (h5e:Zaq c=false→isD c=false→c≠35→c≠34→Jx (c::r)=0→P (-4,0,0,0)):P (Yh (c::r)):=by
 rw[Ja];split
 ·exact h1 (by assumption)
 ·rename_i n1
  rw[Bool.not_eq_true]at n1;split
  ·split
   ·exact h2e (by assumption) (by assumption)
   ·exact h2 (by assumption) (by omega) (by omega)
  ·rename_i n2
   rw[Bool.not_eq_true]at n2;split
   ·exact h3 (by assumption)
   ·split
    ·split
     ·exact h4e (by assumption) (by assumption)
     ·rename_i hn
      have:=Zhw (Xh 34) r;refine h4 (by assumption) (by omega) ?_;rw[←Bool.not_eq_false];intro hh;exact hn (.inr hh)
    ·split
     ·exact h5e n1 n2 (by assumption) (by assumption) (by assumption)
     ·exact h5 n1 n2 (by assumption) (by assumption) (by assumption)
theorem Zhd(l:List Int)(h:l≠[]):(Yh l).2.1≤(Yh l).2.2.1∧(Yh l).2.2.1≤(Yh l).2.2.2∧(Yh l).2.2.2≤l.length∧(-1≤(Yh l).1→1≤(Yh l).2.2.2) ∧
  (Yh l).1≠0 ∧ -4≤(Yh l).1∧(Yh l).1≤4:=by
 cases l with
 |nil=>exact absurd rfl h
 |cons c r=>
  refine Zaj c r (fun x=>x.2.1≤x.2.2.1∧x.2.2.1≤x.2.2.2∧x.2.2.2≤(c::r).length∧(-1≤x.1→1≤x.2.2.2)∧x.1≠0 ∧ -4≤x.1∧x.1≤4) ?_ ?_ ?_ ?_ ?_ ?_ ?_ ?_
  ·intro hs
   have:=Zhw Zaq (c::r);rw[Vw r hs]at *;refine⟨by simp,by simp,by simpa using this,fun _=>by simp,by simp,by simp,by simp⟩
  ·intro hs _ _
   have:=Zhw isD (c::r);rw[Vw r hs]at *;refine⟨by simp,by simp,by simpa using this,fun _=>by simp,by simp,by simp,by simp⟩
  ·intro _ _;simp
  ·intro hc
   have hp:Xh 10 c=true:=by rw[Zbk];omega
   have:=Zhw (Xh 10) (c::r);rw[Vw r hp]at *;refine⟨by simp,by simp,by simpa using this,fun _=>by simp,by simp,by simp,by simp⟩
  ·intro _ h _
   refine⟨by simp,by simp,by simp;omega,fun _=>by simp,by simp,by simp,by simp⟩
  ·intro _ _;simp
  ·intro _ _ _ _ h
   have:=markL_le (c::r);refine⟨by simp,by simp,this.1,fun _=>by simp;omega,by simp,by simp,by simp⟩
  ·intro _ _ _ _ _;simp
theorem tokL_last(l:List Int)(h:0<(Yh l).1):∃ x,l[(Yh l).2.2.2 - 1]?=some x∧x<128:=by
 cases l with
 |nil=>simp[Yh]at h
 |cons c r=>
  revert h
  refine Zaj c r (fun x=>0<x.1→∃ y,(c::r)[x.2.2.2 - 1]?=some y∧y<128) ?_ ?_ ?_ ?_ ?_ ?_ ?_ ?_
  ·intro hs _
   obtain⟨x,h1,h2⟩:=tw_at Zaq (c::r) (tw Zaq (c::r) - 1) (by rw[Vw r hs];omega);exact⟨x,h1,by rw[Zel]at h2;omega⟩
  ·intro hs _ _ _
   obtain⟨x,h1,h2⟩:=tw_at isD (c::r) (tw isD (c::r) - 1) (by rw[Vw r hs];omega);exact⟨x,h1,by rw[Zbs]at h2;omega⟩
  ·intro _ _ h;simp at h
  ·intro _ h;simp at h
  ·intro _ h _ _
   rcases tw_end (Xh 34) r with he | ⟨x,h1,h2⟩
   ·omega
   ·refine⟨x,by simpa using h1,?_⟩
    have:x=34:=by
     rcases Decidable.em (x=34)with e | e
     ·exact e
     ·rw[(Zbk 34 x).2 e]at h2;cases h2
    omega
  ·intro _ _ h;simp at h
  ·intro _ _ _ _ h _
   rw[Zfo]at h ⊢;split
   ·rename_i hc
    cases r with
    |nil=>simp at hc
    |cons d r=>
     simp at hc;refine⟨d,by simp,by omega⟩
   ·rename_i hc
    rw[if_neg hc]at h;split
    ·exact⟨c,by simp,by omega⟩
    ·rename_i hc2
     rw[if_neg hc2]at h;exact absurd rfl h
  ·intro _ _ _ _ _ h;simp at h
def Zbx:List Int→Bool→Nat
 |[],_=>0
 |c::r,true=>1+Zbx r (Xh 10 c)
 |c::r,false=>if c=35 then 1+Zbx r true else if Zgq c=true then 1+Zbx r false else 0
theorem Zou:∀(l:List Int)(b:Bool),Zbx l b≤l.length
 |[],_=>Θ _
 |c::r,true=>by have:=Zou r (Xh 10 c);simp only[Zbx,List.length_cons];omega
 |c::r,false=>by
  have h1:=Zou r true;have h2:=Zou r false;simp only[Zbx,List.length_cons];split
  ·omega
  ·split<;>omega
theorem gapM_true:∀ l:List Int,Zbx l true=tw (Xh 10) l+Zbx (l.drop (tw (Xh 10) l)) false
 |[]=>rfl
 |c::r=>by
  cases h:Xh 10 c with
  |true=>
   rw[Vw r h];simp only[Zbx,h,List.drop_succ_cons];rw[gapM_true r];omega
  |false=>
   have hc:c=10:=by
    rcases Decidable.em (c=10)with e | e
    ·exact e
    ·rw[(Zbk 10 c).2 e]at h;cases h
   subst hc;rw[Zci r h];simp only[Zbx,h,List.drop_zero];rw[if_neg (by decide),if_pos (by decide)];omega
structure TokV where
 k:Int
 t:ByteArray
 n:Int
 line:Nat
 col:Nat
 p:Nat
def TokV.cells(v:TokV):List Value:=[I J v.k,Ψ v.t,I J v.n,I J (v.line:Int),I J (v.col:Int)]
def Zl(s:ByteArray)(a:Nat):List Int:=(bL s).drop a
theorem Zav(s:ByteArray){a:Nat}(h:s.size≤a):Zl s a=[]:=Zgf s a h
theorem Yz(s:ByteArray){a:Nat}(h:a<s.size):Zl s a=(gB s a:Int)::Zl s (a+1):=Zjv s a h
theorem Xo(s:ByteArray)(a:Nat):(Zl s a).length=s.size - a:=by unfold Zl;rw[List.length_drop,Us]
theorem restL_drop(s:ByteArray)(a n:Nat):(Zl s a).drop n=Zl s (a+n):=by unfold Zl;rw[List.drop_drop]
theorem Zmt(s:ByteArray)(a k:Nat)(h:a+k<s.size):(Zl s a)[k]?=some (gB s (a+k):Int):=by
 unfold Zl;rw[List.getElem?_drop,Zje s _ h]
theorem Zfl(s:ByteArray){a:Nat}(h:a<s.size):Zl s a≠[]:=by rw[Yz s h];simp
def Zoe(s:ByteArray)(a:Nat):TokV:=⟨0,⟨#[]⟩,0,(Zt s (a:Int)).1,(Zt s (a:Int)).2,a⟩
def Zcs(k:Int)(l:List Int):Int:=if k=2 then Jt (Xr l)else 0
def Zgh(s:ByteArray)(a:Nat):TokV:=
 ⟨(Yh (Zl s a)).1,s.extract (a+(Yh (Zl s a)).2.1) (a+(Yh (Zl s a)).2.2.1),Zcs (Yh (Zl s a)).1 (Zl s a),(Zt s (a:Int)).1,(Zt s (a:Int)).2,a⟩
def Zjy(k:Int):Int:=if k = -2 then 12 else if k = -3 then 10 else 6
def Znk(s:ByteArray):Nat→Nat→List TokV→List TokV×Int×Nat
 |0,_,_=>([],0,0)
 |b+1,a,acc=>
  if s.size≤a then(acc++[Zoe s a],0,0)
  else if Zgq (gB s a)=true then Znk s b (a+1) acc
  else if(Yh (Zl s a)).1 < -1 then([],Zjy (Yh (Zl s a)).1,a)
  else if(Yh (Zl s a)).1 = -1 then Znk s b (a+(Yh (Zl s a)).2.2.2) acc
  else Znk s b (a+(Yh (Zl s a)).2.2.2) (acc++[Zgh s a])
theorem Zca(s:ByteArray){a:Nat}(h:a<s.size)(hk : -1≤(Yh (Zl s a)).1):1≤(Yh (Zl s a)).2.2.2∧a+(Yh (Zl s a)).2.2.2≤s.size:=by
 have:=Zhd (Zl s a) (Zfl s h);rw[Xo]at this;omega
theorem Zdv(s:ByteArray):∀(b c a:Nat)(acc:List TokV),a≤s.size→s.size<a+b→s.size<a+c→Znk s b a acc=Znk s c a acc
 |0,c,a,acc,h1,h,hc=>by exfalso;omega
 |b+1,0,a,acc,h1,h,hc=>by exfalso;omega
 |b+1,c+1,a,acc,h1,h,hc=>by
  unfold Znk;by_cases h0:s.size≤a
  ·rw[if_pos h0,if_pos h0]
  ·rw[if_neg h0,if_neg h0]
   split
   ·exact Zdv s b c _ _ (by omega) (by omega) (by omega)
   ·split
    ·rfl
    ·rename_i hk
     have:=Zca s (by omega) (by omega : -1≤(Yh (Zl s a)).1);split
     ·exact Zdv s b c _ _ (by omega) (by omega) (by omega)
     ·exact Zdv s b c _ _ (by omega) (by omega) (by omega)
def Jp(s:ByteArray)(a:Nat)(acc:List TokV):List TokV×Int×Nat:=Znk s (s.size+1) a acc
theorem Zik(s:ByteArray)(a:Nat)(acc:List TokV):Jp s a acc =
  if s.size≤a then(acc++[Zoe s a],0,0)
  else if Zgq (gB s a)=true then Jp s (a+1) acc
  else if(Yh (Zl s a)).1 < -1 then([],Zjy (Yh (Zl s a)).1,a)
  else if(Yh (Zl s a)).1 = -1 then Jp s (a+(Yh (Zl s a)).2.2.2) acc
  else Jp s (a+(Yh (Zl s a)).2.2.2) (acc++[Zgh s a]):=by
 unfold Jp;conv=>lhs;unfold Znk
 by_cases h0:s.size≤a
 ·rw[if_pos h0,if_pos h0]
 ·rw[if_neg h0,if_neg h0]
  split
  ·exact Zdv s _ _ _ _ (by omega) (by omega) (by omega)
  ·split
   ·rfl
   ·rename_i hk
    have:=Zca s (by omega) (by omega : -1≤(Yh (Zl s a)).1);split
    ·exact Zdv s _ _ _ _ (by omega) (by omega) (by omega)
    ·exact Zdv s _ _ _ _ (by omega) (by omega) (by omega)
theorem Zms(s:ByteArray){a:Nat}(acc:List TokV)(h:s.size≤a):Jp s a acc=(acc++[Zoe s a],0,0):=by rw[Zik,if_pos h]
theorem Zei(s:ByteArray){a:Nat}(acc:List TokV)(h:a<s.size)(hb:Zgq (gB s a)=true):Jp s a acc=Jp s (a+1) acc:=by
 rw[Zik,if_neg (by omega),if_pos hb]
theorem Zmr(s:ByteArray){a:Nat}(acc:List TokV)(h:a<s.size)(hb:Zgq (gB s a)=false)(hk:(Yh (Zl s a)).1 < -1):Jp s a acc=([],Zjy (Yh (Zl s a)).1,a):=by
 rw[Zik,if_neg (by omega),if_neg (by rw[hb];simp),if_pos hk]
theorem Zmq(s:ByteArray){a:Nat}(acc:List TokV)(h:a<s.size)(hb:Zgq (gB s a)=false)(hk:(Yh (Zl s a)).1 = -1):Jp s a acc=Jp s (a+(Yh (Zl s a)).2.2.2) acc:=by
 rw[Zik,if_neg (by omega),if_neg (by rw[hb];simp),if_neg (by omega),if_pos hk]
theorem Zmp(s:ByteArray){a:Nat}(acc:List TokV)(h:a<s.size)(hb:Zgq (gB s a)=false)(hk:0<(Yh (Zl s a)).1):Jp s a acc=Jp s (a+(Yh (Zl s a)).2.2.2) (acc++[Zgh s a]):=by
 rw[Zik,if_neg (by omega),if_neg (by rw[hb];simp),if_neg (by omega),if_neg (by omega)]
theorem tokL_hash(r:List Int):Yh (35::r)=(-1,0,tw (Xh 10) r+1,tw (Xh 10) r+1):=by
 rw[Ja,if_neg (by decide),if_neg (by decide),if_pos rfl,Vw r (by decide)]
def Zfw(s:ByteArray)(a:Nat):Nat:=a+Zbx (Zl s a) false
theorem gapE_le(s:ByteArray){a:Nat}(h:a≤s.size):a≤Zfw s a∧Zfw s a≤s.size:=by
 have:=Zou (Zl s a) false;rw[Xo]at this;unfold Zfw;omega
theorem Zot(s:ByteArray):∀(b a:Nat),s.size≤a+b→a≤s.size→Bd s a →
  (∀ acc,Jp s a acc=Jp s (Zfw s a) acc)∧Bd s (Zfw s a)∧(Zfw s a<s.size→Zgq (gB s (Zfw s a))=false∧gB s (Zfw s a)≠35)
 |0,a,h,h1,hB=>by
  have e:Zfw s a=a:=by unfold Zfw;rw[Zav s (by omega)];rfl
  rw[e];exact⟨fun _=>rfl,hB,fun hh=>by omega⟩
 |b+1,a,h,h1,hB=>by
  by_cases ha:a<s.size
  ·by_cases h35:gB s a=35
   ·have hbd:Bd s (a+(tw (Xh 10) (Zl s (a+1))+1)):=by
     have hle:=Zhw (Xh 10) (Zl s (a+1));rw[Xo]at hle;rcases tw_end (Xh 10) (Zl s (a+1))with he | ⟨x,hx,hp⟩
     ·rw[Xo]at he
      rw[he,show a+(s.size - (a+1)+1)=s.size from by omega];exact Bd.end_ s
     ·have hlt:tw (Xh 10) (Zl s (a+1))<(Zl s (a+1)).length:=by
            rcases Nat.lt_or_ge (tw (Xh 10) (Zl s (a+1))) (Zl s (a+1)).length with hh | hh
            ·exact hh
            ·rw[List.getElem?_eq_none hh]at hx;cases hx
      rw[Xo]at hlt;rw[Zmt s (a+1) _ (by omega)]at hx;cases hx
      refine Bd.reach (by omega) (.inr ?_);rw[show a+(tw (Xh 10) (Zl s (a+1))+1)=a+1+tw (Xh 10) (Zl s (a+1))from by omega];rcases Decidable.em (gB s (a+1+tw (Xh 10) (Zl s (a+1)))=10)with e | e
      ·omega
      ·rw[(Zbk 10 _).2 (by omega)]at hp;cases hp
    have hle:=hbd.1;obtain⟨i1,i2,i3⟩:=Zot s b (a+(tw (Xh 10) (Zl s (a+1))+1)) (by omega) hle hbd
    have e:Zfw s a=Zfw s (a+(tw (Xh 10) (Zl s (a+1))+1)):=by
     unfold Zfw;rw[Yz s ha,h35];simp only[Zbx];rw[if_pos (show((35:Nat):Int)=35 from rfl),gapM_true,restL_drop,show a+1+tw (Xh 10) (Zl s (a+1))=a+(tw (Xh 10) (Zl s (a+1))+1)from by omega];omega
    rw[e];refine⟨fun acc=>?_,i2,i3⟩;have ht:Yh (Zl s a)=(-1,0,tw (Xh 10) (Zl s (a+1))+1,tw (Xh 10) (Zl s (a+1))+1):=by rw[Yz s ha,h35];exact tokL_hash _
    rw[Zmq s acc ha (by rw[h35];decide) (by rw[ht]),ht];exact i1 acc
   ·cases hbl:Zgq (gB s a)with
    |true=>
     have h128:gB s a<128:=by rw[Zem]at hbl;omega
     obtain⟨i1,i2,i3⟩:=Zot s b (a+1) (by omega) (by omega) (Bd.behind ha h128)
     have e:Zfw s a=Zfw s (a+1):=by
      unfold Zfw;rw[Yz s ha];simp only[Zbx];rw[if_neg (by omega),if_pos hbl];omega
     rw[e];exact⟨fun acc=>(Zei s acc ha hbl).trans (i1 acc),i2,i3⟩
    |false=>
     have e:Zfw s a=a:=by
      unfold Zfw;rw[Yz s ha];simp only[Zbx];rw[if_neg (by omega),hbl,if_neg (by simp)];omega
     rw[e];exact⟨fun _=>rfl,hB,fun _=>⟨hbl,h35⟩⟩
  ·exact Zot s 0 a (by omega) h1 hB
theorem tok_bd(s:ByteArray){a:Nat}(h:a<s.size)(hk:0<(Yh (Zl s a)).1):Bd s (a+(Yh (Zl s a)).2.2.2):=by
 obtain⟨x,h1,h2⟩:=tokL_last (Zl s a) hk;have hb:=Zca s h (by omega);rw[Zmt s a _ (by omega)]at h1;cases h1
 have:=Bd.behind (s:=s) (q:=a+((Yh (Zl s a)).2.2.2 - 1)) (by omega) (by omega);rwa [show a+((Yh (Zl s a)).2.2.2 - 1)+1=a+(Yh (Zl s a)).2.2.2 from by omega]at this
theorem rem_bd(s:ByteArray){a:Nat}(h:a<s.size)(hk:(Yh (Zl s a)).1 = -1):Bd s (a+(Yh (Zl s a)).2.2.2):=by
 have hb:=Zca s h (by omega)
 have h35:gB s a=35∧(Yh (Zl s a)).2.2.2=tw (Xh 10) (Zl s a):=by
  rw[Yz s h]at hk ⊢;revert hk
  refine Zaj (gB s a) (Zl s (a+1)) (fun x=>x.1 = -1→gB s a=35∧x.2.2.2=tw (Xh 10) ((gB s a:Int)::Zl s (a+1))) ?_ ?_ ?_ ?_ ?_ ?_ ?_ ?_
  ·intro _ hh;simp at hh
  ·intro _ _ _ hh;simp at hh
  ·intro _ _ hh;simp at hh
  ·intro hc _;exact⟨by omega,rfl⟩
  ·intro _ _ _ hh;simp at hh
  ·intro _ _ hh;simp at hh
  ·intro _ _ _ _ _ hh;simp at hh
  ·intro _ _ _ _ _ hh;simp at hh
 rw[h35.2]at hb ⊢;rcases tw_end (Xh 10) (Zl s a)with he | ⟨x,hx,hp⟩
 ·rw[Xo]at he
  rw[he,show a+(s.size - a)=s.size from by omega];exact Bd.end_ s
 ·by_cases hlt:a+tw (Xh 10) (Zl s a)<s.size
  ·rw[Zmt s a _ hlt]at hx
   cases hx
   refine Bd.reach hb.2 (.inr ?_);rcases Decidable.em (gB s (a+tw (Xh 10) (Zl s a))=10)with e | e
   ·omega
   ·rw[(Zbk 10 _).2 (by omega)]at hp;cases hp
  ·rw[show a+tw (Xh 10) (Zl s a)=s.size from by omega]
   exact Bd.end_ s
open Go.Shelf
def indexByteL_ren:Go.Shelf.Ren:=⟨fun | 137=>157 | 217=>179 | 266=>195 | n=>n,fun | 9=>9 | 5=>5 | 3=>3 | n=>n,fun | n=>n⟩
theorem indexByteL:Go.Proofs.Lays.n137 Φ indexByteL_ren:= {
 mixed:=by kernel_rfl
 f137:=Tryz.func157.trans (congrArg some (by kernel_rfl))
 f217:=Tryz.func179.trans (congrArg some (by kernel_rfl))
 f266:=Tryz.func195.trans (congrArg some (by kernel_rfl))
 t3:=Tryz.underlying3
 a3:=Tryz.isAgg3
 z3:=Tryz.sizeOf3
 v3:=Tryz.zeroValue3
 t5:=Tryz.underlying5
 a5:=Tryz.isAgg5
 z5:=Tryz.sizeOf5
 v5:=Tryz.zeroValue5
 t9:=Tryz.underlying9
 a9:=Tryz.isAgg9
 z9:=Tryz.sizeOf9
 v9:=Tryz.zeroValue9 }
def hasPrefixL_ren:Go.Shelf.Ren:=⟨fun | 99=>160 | 206=>181 | n=>n,fun | 9=>9 | 4=>4 | 3=>3 | n=>n,fun | n=>n⟩
theorem hasPrefixL:Go.Proofs.Lays.n99 Φ hasPrefixL_ren:= {
 mixed:=by kernel_rfl
 f99:=Tryz.func160.trans (congrArg some (by kernel_rfl))
 f206:=Tryz.func181.trans (congrArg some (by kernel_rfl))
 t3:=Tryz.underlying3
 a3:=Tryz.isAgg3
 z3:=Tryz.sizeOf3
 v3:=Tryz.zeroValue3
 t4:=Tryz.underlying4
 a4:=Tryz.isAgg4
 z4:=Tryz.sizeOf4
 v4:=Tryz.zeroValue4
 t9:=Tryz.underlying9
 a9:=Tryz.isAgg9
 z9:=Tryz.sizeOf9
 v9:=Tryz.zeroValue9 }
theorem bL_map(s:ByteArray):bL s=s.data.toList.map fun c:UInt8=>(c.toNat:Int):=by
 apply List.ext_getElem?;intro i;by_cases h:i<s.size
 ·rw[Zje s i h,List.getElem?_map,Ug s i h]
  have:s.data.toList[i]?=some (s[i]'h):=by
   rw[Array.getElem?_toList];exact Array.getElem?_eq_getElem (by simpa using h)
  rw[this];rfl
 ·rw[List.getElem?_eq_none (by rw[Us];omega),List.getElem?_eq_none (by rw[List.length_map,Array.length_toList];exact Nat.le_of_not_lt h)]
def idxOf(c:Int)(l:List Int):Int:=if tw (Xh c) l=l.length then -1 else(tw (Xh c) l:Int)
theorem Zkh(c:UInt8):∀ l:List UInt8,Lib.indexByte l c=idxOf (c.toNat:Int) (l.map fun c:UInt8=>(c.toNat:Int))
 |[]=>by simp[Lib.indexByte,idxOf,tw]
 |b::l=>by
  have ih:=Zkh c l;unfold Lib.indexByte;by_cases h:b=c
  ·subst h
   rw[if_pos (by simp)];unfold idxOf;rw[List.map_cons,Zci _ (by unfold Xh;simp)];simp
  ·have hn:Xh (c.toNat:Int) (b.toNat:Int)=true:=by
    rw[Zbk];intro e;exact h (UInt8.toNat_inj.1 (by omega))
   rw[if_neg (by simpa using h),ih];unfold idxOf;rw[List.map_cons,Vw _ hn,List.length_cons];have:=Zhw (Xh (c.toNat:Int)) (l.map fun c:UInt8=>(c.toNat:Int));by_cases e:tw (Xh (c.toNat:Int)) (l.map fun c:UInt8=>(c.toNat:Int))=(l.map fun c:UInt8=>(c.toNat:Int)).length
   ·rw[if_pos e,if_pos (by simp),if_pos (by omega)]
   ·rw[if_neg e,if_neg (by simp),if_neg (by omega)];try omega
theorem IndexByte_any(s:ByteArray)(c:Nat)(hc:c<256)(w:World):Calls Φ 157 #[Ψ s,.int .u8 (c:Int)] w fun e w'=>e=η (I J (idxOf (c:Int) (bL s)))∧w=w':=by
 refine(Any.strings_IndexByte indexByteL s (c:Int) w).mono ?_;rintro e w' ⟨rfl,rfl⟩;refine⟨?_,rfl⟩;rw[Zkh,bL_map];congr 3
 simp;omega
theorem prefix_map(p l:List UInt8):p.isPrefixOf l=(p.map fun c:UInt8=>(c.toNat:Int)).isPrefixOf (l.map fun c:UInt8=>(c.toNat:Int)):=by
 induction p generalizing l with
 |nil=>simp
 |cons x p ih=>
  cases l with
  |nil=>simp
  |cons y l=>
   simp only[List.map_cons,List.isPrefixOf,ih l];congr 1
   rw[Bool.eq_iff_iff];simp only[beq_iff_eq];constructor
   ·rintro rfl;rfl
   ·intro h;exact UInt8.toNat_inj.1 (by omega)
theorem HasPrefix_any(s p:ByteArray)(w:World):Calls Φ 160 #[Ψ s,Ψ p] w fun e w'=>e=η (.bool ((bL p).isPrefixOf (bL s)))∧w=w':=by
 refine(Any.strings_HasPrefix hasPrefixL s p w).mono ?_;rintro e w' ⟨rfl,rfl⟩;refine⟨?_,rfl⟩;rw[bL_map,bL_map,←prefix_map];rfl
def mkL:List (List Int):=[[123],[125],[40],[41],[59],[43],[45],[42],[61],[60],[62],[60,61],[62,61],[33,61]]
def Vk(l:List Int)(n:Nat)(m:List Int):Nat:=if n<m.length∧m.isPrefixOf l=true then m.length else n
theorem mk_fold(l:List Int):mkL.foldl (Vk l) 0=Jx l:=by
 cases l with
 |nil=>simp[mkL,Vk,Jx]
 |cons c r=>
  rw[Zfo]
  have hd:∀ d:Int,([d]:List Int).isPrefixOf (c::r)=decide (c=d):=by
   intro d;rw[Bool.eq_iff_iff];simp[List.isPrefixOf];exact eq_comm
  have he:∀ d e:Int,([d,e]:List Int).isPrefixOf (c::r)=(decide (c=d) && decide (r.head?=some e)):=by
   intro d e;rw[Bool.eq_iff_iff];cases r with
   |nil=>simp[List.isPrefixOf]
   |cons y r=>simp[List.isPrefixOf];rw[@eq_comm _ d,@eq_comm _ e]
  simp only[mkL,List.foldl_cons,List.foldl_nil,Vk,hd,he,List.length_cons,List.length_nil,decide_eq_true_eq,Bool.and_eq_true];by_cases e61:r.head?=some 61
  all_goals
   by_cases h123:c=123
   ·subst h123;simp[e61]
   by_cases h125:c=125
   ·subst h125;simp[e61]
   by_cases h40:c=40
   ·subst h40;simp[e61]
   by_cases h41:c=41
   ·subst h41;simp[e61]
   by_cases h59:c=59
   ·subst h59;simp[e61]
   by_cases h43:c=43
   ·subst h43;simp[e61]
   by_cases h45:c=45
   ·subst h45;simp[e61]
   by_cases h42:c=42
   ·subst h42;simp[e61]
   by_cases h61:c=61
   ·subst h61;simp[e61]
   by_cases h60:c=60
   ·subst h60;simp[e61]
   by_cases h62:c=62
   ·subst h62;simp[e61]
   by_cases h33:c=33
   ·subst h33;simp[e61]
   simp[h123,h125,h40,h41,h59,h43,h45,h42,h61,h60,h62,h33]
theorem mk_bd(l:List Int)(k:Nat):(mkL.take k).foldl (Vk l) 0≤2:=by
 have key:∀(m:List (List Int))(n:Nat),n≤2→(∀ x ∈ m,x.length≤2)→m.foldl (Vk l) n≤2:=by
  intro m;induction m with
  |nil=>intro n h _;exact h
  |cons x m ih=>
   intro n h hm;rw[List.foldl_cons];refine ih _ ?_ (fun y hy=>hm y (by simp[hy]));unfold Vk;split
   ·exact hm x (by simp)
   ·exact h
 refine key _ 0 (by decide) fun x hx=>?_
 have:∀ x ∈ mkL,x.length≤2:=by decide
 exact this x (List.mem_of_mem_take hx)
theorem mk_next(l:List Int)(k:Nat)(h:k<14):(mkL.take (k+1)).foldl (Vk l) 0=Vk l ((mkL.take k).foldl (Vk l) 0) (mkL[k]'h):=by
 rw[List.take_succ_eq_append_getElem h,List.foldl_append];rfl
def mkS:List ByteArray:=mkL.map strOfNums
def mkCs:List Value:=mkS.map Value.string
theorem mk_by(k:Nat)(h:k<14):∀ x ∈ mkL[k]'h,0≤x∧x<256:=by
 have:∀ y ∈ mkL,∀ x ∈ y,0≤x∧x<256:=by decide
 exact this _ (List.getElem_mem _)
theorem mkCs_at(k:Nat)(h:k<14):mkCs[k]?=some (Ψ (strOfNums (mkL[k]'h))):=by
 unfold mkCs mkS;rw[List.getElem?_map,List.getElem?_map,List.getElem?_eq_getElem h];rfl
theorem mk_len(k:Nat)(h:k<14):1≤(mkL[k]'h).length∧(mkL[k]'h).length≤2:=by
 have:∀ y ∈ mkL,1≤y.length∧y.length≤2:=by decide
 exact this _ (List.getElem_mem _)
theorem Vo{a b:Bool}(h:a=b):Ending.returned (.bool a)=η (.bool b):=by rw[h]
theorem Zoj{k:IntKind}{a b:Int}(h:a=b):Ending.returned (.int k a)=η (.int k b):=by rw[h]
theorem Zne(n:Int)(w:World):Calls Φ 136 #[.int .i32 n] w fun e w'=>e=η (.bool (decide (97≤n∧n≤122)))∧w=w':=by
 go_enter Tryz.func136,Tryz.ntmps136;go_wp2
 all_goals
  go_ret;refine⟨Vo ?_,rfl⟩;rw[Bool.eq_iff_iff];simp;try omega
theorem Letter_any(n:Int)(w:World):Calls Φ 196 #[.int .i32 n] w fun e w'=>e=η (.bool (Zga n))∧w=w':=by
 go_enter Tryz.func196,Tryz.ntmps196;go_wp2_with(go_at_call 136;refine(Zne _ _).mono ?_;rintro e w' ⟨rfl,rfl⟩)
 all_goals
  go_ret;refine⟨Vo ?_,rfl⟩;rw[Bool.eq_iff_iff];simp[Zga];try omega
theorem rLetter_any(n:Int)(w:World):Calls Φ 144 #[I J n] w fun e w'=>e=η (.bool (Zga n))∧w=w':=by
 go_enter Tryz.func144,Tryz.ntmps144;go_wp2
 all_goals
  go_ret;refine⟨Vo ?_,rfl⟩;rw[Bool.eq_iff_iff];simp[Zga];try omega
theorem Digit_any(n:Int)(w:World):Calls Φ 138 #[.int .i32 n] w fun e w'=>e=η (.bool (decide (48≤n∧n≤57)))∧w=w':=by
 go_enter Tryz.func138,Tryz.ntmps138;go_wp2
 all_goals
  go_ret;refine⟨Vo ?_,rfl⟩;rw[Bool.eq_iff_iff];simp;try omega
theorem Blank_any(n:Int)(w:World):Calls Φ 134 #[.int .i32 n] w fun e w'=>e=η (.bool (decide (n=32∨n=9∨n=10)))∧w=w':=by
 go_enter Tryz.func134,Tryz.ntmps134;go_wp2
 all_goals
  go_ret;refine⟨Vo ?_,rfl⟩;rw[Bool.eq_iff_iff];simp;try omega
theorem Zky(n:Int)(w:World):Calls Φ 180 #[.int .i32 n] w fun e w'=>e=η (.bool (Zbb n))∧w=w':=by
 go_enter Tryz.func180,Tryz.ntmps180;go_wp2_with(first
 |(go_at_call 196;refine(Letter_any _ _).mono ?_;rintro e w' ⟨rfl,rfl⟩)
 |(go_at_call 138;refine(Digit_any _ _).mono ?_;rintro e w' ⟨rfl,rfl⟩))
 all_goals
  go_ret;refine⟨Vo ?_,rfl⟩;rw[Bool.eq_iff_iff];simp_all[Zbb];try omega
theorem Place_any(s:ByteArray)(a:Int)(w:World)(hs:s.size≤140737488355328):Calls Φ 133 #[Ψ s,I J a] w fun e w'=>e=η (.tuple #[I J ((Zt s a).1:Nat),I J ((Zt s a).2:Nat)])∧Below w.heap.size w w':=by
 go_enter Tryz.func133,Tryz.ntmps133;go_wp2
 go_loopw [4,5] (fun l c w'=>∃(pos:Nat)(p:Nat×Nat),w'=w.iter s pos∧l=I J (p.1:Nat)∧c=I J (p.2:Nat)∧Zdy a (Jf s pos) p=Zt s a∧p.1≤pos+1∧p.2≤pos+1∧pos≤s.size) (fun _ _ w'=>s.size - w'.iterPos w.heap.size)
 case atStart=>exact⟨0,(1,1),rfl,rfl,rfl,rfl,by omega,by omega,by omega⟩
 case round=>
  obtain⟨pos,p,rfl,rfl,rfl,hl,h1,h2,h3⟩:=hrel;by_cases hp:pos<s.size
  ·have hnx:∀ ty,(Instr.next (Ω (some ⟨w.heap.size,0,none⟩)) true ty).run Φ (w.iter s pos)=_:=fun ty=>run_next_any w s pos ty hp
   have hwd:=Zby s pos hp;rw[Vc s pos hp]at hl;simp only[Zdy]at hl;have HL:=Hh hl;clear hl;obtain⟨d1,d2,d3,d4⟩:=hwd;by_cases ha:a≤(pos:Int)
   ·go_wp2
    go_ret2
    have:=HL.out;rw[if_pos ha]at this;rw[←this];exact⟨rfl,(Below.refl _ _).alloc (Θ _) _⟩
   ·have HL2:=HL.out
    rw[if_neg ha]at HL2;have ha':¬ a≤(pos:Int):=ha;have HM:=Hh HL2;clear HL2 HL;by_cases hr:(Utf8.decode s pos).1=10
    ·have hb:(((Utf8.decode s pos).1:Int) == 10)=true:=by rw[hr];rfl
     have HR:=Hh hr;clear hr;go_wp2
     go_roundw
     case rel=>
      refine⟨pos+(Utf8.decode s pos).2,Xa p (Utf8.decode s pos).1,rfl,?_,?_,HM.out,?_⟩
      ·simp[Xa,HR.out]
      ·simp[Xa,HR.out]
      ·simp only[Xa,HR.out,if_pos];omega
     case measure=>simp;omega
    ·have hb:(((Utf8.decode s pos).1:Int) == 10)=false:=by simp;omega
     have HR:=Hh hr;clear hr;go_wp2
     go_roundw
     case rel=>
      refine⟨pos+(Utf8.decode s pos).2,Xa p (Utf8.decode s pos).1,rfl,?_,?_,HM.out,?_⟩
      ·simp[Xa,HR.out]
      ·simp[Xa,HR.out]
      ·simp only[Xa,HR.out,if_false];omega
     case measure=>simp;omega
  ·have hnx:∀ ty,(Instr.next (Ω (some ⟨w.heap.size,0,none⟩)) true ty).run Φ (w.iter s pos)=_:=fun ty=>run_next_end w s pos ty hp
   rw[Zac s pos (by omega)]at hl;have HL:=Hh hl;clear hl;go_wp2
   go_ret2
   rw[←HL.out];exact⟨rfl,(Below.refl _ _).alloc (Θ _) _⟩
theorem At_in(s:ByteArray)(i:Nat)(w:World)(hs:s.size≤140737488355328)(h:i<s.size):Calls Φ 135 #[Ψ s,I J i] w fun e w'=>e=η (.tuple #[.int .i32 (Utf8.decode s i).1,I J (Utf8.decode s i).2])∧Below w.heap.size w w':=by
 have hz:=size_extract s i s.size (Θ _);have hd:=Zny s i (by omega) 0 (by omega);have hb:=Zby s i h;rw[Nat.add_zero]at hd;rw[←hd]at hb ⊢;generalize hr:s.extract i s.size=rest at *;have HR:=Hh hr;have HZ:=Hh hz;have h0:0<rest.size:=by omega
 have hnx:∀ ty,(Instr.next (Ω (some ⟨w.heap.size,0,none⟩)) true ty).run Φ (w.iter rest 0)=_:=fun ty=>run_next_any w rest 0 ty h0
 rw[Nat.zero_add]at hnx;clear hz hd;have hi:(0:Int)≤(i:Int):=by omega
 have hi':(i:Int)≤(s.size:Int):=by omega
 by_cases hp:(Utf8.decode rest 0).2<rest.size
 ·have hnx2:∀ ty,(Instr.next (Ω (some ⟨w.heap.size,0,none⟩)) true ty).run Φ (w.iter rest (Utf8.decode rest 0).2)=_:=fun ty=>run_next_any w rest _ ty hp
  go_enter Tryz.func135,Tryz.ntmps135;go_wp2
  refine wp_loop_rounds 2 ?_;rw[rounds_succ];go_wp2
  rw[rounds_succ];go_wp2
  go_ret2
  exact⟨rfl,(Below.refl _ _).alloc (Θ _) _⟩
 ·have hnx2:∀ ty,(Instr.next (Ω (some ⟨w.heap.size,0,none⟩)) true ty).run Φ (w.iter rest (Utf8.decode rest 0).2)=_:=fun ty=>run_next_end w rest _ ty hp
  have he:(Utf8.decode rest 0).2=rest.size:=by have:=HZ.out;omega
  have HE:=Hh he;clear he;go_enter Tryz.func135,Tryz.ntmps135;go_wp2
  refine wp_loop_rounds 2 ?_;rw[rounds_succ];go_wp2
  rw[rounds_succ];go_wp2
  go_ret2
  exact⟨by rw[HE.out];rfl,(Below.refl _ _).alloc (Θ _) _⟩
theorem Name_any(s:ByteArray)(w:World)(hs:s.size≤140737488355328):Calls Φ 158 #[Ψ s] w fun e w'=>e=η (.bool (Zce s))∧Below w.heap.size w w':=by
 go_enter Tryz.func158,Tryz.ntmps158;go_wp2
 go_loopw [3] (fun n w'=>∃(pos:Nat)(done:List (Nat×Nat)),w'=w.iter s pos∧n=I J done.length∧Zet s pos done∧done.length≤24∧done.all (fun x=>Zbb x.1)=true) (fun _ w'=>s.size - w'.iterPos w.heap.size)
 case atStart=>exact⟨0,[],rfl,rfl,Zet.zero s,by simp,by simp⟩
 case round=>
  obtain⟨pos,done,rfl,rfl,hu,h24,hall⟩:=hrel;have HU:=Hh hu;have HA:=Hh hall;clear hu hall;by_cases hp:pos<s.size
  ·have hnx:∀ ty,(Instr.next (Ω (some ⟨w.heap.size,0,none⟩)) true ty).run Φ (w.iter s pos)=_:=fun ty=>run_next_any w s pos ty hp
   have hwd:=Zby s pos hp;have hl:done.length+1≤(Yl s).length:=by have:=HU.out;rw[(this.next hp).all];simp
   have hlz:=Ju s;obtain⟨d1,d2,d3,d4⟩:=hwd;by_cases h25:24<done.length+1
   ·go_wp2_with(go_at_call 180;refine(Zky _ _).mono ?_;rintro e w' ⟨rfl,rfl⟩)
    go_ret;refine⟨Vo ?_,(Below.refl _ _).alloc (Θ _) _⟩;unfold Zce;simp;omega
   ·cases hin:Zbb ((Utf8.decode s pos).1:Int)with
    |false=>
     go_wp2_with(go_at_call 180;refine(Zky _ _).mono ?_;rintro e w' ⟨rfl,rfl⟩)
     go_ret;refine⟨Vo ?_,(Below.refl _ _).alloc (Θ _) _⟩
     have:(Yl s).all (fun x=>Zbb x.1)=false:=by
      rw[(HU.out.next hp).all];simp[hin]
     unfold Zce;rw[this];simp
    |true=>
     go_wp2_with(go_at_call 180;refine(Zky _ _).mono ?_;rintro e w' ⟨rfl,rfl⟩)
     go_roundw
     case rel=>exact⟨pos+(Utf8.decode s pos).2,done++[((Utf8.decode s pos).1,pos)],rfl,by simp,HU.out.next hp,by simp;omega,by rw[List.all_append,HA.out];simp[hin]⟩
     case measure=>simp;omega
  ·have hnx:∀ ty,(Instr.next (Ω (some ⟨w.heap.size,0,none⟩)) true ty).run Φ (w.iter s pos)=_:=fun ty=>run_next_end w s pos ty hp
   have he:=HU.out.length_end (by omega)
   have hv:Zce s=(decide (1≤done.length) && decide (((Yl s).map (·.1)).head?≠some 32) && decide (((Yl s).map (·.1)).getLast?≠some 32)):=by
    unfold Zce;rw[he,HA.out];simp[h24]
   have HV:=Hh hv;have HE:=Hh he;clear hv he;by_cases hz:0<done.length
   ·have hz2:0<s.size:=by have:=Ju s;rw[HE.out]at this;omega
    have hh:=head_space s hz2;have ht:=last_space s hz2;rw[Ug s 0 hz2]at hh;rw[Ug s (s.size - 1) (by omega)]at ht;have HH:=Hh hh;have HT:=Hh ht;clear hh ht;go_wp2
    all_goals
     go_ret;refine⟨Vo ?_,(Below.refl _ _).alloc (Θ _) _⟩;have hh:=HH.out;have ht:=HT.out;rw[HV.out,Bool.eq_iff_iff];simp only[ne_eq,hh,ht];simp;omega
   ·go_wp2
    go_ret;refine⟨Vo ?_,(Below.refl _ _).alloc (Θ _) _⟩;rw[HV.out];simp;omega
theorem rI{k:IntKind}{a b:Int}(h:a=b):Ending.returned (.int k a)=η (.int k b):=by rw[h]
theorem rV{a b:Value}(h:a=b):Ending.returned a=η b:=by rw[h]
theorem vI{k:IntKind}{a b:Int}(h:a=b):Value.int k a=Value.int k b:=by rw[h]
theorem slice_nn{P:Program}(t:TypeId)(h:P.underlying t=some .string)(s:ByteArray)(i n:Nat)(hz:i+n≤s.size)(w:World) :
  (Instr.slice t (Ψ s) (some (I J (i:Int))) (some (I J ((i:Int)+(n:Int)))) none).run P w=.ok (Ψ (s.extract i (i+n))) w:=by
 rw[run_slice_string w t s .i64 .i64 _ _ h (by omega) (by omega) (by omega)];rw[show((i:Int)+(n:Int)).toNat=i+n from by omega,Int.toNat_natCast]
theorem digitsEnd_any(s:ByteArray)(a:Nat)(w:World)(hs:s.size≤140737488355328)(ha:a≤s.size):Calls Φ 178 #[Ψ s,I J a] w fun e w'=>e=η (I J ((a+(Xr ((bL s).drop a)).length:Nat):Int))∧w=w':=by
 go_enter Tryz.func178,Tryz.ntmps178;go_wp2
 go_loop [1] (fun i=>∃ k:Nat,i=I J k∧k≤s.size∧k+(Xr ((bL s).drop k)).length=a+(Xr ((bL s).drop a)).length) (fun i=>s.size - (intOf i).toNat)
 case atStart=>exact⟨a,rfl,ha,rfl⟩
 case round=>
  obtain⟨k,rfl,hk,he⟩:=hrel;by_cases h:k<s.size
  ·have g:=Ug s k h
   have hd:=Zjv s k h;have l1:(k:Int)<(s.size:Int):=by omega
   have l0:decide (s.size≤k)=false:=by simp;omega
   cases hD:isD (gB s k:Int)with
   |true=>
    have hD':=(Zbs _).1 hD;rw[hd,Zae _ hD,List.length_cons]at he;rw[g]at hD';have b1:(48:Int)≤((s[k]'h).toNat:Int):=hD'.1;have b2:((s[k]'h).toNat:Int)≤57:=hD'.2;have HE:=Hh he;clear he hd hD hD' g;go_wp2
    go_round
    case rel=>exact⟨k+1,by go_num,by omega,by have:=HE.out;omega⟩
    case measure=>simp[intOf];omega
   |false=>
    rw[hd,Ziz _ hD]at he;have hE:k=a+(Xr ((bL s).drop a)).length:=he;have hD':¬(48≤(gB s k:Int)∧(gB s k:Int)≤57):=fun c=>by rw[(Zbs _).2 c]at hD;cases hD
    rw[g]at hD';have HE:=Hh hE;clear he hd hD g hE;by_cases b1:(48:Int)≤((s[k]'h).toNat:Int)
    ·have b2:¬((s[k]'h).toNat:Int)≤57:=fun c=>hD' ⟨b1,c⟩
     clear hD';go_wp2
     go_ret;exact⟨rI (by have:=HE.out;omega),rfl⟩
    ·clear hD'
     go_wp2
     go_ret;exact⟨rI (by have:=HE.out;omega),rfl⟩
  ·rw[Zgf s k (by omega)]at he
   have hE:k=a+(Xr ((bL s).drop a)).length:=he;have HE:=Hh hE;clear he hE;go_wp2
   go_ret;exact⟨rI (by have:=HE.out;omega),rfl⟩
def takeV(x:Int×Int×Bool):Value:=.tuple #[I J x.1,I J x.2.1,.bool x.2.2]
theorem dTake_any (s :ByteArray)(a most:Int)(w:World)(hs:s.size≤140737488355328)(m1 : -9223372036854775808≤most)(m2:most≤9223372036854775807)(a1 : -9223372036854775808≤a)(a2:a≤9223372036854775807) :
   Calls Φ 156 #[Ψ s,I J a,I J most] w fun e w'=>e=η (takeV (Ul s a most))∧w=w':=by
 by_cases h0:a<0
 · have T:=Hh (show Ul s a most=(0,0,false) by unfold Ul;rw[if_pos (.inl h0)])
   go_enter Tryz.func156,Tryz.ntmps156;go_wp2
   go_ret3
   exact⟨by rw[T.out];rfl,rfl⟩
 · by_cases h1 : (s.size:Int)≤a
   · have T:=Hh (show Ul s a most=(0,0,false) by unfold Ul;rw[if_pos (.inr h1)])
     go_enter Tryz.func156,Tryz.ntmps156;go_wp2
     go_ret3
     exact⟨by rw[T.out];rfl,rfl⟩
   · obtain ⟨i, rfl⟩ :∃ i:Nat,a=i:=⟨a.toNat,by omega⟩
     have hi:i<s.size:=by omega
     obtain⟨D,hD⟩:∃ D,Xr ((bL s).drop i)=D:=⟨_,rfl⟩
     have hend:=digitsEnd_any s i
     have htk:Ul s i most=if D≠[]∧(D.length:Int)≤most∧D.length≤9∧Zcr D=true then(Jt D,(i:Int)+(D.length:Int),true)else(0,0,false):=by
       unfold Ul;rw[if_neg (by omega),Int.toNat_natCast,hD]
     rw[hD]at hend
     have hle:D.length≤s.size - i:=by
       have:=firstD_len ((bL s).drop i);rw[hD,List.length_drop,Us]at this;exact this
     have hdr:=Zgc ((bL s).drop i);rw[hD]at hdr;have l1:decide ((i:Int)<0)=false:=by simp
     have l2:decide (s.size≤i)=false:=by simp;omega
     have l3:(i:Int)<(s.size:Int):=by omega
     have HDR:=Hh hdr;have hsub:(i:Int)+(D.length:Int) - (i:Int)=(D.length:Int):=by omega
     have hD':∀ x ∈ D,48≤x∧x≤57:=fun x hx=>firstD_isD _ x (by rw[hD];exact hx)
     clear hdr hD;by_cases c0:D.length=0
     · rw[if_neg (fun c=>c.1 (List.eq_nil_of_length_eq_zero c0))]at htk
       have T:=Hh htk;clear htk;go_enter Tryz.func156,Tryz.ntmps156;go_wp2_with(go_at_call 178;refine(hend _ hs (by omega)).mono ?_;rintro e w' ⟨rfl,rfl⟩)
       go_ret3
       exact⟨by rw[T.out];rfl,rfl⟩
     · have n0 : ((D.length:Int) == 0)=false:=by rw[beq_eq_false_iff_ne];omega
       by_cases c1:most<(D.length:Int)
       · rw[if_neg (fun c=>by omega)]at htk
         have T:=Hh htk;clear htk;go_enter Tryz.func156,Tryz.ntmps156;go_wp2_with(go_at_call 178;refine(hend _ hs (by omega)).mono ?_;rintro e w' ⟨rfl,rfl⟩)
         go_ret3
         exact⟨by rw[T.out];rfl,rfl⟩
       · by_cases c2:9<(D.length:Int)
         · rw[if_neg (fun c=>by omega)]at htk
           have T:=Hh htk;clear htk;go_enter Tryz.func156,Tryz.ntmps156;go_wp2_with(go_at_call 178;refine(hend _ hs (by omega)).mono ?_;rintro e w' ⟨rfl,rfl⟩)
           go_ret3
           exact⟨by rw[T.out];rfl,rfl⟩
         · have g0:D[0]?=some ((s[i]'hi).toNat:Int):=by
             have h:=congrArg (fun l:List Int=>l[0]?) HDR.out;rw[List.getElem?_take_of_lt (by omega),List.getElem?_drop,Nat.add_zero,Zje s i hi,Ug s i hi]at h;exact h.symm
           have hpl:Zcr D=(!(((s[i]'hi).toNat:Int) == 48) || decide (D.length=1)):=by
             unfold Zcr;rw[g0];rw[Bool.eq_iff_iff];simp
           cases hp:Zcr D with
           |false=>
             rw[if_neg (fun c=>by rw[hp]at c;exact absurd c.2.2.2 (by simp))]at htk;have T:=Hh htk;rw[hp]at hpl
             have e1:(((s[i]'hi).toNat:Int) == 48)=true:=by
               cases h:(((s[i]'hi).toNat:Int) == 48)with
               |true=>rfl
               |false=>rw[h]at hpl;simp at hpl
             have e2:1<(D.length:Int):=by
               rw[e1]at hpl;simp at hpl;omega
             clear htk hp hpl g0;go_enter Tryz.func156,Tryz.ntmps156;go_wp2_with(go_at_call 178;refine(hend _ hs (by omega)).mono ?_;rintro e w' ⟨rfl,rfl⟩)
             go_ret3
             exact⟨by rw[T.out];rfl,rfl⟩
           |true=>
             rw[if_pos ⟨fun c=>c0 (by rw[c];rfl),by omega,by omega,hp⟩]at htk;have T:=Hh htk;rw[hp]at hpl
             have e:(((s[i]'hi).toNat:Int) == 48)=false∨(((s[i]'hi).toNat:Int) == 48)=true∧(D.length:Int)≤1:=by
               cases h:(((s[i]'hi).toNat:Int) == 48)with
               |false=>exact .inl rfl
               |true=>rw[h]at hpl;simp at hpl;exact .inr ⟨rfl,by omega⟩
             have hb:∀ k (hk:k<D.length),∃ hz:i+k<s.size,D[k]=((s[i+k]'hz).toNat:Int):=by
               intro k hk;have hz:i+k<s.size:=by omega
               refine⟨hz,?_⟩;have h:=congrArg (fun l:List Int=>l[k]?) HDR.out;rw[List.getElem?_take_of_lt (by omega),List.getElem?_drop,Zje s (i+k) hz,Ug s (i+k) hz,List.getElem?_eq_getElem hk]at h;exact(Option.some.inj h).symm
             have hdd:∀ x ∈ D,48≤x∧x≤57:=hD'
             clear htk hp hpl g0;have HBB:=Hh hb;have HDD:=Hh hdd;clear hb hdd;rcases e with e | ⟨e,e'⟩
             all_goals
               go_enter Tryz.func156,Tryz.ntmps156;go_wp2_with(go_at_call 178;refine(hend _ hs (by omega)).mono ?_;rintro e w' ⟨rfl,rfl⟩)
               go_loop [6,10,45] (fun n _ j=>∃ k:Nat,j=I J k∧k≤D.length∧n=I J (Jt (D.take k))) (fun _ _ j=>D.length - (intOf j).toNat)
               case atStart=>exact⟨0,rfl,by omega,rfl⟩
               case round=>
                 obtain⟨k,rfl,hk,rfl⟩:=hrel;by_cases hkl:k<D.length
                 · obtain⟨hz,hx⟩:=HBB.out k hkl
                   have hv:=Zbd (D.take k) (fun x hx=>HDD.out x (List.mem_of_mem_take hx));have hlen:(D.take k).length=k:=by rw[List.length_take];omega
                   rw[hlen]at hv;have hv2:Jt (D.take k)<1000000000:=Int.lt_of_lt_of_le hv.2 (pow10_le (show k≤9 by omega));have hv1:=hv.1;have hd:=HDD.out _ (List.getElem_mem hkl);rw[hx]at hd;obtain⟨hd1,hd2⟩:=hd
                   have hs2:Jt (D.take (k+1))=10*Jt (D.take k)+(((s[i+k]'hz).toNat:Int) - 48):=by
                     rw[List.take_succ_eq_append_getElem hkl,Zjg,hx]
                   have HS:=Hh hs2;have lk:(k:Int)<(D.length:Int):=by omega
                   have li:(i:Int)+(k:Int)<(s.size:Int):=by omega
                   clear hs2 hv hx hlen;generalize Jt (D.take k)=V at *;go_wp2
                   go_round
                   case rel=>exact⟨k+1,by go_num,by omega,by rw[HS.out]⟩
                   case measure=>simp[intOf];omega
                 · obtain rfl:k=D.length:=by omega
                   have HL:=Hh (show Jt (D.take D.length)=Jt D by rw[List.take_length]);clear hk hkl;go_wp2
                   go_ret3
                   exact⟨by rw[T.out];exact rV (by unfold takeV;rw[←HL.out];rfl),rfl⟩
open Go Go.RowKit
def Zcw(w:World)(B:Nat)(A:Option Addr)(cs:List Value):Prop:=
 cs=[]∨∃ g off,A=some ⟨g,off,none⟩∧g<B∧∀ j,j<cs.length→w.cell? ⟨g,off+j,none⟩=cs[j]?
theorem Zcw.same{w w':World}{B:Nat}{A:Option Addr}{cs:List Value}(h:Zcw w B A cs)(hs:∀ k,k<B→w'.heap[k]?=w.heap[k]?):Zcw w' B A cs:=by
 rcases h with h | ⟨g,off,rfl,hg,hc⟩
 ·exact .inl h
 ·exact .inr ⟨g,off,rfl,hg,fun j hj=>(World.cell?_of_block (w:=w) (a:=⟨g,off+j,none⟩) (hs g hg)).trans (hc j hj)⟩
theorem Zcw.below{w w':World}{B:Nat}{A:Option Addr}{cs:List Value}(h:Zcw w B A cs)(hb:Below B w w'):Zcw w' B A cs:=h.same hb.block
theorem Zcw.mono{w:World}{B B':Nat}{A:Option Addr}{cs:List Value}(h:Zcw w B A cs)(hB:B≤B'):Zcw w B' A cs:=by
 rcases h with h | ⟨g,off,rfl,hg,hc⟩
 ·exact .inl h
 ·exact .inr ⟨g,off,rfl,by omega,hc⟩
theorem Zcw.alloc{w:World}{B:Nat}{A:Option Addr}{cs:List Value}(h:Zcw w B A cs)(hB:B≤w.heap.size)(o:Obj):Zcw (w.alloc o) B A cs:=
 h.same fun k hk=>Below.heap_alloc w o k (by omega)
theorem Zcw.at_{w:World}{B:Nat}{A:Option Addr}{cs:List Value}(h:Zcw w B A cs)(hn:0<cs.length):∃ g off,A=some ⟨g,off,none⟩∧g<B∧∀ j,j<cs.length→w.cell? ⟨g,off+j,none⟩=cs[j]?:=by
 rcases h with h | h
 ·rw[h]at hn;simp at hn
 ·exact h
theorem Yx{w:World}{base:Nat}{e:TypeId}{size:Nat}{v:Value}{n:Nat}{xs:List Value}(h:w.ownsRow base e size v n xs) :
  ∃ A c,v=Λ A n c∧n≤c∧c≤maxLen∧Zcw w w.heap.size A xs:=by
 obtain⟨h1,h2⟩:=id h;rcases h2 with⟨rfl,rfl⟩ | ⟨g,cap,cur,rfl,hb,hh,hn,hm,hs,ht⟩
 ·exact⟨none,0,rfl,by omega,by unfold maxLen;omega,.inl (List.eq_nil_of_length_eq_zero (by simpa using h1))⟩
 ·refine⟨_,cap,rfl,hn,hm,.inr ⟨g,0,rfl,(h.lt g rfl).2,fun j hj=>?_⟩⟩
  rw[Nat.zero_add];exact World.ownsRow.cellAt h j (by omega)
def Zdr(a b:Value):Prop:=∀ k,a.ownBlock=some k→b.ownBlock≠some k
theorem Zdr.symm{a b:Value}(h:Zdr a b):Zdr b a:=fun k hb ha=>h k ha hb
theorem Zdr.nil(b:Value):Zdr (Λ none 0 0) b:=fun k h=>by simp[Value.ownBlock]at h
theorem Zdr.grown{a v v':Value}{w:World}{base:Nat}{e:TypeId}{size n:Nat}{xs:List Value}{H:Nat}(h:Zdr a v)(ha:w.ownsRow base e size a n xs)(hH:w.heap.size≤H)
  (hat:v'.ownBlock=v.ownBlock∨v'.ownBlock=some H):Zdr a v':=by
 intro k hk;rcases hat with e | e
 ·rw[e];exact h k hk
 ·rw[e]
  have:=(ha.lt k hk).2;intro c;injection c with c;omega
theorem Zdr.kept{a v:Value}{w w':World}{base:Nat}{e:TypeId}{size n:Nat}{xs:List Value}(h:Zdr a v)(ha:w.ownsRow base e size a n xs)(hg:w.grownBy w' v.ownBlock):w'.ownsRow base e size a n xs:=by
 refine ha.kept hg ?_;cases hk:a.ownBlock with
 |none=>exact .inl rfl
 |some k=>exact .inr (fun c=>h k hk c.symm)
theorem own_mono{w:World}{base base':Nat}{e:TypeId}{size:Nat}{v:Value}{n:Nat}{xs:List Value}(h:w.ownsRow base e size v n xs)(hb:base'≤base):w.ownsRow base' e size v n xs:=by
 obtain⟨h1,h2⟩:=h;refine⟨h1,?_⟩;rcases h2 with h2 | ⟨g,cap,cur,hv,hg,r⟩
 ·exact .inl h2
 ·exact .inr ⟨g,cap,cur,hv,by omega,r⟩
theorem Zfc{w w':World}{base:Nat}{e:TypeId}{size:Nat}{v:Value}{n:Nat}{xs:List Value}(h:w.ownsRow base e size v n xs)(hb:Below w.heap.size w w'):w'.ownsRow base e size v n xs:=by
 obtain⟨h1,h2⟩:=id h;refine⟨h1,?_⟩;rcases h2 with h2 | ⟨g,cap,cur,hv,hg,hh,r⟩
 ·exact .inl h2
 ·refine .inr ⟨g,cap,cur,hv,hg,?_,r⟩
  rw[hb.block g ((h.lt g (by rw[hv];rfl)).2)];exact hh
theorem Znh{P:Program}{w:World}{ops:Array Oper}{rest:List Oper}{o:Oper}{a:Act}{Q:Exit→Act→World→Prop}(s x:Operand)(t e:TypeId)(bytes:Nat)(z:Value)
  (ht:P.underlying t=some (.slice e))(hinfo:(P.info? e).map (fun i=>(i.zero,i.size,i.bytes))=some (some z,1,bytes))(hzs:z.cells.size=1)(hby:bytes≤64)
  (hgd:o.guard=none)(ho:o.op=.call { callee:=.builtin .append,args:=#[s,x],argTypes:=#[t,t] })
  (base:Nat)(v:Value)(n:Nat)(xs:List Value)(u:Value)(hs:a.eval s=v)(hown:w.ownsRow base e 1 v n xs)(hx:a.eval x=Λ (some ⟨w.heap.size,0,none⟩) 1 1)(h1:u.oneCell'=true)
  (hn:n≤1099511627776)(hbase:base≤w.heap.size)
  (h:∀ v' w',w'.ownsRow base e 1 v' (n+1) (xs++[u])→w.grownBy w' v.ownBlock→(v'.ownBlock=v.ownBlock∨v'.ownBlock=some (w.heap.size+1))→wpList P ops Q rest (a.put o.dst v') w') :
  wpList P ops Q (o::rest) a (w.alloc (.cells #[u] e)):=by
 obtain⟨i,hi,hz,hsize,hbytes⟩:=info_parts hinfo
 refine wpList_append_own_at (w.alloc (.cells #[u] e)) hgd s x t ho base e i z 1 bytes ht hi hz hsize hbytes hzs (by decide) v n xs hs (hown.alloc _) ⟨w.heap.size,0,none⟩ 1 1 [u] hx rfl (cell_one_new _ _ _)
  (by intro y hy;rw[List.mem_singleton]at hy;rw[hy];exact h1) (by unfold maxLen;omega) ?_ (by simp;omega) ?_
 ·have:(n+1)*bytes≤(n+1)*64:=Nat.mul_le_mul_left _ hby
  omega
 ·intro v' w' ho' hg _ hat
  refine h v' w' ho' ((World.grownBy_alloc w _ _).trans hg) ?_;rcases hat with e | e
  ·exact .inl e
  ·refine .inr (by simpa using e)
theorem Zhs{B:Nat}{w0 w w':World}{v:Value}{base:Nat}{e:TypeId}{size n:Nat}{xs:List Value}(h:Below B w0 w)(hown:w.ownsRow base e size v n xs)(hg:w.grownBy w' v.ownBlock)(hB:B≤base)(hs:B≤w.heap.size):Below B w0 w':=
 h.grown hg hs (fun k hk=>by have:=hown.lt k hk;omega)
theorem Wg{w b c:World}(h:Below w.heap.size w b)(k:Below b.heap.size b c):Below w.heap.size w c:=h.trans (k.mono h.size)
theorem Xv{B:Nat}{a w:World}(h:Below B a w):Below B a w.drew:=⟨h.os,h.tape,h.output,h.size,h.block⟩
theorem Zeo{B:Nat}{a w:World}(h:Below B a w)(n:Nat):Below B a (w.drewN n):=⟨h.os,h.tape,h.output,h.size,h.block⟩
def Zi(w:World)(g:Nat)(t:TypeId)(cs:Array Value):Prop:=w.heap[g]?=some (.cells cs t (0,0))
theorem Zi.inside{w:World}{g:Nat}{t:TypeId}{cs:Array Value}(h:Zi w g t cs):g<w.heap.size:=by
 apply Nat.lt_of_not_le;intro c;have e:w.heap[g]?=none:=Array.getElem?_eq_none c;unfold Zi at h;rw[e]at h;cases h
theorem Zi.read{w:World}{g:Nat}{t:TypeId}{cs:Array Value}(h:Zi w g t cs)(i:Nat):w.cell? ⟨g,i,none⟩=cs[i]?:=cell_of_row w g i cs t (0,0) h
theorem Zi.thawed{w:World}{g:Nat}{t:TypeId}{cs:Array Value}(h:Zi w g t cs)(i:Nat):w.frozen? ⟨g,i,none⟩=false:=by
 have e:w.heap[g]?=some (.cells cs t (0,0)):=h;simp[World.frozen?,e]
theorem Zi.made(w:World)(t:TypeId)(cs:Array Value):Zi (w.alloc (.cells cs t)) w.heap.size t cs:=heap_alloc_new w _
theorem Zi.alloc{w:World}{g:Nat}{t:TypeId}{cs:Array Value}(h:Zi w g t cs)(o:Obj):Zi (w.alloc o) g t cs:=by
 unfold Zi;rw[Below.heap_alloc w o g h.inside];exact h
theorem Zi.write{w:World}{g:Nat}{t:TypeId}{cs:Array Value}(h:Zi w g t cs)(i:Nat)(u:Value):Zi (w.setCell ⟨g,i,none⟩ u) g t (cs.setIfInBounds i u):=
 heap_setCell_same w g i cs t u h
theorem Zi.aside{w:World}{g:Nat}{t:TypeId}{cs:Array Value}(h:Zi w g t cs){p:Addr}(hp:g≠p.block)(u:Value):Zi (w.setCell p u) g t cs:=by
 unfold Zi;rw[Below.heap_setCell w p u g hp];exact h
theorem Zi.below{w w':World}{B g:Nat}{t:TypeId}{cs:Array Value}(h:Zi w g t cs)(hb:Below B w w')(hg:g<B):Zi w' g t cs:=by
 unfold Zi;rw[hb.block g hg];exact h
def TailIs(cs:Array Value)(f:Nat)(l:List Int):Prop:=f+l.length=cs.size∧∀ j,j<l.length→cs[f+j]?=some (.int .u8 (l.getD j 0))
theorem TailIs.next{cs:Array Value}{f:Nat}{l:List Int}(h:TailIs cs (f+1) l)(x:Int):TailIs (cs.setIfInBounds f (.int .u8 x)) f (x::l):=by
 obtain⟨h1,h2⟩:=h;refine⟨by rw[Array.size_setIfInBounds,List.length_cons];omega,fun j hj=>?_⟩;rw[List.length_cons]at hj;rw[Array.getElem?_setIfInBounds];cases j with
 |zero=>rw[if_pos (by omega),if_pos (by omega)];rfl
 |succ j=>
  rw[if_neg (by omega),show f+(j+1)=f+1+j from by omega,h2 j (by omega)];rfl
theorem TailIs.cells{w:World}{g:Nat}{t:TypeId}{cs:Array Value}{f:Nat}{l:List Int}(h:TailIs cs f l)(hw:Zi w g t cs):∀ j,j<l.length→w.cell? ⟨g,f+j,none⟩=some (.int .u8 (l.getD j 0)):=fun j hj=>by
 rw[hw.read];exact h.2 j hj
theorem Zhc{w:World}{g:Nat}{t:TypeId}{a b:Value}(h:Zi w g t #[a,b]):w.cell? ⟨g,0,none⟩=some a∧w.cell? ⟨g,1,none⟩=some b∧w.frozen? ⟨g,0,none⟩=false∧w.frozen? ⟨g,1,none⟩=false:=
 ⟨by rw[h.read];rfl,by rw[h.read];rfl,h.thawed 0,h.thawed 1⟩
theorem Zo{w:World}{g:Nat}{t:TypeId}{a b c:Value}(h:Zi w g t #[a,b,c]):w.cell? ⟨g,0,none⟩=some a∧w.cell? ⟨g,1,none⟩=some b∧w.cell? ⟨g,2,none⟩=some c ∧
  w.frozen? ⟨g,0,none⟩=false∧w.frozen? ⟨g,1,none⟩=false∧w.frozen? ⟨g,2,none⟩=false:=
 ⟨by rw[h.read];rfl,by rw[h.read];rfl,by rw[h.read];rfl,h.thawed 0,h.thawed 1,h.thawed 2⟩
structure Two(w:World)(t:TypeId)(cs:Array Value)(u:TypeId)(ds:Array Value)(x:World):Prop where
 k0:Zi x w.heap.size t cs
 k1:Zi x (w.heap.size+1) u ds
 below:Below w.heap.size w x
theorem Two.start(w:World)(t:TypeId)(cs:Array Value)(u:TypeId)(ds:Array Value):Two w t cs u ds ((w.alloc (.cells cs t)).alloc (.cells ds u)):=by
 refine⟨(Zi.made _ _ _).alloc _,?_,((Below.refl _ _).alloc (Θ _) _).alloc (by simp) _⟩;have:=Zi.made (w.alloc (.cells cs t)) u ds;simpa using this
theorem Two.next{w x y:World}{t u:TypeId}{cs ds:Array Value}(h:Two w t cs u ds x)(hb:Below x.heap.size x y):Two w t cs u ds y:=
 ⟨h.k0.below hb h.k0.inside,h.k1.below hb h.k1.inside,h.below.trans (hb.mono h.below.size)⟩
theorem Two.drew{w x:World}{t u:TypeId}{cs ds:Array Value}(h:Two w t cs u ds x):Two w t cs u ds x.drew:=
 ⟨h.k0,h.k1,h.below.drew⟩
def Zbp(w:World)(A:Option Addr)(cs:List Value):Prop:=
 cs=[]∨∃ x,A=some x∧x.block<w.heap.size∧∀ j,j<cs.length→w.cell? (x.add j)=cs[j]?
theorem Zbp.below{w w':World}{A:Option Addr}{cs:List Value}(h:Zbp w A cs)(hb:Below w.heap.size w w'):Zbp w' A cs:=by
 rcases h with h | ⟨x,rfl,hx,hc⟩
 ·exact .inl h
 ·refine .inr ⟨x,rfl,Nat.lt_of_lt_of_le hx hb.size,fun j hj=>?_⟩
  rw[hb.cell (p:=x.add j) (by unfold Addr.add;split<;>exact hx)];exact hc j hj
theorem Zbp.alloc{w:World}{A:Option Addr}{cs:List Value}(h:Zbp w A cs)(o:Obj):Zbp (w.alloc o) A cs:=h.below ((Below.refl _ _).alloc (Θ _) o)
theorem Zbp.at_{w:World}{A:Option Addr}{cs:List Value}(h:Zbp w A cs)(hn:0<cs.length):∃ x,A=some x∧x.block<w.heap.size∧∀ j,j<cs.length→w.cell? (x.add j)=cs[j]?:=by
 rcases h with h | h
 ·rw[h]at hn;simp at hn
 ·exact h
theorem Zcw.reads{w:World}{A:Option Addr}{cs:List Value}(h:Zcw w w.heap.size A cs):Zbp w A cs:=by
 rcases h with h | ⟨g,off,rfl,hg,hc⟩
 ·exact .inl h
 ·exact .inr ⟨⟨g,off,none⟩,rfl,hg,fun j hj=>by rw[Addr.add_lit];exact hc j hj⟩
theorem Zbp.made(w:World)(cs:Array Value)(t:TypeId):Zbp (w.alloc (.cells cs t)) (some ⟨w.heap.size,0,none⟩) cs.toList:=by
 refine .inr ⟨_,rfl,by simp,fun j hj=>?_⟩;rw[Addr.add_lit,(Zi.made w t cs).read,Nat.zero_add];simp
def Vr(k:Int)(t:ByteArray)(n:Int)(size e:Int):Value:=.tuple #[.agg #[I J k,Ψ t,I J n,I J 0,I J 0],I J size,I J e]
def Uc(t:ByteArray):Value:=
 if(Yh (bL t)).1 < -1 then Vr 0 ⟨#[]⟩ 0 0 (Zjy (Yh (bL t)).1)
 else Vr (Yh (bL t)).1 (t.extract (Yh (bL t)).2.1 (Yh (bL t)).2.2.1) (Zcs (Yh (bL t)).1 (bL t)) (Yh (bL t)).2.2.2 0
theorem Zpb(t:ByteArray)(h:0<t.size):bL t=(gB t 0:Int)::(bL t).drop 1:=by
 have:=Zjv t 0 h;rwa [List.drop_zero,Nat.zero_add]at this
theorem tkNumber(t:ByteArray)(w:World)(hs:t.size≤140737488355328)(h0:0<t.size)(hd:isD (gB t 0)=true) :
  Calls Φ 139 #[Ψ t] w fun e w'=>e=η (Uc t)∧Below w.heap.size w w':=by
 have hsm:Zaq (gB t 0:Int)=false:=by rw[Zbs]at hd;rw[←Bool.not_eq_true,Zel];omega
 have hb:=Zpb t h0;have hlen:=Zhw isD (bL t);rw[Us]at hlen;have hpos:0<tw isD (bL t):=by rw[hb,Vw _ hd];omega
 by_cases hbad:2<tw isD (bL t)∨(tw isD (bL t)=2∧gB t 0=48)
 ·have hT:Ul t 0 2=(0,0,false):=by
   unfold Ul;rw[if_neg (by omega),if_neg];rw[show(0:Int).toNat=0 from rfl,List.drop_zero,Zdt];rintro⟨_,h2,_,h4⟩;rcases hbad with h | ⟨h,h'⟩
   ·omega
   ·have hx:(Xr (bL t))[0]?=some 48:=by
     rw[hb,Zae _ hd,List.getElem?_cons_zero,h'];rfl
    have hl:(Xr (bL t)).length=2:=by rw[Zdt];exact h
    unfold Zcr at h4;rw[hx,hl]at h4;simp at h4
  have hv:Uc t=Vr 0 ⟨#[]⟩ 0 0 12:=by
   have hk:Yh (bL t)=(-2,0,0,0):=by
    rw[hb]at hbad ⊢;rw[Ja,if_neg (by rw[hsm];simp),if_pos hd,if_pos (by rcases hbad with h | ⟨h,h'⟩;exact .inl h;exact .inr ⟨h,by omega⟩)]
   unfold Uc;rw[hk];rfl
  have HV:=Hh hv;have c1:=fun w=>dTake_any t 0 2 w hs (by omega) (by omega) (by omega) (by omega)
  rw[hT]at c1;simp only[takeV]at c1;clear hT hv hbad hd hsm hb;go_enter Tryz.func139,Tryz.ntmps139;go_wp2_with(go_at_call 156;refine(c1 _).mono ?_;rintro e w1 ⟨rfl,rfl⟩)
  refine bodyPost_ret (v:=Vr 0 ⟨#[]⟩ 0 0 12) (by simp[results,Tryz.results139,go_sem,Vr]) rfl ⟨by rw[HV.out],?_⟩;exact(Below.refl _ _).alloc (Θ _) _
 ·obtain⟨n,hn⟩:∃ n,tw isD (bL t)=n:=⟨_,rfl⟩
  rw[hn]at hbad hlen hpos
  have hT:Ul t 0 2=(Jt (Xr (bL t)),(n:Int),true):=by
   unfold Ul;rw[if_neg (by omega)];rw[show(0:Int).toNat=0 from rfl,List.drop_zero,Zdt,hn,if_pos]
   ·rw[Int.zero_add]
   ·refine⟨?_,by omega,by omega,?_⟩
    ·rw[hb,Zae _ hd];simp
    ·have hx:(Xr (bL t))[0]?=some (gB t 0:Int):=by rw[hb,Zae _ hd,List.getElem?_cons_zero]
     have hl:(Xr (bL t)).length=n:=by rw[Zdt];exact hn
     unfold Zcr;rw[hx,hl];simp;omega
  have hv:Uc t=Vr 2 (t.extract 0 n) (Jt (Xr (bL t))) n 0:=by
   have hk:Yh (bL t)=(2,0,n,n):=by
    rw[hb]at hn ⊢;rw[Ja,if_neg (by rw[hsm];simp),if_pos hd,if_neg (by rw[hn];omega),hn]
   unfold Uc;rw[hk];rfl
  have HV:=Hh hv;have c1:=fun w=>dTake_any t 0 2 w hs (by omega) (by omega) (by omega) (by omega)
  rw[hT]at c1;simp only[takeV]at c1;clear hT hv hbad hd hsm hb;generalize Jt (Xr (bL t))=V at *;have HN:=Hh hn;clear hn;have l1:(n:Int)≤(t.size:Int):=by omega
  go_enter Tryz.func139,Tryz.ntmps139;go_wp2_with(go_at_call 156;refine(c1 _).mono ?_;rintro e w1 ⟨rfl,rfl⟩)
  refine bodyPost_ret (v:=Vr 2 (t.extract 0 n) V n 0) (by simp[results,Tryz.results139,go_sem,Vr]) rfl ⟨by rw[HV.out],?_⟩;exact(Below.refl _ _).alloc (Θ _) _
theorem dec_is(t:ByteArray)(i:Nat)(c:Int)(hc:0≤c)(hc2:c<128):((Utf8.decode t i).1:Int)=c↔(gB t i:Int)=c:=by
 constructor
 ·intro h
  have:=Zgx t i (by omega);omega
 ·intro h
  rw[Ve t i (by omega)];exact h
theorem small_dec(t:ByteArray)(i:Nat):decide (97≤((Utf8.decode t i).1:Int)∧((Utf8.decode t i).1:Int)≤122)=Zaq (gB t i:Int):=by
 rw[Bool.eq_iff_iff,decide_eq_true_iff,Zel];constructor
 ·intro h
  have:=Zgx t i (by omega);omega
 ·intro h
  rw[Ve t i (by omega)];exact h
theorem digit_dec(t:ByteArray)(i:Nat):decide (48≤((Utf8.decode t i).1:Int)∧((Utf8.decode t i).1:Int)≤57)=isD (gB t i:Int):=by
 rw[Bool.eq_iff_iff,decide_eq_true_iff,Zbs];constructor
 ·intro h
  have:=Zgx t i (by omega);omega
 ·intro h
  rw[Ve t i (by omega)];exact h
theorem blank_dec(t:ByteArray)(i:Nat):decide (((Utf8.decode t i).1:Int)=32∨((Utf8.decode t i).1:Int)=9∨((Utf8.decode t i).1:Int)=10)=Zgq (gB t i:Int):=by
 rw[Bool.eq_iff_iff,decide_eq_true_iff,Zem,dec_is t i 32 (by omega) (by omega),dec_is t i 9 (by omega) (by omega),dec_is t i 10 (by omega) (by omega)]
theorem Zoz(t:ByteArray)(i:Nat)(c:Int)(hc:0≤c)(hc2:c<128):(((Utf8.decode t i).1:Int) == c)=((gB t i:Int) == c):=by
 rw[Bool.eq_iff_iff,beq_iff_eq,beq_iff_eq,dec_is t i c hc hc2]
theorem Zaw{w:World}{g:Nat}{t:TypeId}{a b c d e:Value}(h:Zi w g t #[a,b,c,d,e]):w.cell? ⟨g,0,none⟩=some a∧w.cell? ⟨g,1,none⟩=some b∧w.cell? ⟨g,2,none⟩=some c∧w.cell? ⟨g,3,none⟩=some d∧w.cell? ⟨g,4,none⟩=some e:=
 ⟨h.read 0,h.read 1,h.read 2,h.read 3,h.read 4⟩
theorem whole_extract(t:ByteArray):t.extract 0 t.size=t:=by simp
theorem Zah{w:World}{g:Nat}{t:TypeId}{a b c d e:Value}(h:Zi w g t #[a,b,c,d,e]) :
  w.cell? ⟨g,0,none⟩=some a∧w.cell? ⟨g,1,none⟩=some b∧w.cell? ⟨g,2,none⟩=some c∧w.cell? ⟨g,3,none⟩=some d∧w.cell? ⟨g,4,none⟩=some e ∧
  w.frozen? ⟨g,0,none⟩=false∧w.frozen? ⟨g,1,none⟩=false∧w.frozen? ⟨g,2,none⟩=false∧w.frozen? ⟨g,3,none⟩=false∧w.frozen? ⟨g,4,none⟩=false:=
 ⟨h.read 0,h.read 1,h.read 2,h.read 3,h.read 4,h.thawed 0,h.thawed 1,h.thawed 2,h.thawed 3,h.thawed 4⟩
theorem Zho(w:World)(s:ByteArray)(cs:Array Value)(ty:TypeId)(q:Nat):Zi ((w.alloc (.cells cs ty)).iter s q) w.heap.size ty cs:=
 (Zi.made w ty cs).below (B:=(w.alloc (.cells cs ty)).heap.size) ((Below.refl _ _).alloc (Θ _) _) (by simp)
theorem Zi.set5{w:World}{g:Nat}{t:TypeId}{a b c d e:Value}(h:Zi w g t #[a,b,c,d,e])(x0 x1 x2 x3 x4:Value) :
  Zi (((((w.setCell ⟨g,0,none⟩ x0).setCell ⟨g,1,none⟩ x1).setCell ⟨g,2,none⟩ x2).setCell ⟨g,3,none⟩ x3).setCell ⟨g,4,none⟩ x4) g t #[x0,x1,x2,x3,x4]:=
 ((((h.write 0 x0).write 1 x1).write 2 x2).write 3 x3).write 4 x4
theorem Below.set5{B g:Nat}{w0 w:World}(h:Below B w0 w)(hg:B≤g)(x0 x1 x2 x3 x4:Value) :
  Below B w0 (((((w.setCell ⟨g,0,none⟩ x0).setCell ⟨g,1,none⟩ x1).setCell ⟨g,2,none⟩ x2).setCell ⟨g,3,none⟩ x3).setCell ⟨g,4,none⟩ x4):=
 ((((h.setCell hg x0).setCell hg x1).setCell hg x2).setCell hg x3).setCell hg x4
theorem tkWord(t:ByteArray)(w:World)(hs:t.size≤140737488355328)(h0:0<t.size)(hd:Zaq (gB t 0)=true) :
  Calls Φ 137 #[Ψ t] w fun e w'=>e=η (Uc t)∧Below w.heap.size w w':=by
 have hb:=Zpb t h0;have hlen:=Zhw Zaq (bL t);rw[Us]at hlen;obtain⟨n,hn⟩:∃ n,tw Zaq (bL t)=n:=⟨_,rfl⟩
 have hv:Uc t=Vr 1 (t.extract 0 n) 0 n 0:=by
  have hk:Yh (bL t)=(1,0,n,n):=by
   rw[hb]at hn ⊢;rw[Ja,if_pos hd,hn]
  unfold Uc;rw[hk];rfl
 rw[hn]at hlen;have HV:=Hh hv;have HN:=Hh hn;have l1:(n:Int)≤(t.size:Int):=by omega
 clear hv hn hb hd;go_enter Tryz.func137,Tryz.ntmps137;go_wp2
 go_loopw [3] (fun c wr=>∃ pos:Nat,c=I J (t.size:Int)∧wr=(w.alloc (.cells #[I J 0,Ψ ⟨#[]⟩,I J 0,I J 0,I J 0] 54)).iter t pos∧pos≤t.size∧pos+tw Zaq ((bL t).drop pos)=n) (fun _ wr=>t.size - wr.iterPos (w.heap.size+1))
 case atStart=>exact⟨0,rfl,rfl,by omega,by rw[List.drop_zero,Nat.zero_add];exact HN.out⟩
 case round=>
  obtain⟨pos,rfl,rfl,hps,he⟩:=hrel;by_cases hp:pos<t.size
  ·have hnx:=fun ty=>run_next_any (P:=Φ) (w.alloc (.cells #[I J 0,Ψ ⟨#[]⟩,I J 0,I J 0,I J 0] 54)) t pos ty hp
   rw[show(w.alloc (.cells #[I J 0,Ψ ⟨#[]⟩,I J 0,I J 0,I J 0] 54)).heap.size=w.heap.size+1 from by simp]at hnx;have c1:=fun w=>Zne ((Utf8.decode t pos).1:Int) w
   rw[small_dec]at c1;rw[Zjv t pos hp]at he;cases hsm:Zaq (gB t pos:Int)with
   |true=>
    rw[hsm]at c1;rw[Vw _ hsm]at he;have hw1:(Utf8.decode t pos).2=1:=by rw[Zel]at hsm;rw[Ve t pos (by omega)]
    have HE:=Hh he;have HW:=Hh hw1;clear he hw1 hsm;go_wp2_with(go_at_call 136;refine(c1 _).mono ?_;rintro e w1 ⟨rfl,rfl⟩)
    go_roundw
    case rel=>exact⟨pos+1,rfl,by rw[HW.out],by omega,by have:=HE.out;omega⟩
    case measure=>
     have:=HW.out;have e:w.heap.size+1=(w.alloc (.cells #[I J 0,Ψ ⟨#[]⟩,I J 0,I J 0,I J 0] 54)).heap.size:=by simp
     rw[e,World.iterPos_iter,World.iterPos_iter];omega
   |false=>
    rw[hsm]at c1;rw[Zci _ hsm]at he;have he':pos=n:=by omega
    subst he';clear he hsm;obtain⟨k0,k1,k2,k3,k4,f0,f1,f2,f3,f4⟩:=Zah (Zho w t #[I J 0,Ψ ⟨#[]⟩,I J 0,I J 0,I J 0] 54 (pos+(Utf8.decode t pos).2));go_wp2_with(go_at_call 136;refine(c1 _).mono ?_;rintro e w1 ⟨rfl,rfl⟩)
    have hF:=Zaw (Zi.set5 (Zho w t #[I J 0,Ψ ⟨#[]⟩,I J 0,I J 0,I J 0] 54 (pos+(Utf8.decode t pos).2)) (I J 1) (Ψ (t.extract 0 pos)) (I J 0) (I J 0) (I J 0));refine bodyPost_ret (v:=Vr 1 (t.extract 0 pos) 0 pos 0) (by simp[results,Tryz.results137,go_sem,Vr,hF]) rfl ⟨by rw[HV.out],?_⟩;exact Below.set5 (((Below.refl _ _).alloc (Θ _) _).alloc (by simp) _) (Θ _) _ _ _ _ _
  ·rw[Zgf t pos (by omega),Zii]at he
   have he':t.size=n:=by omega
   have HE:=Hh he';have hnx:=fun ty=>run_next_end (P:=Φ) (w.alloc (.cells #[I J 0,Ψ ⟨#[]⟩,I J 0,I J 0,I J 0] 54)) t pos ty hp
   rw[show(w.alloc (.cells #[I J 0,Ψ ⟨#[]⟩,I J 0,I J 0,I J 0] 54)).heap.size=w.heap.size+1 from by simp]at hnx;clear he he';obtain⟨k0,k1,k2,k3,k4,f0,f1,f2,f3,f4⟩:=Zah (Zho w t #[I J 0,Ψ ⟨#[]⟩,I J 0,I J 0,I J 0] 54 pos);go_wp2
   have hF:=Zaw (Zi.set5 (Zho w t #[I J 0,Ψ ⟨#[]⟩,I J 0,I J 0,I J 0] 54 pos) (I J 1) (Ψ t) (I J 0) (I J 0) (I J 0));refine bodyPost_ret (v:=Vr 1 t 0 t.size 0) (by simp[results,Tryz.results137,go_sem,Vr,hF]) rfl ⟨by rw[HV.out,←HE.out,whole_extract],?_⟩;exact Below.set5 (((Below.refl _ _).alloc (Θ _) _).alloc (by simp) _) (Θ _) _ _ _ _ _
def MarksPost(w:World)(e:Ending)(w':World):Prop:=∃ g,e=η (Λ (some ⟨g,0,none⟩) 14 14)∧w.heap.size≤g∧Zi w' g 9 mkCs.toArray∧Below w.heap.size w w'
theorem mkCs_eq:mkCs.toArray=#[Ψ ⟨#[123]⟩,Ψ ⟨#[125]⟩,Ψ ⟨#[40]⟩,Ψ ⟨#[41]⟩,Ψ ⟨#[59]⟩,Ψ ⟨#[43]⟩,Ψ ⟨#[45]⟩,Ψ ⟨#[42]⟩,Ψ ⟨#[61]⟩,Ψ ⟨#[60]⟩,Ψ ⟨#[62]⟩,Ψ ⟨#[60,61]⟩,Ψ ⟨#[62,61]⟩,Ψ ⟨#[33,61]⟩]:=by kernel_rfl
theorem tkMarks(w:World):Calls Φ 159 #[] w (MarksPost w):=by
 have hE:=Hh mkCs_eq;go_enter Tryz.func159,Tryz.ntmps159;go_wp2
 go_ret;refine⟨w.heap.size,rfl,Θ _,?_,(Below.refl _ _).alloc (Θ _) _⟩;rw[hE.out];exact Zi.made _ _ _
theorem tkMark(t:ByteArray)(w:World)(hs:t.size≤140737488355328)(h0:0<t.size)(h1:Zaq (gB t 0)=false)(h2:isD (gB t 0)=false)(h3:gB t 0≠35)(h4:gB t 0≠34) :
  Calls Φ 141 #[Ψ t] w fun e w'=>e=η (Uc t)∧Below w.heap.size w w':=by
 have hb:=Zpb t h0
 have hk:Yh (bL t)=if Jx (bL t)=0 then(-4,0,0,0)else(4,0,Jx (bL t),Jx (bL t)):=by
  rw[hb,Ja,if_neg (by rw[h1];simp),if_neg (by rw[h2];simp),if_neg (by omega),if_neg (by omega)]
 have HK:=Hh hk;have hle:=markL_le (bL t);rw[Us]at hle;have HL:=Hh hle;clear hk hb h1 h2 h3 h4 hle;go_enter Tryz.func141,Tryz.ntmps141;go_wp2_with(go_at_call 159;refine(tkMarks _).mono ?_;rintro e w1 ⟨g,rfl,hg1,hW1,b1⟩)
 go_loop [3,9] (fun n i=>∃ k:Nat,k≤14∧i=I J (k:Int)∧n=I J (((mkL.take k).foldl (Vk (bL t)) 0:Nat):Int)) (fun _ i=>14 - (intOf i).toNat)
 case atStart=>exact⟨0,by omega,rfl,rfl⟩
 case round=>
  obtain⟨k,hk,rfl,rfl⟩:=hrel;have hbd:=mk_bd (bL t) k;by_cases hkl:k<14
  ·have hst:=mk_next (bL t) k hkl
   have hce:w1.cell? ⟨g,k,none⟩=some (Ψ (strOfNums (mkL[k]'hkl))):=by
    rw[hW1.read k];have:=mkCs_at k hkl;rw[←this];simp
   have hby:=mk_by k hkl;have hml:=mk_len k hkl;generalize mkL[k]'hkl=m at *;generalize hn:(mkL.take k).foldl (Vk (bL t)) 0=n at *;have hpre:=HasPrefix_any t (strOfNums m);rw[bL_str m hby]at hpre;have hsz:(strOfNums m).size=m.length:=strOfNums_size m;have HST:=Hh hst;have HSZ:=Hh hsz;have HNN:=Hh hn;have HBY:=Hh hby;have hs1:1≤(strOfNums m).size∧(strOfNums m).size≤2:=by omega
   generalize strOfNums m=ms at *;clear hst hsz hn hby hW1;obtain⟨s1,s2⟩:=hs1;have lk:(k:Int)<14:=by omega
   by_cases hlt:(n:Int)<(ms.size:Int)
   ·cases hp:m.isPrefixOf (bL t)with
    |true=>
     rw[hp]at hpre;have hv:Vk (bL t) n m=ms.size:=by unfold Vk;rw[if_pos ⟨by have:=HSZ.out;omega,hp⟩,HSZ.out]
     have HV:=Hh hv;clear hv hp;go_wp2_with(go_at_call 160;refine(hpre _).mono ?_;rintro e w2 ⟨rfl,rfl⟩)
     go_round
     case rel=>exact⟨k+1,by omega,by go_num,by rw[HST.out,HV.out]⟩
     case measure=>simp[intOf];omega
    |false=>
     rw[hp]at hpre;have hv:Vk (bL t) n m=n:=by unfold Vk;rw[if_neg (by rw[hp];simp)]
     have HV:=Hh hv;clear hv hp;go_wp2_with(go_at_call 160;refine(hpre _).mono ?_;rintro e w2 ⟨rfl,rfl⟩)
     go_round
     case rel=>exact⟨k+1,by omega,by go_num,by rw[HST.out,HV.out]⟩
     case measure=>simp[intOf];omega
   ·have hv:Vk (bL t) n m=n:=by unfold Vk;rw[if_neg (by have:=HSZ.out;omega)]
    have HV:=Hh hv;clear hv;go_wp2_with(go_at_call 160;refine(hpre _).mono ?_;rintro e w2 ⟨rfl,rfl⟩)
    go_round
    case rel=>exact⟨k+1,by omega,by go_num,by rw[HST.out,HV.out]⟩
    case measure=>simp[intOf];omega
  ·obtain rfl:k=14:=by omega
   have hfold:(mkL.take 14).foldl (Vk (bL t)) 0=Jx (bL t):=by rw[←mk_fold];rfl
   rw[hfold];generalize hm:Jx (bL t)=n at *;have HM:=Hh hm;obtain⟨l1,l2⟩:=HL.out;have hW:Zi w1 w.heap.size 54 #[I J 0,Ψ ⟨#[]⟩,I J 0,I J 0,I J 0]:=(Zi.made w 54 #[I J 0,Ψ ⟨#[]⟩,I J 0,I J 0,I J 0]).below b1 (by simp);obtain⟨k0,k1,k2,k3,k4,f0,f1,f2,f3,f4⟩:=Zah hW;have hB:Below w.heap.size w w1:=((Below.refl _ _).alloc (Θ _) _).trans (b1.mono (by simp));have HB:=Hh hB;clear hfold hm hbd hkl hB;by_cases hz:n=0
   ·subst hz
    have hv:Uc t=Vr 0 ⟨#[]⟩ 0 0 6:=by unfold Uc;rw[HK.out,if_pos rfl];rfl
    have HV:=Hh hv;clear hv;go_wp2
    have hF:=Zaw (Zi.set5 hW (I J 0) (Ψ ⟨#[]⟩) (I J 0) (I J 0) (I J 0));refine bodyPost_ret (v:=Vr 0 ⟨#[]⟩ 0 0 6) (by simp[results,Tryz.results141,go_sem,Vr,hF]) rfl ⟨by rw[HV.out],?_⟩;exact Below.set5 HB.out (Θ _) _ _ _ _ _
   ·have hv:Uc t=Vr 4 (t.extract 0 n) 0 n 0:=by unfold Uc;rw[HK.out,if_neg hz];rfl
    have HV:=Hh hv;clear hv;have hz2:((n:Int) == 0)=false:=by simpa using hz
    have l3:(n:Int)≤(t.size:Int):=by omega
    go_wp2
    have hF:=Zaw (Zi.set5 hW (I J 4) (Ψ (t.extract 0 n)) (I J 0) (I J 0) (I J 0));refine bodyPost_ret (v:=Vr 4 (t.extract 0 n) 0 n 0) (by simp[results,Tryz.results141,go_sem,Vr,hF]) rfl ⟨by rw[HV.out],?_⟩;exact Below.set5 HB.out (Θ _) _ _ _ _ _
theorem bL_rest(t:ByteArray)(a:Nat)(h:a≤t.size):bL (t.extract a t.size)=(bL t).drop a:=by
 have e:=Zlc t a (t.size - a) (by omega);rw[show a+(t.size - a)=t.size from by omega]at e;rw[e,List.take_of_length_le (by rw[List.length_drop,Us];omega)]
theorem Zgd(t:ByteArray)(a n:Nat)(h:a+n≤t.size):t.extract a (a+n)=strOfNums (((bL t).drop a).take n):=by
 rw[←Zlc t a n h,str_bL]
theorem tkName(t:ByteArray)(w:World)(hs:t.size≤140737488355328)(h0:0<t.size)(hd:gB t 0=34) :
  Calls Φ 140 #[Ψ t] w fun e w'=>e=η (Uc t)∧Below w.heap.size w w':=by
 have hb:=Zpb t h0
 have hk:Yh (bL t)=if tw (Xh 34) ((bL t).drop 1)=((bL t).drop 1).length∨Zce (strOfNums (((bL t).drop 1).take (tw (Xh 34) ((bL t).drop 1))))=false then(-3,0,0,0)else(3,1,tw (Xh 34) ((bL t).drop 1)+1,tw (Xh 34) ((bL t).drop 1)+2):=by
  conv=>lhs;rw[hb]
  rw[Ja,hd,if_neg (by decide),if_neg (by decide),if_neg (by decide),if_pos (show((34:Nat):Int)=34 from rfl)]
 have hr:=bL_rest t 1 h0;have hz:(t.extract 1 t.size).size=t.size - 1:=size_extract t 1 t.size (Θ _);have hrl:((bL t).drop 1).length=t.size - 1:=by rw[List.length_drop,Us]
 have hle:=Zhw (Xh 34) ((bL t).drop 1);have hstr:=fun n h=>Zgd t 1 n h
 have c1:∀ w:World,Calls Φ 157 #[Ψ (t.extract 1 t.size),.int .u8 34] w fun e w'=>e=η (I J (if tw (Xh 34) ((bL t).drop 1)=((bL t).drop 1).length then -1 else(tw (Xh 34) ((bL t).drop 1):Int)))∧w=w':=fun w=>by
  have h:=IndexByte_any (t.extract 1 t.size) 34 (by decide) w;rw[hr]at h;exact h
 have hcut:∀ n,1+n≤t.size→(t.extract 1 t.size).extract 0 n=t.extract 1 (1+n):=by
  intro n hn;have:=Zeb t 1 (1+n) (by omega) hn;rw[this];congr 1;omega
 obtain⟨n,hn⟩:∃ n,tw (Xh 34) ((bL t).drop 1)=n:=⟨_,rfl⟩
 rw[hn]at hk hle c1;rw[hrl]at hk hle c1;have l1:(1:Int)≤(t.size:Int):=by omega
 by_cases he:n=t.size - 1
 ·rw[if_pos he]at c1
  have hv:Uc t=Vr 0 ⟨#[]⟩ 0 0 10:=by
    have hk':Yh (bL t)=(-3,0,0,0):=by rw[hk,if_pos (Or.inl he)]
    unfold Uc;rw[hk'];rfl
  have HV:=Hh hv;clear hv hk he hn hle hrl hstr hcut hr hb hd;have HZ:=Hh hz;clear hz;go_enter Tryz.func140,Tryz.ntmps140;go_wp2_with(go_at_call 157;refine(c1 _).mono ?_;rintro e w2 ⟨rfl,rfl⟩)
  refine bodyPost_ret (v:=Vr 0 ⟨#[]⟩ 0 0 10) (by simp[results,Tryz.results140,go_sem,Vr]) rfl ⟨by rw[HV.out],?_⟩;exact(Below.refl _ _).alloc (Θ _) _
 ·rw[if_neg he]at c1
  have hlt:1+n<t.size:=by omega
  have hx:=hcut n (by omega);have c2:=fun w=>Name_any ((t.extract 1 t.size).extract 0 n) w (by rw[hx,size_extract t 1 (1+n) (by omega)];omega)
  have hx2:=hstr n (by omega);cases hnm:Zce ((t.extract 1 t.size).extract 0 n)with
  |false=>
    rw[hnm]at c2
    have hv:Uc t=Vr 0 ⟨#[]⟩ 0 0 10:=by
     have hk':Yh (bL t)=(-3,0,0,0):=by rw[hk,if_pos (Or.inr (by rw[←hx2,←hx];exact hnm))]
     unfold Uc;rw[hk'];rfl
    have HV:=Hh hv;have HZ:=Hh hz;have l2:(n:Int)≤(t.size:Int) - 1:=by omega
    have l4:n≤(t.extract 1 t.size).size:=by omega
    clear hv hk he hn hle hrl hstr hcut hr hb hd hx hx2 hnm hz;go_enter Tryz.func140,Tryz.ntmps140;go_wp2_with(first
 |(go_at_call 157;refine(c1 _).mono ?_;rintro e w2 ⟨rfl,rfl⟩)
 |(go_at_call 158;refine(c2 _).mono ?_;rintro e w2 ⟨rfl,b2⟩;have hW:=(Zi.made w 54 #[I J 0,Ψ ⟨#[]⟩,I J 0,I J 0,I J 0]).below b2 (by simp);obtain⟨k0,k1,k2,k3,k4,f0,f1,f2,f3,f4⟩:=Zah hW;have HW:=Hh hW;have HB:=Hh (Wg ((Below.refl w.heap.size w).alloc (Θ _) _) b2);clear hW b2))
    have hF:=Zaw (Zi.set5 HW.out (I J 0) (Ψ ⟨#[]⟩) (I J 0) (I J 0) (I J 0));refine bodyPost_ret (v:=Vr 0 ⟨#[]⟩ 0 0 10) (by simp[results,Tryz.results140,go_sem,Vr,hF]) rfl ⟨by rw[HV.out],?_⟩;exact Below.set5 HB.out (Θ _) _ _ _ _ _
  |true=>
    rw[hnm]at c2
    have hv:Uc t=Vr 3 ((t.extract 1 t.size).extract 0 n) 0 (n+2) 0:=by
     have hk':Yh (bL t)=(3,1,n+1,n+2):=by rw[hk,if_neg (by rw[←hx2,←hx,hnm];simp;omega)]
     unfold Uc;rw[hk',hx];show Vr 3 (t.extract 1 (n+1)) 0 _ 0=_;rw[Nat.add_comm n 1];rfl
    have HV:=Hh hv;have HZ:=Hh hz;have l2:(n:Int)≤(t.size:Int) - 1:=by omega
    have l4:n≤(t.extract 1 t.size).size:=by omega
    clear hv hk he hn hle hrl hstr hcut hr hb hd hx hx2 hnm hz;go_enter Tryz.func140,Tryz.ntmps140;go_wp2_with(first
 |(go_at_call 157;refine(c1 _).mono ?_;rintro e w2 ⟨rfl,rfl⟩)
 |(go_at_call 158;refine(c2 _).mono ?_;rintro e w2 ⟨rfl,b2⟩;have hW:=(Zi.made w 54 #[I J 0,Ψ ⟨#[]⟩,I J 0,I J 0,I J 0]).below b2 (by simp);obtain⟨k0,k1,k2,k3,k4,f0,f1,f2,f3,f4⟩:=Zah hW;have HW:=Hh hW;have HB:=Hh (Wg ((Below.refl w.heap.size w).alloc (Θ _) _) b2);clear hW b2))
    have hF:=Zaw (Zi.set5 HW.out (I J 3) (Ψ ((t.extract 1 t.size).extract 0 n)) (I J 0) (I J 0) (I J 0));refine bodyPost_ret (v:=Vr 3 ((t.extract 1 t.size).extract 0 n) 0 (n+2) 0) (by simp[results,Tryz.results140,go_sem,Vr,hF]) rfl ⟨by rw[HV.out],?_⟩;exact Below.set5 HB.out (Θ _) _ _ _ _ _
structure Zy(S:Nat→Prop)(w w':World):Prop where
 os:w'.os=w.os
 tape:w'.tape=w.tape
 output:w'.output=w.output
 size:w.heap.size≤w'.heap.size
 block:∀ k,k<w.heap.size→¬ S k→w'.heap[k]?=w.heap[k]?
theorem Zy.refl(S:Nat→Prop)(w:World):Zy S w w:=⟨rfl,rfl,rfl,Θ _,fun _ _ _=>rfl⟩
theorem Zy.trans{S:Nat→Prop}{a b c:World}(h:Zy S a b)(k:Zy S b c):Zy S a c:=
 ⟨k.os.trans h.os,k.tape.trans h.tape,k.output.trans h.output,Ξ h.size k.size,fun i hi hn=>(k.block i (Nat.lt_of_lt_of_le hi h.size) hn).trans (h.block i hi hn)⟩
theorem Zy.mono{S T:Nat→Prop}{a b:World}(h:Zy S a b)(hs:∀ k,S k→T k):Zy T a b:=⟨h.os,h.tape,h.output,h.size,fun k hk hn=>h.block k hk fun c=>hn (hs k c)⟩
theorem Zy.of_below{S:Nat→Prop}{a b:World}(h:Below a.heap.size a b):Zy S a b:=⟨h.os,h.tape,h.output,h.size,fun k hk _=>h.block k hk⟩
theorem Zy.below{S:Nat→Prop}{a b:World}(h:Zy S a b){B:Nat}(hB:B≤a.heap.size)(hs:∀ k,S k→B≤k):Below B a b:=
 ⟨h.os,h.tape,h.output,h.size,fun k hk=>h.block k (by omega) fun c=>by have:=hs k c;omega⟩
theorem Zy.setCell{S:Nat→Prop}{a b:World}(h:Zy S a b){p:Addr}(hp:S p.block)(u:Value):Zy S a (b.setCell p u):=
 h.trans ⟨rfl,rfl,rfl,by simp[World.setCell],fun k _ hn=>Below.heap_setCell _ _ _ _ (fun c=>hn (c ▸ hp))⟩
theorem Zy.alloc{S:Nat→Prop}{a b:World}(h:Zy S a b)(o:Obj):Zy S a (b.alloc o):=
 h.trans ⟨rfl,rfl,rfl,by simp,fun k hk _=>Below.heap_alloc _ _ _ hk⟩
theorem Zy.drew{S:Nat→Prop}{a b:World}(h:Zy S a b):Zy S a b.drew:=⟨h.os,h.tape,h.output,h.size,h.block⟩
theorem Zy.grown{S:Nat→Prop}{a b c:World}(h:Zy S a b){row:Option Nat}(hg:b.grownBy c row)(hr:∀ k,row=some k→S k):Zy S a c:=
 h.trans ⟨hg.os,hg.tape,hg.output,hg.size,fun k hk hn=>hg.block k hk fun c=>hn (hr k c.symm)⟩
theorem Zy.whole{S:Nat→Prop}{a b:World}(h:Zy S a b){g:Nat}{t:TypeId}{cs:Array Value}(hw:Zi a g t cs)(hg:¬ S g):Zi b g t cs:=by
 unfold Zi;rw[h.block g hw.inside hg];exact hw
theorem Zy.owns{S:Nat→Prop}{a b:World}(h:Zy S a b){base:Nat}{e:TypeId}{size:Nat}{v:Value}{n:Nat}{xs:List Value}(ho:a.ownsRow base e size v n xs)(hv:∀ k,v.ownBlock=some k→¬ S k):b.ownsRow base e size v n xs:=by
 obtain⟨h1,h2⟩:=id ho;refine⟨h1,?_⟩;rcases h2 with h2 | ⟨g,cap,cur,rfl,hg,hh,r⟩
 ·exact .inl h2
 ·refine .inr ⟨g,cap,cur,rfl,hg,?_,r⟩
  rw[h.block g (ho.lt g rfl).2 (hv g rfl)];exact hh
theorem Zad{w w':World}{row:Option Nat}(hg:w.grownBy w' row){g:Nat}{t:TypeId}{cs:Array Value}(hw:Zi w g t cs)(hn:row≠some g):Zi w' g t cs:=by
 unfold Zi;rw[hg.block g hw.inside (fun c=>hn c.symm)];exact hw
theorem Jo{w:World}{base:Nat}{e:TypeId}{size:Nat}{v:Value}{n:Nat}{xs:List Value}(h:w.ownsRow base e size v n xs){p:Addr}(hp:v.ownBlock≠some p.block)(u:Value):(w.setCell p u).ownsRow base e size v n xs:=
 (Zy.setCell (S:=fun k=>k=p.block) (Zy.refl _ w) rfl u).owns h fun k hk c=>hp (by rw[hk,c])
theorem firstV_form(t:ByteArray):∃ k x n z e,Uc t=Vr k x n z e:=by
 unfold Uc;split
 ·exact⟨_,_,_,_,_,rfl⟩
 ·exact⟨_,_,_,_,_,rfl⟩
theorem tkFirst(t:ByteArray)(w:World)(hs:t.size≤140737488355328)(h35:0<t.size→gB t 0≠35) :
  Calls Φ 105 #[Ψ t] w fun e w'=>e=η (Uc t)∧Below w.heap.size w w':=by
 by_cases h0:0<t.size
 ·have hne:t.toList.isEmpty=false:=by
    rw[ByteArray.toList_eq,List.isEmpty_eq_false_iff,ne_eq,←List.length_eq_zero_iff];show ¬ t.data.size=0;exact Nat.ne_of_gt h0
  have hne2:(!t.toList.isEmpty)=true:=by rw[hne];rfl
  have c0:∀ w,Calls Φ 135 #[Ψ t,I J 0] w fun e w'=>e=η (.tuple #[.int .i32 (Utf8.decode t 0).1,I J (Utf8.decode t 0).2])∧Below w.heap.size w w':=fun w=>At_in t 0 w hs h0
  have c1:=fun w=>Zne ((Utf8.decode t 0).1:Int) w
  have c2:=fun w=>Digit_any ((Utf8.decode t 0).1:Int) w
  have c3:=Zoz t 0 34 (by omega) (by omega);rw[small_dec]at c1;rw[digit_dec]at c2;obtain⟨k,x,n,z,e,hv⟩:=firstV_form t;have h35':=h35 h0;cases hsm:Zaq (gB t 0:Int)with
  |true=>
    have d1:=fun w=>tkWord t w hs h0 hsm
    rw[hsm]at c1;rw[hv]at d1 ⊢;have HV:=Hh hv;simp only[Vr]at d1;clear hv hsm c3;go_enter Tryz.func105,Tryz.ntmps105;go_wp2_with(first
 |(go_at_call 135;refine(c0 _).mono ?_;rintro e w1 ⟨rfl,b1⟩;have b1':=Wg ((Below.refl w.heap.size w).alloc (Θ _) _) b1;have W1:=Hh ((Zi.made w 54 #[I J 0,Ψ ⟨#[]⟩,I J 0,I J 0,I J 0]).below b1 (by simp));clear b1)
 |(go_at_call 136;refine(c1 _).mono ?_;rintro e w2 ⟨rfl,rfl⟩)
 |(go_at_call 138;refine(c2 _).mono ?_;rintro e w2 ⟨rfl,rfl⟩)
 |(go_at_call 137;refine(d1 _).mono ?_;rintro e w2 ⟨rfl,b2⟩;have HB:=Hh (Wg b1' b2);have HW:=Hh (W1.out.below b2 W1.out.inside);obtain⟨k0,k1,k2,k3,k4,f0,f1,f2,f3,f4⟩:=Zah HW.out;clear b2 b1'))
    have hF:=Zaw (Zi.set5 HW.out (I J k) (Ψ x) (I J n) (I J 0) (I J 0));refine bodyPost_ret (v:=Vr k x n z e) (by simp[results,Tryz.results105,go_sem,Vr,hF]) rfl ⟨rfl,?_⟩;exact Below.set5 HB.out (Θ _) _ _ _ _ _
  |false=>
    cases hdg:isD (gB t 0:Int)with
    |true=>
     have d1:=fun w=>tkNumber t w hs h0 hdg
     rw[hsm]at c1;rw[hdg]at c2;rw[hv]at d1 ⊢;have HV:=Hh hv;simp only[Vr]at d1;clear hv hsm hdg c3;go_enter Tryz.func105,Tryz.ntmps105;go_wp2_with(first
 |(go_at_call 135;refine(c0 _).mono ?_;rintro e w1 ⟨rfl,b1⟩;have b1':=Wg ((Below.refl w.heap.size w).alloc (Θ _) _) b1;have W1:=Hh ((Zi.made w 54 #[I J 0,Ψ ⟨#[]⟩,I J 0,I J 0,I J 0]).below b1 (by simp));clear b1)
 |(go_at_call 136;refine(c1 _).mono ?_;rintro e w2 ⟨rfl,rfl⟩)
 |(go_at_call 138;refine(c2 _).mono ?_;rintro e w2 ⟨rfl,rfl⟩)
 |(go_at_call 139;refine(d1 _).mono ?_;rintro e w2 ⟨rfl,b2⟩;have HB:=Hh (Wg b1' b2);have HW:=Hh (W1.out.below b2 W1.out.inside);obtain⟨k0,k1,k2,k3,k4,f0,f1,f2,f3,f4⟩:=Zah HW.out;clear b2 b1'))
     have hF:=Zaw (Zi.set5 HW.out (I J k) (Ψ x) (I J n) (I J 0) (I J 0));refine bodyPost_ret (v:=Vr k x n z e) (by simp[results,Tryz.results105,go_sem,Vr,hF]) rfl ⟨rfl,?_⟩;exact Below.set5 HB.out (Θ _) _ _ _ _ _
    |false=>
     by_cases hq:gB t 0=34
     ·have q1:(((Utf8.decode t 0).1:Int) == 34)=true:=by rw[c3];simp[hq]
      have d1:=fun w=>tkName t w hs h0 hq
      rw[hsm]at c1;rw[hdg]at c2;rw[hv]at d1 ⊢;have HV:=Hh hv;simp only[Vr]at d1;clear hv hsm hdg c3 hq;go_enter Tryz.func105,Tryz.ntmps105;go_wp2_with(first
 |(go_at_call 135;refine(c0 _).mono ?_;rintro e w1 ⟨rfl,b1⟩;have b1':=Wg ((Below.refl w.heap.size w).alloc (Θ _) _) b1;have W1:=Hh ((Zi.made w 54 #[I J 0,Ψ ⟨#[]⟩,I J 0,I J 0,I J 0]).below b1 (by simp));clear b1)
 |(go_at_call 136;refine(c1 _).mono ?_;rintro e w2 ⟨rfl,rfl⟩)
 |(go_at_call 138;refine(c2 _).mono ?_;rintro e w2 ⟨rfl,rfl⟩)
 |(go_at_call 140;refine(d1 _).mono ?_;rintro e w2 ⟨rfl,b2⟩;have HB:=Hh (Wg b1' b2);have HW:=Hh (W1.out.below b2 W1.out.inside);obtain⟨k0,k1,k2,k3,k4,f0,f1,f2,f3,f4⟩:=Zah HW.out;clear b2 b1'))
      have hF:=Zaw (Zi.set5 HW.out (I J k) (Ψ x) (I J n) (I J 0) (I J 0));refine bodyPost_ret (v:=Vr k x n z e) (by simp[results,Tryz.results105,go_sem,Vr,hF]) rfl ⟨rfl,?_⟩;exact Below.set5 HB.out (Θ _) _ _ _ _ _
     ·have q1:(((Utf8.decode t 0).1:Int) == 34)=false:=by rw[c3];simp;omega
      have d1:=fun w=>tkMark t w hs h0 hsm hdg h35' hq
      rw[hsm]at c1;rw[hdg]at c2;rw[hv]at d1 ⊢;have HV:=Hh hv;simp only[Vr]at d1;clear hv hsm hdg c3 hq;go_enter Tryz.func105,Tryz.ntmps105;go_wp2_with(first
 |(go_at_call 135;refine(c0 _).mono ?_;rintro e w1 ⟨rfl,b1⟩;have b1':=Wg ((Below.refl w.heap.size w).alloc (Θ _) _) b1;have W1:=Hh ((Zi.made w 54 #[I J 0,Ψ ⟨#[]⟩,I J 0,I J 0,I J 0]).below b1 (by simp));clear b1)
 |(go_at_call 136;refine(c1 _).mono ?_;rintro e w2 ⟨rfl,rfl⟩)
 |(go_at_call 138;refine(c2 _).mono ?_;rintro e w2 ⟨rfl,rfl⟩)
 |(go_at_call 141;refine(d1 _).mono ?_;rintro e w2 ⟨rfl,b2⟩;have HB:=Hh (Wg b1' b2);have HW:=Hh (W1.out.below b2 W1.out.inside);obtain⟨k0,k1,k2,k3,k4,f0,f1,f2,f3,f4⟩:=Zah HW.out;clear b2 b1'))
      have hF:=Zaw (Zi.set5 HW.out (I J k) (Ψ x) (I J n) (I J 0) (I J 0));refine bodyPost_ret (v:=Vr k x n z e) (by simp[results,Tryz.results105,go_sem,Vr,hF]) rfl ⟨rfl,?_⟩;exact Below.set5 HB.out (Θ _) _ _ _ _ _
 ·have he:t=⟨#[]⟩:=by
    apply ByteArray.ext;apply Array.eq_empty_of_size_eq_zero;have:t.data.size=t.size:=rfl;omega
  subst he;have hv:Uc ⟨#[]⟩=Vr 0 ⟨#[]⟩ 0 0 0:=by kernel_rfl
  have HV:=Hh hv;clear hv h35;go_enter Tryz.func105,Tryz.ntmps105;go_wp2
  refine bodyPost_ret (v:=Vr 0 ⟨#[]⟩ 0 0 0) (by simp[results,Tryz.results105,go_sem,Vr]) rfl ⟨by rw[HV.out],?_⟩;exact(Below.refl _ _).alloc (Θ _) _
theorem gap_skip(t:ByteArray):∀(k pos:Nat),pos+k≤t.size→(∀ j,j<k→gB t (pos+j)≠10)→Zbx (Zl t pos) true=k+Zbx (Zl t (pos+k)) true
 |0,pos,_,_=>by simp
 |k+1,pos,h,hb=>by
  have h0:=hb 0 (by omega);rw[Nat.add_zero]at h0;rw[Yz t (show pos<t.size by omega)];simp only[Zbx];rw[(Zbk 10 _).2 (by omega),gap_skip t k (pos+1) (by omega) (fun j hj=>by have:=hb (j+1) (by omega);rwa [show pos+1+j=pos+(j+1)from by omega]),show pos+1+k=pos+(k+1)from by omega];omega
theorem gap_in(t:ByteArray)(pos:Nat)(h:pos<t.size):Zbx (Zl t pos) true=(Utf8.decode t pos).2+Zbx (Zl t (pos+(Utf8.decode t pos).2)) (((Utf8.decode t pos).1:Int) != 10):=by
 have hd:=Zby t pos h;by_cases h1:(Utf8.decode t pos).2=1
 ·have e:(((Utf8.decode t pos).1:Int) != 10)=Xh 10 (gB t pos:Int):=by
   unfold bne;rw[Zoz t pos 10 (by omega) (by omega)];unfold Xh;congr 1
  rw[e,h1,Yz t h];rfl
 ·have hall:∀ j,j<(Utf8.decode t pos).2→gB t (pos+j)≠10:=by
   intro j hj;by_cases hj0:j=0
   ·subst hj0
    rw[Nat.add_zero];intro hc;rw[Ve t pos (by omega)]at h1;exact h1 rfl
   ·have:=dec_cont t pos j h (by omega) hj
    omega
  have e:(((Utf8.decode t pos).1:Int) != 10)=true:=by
   unfold bne;rw[Zoz t pos 10 (by omega) (by omega)];have:=hall 0 (by omega);rw[Nat.add_zero]at this;simp;omega
  rw[e];exact gap_skip t _ pos hd.2.1 hall
theorem gap_hash(t:ByteArray)(pos:Nat)(h:pos<t.size)(h35:gB t pos=35):Zbx (Zl t pos) false=(Utf8.decode t pos).2+Zbx (Zl t (pos+(Utf8.decode t pos).2)) true:=by
 rw[Ve t pos (by omega),Yz t h,h35];simp only[Zbx];rw[if_pos (show((35:Nat):Int)=35 from rfl)]
theorem gap_blank(t:ByteArray)(pos:Nat)(h:pos<t.size)(h35:gB t pos≠35)(hb:Zgq (gB t pos:Int)=true):Zbx (Zl t pos) false=(Utf8.decode t pos).2+Zbx (Zl t (pos+(Utf8.decode t pos).2)) false:=by
 have:gB t pos<128:=by rw[Zem]at hb;omega
 rw[Ve t pos this,Yz t h];simp only[Zbx];rw[if_neg (by omega),if_pos hb]
theorem gap_stop(t:ByteArray)(pos:Nat)(h:pos<t.size)(h35:gB t pos≠35)(hb:Zgq (gB t pos:Int)=false):Zbx (Zl t pos) false=0:=by
 rw[Yz t h];simp only[Zbx];rw[if_neg (by omega),if_neg (by rw[hb];simp)]
theorem tkGap(t:ByteArray)(w:World)(hs:t.size≤140737488355328):Calls Φ 104 #[Ψ t] w fun e w'=>e=η (I J (Zbx (Zl t 0) false:Nat))∧Below w.heap.size w w':=by
 generalize hG:Zbx (Zl t 0) false=G;have HG:=Hh hG;clear hG;go_enter Tryz.func104,Tryz.ntmps104;go_wp2
 go_loopw [3] (fun c wr=>∃(pos:Nat)(b:Bool),c=.bool b∧wr=w.iter t pos∧pos≤t.size∧pos+Zbx (Zl t pos) b=G) (fun _ wr=>t.size - wr.iterPos w.heap.size)
 case atStart=>exact⟨0,false,rfl,rfl,by omega,by rw[Nat.zero_add];exact HG.out⟩
 case round=>
  obtain⟨pos,b,rfl,rfl,hps,he⟩:=hrel;have HE:=Hh he;clear he;by_cases hp:pos<t.size
  ·have hnx:∀ ty,(Instr.next (Ω (some ⟨w.heap.size,0,none⟩)) true ty).run Φ (w.iter t pos)=_:=fun ty=>run_next_any w t pos ty hp
   have hd:=Zby t pos hp;obtain⟨d1,d2,d3,d4⟩:=hd;have c1:=fun w=>Blank_any ((Utf8.decode t pos).1:Int) w
   rw[blank_dec]at c1;have q35:=Zoz t pos 35 (by omega) (by omega);cases b with
   |true=>
    have hg:=gap_in t pos hp;have HX:=Hh hg;clear hg q35 c1;go_wp2
    go_roundw
    case rel=>exact⟨pos+(Utf8.decode t pos).2,_,rfl,rfl,d2,by have:=HX.out;have:=HE.out;omega⟩
    case measure=>simp;omega
   |false=>
    by_cases h35:gB t pos=35
    ·have hq:(((Utf8.decode t pos).1:Int) == 35)=true:=by rw[q35];simp[h35]
     have hg:=gap_hash t pos hp h35;have HX:=Hh hg;clear hg q35 h35;go_wp2_with(go_at_call 134;refine(c1 _).mono ?_;rintro e w1 ⟨rfl,rfl⟩)
     go_roundw
     case rel=>exact⟨pos+(Utf8.decode t pos).2,true,rfl,rfl,d2,by have:=HX.out;have:=HE.out;omega⟩
     case measure=>simp;omega
    ·have hq:(((Utf8.decode t pos).1:Int) == 35)=false:=by rw[q35];simp;omega
     cases hbl:Zgq (gB t pos:Int)with
     |true=>
      have hg:=gap_blank t pos hp h35 hbl;have HX:=Hh hg;rw[hbl]at c1;clear hg q35 h35 hbl;go_wp2_with(go_at_call 134;refine(c1 _).mono ?_;rintro e w1 ⟨rfl,rfl⟩)
      go_roundw
      case rel=>exact⟨pos+(Utf8.decode t pos).2,false,rfl,rfl,d2,by have:=HX.out;have:=HE.out;omega⟩
      case measure=>simp;omega
     |false=>
      have hg:=gap_stop t pos hp h35 hbl;have HX:=Hh hg;rw[hbl]at c1;clear hg q35 h35 hbl;go_wp2_with(go_at_call 134;refine(c1 _).mono ?_;rintro e w1 ⟨rfl,rfl⟩)
      go_ret;exact⟨rI (by have:=HX.out;have:=HE.out;omega),(Below.refl _ _).alloc (Θ _) _⟩
  ·have hnx:∀ ty,(Instr.next (Ω (some ⟨w.heap.size,0,none⟩)) true ty).run Φ (w.iter t pos)=_:=fun ty=>run_next_end w t pos ty hp
   have hz:t.size=G:=by
    have:=HE.out;rw[Zav t (by omega)]at this;cases b<;>(simp only[Zbx]at this;omega)
   have HZ:=Hh hz;clear hz;go_wp2
   go_ret;exact⟨rI (by have:=HZ.out;omega),(Below.refl _ _).alloc (Θ _) _⟩
def PassPost(X:Nat)(r:ByteArray)(p:Nat×Nat)(n:Nat)(w:World)(e:Ending)(w':World):Prop:=
 e=η (.tuple #[])∧Zi w' X 171 #[Ψ (r.extract n r.size),I J ((adv p (Zt (r.extract 0 n) n)).1:Nat),I J ((adv p (Zt (r.extract 0 n) n)).2:Nat)]∧Zy (fun b=>b=X) w w'
theorem tkPass(X:Nat)(r:ByteArray)(p:Nat×Nat)(n:Nat)(w:World)(hr:r.size≤140737488355328)(hn:n≤r.size)(p1:p.1≤140737488355328)(p2:p.2≤140737488355328)
  (hW:Zi w X 171 #[Ψ r,I J (p.1:Nat),I J (p.2:Nat)]) :
  Calls Φ 103 #[Ω (some ⟨X,0,none⟩),I J (n:Int)] w (PassPost X r p n w):=by
 have hz:=size_extract r 0 n hn;have hpb:=Zdx (r.extract 0 n) n;have c1:=fun w=>Place_any (r.extract 0 n) (n:Int) w (by omega)
 have hq3:1≤((Zt (r.extract 0 n) (n:Int)).2:Int):=by
  have e:=(place_pos (r.extract 0 n) (Bd.end_ _)).2;rw[hz,Nat.sub_zero]at e;omega
 generalize hq:Zt (r.extract 0 n) (n:Int)=q at *;have HQ:=Hh hq;rw[hz]at hpb;obtain⟨hq1,hq2⟩:=hpb;have l1:(n:Int)≤(r.size:Int):=by omega
 have k0:w.cell? ⟨X,0,none⟩=some (Ψ r):=hW.read 0;have HW:=Hh hW;clear hq hz hW;have hXi:=HW.out.inside;by_cases hl:1<(q.1:Int)
 ·have ha:adv p q=(p.1+q.1 - 1,q.2):=by unfold adv;rw[if_pos (by omega)]
  have HA:=Hh ha;clear ha;go_enter Tryz.func103,Tryz.ntmps103;go_wp2_with(go_at_call 133;refine(c1 _).mono ?_;rintro e w1 ⟨rfl,b1⟩;have W1:=Hh (HW.out.below b1 hXi);have B1:=Hh b1;have k0:=W1.out.read 0;have k1:=W1.out.read 1;have k2:=W1.out.read 2;have f0:=W1.out.thawed 0;have f1:=W1.out.thawed 1;have f2:=W1.out.thawed 2;clear b1)
  go_end0
  refine⟨rfl,?_,?_⟩
  ·rw[HQ.out,HA.out]
   dsimp only;rw[show((p.1+q.1 - 1:Nat):Int)=(p.1:Int)+((q.1:Int) - 1)from by omega];exact((W1.out.write 1 _).write 2 _).write 0 _
  ·refine Zy.setCell (Zy.setCell (Zy.setCell (Zy.of_below B1.out) ?_ _) ?_ _) ?_ _<;>rfl
 ·have ha:adv p q=(p.1,p.2+q.2 - 1):=by unfold adv;rw[if_neg (by omega)]
  have HA:=Hh ha;have hq2':1≤(q.2:Int):=hq3;clear ha;go_enter Tryz.func103,Tryz.ntmps103;go_wp2_with(go_at_call 133;refine(c1 _).mono ?_;rintro e w1 ⟨rfl,b1⟩;have W1:=Hh (HW.out.below b1 hXi);have B1:=Hh b1;have k0:=W1.out.read 0;have k1:=W1.out.read 1;have k2:=W1.out.read 2;have f0:=W1.out.thawed 0;have f1:=W1.out.thawed 1;have f2:=W1.out.thawed 2;clear b1)
  go_end0
  refine⟨rfl,?_,?_⟩
  ·rw[HQ.out,HA.out]
   dsimp only;rw[show((p.2+q.2 - 1:Nat):Int)=(p.2:Int)+((q.2:Int) - 1)from by omega];exact(W1.out.write 2 _).write 0 _
  ·refine Zy.setCell (Zy.setCell (Zy.of_below B1.out) ?_ _) ?_ _<;>rfl
theorem own_heap{w w':World}{base:Nat}{e:TypeId}{size:Nat}{v:Value}{n:Nat}{xs:List Value}(h:w.ownsRow base e size v n xs)(he:w'.heap=w.heap):w'.ownsRow base e size v n xs:=by
 unfold World.ownsRow at *;rw[he];exact h
structure Zdm(Y wr:World)(o:Obj):Prop where
 heap:Y.heap=(wr.alloc o).heap
 os:Y.os=wr.os
 tape:Y.tape=wr.tape
 output:Y.output=wr.output
theorem Zdm.keeps{S:Nat→Prop}{a Y wr:World}{o:Obj}(l:Zdm Y wr o)(h:Zy S a wr):Zy S a Y:=by
 have k:=h.alloc o;exact⟨l.os.trans h.os,l.tape.trans h.tape,l.output.trans h.output,by rw[l.heap];exact k.size,fun b h1 h2=>by rw[l.heap];exact k.block b h1 h2⟩
theorem Zdm.whole{Y wr:World}{o:Obj}(l:Zdm Y wr o){g:Nat}{t:TypeId}{cs:Array Value}(h:Zi wr g t cs):Zi Y g t cs:=by
 unfold Zi;rw[l.heap];exact h.alloc o
theorem Zdm.own{Y wr:World}{o:Obj}(l:Zdm Y wr o){base:Nat}{e:TypeId}{size:Nat}{v:Value}{n:Nat}{xs:List Value}(h:wr.ownsRow base e size v n xs):Y.ownsRow base e size v n xs:=own_heap (h.alloc o) l.heap
theorem Zdm.size{Y wr:World}{o:Obj}(l:Zdm Y wr o):Y.heap.size=wr.heap.size+1:=by rw[l.heap];simp
theorem Zdm.far{Y wr w3:World}{o:Obj}(l:Zdm Y wr o){row:Option Nat}(hg:Y.grownBy w3 row){p:Addr}(hp:p.block<wr.heap.size)(hn:some p.block≠row):w3.cell? p=wr.cell? p∧w3.frozen? p=wr.frozen? p:=by
 have h1:=hg.block p.block (by rw[l.size];omega) hn;have h2:Y.heap[p.block]?=wr.heap[p.block]?:=by rw[l.heap];exact Below.heap_alloc wr o p.block hp
 exact⟨World.cell?_of_block (h1.trans h2),World.frozen?_of_block (h1.trans h2)⟩
theorem Zy.drewN{S:Nat→Prop}{a b:World}(h:Zy S a b)(q:Nat):Zy S a (b.drewN q):=⟨h.os,h.tape,h.output,h.size,h.block⟩
theorem Zdm.ge{Y wr:World}{o:Obj}(l:Zdm Y wr o){n:Nat}(h:n≤wr.heap.size):n≤Y.heap.size:=by rw[l.size];omega
theorem Zdm.below{Y wr w:World}{o:Obj}(l:Zdm Y wr o){B:Nat}(h:Below B w wr)(hB:B≤wr.heap.size):Below B w Y:=
 ⟨l.os.trans h.os,l.tape.trans h.tape,l.output.trans h.output,by rw[l.size];have:=h.size;omega,fun k hk=>by rw[l.heap,Below.heap_alloc wr o k (by omega)];exact h.block k hk⟩
theorem Zdm.grown{Y wr w':World}{o:Obj}(l:Zdm Y wr o){row:Option Nat}(hg:Y.grownBy w' row):wr.grownBy w' row:=
 ⟨hg.os.trans l.os,hg.tape.trans l.tape,hg.output.trans l.output,Ξ (by rw[l.size];omega) hg.size,fun k hk hn=>(hg.block k (by rw[l.size];omega) hn).trans (by rw[l.heap];exact Below.heap_alloc wr o k hk)⟩
theorem Zi.drew{w:World}{g:Nat}{t:TypeId}{cs:Array Value}(h:Zi w g t cs):Zi w.drew g t cs:=h
theorem Zi.drewN{w:World}{g:Nat}{t:TypeId}{cs:Array Value}(h:Zi w g t cs)(n:Nat):Zi (w.drewN n) g t cs:=h
theorem Zih:Tryz.prog.underlying 47=some (.slice 54):=by kernel_rfl
theorem Ziw:(Tryz.prog.info? 54).map (fun i=>(i.zero,i.size,i.bytes))=some (some (.agg #[I J 0,Ψ ⟨#[]⟩,I J 0,I J 0,I J 0]),5,48):=by kernel_rfl
theorem Zcx{P:Program}{w Y:World}{ops:Array Oper}{rest:List Oper}{o:Oper}{a:Act}{Q:Exit→Act→World→Prop}(s x:Operand)(t e:TypeId)(bytes:Nat)(z:Value)
  (ht:P.underlying t=some (.slice e))(hinfo:(P.info? e).map (fun i=>(i.zero,i.size,i.bytes))=some (some z,5,bytes))(hzs:z.cells.size=5)(hby:bytes≤64)
  (hgd:o.guard=none)(ho:o.op=.call { callee:=.builtin .append,args:=#[s,x],argTypes:=#[t,t] })
  (base:Nat)(v:Value)(n:Nat)(xs:List Value)(c0 c1 c2 c3 c4:Value)(hs:a.eval s=v)(hown:w.ownsRow base e 5 v n xs)(g:Nat)(hgz:g=w.heap.size)(hx:a.eval x=Λ (some ⟨g,0,none⟩) 1 1)(h1:∀ u ∈ [c0,c1,c2,c3,c4],u.oneCell'=true)
  (hn:n≤1099511627776)(hbase:base≤w.heap.size)(l:Zdm Y w (.cells #[c0,c1,c2,c3,c4] e))
  (h:∀ v' w',w'.ownsRow base e 5 v' (n+1) (xs++[c0,c1,c2,c3,c4])→w.grownBy w' v.ownBlock→(v'.ownBlock=v.ownBlock∨v'.ownBlock=some (w.heap.size+1))→wpList P ops Q rest (a.put o.dst v') w') :
  wpList P ops Q (o::rest) a Y:=by
 subst hgz;obtain⟨i,hi,hz,hsize,hbytes⟩:=info_parts hinfo;have hwl:Zi Y w.heap.size e #[c0,c1,c2,c3,c4]:=by unfold Zi;rw[l.heap];exact Zi.made w e _
 refine wpList_append_own_at Y hgd s x t ho base e i z 5 bytes ht hi hz hsize hbytes hzs (by decide) v n xs hs (l.own hown) ⟨w.heap.size,0,none⟩ 1 1 [c0,c1,c2,c3,c4] hx rfl ?_ h1 (by unfold maxLen;omega) ?_ (by rw[l.size];omega) ?_
 ·intro j u hj
  have hr:=hwl.read j;have ha:(⟨w.heap.size,0,none⟩:Addr).add j=⟨w.heap.size,j,none⟩:=by simp[Addr.add];omega
  rw[ha,hr,←hj];simp
 ·have:(n+1)*bytes≤(n+1)*64:=Nat.mul_le_mul_left _ hby
  omega
 ·intro v' w' ho' hg _ hat
  refine h v' w' ho' (l.grown hg) ?_;rcases hat with e | e
  ·exact .inl e
  ·refine .inr (by rw[l.size]at e;exact e)
def Jd(L:List TokV):List Value:=L.flatMap TokV.cells
theorem tokCs_snoc(L:List TokV)(v:TokV):Jd (L++[v])=Jd L++v.cells:=by unfold Jd;simp
theorem Zjh(L:List TokV):(Jd L).length=L.length*5:=by
 induction L with
 |nil=>rfl
 |cons v L ih=>
  have:Jd (v::L)=v.cells++Jd L:=rfl;rw[this,List.length_append,ih,List.length_cons];have:v.cells.length=5:=rfl;omega
def Zbv(s:ByteArray):List TokV×Int×Nat×Nat:=
 if 65536<s.size then([],3,1,1)
 else if(Jp s 0 []).2.1=0 then((Jp s 0 []).1,0,0,0)else([],(Jp s 0 []).2.1,(Zt s ((Jp s 0 []).2.2:Nat)).1,(Zt s ((Jp s 0 []).2.2:Nat)).2)
def Zr(x:Int×Nat×Nat):Value:=.agg #[I J x.1,I J (x.2.1:Int),I J (x.2.2:Int)]
def ScanPost(s:ByteArray)(w:World)(e:Ending)(w':World):Prop:=
 ∃ v,e=η (.tuple #[v,Zr (Zbv s).2])∧w'.ownsRow w.heap.size 54 5 v (Zbv s).1.length (Jd (Zbv s).1)∧Below w.heap.size w w'
structure ScW(s:ByteArray)(w:World)(a:Nat)(acc:List TokV)(v:Value)(wr:World):Prop where
 two:Two w 29 #[I J 0,I J 0,I J 0] 171 #[Ψ (s.extract a s.size),I J ((Zt s (a:Int)).1:Nat),I J ((Zt s (a:Int)).2:Nat)] wr
 row:wr.ownsRow (w.heap.size+2) 54 5 v acc.length (Jd acc)
theorem ScW.lo{s:ByteArray}{w wr:World}{a:Nat}{acc:List TokV}{v:Value}(h:ScW s w a acc v wr):w.heap.size+2≤wr.heap.size:=h.two.k1.inside
theorem ScW.next{s:ByteArray}{w wr w':World}{a:Nat}{acc:List TokV}{v:Value}(h:ScW s w a acc v wr)(hb:Below wr.heap.size wr w'):ScW s w a acc v w':=
 ⟨h.two.next hb,Zfc h.row hb⟩
theorem adv_place(s:ByteArray){a b:Nat}(ha:Bd s a)(hb:Bd s b)(hab:a≤b) :
  adv (Zt s (a:Int)) (Zt ((s.extract a s.size).extract 0 (b - a)) ((b - a:Nat):Int))=Zt s (b:Int):=by
 have e:(s.extract a s.size).extract 0 (b - a)=s.extract a b:=(Zeb s a b hab hb.1).symm;rw[e];exact(place_pass ha hb hab).symm
theorem rest_rest(s:ByteArray){a b:Nat}(hab:a≤b)(hb:b≤s.size):(s.extract a s.size).extract (b - a) (s.extract a s.size).size=s.extract b s.size:=by
 rw[size_extract s a s.size (Θ _),ByteArray.extract_extract];congr 1<;>omega
theorem ScW.passed{s:ByteArray}{w wr w':World}{a b:Nat}{acc:List TokV}{v:Value}{e:Ending}(h:ScW s w a acc v wr)(ha:Bd s a)(hb:Bd s b)(hab:a≤b)
  (hp:PassPost (w.heap.size+1) (s.extract a s.size) (Zt s (a:Int)) (b - a) wr e w'):ScW s w b acc v w':=by
 obtain⟨_,hW,hk⟩:=hp;rw[adv_place s ha hb hab,rest_rest s hab hb.1]at hW;refine⟨⟨hk.whole h.two.k0 (by omega),hW,h.two.below.trans ?_⟩,hk.owns h.row fun k hkk=>?_⟩
 ·exact hk.below (Ξ (Nat.le_add_right _ 2) h.lo) (fun k hk=>by omega)
 ·have:=(h.row.lt k hkk).1
  omega
theorem ScW.push{s:ByteArray}{w wr W w':World}{a:Nat}{acc:List TokV}{v v':Value}(h:ScW s w a acc v wr)(hb:Below wr.heap.size wr W)(t:TokV)
  (ho:w'.ownsRow (w.heap.size+2) 54 5 v' (acc.length+1) (Jd acc++t.cells))(hg:W.grownBy w' v.ownBlock):ScW s w a (acc++[t]) v' w':=by
 have hW:=h.next hb;refine⟨⟨Zad hg hW.two.k0 ?_,Zad hg hW.two.k1 ?_,?_⟩,?_⟩
 ·intro c
  have:=(hW.row.lt _ c).1;omega
 ·intro c
  have:=(hW.row.lt _ c).1;omega
 ·exact Zhs hW.two.below hW.row hg (by omega) (Ξ (Nat.le_add_right _ 2) hW.lo)
 ·rw[tokCs_snoc,List.length_append]
  exact ho
def lenV:Value→Nat
 |Λ _ n _=>n
 |_=>0
theorem Zgi(s:ByteArray){L:List TokV}{e:Int}{p:Nat}(h64:s.size≤65536)(h:Jp s 0 []=(L,e,p)):Zbv s=if e=0 then(L,0,0,0)else([],e,(Zt s (p:Nat)).1,(Zt s (p:Nat)).2):=by
 unfold Zbv;rw[if_neg (by omega),h]
theorem first_at(s:ByteArray){a:Nat}(ha:a≤s.size):Uc (s.extract a s.size) =
  if(Yh (Zl s a)).1 < -1 then Vr 0 ⟨#[]⟩ 0 0 (Zjy (Yh (Zl s a)).1)
  else Vr (Yh (Zl s a)).1 (s.extract (a+(Yh (Zl s a)).2.1) (a+(Yh (Zl s a)).2.2.1)) (Zcs (Yh (Zl s a)).1 (Zl s a)) (Yh (Zl s a)).2.2.2 0:=by
 unfold Uc;rw[bL_rest s a ha]
 have hb:(Yh (Zl s a)).2.2.1≤s.size - a:=by
  by_cases hlt:a<s.size
  ·have:=Zhd (Zl s a) (Zfl s hlt)
   rw[Xo]at this;omega
  ·rw[Zav s (by omega)];simp[Yh]
 have e:(s.extract a s.size).extract (Yh (Zl s a)).2.1 (Yh (Zl s a)).2.2.1=s.extract (a+(Yh (Zl s a)).2.1) (a+(Yh (Zl s a)).2.2.1):=by
  rw[ByteArray.extract_extract];congr 1
  omega
 show(if(Yh (Zl s a)).1 < -1 then _ else Vr (Yh (Zl s a)).1 ((s.extract a s.size).extract (Yh (Zl s a)).2.1 (Yh (Zl s a)).2.2.1) _ _ 0)=_;rw[e];rfl
theorem tok_rem(s:ByteArray){a:Nat}(h:a<s.size):(Yh (Zl s a)).1 = -1→gB s a=35:=by
 rw[Yz s h];refine Zaj (gB s a) (Zl s (a+1)) (fun x=>x.1 = -1→gB s a=35) ?_ ?_ ?_ ?_ ?_ ?_ ?_ ?_
 ·intro _ hh;simp at hh
 ·intro _ _ _ hh;simp at hh
 ·intro _ _ hh;simp at hh
 ·intro hc _;omega
 ·intro _ _ _ hh;simp at hh
 ·intro _ _ hh;simp at hh
 ·intro _ _ _ _ _ hh;simp at hh
 ·intro _ _ _ _ _ hh;simp at hh
theorem errE_is(k:Int):Zjy k=12∨Zjy k=10∨Zjy k=6:=by
 unfold Zjy;split
 ·exact .inl rfl
 ·split
  ·exact .inr (.inl rfl)
  ·exact .inr (.inr rfl)
theorem Zku(s:ByteArray):Zt s ((0:Nat):Int)=(1,1):=by rw[Zdw (Zet.zero s)];rfl
theorem gB_rest(s:ByteArray){a:Nat}(ha:a<s.size):gB (s.extract a s.size) 0=gB s a:=by
 have:=Zfs s a s.size 0 (by omega) (Θ _);rwa [Nat.add_zero]at this
theorem rest_zero(s:ByteArray)(a:Nat)(ha:a≤s.size):Zl (s.extract a s.size) 0=Zl s a:=by
 unfold Zl;rw[bL_rest s a ha,List.drop_zero]
theorem tkScan(s:ByteArray)(w:World)(hs:s.size≤140737488355328):Calls Φ 75 #[Ψ s] w (ScanPost s w):=by
 by_cases h64:65536<s.size
 ·have hv:Zbv s=([],3,1,1):=by unfold Zbv;rw[if_pos h64]
  have HV:=Hh hv;clear hv;have l1:65536<(s.size:Int):=by omega
  go_enter Tryz.func75,Tryz.ntmps75;go_wp2
  refine bodyPost_ret (v:=.tuple #[Λ none 0 0,.agg #[I J 3,I J 1,I J 1]]) (by simp[results,Tryz.results75,go_sem]) rfl ⟨Λ none 0 0,by rw[HV.out];rfl,by rw[HV.out];exact⟨rfl,.inl ⟨rfl,rfl⟩⟩,?_⟩;exact(Below.refl _ _).alloc (Θ _) _
 ·have l1:(s.size:Int)≤65536:=by omega
  go_enter Tryz.func75,Tryz.ntmps75;go_wp2
  go_loopw [4] (fun v wr=>∃(a:Nat)(acc:List TokV),ScW s w a acc v wr∧Bd s a∧acc.length≤a∧Jp s a acc=Jp s 0 []) (fun v _=>s.size+1 - lenV v)
  case atStart=>
    refine⟨0,[],⟨?_,⟨rfl,.inl ⟨rfl,rfl⟩⟩⟩,Bd.zero s,Θ _,rfl⟩;have e:s.extract 0 s.size=s:=by simp
    rw[e,Zku];exact Two.start w _ _ _ _
  case round=>
    obtain⟨a,acc,hst,hbd,hac,hsc⟩:=hrel;obtain⟨A,cp,rfl,hnc,hcm,_⟩:=Yx hst.row;have hle:=gapE_le s hbd.1;obtain⟨hg1,hg2,hg3⟩:=Zot s s.size a (by omega) hbd.1 hbd;have hgv:Zfw s a=a+Zbx (Zl s a) false:=rfl
    have c1:∀ w,Calls Φ 104 #[Ψ (s.extract a s.size)] w fun e w'=>e=η (I J ((Zfw s a - a:Nat):Int))∧Below w.heap.size w w':=fun w=>by
     have h:=tkGap (s.extract a s.size) w (by rw[size_extract _ _ _ (Θ _)];omega);rw[rest_zero s a hbd.1,show Zbx (Zl s a) false=Zfw s a - a from by omega]at h;exact h
    have hgs:=hg1 acc;rw[hsc]at hgs;generalize Zfw s a=b at *
    have c2:=fun w=>tkFirst (s.extract b s.size) w (by rw[size_extract _ _ _ (Θ _)];omega) (fun h=>by
     rw[size_extract _ _ _ (Θ _)]at h;rw[gB_rest s (by omega)];exact(hg3 (by omega)).2)
    rw[first_at s hle.2]at c2;have p1:=Zdx s (a:Int);have p2:=Zdx s (b:Int);obtain⟨hle1,hle2⟩:=hle;obtain⟨p3,p4⟩:=p1;obtain⟨p5,p6⟩:=p2;have k0:wr.cell? ⟨w.heap.size+1,0,none⟩=some (Ψ (s.extract a s.size)):=hst.two.k1.read 0;have hrz:=size_extract s a s.size (Θ _);have HP:=Hh (ζ hbd (ζ hg2 (ζ hg3 hrz)));have HST:=Hh hst;have HGS:=Hh hgs;have HL:=Hh (ζ hac hnc);clear hst hgs hsc hg1 hgv hbd hg2 hg3 hrz hac hnc;by_cases hend:b=s.size
    ·have hx:s.extract b b=⟨#[]⟩:=by
      apply ByteArray.ext;apply Array.eq_empty_of_size_eq_zero;show(s.extract b b).size=0;rw[size_extract _ _ _ hle2];omega
     have hnil:=Zav s (show s.size≤b by omega)
     have hv:Zbv s=(acc++[Zoe s b],0,0,0):=by
      rw[Zgi s (by omega) (HGS.out.trans (Zms s acc (by omega))),if_pos rfl]
     have htc:(Zoe s b).cells=[I J 0,Ψ ⟨#[]⟩,I J 0,I J ((Zt s (b:Int)).1:Nat),I J ((Zt s (b:Int)).2:Nat)]:=rfl
     have c3:∀ w,Calls Φ 105 #[Ψ (s.extract b s.size)] w fun e w'=>e=η (Vr 0 ⟨#[]⟩ 0 0 0)∧Below w.heap.size w w':=fun w=>by
      have h:=c2 w;rw[hnil]at h;have e:(if(Yh []).1 < -1 then Vr 0 ⟨#[]⟩ 0 0 (Zjy (Yh []).1)else Vr (Yh []).1 (s.extract (b+(Yh []).2.1) (b+(Yh []).2.2.1)) (Zcs (Yh []).1 []) (Yh []).2.2.2 0)=Vr 0 (s.extract b b) 0 0 0:=rfl;rw[e,hx]at h;exact h
     simp only[Vr]at c3;have HV:=Hh hv;have HTC:=Hh htc;clear hx hnil hv htc c2 hend;go_wp2_with(first
 |(go_at_call 104;refine(c1 _).mono ?_;rintro e w1 ⟨rfl,b1⟩;have S1:=Hh (HST.out.next b1);clear b1)
 |(go_at_call 103;refine(tkPass (w.heap.size+1) (s.extract a s.size) (Zt s (a:Int)) (b - a) _ (by rw[HP.out.2.2.2];omega) (by rw[HP.out.2.2.2];omega) (by omega) (by omega) S1.out.two.k1).mono ?_;rintro e w2 q2;obtain rfl:=q2.1;have S2:=Hh (S1.out.passed HP.out.1 HP.out.2.1 hle1 q2);have k2:w2.cell? ⟨w.heap.size+1,0,none⟩=some (Ψ (s.extract b s.size)):=S2.out.two.k1.read 0;clear q2)
 |(go_at_call 105;refine(c3 _).mono ?_;rintro e w3 ⟨rfl,b3⟩;have S3:=Hh (S2.out.next b3);clear b3
   have x1:w3.cell? ⟨w.heap.size+1,1,none⟩=some (I J ((Zt s (b:Int)).1:Nat)):=S3.out.two.k1.read 1;have x2:w3.cell? ⟨w.heap.size+1,2,none⟩=some (I J ((Zt s (b:Int)).2:Nat)):=S3.out.two.k1.read 2;have y0:w3.cell? ⟨w.heap.size,0,none⟩=some (I J 0):=S3.out.two.k0.read 0;have y1:w3.cell? ⟨w.heap.size,1,none⟩=some (I J 0):=S3.out.two.k0.read 1;have y2:w3.cell? ⟨w.heap.size,2,none⟩=some (I J 0):=S3.out.two.k0.read 2;have z0:=S3.out.two.k0.thawed 0;have z1:=S3.out.two.k0.thawed 1;have z2:=S3.out.two.k0.thawed 2;have hlo:w.heap.size+1<w3.heap.size:=S3.out.lo
   have hlo0:w.heap.size<w3.heap.size:=Nat.lt_of_succ_lt hlo))
     go_region
     go_wp2_with(first
 |(at_builtin;refine Zcx (w:=w3.alloc (.cells #[I J 0,Ψ ⟨#[]⟩,I J 0,I J ((Zt s (b:Int)).1:Nat),I J ((Zt s (b:Int)).2:Nat)] 54)) (.tmp 40) (.tmp 42) 47 54 48 _ Zih Ziw (by rfl) (by decide) rfl rfl (w.heap.size+2) (Λ A acc.length cp) acc.length (Jd acc) _ _ _ _ _ rfl (S3.out.row.alloc _) (w3.heap.size+1) (by simp) rfl (by simp[Γ]) (by have:=HL.out;omega) (by simp;omega) ⟨rfl,rfl,rfl,rfl⟩ ?_
   intro v5 w5 o5 g5 at5;obtain⟨A5,cp5,rfl,_⟩:=Yx o5;have S5:=Hh (S3.out.push ((Below.refl _ _).alloc (Θ _) _) (Zoe s b) (by rw[HTC.out];exact o5) g5);have T5:=Hh (Zad g5 (Zi.made w3 54 #[I J 0,Ψ ⟨#[]⟩,I J 0,I J ((Zt s (b:Int)).1:Nat),I J ((Zt s (b:Int)).2:Nat)]) (fun c=>by have:=(S3.out.row.lt _ c).2;omega));have t0:w5.cell? ⟨w3.heap.size,0,none⟩=some (I J 0):=T5.out.read 0;have y0:w5.cell? ⟨w.heap.size,0,none⟩=some (I J 0):=S5.out.two.k0.read 0;have y1:w5.cell? ⟨w.heap.size,1,none⟩=some (I J 0):=S5.out.two.k0.read 1;have y2:w5.cell? ⟨w.heap.size,2,none⟩=some (I J 0):=S5.out.two.k0.read 2;have z0:=S5.out.two.k0.thawed 0;have z1:=S5.out.two.k0.thawed 1;have z2:=S5.out.two.k0.thawed 2
   clear o5 g5 at5))
     have hF:=((S5.out.two.k0.write 0 (I J 0)).write 1 (I J 0)).write 2 (I J 0);have hF3:=Zo hF;have hrow:=own_mono S5.out.row (show w.heap.size≤w.heap.size+2 by omega);rw[List.length_append]at hrow;refine bodyPost_ret (v:=.tuple #[Λ A5 (acc.length+1) cp5,.agg #[I J 0,I J 0,I J 0]]) (by simp[results,Tryz.results75,go_sem,hF3]) rfl ⟨Λ A5 (acc.length+1) cp5,by rw[HV.out];rfl,?_,?_⟩
     ·rw[HV.out]
      have hn:∀ k,(Value.slice A5 (acc.length+1) cp5).ownBlock=some k→k≠w.heap.size:=fun k hk c=>by have:=(S5.out.row.lt k hk).1;omega
      have hn0:(Value.slice A5 (acc.length+1) cp5).ownBlock≠some w.heap.size:=fun c=>hn _ c rfl
      exact Jo (Jo (Jo (by rw[List.length_append];exact hrow) hn0 _) hn0 _) hn0 _
     ·exact((S5.out.two.below.setCell (Θ _) _).setCell (Θ _) _).setCell (Θ _) _
    ·have hbl:=(HP.out.2.2.1 (by omega)).1
     have hkk:(Yh (Zl s b)).1 < -1∨0<(Yh (Zl s b)).1:=by
      have h1:=Zhd (Zl s b) (Zfl s (by omega));have h2:=tok_rem s (show b<s.size by omega);have h3:=(HP.out.2.2.1 (by omega)).2;omega
     rcases hkk with hk | hk
     ·simp only[if_pos hk,Vr]at c2
      have hE:Zjy (Yh (Zl s b)).1=12∨Zjy (Yh (Zl s b)).1=10∨Zjy (Yh (Zl s b)).1=6:=errE_is _
      have hv:Zbv s=([],Zjy (Yh (Zl s b)).1,(Zt s (b:Nat)).1,(Zt s (b:Nat)).2):=by
       rw[Zgi s (by omega) (HGS.out.trans (Zmr s acc (by omega) hbl hk)),if_neg (by omega)]
      generalize Zjy (Yh (Zl s b)).1=E at *;have hE0:(E == 0)=false:=by rw[beq_eq_false_iff_ne];omega
      have hE1:(E != 0)=true:=by simp;omega
      have HV:=Hh hv;clear hk hv hbl;go_wp2_with(first
 |(go_at_call 104;refine(c1 _).mono ?_;rintro e w1 ⟨rfl,b1⟩;have S1:=Hh (HST.out.next b1);clear b1)
 |(go_at_call 103;refine(tkPass (w.heap.size+1) (s.extract a s.size) (Zt s (a:Int)) (b - a) _ (by rw[HP.out.2.2.2];omega) (by rw[HP.out.2.2.2];omega) (by omega) (by omega) S1.out.two.k1).mono ?_;rintro e w2 q2;obtain rfl:=q2.1;have S2:=Hh (S1.out.passed HP.out.1 HP.out.2.1 hle1 q2);have k2:w2.cell? ⟨w.heap.size+1,0,none⟩=some (Ψ (s.extract b s.size)):=S2.out.two.k1.read 0;clear q2)
 |(go_at_call 105;refine(c2 _).mono ?_;rintro e w3 ⟨rfl,b3⟩;have S3:=Hh (S2.out.next b3);clear b3
   have x1:w3.cell? ⟨w.heap.size+1,1,none⟩=some (I J ((Zt s (b:Int)).1:Nat)):=S3.out.two.k1.read 1;have x2:w3.cell? ⟨w.heap.size+1,2,none⟩=some (I J ((Zt s (b:Int)).2:Nat)):=S3.out.two.k1.read 2;have y0:w3.cell? ⟨w.heap.size,0,none⟩=some (I J 0):=S3.out.two.k0.read 0;have y1:w3.cell? ⟨w.heap.size,1,none⟩=some (I J 0):=S3.out.two.k0.read 1;have y2:w3.cell? ⟨w.heap.size,2,none⟩=some (I J 0):=S3.out.two.k0.read 2;have z0:=S3.out.two.k0.thawed 0;have z1:=S3.out.two.k0.thawed 1;have z2:=S3.out.two.k0.thawed 2;have hlo:w.heap.size+1<w3.heap.size:=S3.out.lo
   have hlo0:w.heap.size<w3.heap.size:=Nat.lt_of_succ_lt hlo))
      go_region
      go_wp2
      have hF:=((((S3.out.two.k0.write 0 (I J E)).write 1 (I J ((Zt s (b:Int)).1:Nat))).write 2 (I J ((Zt s (b:Int)).2:Nat))).alloc (.cells #[I J 0,Ψ ⟨#[]⟩,I J 0,I J 0,I J 0] 54)).drew;have hF3:=Zo hF;refine bodyPost_ret (v:=.tuple #[Λ none 0 0,.agg #[I J E,I J ((Zt s (b:Int)).1:Nat),I J ((Zt s (b:Int)).2:Nat)]]) (by simp[results,Tryz.results75,go_sem,hF3]) rfl ⟨Λ none 0 0,by rw[HV.out];rfl,by rw[HV.out];exact⟨rfl,.inl ⟨rfl,rfl⟩⟩,?_⟩;exact Xv ((((S3.out.two.below.setCell (Θ _) _).setCell (Θ _) _).setCell (Θ _) _).alloc (by simp[World.setCell];omega) _)
     ·have hk1:¬(Yh (Zl s b)).1 < -1:=by omega
      simp only[if_neg hk1,Vr]at c2;have hsc:=HGS.out.trans (Zmp s acc (by omega) hbl hk);have hadv:=Zca s (show b<s.size by omega) (by omega : -1≤(Yh (Zl s b)).1);have hbd2:=tok_bd s (show b<s.size by omega) hk;have htc:(Zgh s b).cells=[I J (Yh (Zl s b)).1,Ψ (s.extract (b+(Yh (Zl s b)).2.1) (b+(Yh (Zl s b)).2.2.1)),I J (Zcs (Yh (Zl s b)).1 (Zl s b)),I J ((Zt s (b:Int)).1:Nat),I J ((Zt s (b:Int)).2:Nat)]:=rfl;generalize s.extract (b+(Yh (Zl s b)).2.1) (b+(Yh (Zl s b)).2.2.1)=X at *;generalize Zcs (Yh (Zl s b)).1 (Zl s b)=N at *;generalize(Yh (Zl s b)).2.2.2=Z at *;generalize(Yh (Zl s b)).1=K at *;have HSC:=Hh (ζ hsc (ζ hbd2 htc));obtain⟨hz1,hz2⟩:=hadv;have hK0:(K == 0)=false:=by rw[beq_eq_false_iff_ne];omega
      clear hsc hbd2 htc hbl hk hk1;go_wp2_with(first
 |(go_at_call 104;refine(c1 _).mono ?_;rintro e w1 ⟨rfl,b1⟩;have S1:=Hh (HST.out.next b1);clear b1)
 |(go_at_call 103;refine(tkPass (w.heap.size+1) (s.extract a s.size) (Zt s (a:Int)) (b - a) _ (by rw[HP.out.2.2.2];omega) (by rw[HP.out.2.2.2];omega) (by omega) (by omega) S1.out.two.k1).mono ?_;rintro e w2 q2;obtain rfl:=q2.1;have S2:=Hh (S1.out.passed HP.out.1 HP.out.2.1 hle1 q2);have k2:w2.cell? ⟨w.heap.size+1,0,none⟩=some (Ψ (s.extract b s.size)):=S2.out.two.k1.read 0;clear q2)
 |(go_at_call 105;refine(c2 _).mono ?_;rintro e w3 ⟨rfl,b3⟩;have S3:=Hh (S2.out.next b3);clear b3
   have x1:w3.cell? ⟨w.heap.size+1,1,none⟩=some (I J ((Zt s (b:Int)).1:Nat)):=S3.out.two.k1.read 1;have x2:w3.cell? ⟨w.heap.size+1,2,none⟩=some (I J ((Zt s (b:Int)).2:Nat)):=S3.out.two.k1.read 2;have y0:w3.cell? ⟨w.heap.size,0,none⟩=some (I J 0):=S3.out.two.k0.read 0;have y1:w3.cell? ⟨w.heap.size,1,none⟩=some (I J 0):=S3.out.two.k0.read 1;have y2:w3.cell? ⟨w.heap.size,2,none⟩=some (I J 0):=S3.out.two.k0.read 2;have z0:=S3.out.two.k0.thawed 0;have z1:=S3.out.two.k0.thawed 1;have z2:=S3.out.two.k0.thawed 2;have hlo:w.heap.size+1<w3.heap.size:=S3.out.lo
   have hlo0:w.heap.size<w3.heap.size:=Nat.lt_of_succ_lt hlo))
      go_region
      go_wp2_with(first
 |(at_builtin;refine Zcx (w:=w3.alloc (.cells #[I J K,Ψ X,I J N,I J ((Zt s (b:Int)).1:Nat),I J ((Zt s (b:Int)).2:Nat)] 54)) (.tmp 40) (.tmp 42) 47 54 48 _ Zih Ziw (by rfl) (by decide) rfl rfl (w.heap.size+2) (Λ A acc.length cp) acc.length (Jd acc) _ _ _ _ _ rfl (S3.out.row.alloc _) (w3.heap.size+1) (by simp) rfl (by simp[Γ]) (by have:=HL.out;omega) (by simp;omega) ⟨rfl,rfl,rfl,rfl⟩ ?_
   intro v5 w5 o5 g5 at5;obtain⟨A5,cp5,rfl,_⟩:=Yx o5;have S5:=Hh (S3.out.push ((Below.refl _ _).alloc (Θ _) _) (Zgh s b) (by rw[HSC.out.2.2];exact o5) g5);have T5:=Hh (Zad g5 (Zi.made w3 54 #[I J K,Ψ X,I J N,I J ((Zt s (b:Int)).1:Nat),I J ((Zt s (b:Int)).2:Nat)]) (fun c=>by have:=(S3.out.row.lt _ c).2;omega));have t0:w5.cell? ⟨w3.heap.size,0,none⟩=some (I J K):=T5.out.read 0;have y0:w5.cell? ⟨w.heap.size,0,none⟩=some (I J 0):=S5.out.two.k0.read 0;have y1:w5.cell? ⟨w.heap.size,1,none⟩=some (I J 0):=S5.out.two.k0.read 1;have y2:w5.cell? ⟨w.heap.size,2,none⟩=some (I J 0):=S5.out.two.k0.read 2;have z0:=S5.out.two.k0.thawed 0;have z1:=S5.out.two.k0.thawed 1;have z2:=S5.out.two.k0.thawed 2;clear o5 g5 at5)
 |(go_at_call 103;refine(tkPass (w.heap.size+1) (s.extract b s.size) (Zt s (b:Int)) Z _ (by rw[size_extract _ _ _ (Θ _)];omega) (by rw[size_extract _ _ _ (Θ _)];omega) (by omega) (by omega) S5.out.two.k1).mono ?_;rintro e w6 q6;obtain rfl:=q6.1;have S6:=Hh (S5.out.passed (b:=b+Z) HP.out.2.1 HSC.out.2.1 (by omega) (by rw[show b+Z - b=Z from by omega];exact q6));clear q6))
      go_roundw
      case rel=>exact⟨b+Z,acc++[Zgh s b],S6.out,HSC.out.2.1,by have:=HL.out;simp;omega,HSC.out.1.symm⟩
      case measure=>have:=HL.out;simp[lenV];omega
end Go.Proofs.YtbdecchpleiepaaGreat
