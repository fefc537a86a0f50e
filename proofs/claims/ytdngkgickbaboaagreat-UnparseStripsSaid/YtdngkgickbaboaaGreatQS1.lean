/-
  No conditions but those that each theorem names.
-/
import Derived.Test.YtdngkgickbaboaaGreatRows
import Derived.WalkKit
import Derived.ProofKit
import Derived.WalkLawsBesides
import Derived.Outline
import Derived.OpenShut
import Derived.Below
import Derived.Lib.Hide
import Derived.Laws.RangeAny
import Derived.Laws.BytesArg
import Derived.Laws.Strings
import Derived.Shelf.Small.Strs
import Derived.Shelf.Strings.Prefix
import Derived.IntWalk
import Derived.Calls
import Derived.Laws.Strings2
import Derived.Laws.OwnMore
import Derived.Maps.AppendAt
import Derived.OwnWalk
import Derived.Deep.QuietTactic
import Derived.Laws.Rows
import Derived.Lib.AppendStr
import Derived.Deep.Draws
import Derived.Deep.OwnRows
import Derived.RegionTactic
import Derived.ChangeAlike
set_option maxRecDepth 20000
set_option maxHeartbeats 12800000
namespace Go.Proofs.YtdngkgickbaboaaGreat
open Go.ChangeShapes Go.WideShapes Go.ChangeAt Go.RowKit
theorem Qz{α:Type}(l:List α)(i:Nat)(a:α):l.toArray.setIfInBounds i a=(l.set i a).toArray:=List.setIfInBounds_toArray l i a
theorem Qy{α:Type}{l:List α}{a b:α}:(a::l).set 0 b=b::l:=rfl
theorem Qx{α:Type}{l:List α}{i:Nat}{a b:α}:(a::l).set (i+1) b=a::l.set i b:=rfl
theorem Hh{p:Prop}(h:p):Hid p:=Lib.hid h
open Go
def gB(s:ByteArray)(i:Nat):Nat:=(s.get! i).toNat
theorem Jg(s:ByteArray)(i:Nat):gB s i<256:=(s.get! i).toNat_lt
theorem Uc(s:ByteArray)(i:Nat)(h:i<s.size):gB s i=(s[i]'h).toNat:=by
 unfold gB;have:=get_at s i h;rw[Nat.add_zero]at this;rw[this]
def cB(s:ByteArray)(i:Nat):Bool:=decide (i<s.size) && decide (128≤gB s i) && decide (gB s i<192)
theorem Zah(s:ByteArray)(i:Nat):cB s i=true↔i<s.size∧128≤gB s i∧gB s i<192:=by
 unfold cB;simp;omega
theorem Zcr(s:ByteArray)(i:Nat):Utf8.decode s i =
  if gB s i<128 then(gB s i,1)
  else if gB s i / 32=6∧cB s (i+1)=true then
   (if 128≤gB s i % 32*64+gB s (i+1) % 64 then(gB s i % 32*64+gB s (i+1) % 64,2)else(65533,1))
  else if gB s i / 16=14∧cB s (i+1)=true∧cB s (i+2)=true then
   (if 2048≤gB s i % 16*4096+gB s (i+1) % 64*64+gB s (i+2) % 64∧¬(55296≤gB s i % 16*4096+gB s (i+1) % 64*64+gB s (i+2) % 64∧gB s i % 16*4096+gB s (i+1) % 64*64+gB s (i+2) % 64≤57343)then(gB s i % 16*4096+gB s (i+1) % 64*64+gB s (i+2) % 64,3)else(65533,1))
  else if gB s i / 8=30∧cB s (i+1)=true∧cB s (i+2)=true∧cB s (i+3)=true then
   (if 65536≤gB s i % 8*262144+gB s (i+1) % 64*4096+gB s (i+2) % 64*64+gB s (i+3) % 64∧gB s i % 8*262144+gB s (i+1) % 64*4096+gB s (i+2) % 64*64+gB s (i+3) % 64≤1114111 then(gB s i % 8*262144+gB s (i+1) % 64*4096+gB s (i+2) % 64*64+gB s (i+3) % 64,4)else(65533,1))
  else(65533,1):=by
 have e:∀ k,(s.get! k).toNat=gB s k:=fun k=>rfl
 have c:∀ k,(decide (i+k<s.size) && (gB s (i+k) / 64 == 2))=cB s (i+k):=by
  intro k;rw[Bool.eq_iff_iff,Zah];simp;omega
 have h0:=Jg s i;have h1:=Jg s (i+1);have h2:=Jg s (i+2);unfold Utf8.decode;simp only[e,c,Nat.add_zero,Utf8.runeError,Bool.and_eq_true,beq_iff_eq,Utf8.valid,Bool.or_eq_true,decide_eq_true_eq,and_assoc,ge_iff_le];generalize gB s i=a at *;generalize gB s (i+1)=b at *;generalize gB s (i+2)=d at *;generalize gB s (i+3)=f at *;repeat' split
 all_goals first
  |rfl
  |(exfalso;omega)
theorem Zbp(s:ByteArray)(i:Nat)(h:i<s.size):1≤(Utf8.decode s i).2∧i+(Utf8.decode s i).2≤s.size∧(Utf8.decode s i).2≤4∧(Utf8.decode s i).1≤1114111:=by
 have h0:=Jg s i;rw[Zcr];repeat' split
 all_goals simp only[Zah]at *
 all_goals((try dsimp only);omega)
theorem Zgb(s:ByteArray)(i:Nat)(h:(Utf8.decode s i).1<128):(Utf8.decode s i).1=gB s i∧(Utf8.decode s i).2=1:=by
 rw[Zcr]at h ⊢;repeat' split
 all_goals(simp only[*]at h;revert h;dsimp only;repeat' split)
 all_goals first
  |(exact fun _=>⟨rfl,rfl⟩)
  |(intro h;exfalso;simp only[*]at *;omega)
  |(intro h;exfalso;omega)
theorem Wy(s:ByteArray)(i:Nat)(h:gB s i<128):Utf8.decode s i=(gB s i,1):=by
 rw[Zcr,if_pos h]
theorem dec_last(s:ByteArray)(i:Nat)(h:1<(Utf8.decode s i).2):128≤gB s (i+(Utf8.decode s i).2 - 1):=by
 rw[Zcr]at h ⊢;repeat' split
 all_goals simp only[*,Zah]at *
 all_goals(try(simp at h;done))
 all_goals(simp;omega)
def Zby(n:Int):List Int:=
 if n<0∨1114111<n∨(55296≤n∧n≤57343)then []
 else if n<128 then [n]
 else if n<2048 then [192+n / 64,128+n % 64]
 else if n<65536 then [224+n / 4096,128+n / 64 % 64,128+n % 64]
 else [240+n / 262144,128+n / 4096 % 64,128+n / 64 % 64,128+n % 64]
def Zhe:List Int→Int
 |[a]=>a
 |[a,b]=>(a - 192)*64+b - 128
 |[a,b,c]=>(a - 224)*4096+(b - 128)*64+c - 128
 |[a,b,c,d]=>(a - 240)*262144+(b - 128)*4096+(c - 128)*64+d - 128
 |_=>0
def Ww(s:ByteArray)(i n:Nat):List Int:=(List.range n).map fun j=>(gB s (i+j):Int)
theorem Zdj(s:ByteArray)(i n:Nat):(Ww s i n).length=n:=by simp[Ww]
theorem hit_iff1{a:Int}(h0:0≤a)(h1:a<256):Zby (Zhe [a])=[a]↔a<128:=by
 show Zby (a)=_↔_;unfold Zby;repeat' split
 all_goals simp
 all_goals omega
theorem hit_iff2{a b:Int}(h0:0≤a)(h1:a<256)(h2:0≤b)(h3:b<256):Zby (Zhe [a,b])=[a,b]↔194≤a∧a<224∧128≤b∧b<192:=by
 show Zby ((a - 192)*64+b - 128)=_↔_;unfold Zby;repeat' split
 all_goals simp
 all_goals omega
theorem hit_iff3{a b c:Int}(h0:0≤a)(h1:a<256)(h2:0≤b)(h3:b<256)(h4:0≤c)(h5:c<256):Zby (Zhe [a,b,c])=[a,b,c] ↔
  224≤a∧a<240∧128≤b∧b<192∧128≤c∧c<192∧2048≤(a - 224)*4096+(b - 128)*64+c - 128∧¬(55296≤(a - 224)*4096+(b - 128)*64+c - 128∧(a - 224)*4096+(b - 128)*64+c - 128≤57343):=by
 show Zby ((a - 224)*4096+(b - 128)*64+c - 128)=_↔_;unfold Zby;repeat' split
 all_goals simp
 all_goals omega
theorem hit_iff4{a b c d:Int}(h0:0≤a)(h1:a<256)(h2:0≤b)(h3:b<256)(h4:0≤c)(h5:c<256)(h6:0≤d)(h7:d<256):Zby (Zhe [a,b,c,d])=[a,b,c,d] ↔
  240≤a∧a<248∧128≤b∧b<192∧128≤c∧c<192∧128≤d∧d<192∧65536≤(a - 240)*262144+(b - 128)*4096+(c - 128)*64+d - 128∧(a - 240)*262144+(b - 128)*4096+(c - 128)*64+d - 128≤1114111:=by
 show Zby ((a - 240)*262144+(b - 128)*4096+(c - 128)*64+d - 128)=_↔_;unfold Zby;repeat' split
 all_goals simp
 all_goals omega
theorem numsAt1(s:ByteArray)(i:Nat):Ww s i 1=[(gB s i:Int)]:=rfl
theorem numsAt2(s:ByteArray)(i:Nat):Ww s i 2=[(gB s i:Int),(gB s (i+1):Int)]:=rfl
theorem numsAt3(s:ByteArray)(i:Nat):Ww s i 3=[(gB s i:Int),(gB s (i+1):Int),(gB s (i+2):Int)]:=rfl
theorem numsAt4(s:ByteArray)(i:Nat):Ww s i 4=[(gB s i:Int),(gB s (i+1):Int),(gB s (i+2):Int),(gB s (i+3):Int)]:=rfl
def Zcc(s:ByteArray)(i n:Nat):Bool:=decide (Zby (Zhe (Ww s i n))=Ww s i n)
theorem hitAt1(s:ByteArray)(i:Nat):Zcc s i 1=true↔gB s i<128:=by
 unfold Zcc;rw[decide_eq_true_iff,numsAt1,hit_iff1 (by omega) (by have:=Jg s i;omega)];omega
theorem hitAt2(s:ByteArray)(i:Nat):Zcc s i 2=true↔194≤gB s i∧gB s i<224∧128≤gB s (i+1)∧gB s (i+1)<192:=by
 have:=Jg s i;have:=Jg s (i+1);unfold Zcc;rw[decide_eq_true_iff,numsAt2,hit_iff2 (by omega) (by omega) (by omega) (by omega)];omega
theorem hitAt3(s:ByteArray)(i:Nat):Zcc s i 3=true↔224≤gB s i∧gB s i<240∧128≤gB s (i+1)∧gB s (i+1)<192∧128≤gB s (i+2)∧gB s (i+2)<192 ∧
  2048≤gB s i % 16*4096+gB s (i+1) % 64*64+gB s (i+2) % 64∧¬(55296≤gB s i % 16*4096+gB s (i+1) % 64*64+gB s (i+2) % 64∧gB s i % 16*4096+gB s (i+1) % 64*64+gB s (i+2) % 64≤57343):=by
 have:=Jg s i;have:=Jg s (i+1);have:=Jg s (i+2);unfold Zcc;rw[decide_eq_true_iff,numsAt3,hit_iff3 (by omega) (by omega) (by omega) (by omega) (by omega) (by omega)];omega
theorem hitAt4(s:ByteArray)(i:Nat):Zcc s i 4=true↔240≤gB s i∧gB s i<248∧128≤gB s (i+1)∧gB s (i+1)<192∧128≤gB s (i+2)∧gB s (i+2)<192∧128≤gB s (i+3)∧gB s (i+3)<192 ∧
  65536≤gB s i % 8*262144+gB s (i+1) % 64*4096+gB s (i+2) % 64*64+gB s (i+3) % 64∧gB s i % 8*262144+gB s (i+1) % 64*4096+gB s (i+2) % 64*64+gB s (i+3) % 64≤1114111:=by
 have:=Jg s i;have:=Jg s (i+1);have:=Jg s (i+2);have:=Jg s (i+3);unfold Zcc;rw[decide_eq_true_iff,numsAt4,hit_iff4 (by omega) (by omega) (by omega) (by omega) (by omega) (by omega) (by omega) (by omega)];omega
theorem dec_hit1(s:ByteArray)(i:Nat)(h:Zcc s i 1=true):Utf8.decode s i=((Zhe (Ww s i 1)).toNat,1):=by
 rw[Wy s i ((hitAt1 s i).1 h)];rfl
theorem dec_hit2(s:ByteArray)(i:Nat)(hi:i+2≤s.size)(h:Zcc s i 2=true):Utf8.decode s i=((Zhe (Ww s i 2)).toNat,2):=by
 rw[hitAt2]at h;have c1:=(Zah s (i+1)).2 ⟨by omega,by omega,by omega⟩;rw[Zcr,if_neg (by omega),if_pos ⟨by omega,c1⟩,if_pos (by omega),numsAt2];show _=((((gB s i:Int) - 192)*64+gB s (i+1) - 128).toNat,2);congr 1;omega
theorem dec_hit3(s:ByteArray)(i:Nat)(hi:i+3≤s.size)(h:Zcc s i 3=true):Utf8.decode s i=((Zhe (Ww s i 3)).toNat,3):=by
 rw[hitAt3]at h;have c1:=(Zah s (i+1)).2 ⟨by omega,by omega,by omega⟩;have c2:=(Zah s (i+2)).2 ⟨by omega,by omega,by omega⟩;rw[Zcr,if_neg (by omega),if_neg (by omega),if_pos ⟨by omega,c1,c2⟩,if_pos (by omega),numsAt3];show _=((((gB s i:Int) - 224)*4096+((gB s (i+1):Int) - 128)*64+gB s (i+2) - 128).toNat,3);congr 1;omega
theorem dec_hit4(s:ByteArray)(i:Nat)(hi:i+4≤s.size)(h:Zcc s i 4=true):Utf8.decode s i=((Zhe (Ww s i 4)).toNat,4):=by
 rw[hitAt4]at h;have c1:=(Zah s (i+1)).2 ⟨by omega,by omega,by omega⟩;have c2:=(Zah s (i+2)).2 ⟨by omega,by omega,by omega⟩;have c3:=(Zah s (i+3)).2 ⟨by omega,by omega,by omega⟩;rw[Zcr,if_neg (by omega),if_neg (by omega),if_neg (by omega),if_pos ⟨by omega,c1,c2,c3⟩,if_pos (by omega),numsAt4];show _=((((gB s i:Int) - 240)*262144+((gB s (i+1):Int) - 128)*4096+((gB s (i+2):Int) - 128)*64+gB s (i+3) - 128).toNat,4);congr 1;omega
theorem dec_hit(s:ByteArray)(i n:Nat)(h1:1≤n)(h4:n≤4)(hi:i+n≤s.size)(h:Zcc s i n=true):Utf8.decode s i=((Zhe (Ww s i n)).toNat,n):=by
 have hn:n=1∨n=2∨n=3∨n=4:=by omega
 rcases hn with rfl | rfl | rfl | rfl
 ·exact dec_hit1 s i h
 ·exact dec_hit2 s i hi h
 ·exact dec_hit3 s i hi h
 ·exact dec_hit4 s i hi h
theorem num_nonneg(s:ByteArray)(i n:Nat)(h1:1≤n)(h4:n≤4)(h:Zcc s i n=true):0≤Zhe (Ww s i n):=by
 unfold Zcc at h;rw[decide_eq_true_iff]at h;rcases Int.lt_or_le (Zhe (Ww s i n)) 0 with hn | hn
 ·exfalso
  have e:Zby (Zhe (Ww s i n))=[]:=by unfold Zby;rw[if_pos (.inl hn)]
  rw[e]at h;have:=congrArg List.length h;rw[Zdj]at this;simp at this;omega
 ·exact hn
theorem dec_nohit(s:ByteArray)(i:Nat)(hi:i<s.size)(h:∀ n,1≤n→n≤4→i+n≤s.size→Zcc s i n=false):Utf8.decode s i=(65533,1):=by
 have g1:=Jg s i;have g2:=Jg s (i+1);have g3:=Jg s (i+2);have g4:=Jg s (i+3)
 have k1:¬ gB s i<128:=by
  have:=h 1 (by omega) (by omega) (by omega);rw[←hitAt1,this];simp
 have k2:i+2≤s.size→¬(194≤gB s i∧gB s i<224∧128≤gB s (i+1)∧gB s (i+1)<192):=fun hs=>by
  have:=h 2 (by omega) (by omega) hs;rw[←hitAt2,this];simp
 have k3:i+3≤s.size→_:=fun hs=>mt (hitAt3 s i).2 (by rw[h 3 (by omega) (by omega) hs];simp)
 have k4:i+4≤s.size→_:=fun hs=>mt (hitAt4 s i).2 (by rw[h 4 (by omega) (by omega) hs];simp)
 clear h;rw[Zcr,if_neg k1];repeat' split
 all_goals(try simp only[Zah]at *)
 all_goals first
  |rfl
  |(exfalso;omega)
theorem Zev(s:ByteArray)(a b i:Nat)(h:a+i<b)(hb:b≤s.size):gB (s.extract a b) i=gB s (a+i):=by
 rw[Uc _ i (by rw[ByteArray.size_extract];omega),Uc _ (a+i) (by omega),ByteArray.getElem_extract]
theorem size_extract(s:ByteArray)(a b:Nat)(hb:b≤s.size):(s.extract a b).size=b - a:=by rw[ByteArray.size_extract];omega
theorem numsAt_extract(s:ByteArray)(a n:Nat)(h:a+n≤s.size):Ww (s.extract a (a+n)) 0 n=Ww s a n:=by
 unfold Ww;apply List.map_congr_left;intro j hj;rw[List.mem_range]at hj;rw[Nat.zero_add,Zev s a (a+n) j (by omega) h]
theorem Zml(s:ByteArray)(a:Nat)(h:a≤s.size)(i:Nat)(hi:a+i<s.size):Utf8.decode (s.extract a s.size) i=Utf8.decode s (a+i):=by
 have hz:(s.extract a s.size).size=s.size - a:=size_extract s a s.size (Nat.le_refl _);have g0:gB (s.extract a s.size) i=gB s (a+i):=Zev s a s.size i hi (Nat.le_refl _)
 have gc:∀ k,cB (s.extract a s.size) (i+k)=cB s (a+i+k)∧(cB s (a+i+k)=true→gB (s.extract a s.size) (i+k)=gB s (a+i+k)):=by
  intro k;by_cases hk:a+i+k<s.size
  ·have g:=Zev s a s.size (i+k) (by omega) (Nat.le_refl _)
   rw[show a+(i+k)=a+i+k from by omega]at g;refine⟨?_,fun _=>g⟩;unfold cB;rw[hz,g];simp only[show(i+k<s.size - a)=True from by simp;omega,hk]
  ·have e1:cB (s.extract a s.size) (i+k)=false:=by unfold cB;rw[hz];simp;omega
   have e2:cB s (a+i+k)=false:=by unfold cB;simp;omega
   exact⟨e1.trans e2.symm,fun h=>by rw[e2]at h;cases h⟩
 obtain⟨c1,d1⟩:=gc 1;obtain⟨c2,d2⟩:=gc 2;obtain⟨c3,d3⟩:=gc 3;rw[Zcr,Zcr,g0,c1,c2,c3];by_cases e1:cB s (a+i+1)=true
 ·rw[d1 e1]
  by_cases e2:cB s (a+i+2)=true
  ·rw[d2 e2]
   by_cases e3:cB s (a+i+3)=true
   ·rw[d3 e3]
   ·simp[e3]
  ·simp[e2]
 ·simp[e1]
theorem Zgk(l m:List Int)(hl:∀ x ∈ l,0≤x∧x<256)(hm:∀ x ∈ m,0≤x∧x<256)(h:strOfNums l=strOfNums m):l=m:=by
 have e:=congrArg (fun b:ByteArray=>b.data.toList.map (fun c:UInt8=>(c.toNat:Int))) h
 have k:∀ l:List Int,(∀ x ∈ l,0≤x∧x<256)→(strOfNums l).data.toList.map (fun c:UInt8=>(c.toNat:Int))=l:=by
  intro l hl;rw[strOfNums_data,List.map_map];conv=>rhs;rw[←List.map_id l]
  apply List.map_congr_left;intro x hx;have:=hl x hx;simp;omega
 rw[←k l hl,←k m hm];exact e
theorem encI_bd(n:Int):∀ x ∈ Zby n,0≤x∧x<256:=by
 unfold Zby;repeat' split
 all_goals(intro x hx;simp at hx;try omega)
theorem Zlr(s:ByteArray)(i n:Nat):∀ x ∈ Ww s i n,0≤x∧x<256:=by
 intro x hx;simp only[Ww,List.mem_map]at hx;obtain⟨j,_,rfl⟩:=hx;have:=Jg s (i+j);omega
theorem Zgu(s:ByteArray)(i n:Nat)(h:i+n≤s.size):s.extract i (i+n)=strOfNums (Ww s i n):=by
 have hz:(s.extract i (i+n)).size=n:=by rw[size_extract _ _ _ h];omega
 apply ByteArray.ext;apply Array.ext
 ·show(s.extract i (i+n)).size=(strOfNums (Ww s i n)).size
  rw[hz,strOfNums_size,Zdj]
 ·intro j h1 h2
  have hj:j<n:=by rw[←hz];exact h1
  have e:(strOfNums (Ww s i n)).data[j]=UInt8.ofNat (gB s (i+j)):=by
   simp[strOfNums,Ww]
  rw[e];have g:=Uc s (i+j) (by omega);apply UInt8.toNat_inj.1;rw[g];simp;rfl
theorem hit_test(s:ByteArray)(i n:Nat)(h:i+n≤s.size):((strOfNums (Zby (Zhe (Ww s i n)))).toList == (s.extract i (i+n)).toList)=Zcc s i n:=by
 rw[ByteArray.toList_eq,ByteArray.toList_eq,Bool.eq_iff_iff,beq_iff_eq,Zgu s i n h];unfold Zcc;rw[decide_eq_true_iff];constructor
 ·intro e
  exact Zgk _ _ (encI_bd _) (Zlr _ _ _) (ByteArray.ext (Array.toList_inj.1 e))
 ·intro e;rw[e]
def bL(s:ByteArray):List Int:=Ww s 0 s.size
theorem Vr(s:ByteArray):(bL s).length=s.size:=Zdj _ _ _
theorem Zmm(s:ByteArray):∀ x ∈ bL s,0≤x∧x<256:=Zlr _ _ _
theorem str_bL(s:ByteArray):strOfNums (bL s)=s:=by
 have h:=Zgu s 0 s.size (by omega);rw[Nat.zero_add]at h;unfold bL;rw[←h];exact ByteArray.extract_zero_size
theorem Zhy(s:ByteArray)(i:Nat)(h:i<s.size):(bL s)[i]?=some (gB s i:Int):=by
 simp[bL,Ww,h]
theorem bL_str(l:List Int)(hl:∀ x ∈ l,0≤x∧x<256):bL (strOfNums l)=l:=
 Zgk _ _ (Zmm _) hl (str_bL _)
theorem Zjf(l m:List Int)(hl:∀ x ∈ l,0≤x∧x<256)(hm:∀ x ∈ m,0≤x∧x<256):((strOfNums l).toList == (strOfNums m).toList)=decide (l=m):=by
 rw[ByteArray.toList_eq,ByteArray.toList_eq,Bool.eq_iff_iff,beq_iff_eq,decide_eq_true_iff];constructor
 ·intro e;exact Zgk _ _ hl hm (ByteArray.ext (Array.toList_inj.1 e))
 ·intro e;rw[e]
theorem Zjs(s:ByteArray)(i n:Nat)(h:i+n≤s.size):bL (s.extract i (i+n))=((bL s).drop i).take n:=by
 rw[Zgu s i n h,bL_str _ (Zlr _ _ _)];apply List.ext_getElem?;intro j;by_cases hj:j<n
 ·rw[List.getElem?_take_of_lt hj,List.getElem?_drop,Zhy s (i+j) (by omega)]
  simp[Ww,hj]
 ·rw[List.getElem?_eq_none (by rw[Zdj];omega),List.getElem?_eq_none (by rw[List.length_take];omega)]
theorem Zjg(l m:List Int):strOfNums l++strOfNums m=strOfNums (l++m):=by
 apply ByteArray.ext;rw[ByteArray.data_append];simp[strOfNums]
def Zce(n:Nat):List Int:=if n<10 then [48+(n:Int)]else Zce (n / 10)++[48+((n % 10:Nat):Int)]
theorem Zcq{n:Nat}(h:n<10):Zce n=[48+(n:Int)]:=by rw[Zce,if_pos h]
theorem Zec{n:Nat}(h:10≤n):Zce n=Zce (n / 10)++[48+((n % 10:Nat):Int)]:=by
 conv=>lhs;rw[Zce]
 rw[if_neg (by omega)]
def isD(x:Int):Bool:=decide (48≤x) && decide (x≤57)
theorem Zbf(x:Int):isD x=true↔48≤x∧x≤57:=by simp[isD]
theorem digL_isD(n:Nat):∀ x ∈ Zce n,48≤x∧x≤57:=by
 induction n using Nat.strongRecOn with
 |ind n ih=>
  by_cases h:n<10
  ·rw[Zcq h];intro x hx;simp at hx;omega
  ·rw[Zec (by omega)]
   intro x hx;rcases List.mem_append.1 hx with hx | hx
   ·exact ih (n / 10) (by omega) x hx
   ·simp at hx;omega
theorem Zhw(n:Nat):Zce n≠[]:=by
 by_cases h:n<10
 ·rw[Zcq h];simp
 ·rw[Zec (by omega)];simp
theorem digL_len(n k:Nat)(hk:1≤k):(Zce n).length≤k↔n<10 ^ k:=by
 induction k generalizing n with
 |zero=>omega
 |succ k ih=>
  by_cases h:n<10
  ·rw[Zcq h]
   have:10≤10 ^ (k+1):=by
    have:=Nat.pow_le_pow_right (show 0<10 by omega) (show 1≤k+1 by omega);omega
   simp;omega
  ·rw[Zec (by omega),List.length_append]
   have e:(10:Nat) ^ (k+1)=10 ^ k*10:=Nat.pow_succ _ _;cases k with
   |zero=>
    have:=List.length_pos_iff.2 (Zhw (n / 10));rw[show 0+1=1 from rfl,Nat.pow_one,List.length_singleton];omega
   |succ k=>
    have:=ih (n / 10) (by omega);simp only[List.length_singleton];rw[e];omega
def Jo(l:List Int):Int:=l.foldl (fun n d=>10*n+(d - 48)) 0
theorem Zif(l:List Int)(d:Int):Jo (l++[d])=10*Jo l+(d - 48):=by simp[Jo]
theorem snoc_cases(l:List Int):l=[]∨∃ m d,l=m++[d]:=by
 rcases List.eq_nil_or_concat l with h | ⟨m,d,h⟩
 ·exact .inl h
 ·exact .inr ⟨m,d,by rw[h,List.concat_eq_append]⟩
theorem Zaw(l:List Int)(hl:∀ x ∈ l,48≤x∧x≤57):0≤Jo l∧Jo l<10 ^ l.length:=by
 generalize hn:l.length=n;induction n generalizing l with
 |zero=>rw[List.eq_nil_of_length_eq_zero hn];simp[Jo]
 |succ n ih=>
  rcases snoc_cases l with rfl | ⟨m,d,rfl⟩
  ·simp at hn
  ·have:=ih m (fun x hx=>hl x (by simp[hx])) (by simpa using hn)
   have:=hl d (by simp);rw[Zif,Int.pow_succ];omega
theorem pow10_le{k:Nat}(h:k≤9):(10:Int) ^ k≤1000000000:=by
 have h:k=0∨k=1∨k=2∨k=3∨k=4∨k=5∨k=6∨k=7∨k=8∨k=9:=by omega
 rcases h with rfl | rfl | rfl | rfl | rfl | rfl | rfl | rfl | rfl | rfl<;>decide
def Zca(l:List Int):Bool:= !decide (l[0]?=some 48) || decide (l.length=1)
theorem digL_plain(n:Nat):Zca (Zce n)=true:=by
 induction n using Nat.strongRecOn with
 |ind n ih=>
  by_cases h:n<10
  ·rw[Zcq h];simp[Zca]
  ·have h1:=ih (n / 10) (by omega)
   rw[Zec (by omega)];by_cases h2:n / 10<10
   ·rw[Zcq h2];simp[Zca];omega
   ·have:=List.length_pos_iff.2 (Zhw (n / 10 / 10))
    have e:(Zce (n / 10)).length≠1:=by rw[Zec (by omega),List.length_append,List.length_singleton];omega
    have p:=List.length_pos_iff.2 (Zhw (n / 10));simp only[Zca,Bool.or_eq_true,Bool.not_eq_true',decide_eq_false_iff_not,decide_eq_true_iff]at h1 ⊢;left;rw[List.getElem?_append_left p];rcases h1 with h1 | h1
    ·exact h1
    ·exact absurd h1 e
theorem digL_valL(l:List Int)(hl:∀ x ∈ l,48≤x∧x≤57)(h0:l≠[]):Zce (Jo l).toNat=l↔Zca l=true:=by
 constructor
 ·intro h;rw[←h];exact digL_plain _
 ·generalize hn:l.length=n
  induction n generalizing l with
  |zero=>exact absurd (List.eq_nil_of_length_eq_zero hn) h0
  |succ n ih=>
   intro hp;rcases snoc_cases l with rfl | ⟨m,d,rfl⟩
   ·exact absurd rfl h0
   ·have hd:=hl d (by simp)
    have hm:=fun x hx=>hl x (List.mem_append_left [d] hx)
    have hv:=Zaw m hm;rw[Zif];by_cases hm0:m=[]
    ·subst hm0
     simp only[Jo,List.foldl_nil];rw[Zcq (by omega)];simp;omega
    ·have hpm:0<m.length:=List.length_pos_iff.2 hm0
     simp only[Zca,Bool.or_eq_true,Bool.not_eq_true',decide_eq_false_iff_not,decide_eq_true_iff,List.length_append,List.length_singleton]at hp
     have hp1:¬(m++[d])[0]?=some 48:=by
      rcases hp with hp | hp
      ·exact hp
      ·omega
     rw[List.getElem?_append_left hpm]at hp1;have hi:=ih m hm hm0 (by simpa using hn) (by simp[Zca,hp1])
     have hv1:Jo m≠0:=by
      intro c;rw[c]at hi;rw[←hi]at hp1;exact hp1 (by rw[show Int.toNat 0=0 from rfl,Zcq (by omega)];rfl)
     rw[Zec (by omega),show(10*Jo m+(d - 48)).toNat / 10=(Jo m).toNat from by omega,hi];congr 2
     omega
def putL(n:Int):List Int:=if n<0 then 45::Zce (-n).toNat else Zce n.toNat
def Wu(n:Int):ByteArray:=strOfNums (putL n)
theorem Zkl{n:Int}(h:n<0):putL n=45::Zce (-n).toNat:=by rw[putL,if_pos h]
theorem Zdp{n:Int}(h:0≤n):putL n=Zce n.toNat:=by rw[putL,if_neg (by omega)]
theorem putL_bd(n:Int):∀ x ∈ putL n,45≤x∧x≤57:=by
 unfold putL;split
 ·intro x hx
  rcases List.mem_cons.1 hx with h | h
  ·omega
  ·have:=digL_isD _ x h;omega
 ·intro x hx;have:=digL_isD _ x hx;omega
theorem putL_by(n:Int):∀ x ∈ putL n,0≤x∧x<256:=fun x hx=>by have:=putL_bd n x hx;omega
theorem putL_len(n:Int)(h1 : -9223372036854775808≤n)(h2:n≤9223372036854775807):(putL n).length≤20:=by
 unfold putL;split
 ·have:=(digL_len (-n).toNat 19 (by omega)).2 (by omega)
  simp;omega
 ·have:=(digL_len n.toNat 19 (by omega)).2 (by omega)
  omega
theorem Zfv(n:Int)(h1 : -9223372036854775808≤n)(h2:n≤9223372036854775807):(Wu n).size≤20:=by
 unfold Wu;rw[strOfNums_size];exact putL_len n h1 h2
def Xr(l:List Int):List Int:=l.takeWhile isD
theorem Jz{x:Int}(r:List Int)(h:isD x=true):Xr (x::r)=x::Xr r:=by simp[Xr,h]
theorem Zhu{x:Int}(r:List Int)(h:isD x=false):Xr (x::r)=[]:=by simp[Xr,h]
theorem firstD_isD(l:List Int):∀ x ∈ Xr l,48≤x∧x≤57:=by
 intro x hx
 have:isD x=true:=by
  unfold Xr at hx;exact(List.all_eq_true.1 (List.all_takeWhile (l:=l) (p:=isD))) x hx
 exact(Zbf x).1 this
theorem Zfi(l:List Int):l.take (Xr l).length=Xr l:=by
 induction l with
 |nil=>rfl
 |cons x r ih=>
  cases h:isD x with
  |true=>rw[Jz r h];simp[ih]
  |false=>rw[Zhu r h];rfl
theorem firstD_len(l:List Int):(Xr l).length≤l.length:=by
 have:=congrArg List.length (Zfi l);rw[List.length_take]at this;omega
theorem drop_cons{l:List Int}{i:Nat}(h:i<l.length):l.drop i=l[i]::l.drop (i+1):=List.drop_eq_getElem_cons h
theorem Ziq(s:ByteArray)(i:Nat)(h:i<s.size):(bL s).drop i=(gB s i:Int)::(bL s).drop (i+1):=by
 have hl:i<(bL s).length:=by rw[Vr];exact h
 rw[drop_cons hl];congr 1
 have:=Zhy s i h;rw[List.getElem?_eq_getElem hl]at this;exact Option.some.inj this
theorem Zfk(s:ByteArray)(i:Nat)(h:s.size≤i):(bL s).drop i=[]:=List.drop_eq_nil_of_le (by rw[Vr];exact h)
def Uk(s:ByteArray)(a most:Int):Int×Int×Bool:=
 if a<0∨(s.size:Int)≤a then(0,0,false)
 else if Xr ((bL s).drop a.toNat)≠[]∧((Xr ((bL s).drop a.toNat)).length:Int)≤most∧(Xr ((bL s).drop a.toNat)).length≤9∧Zca (Xr ((bL s).drop a.toNat))=true then
  (Jo (Xr ((bL s).drop a.toNat)),a+((Xr ((bL s).drop a.toNat)).length:Int),true)
 else(0,0,false)
def Zbe(s:ByteArray):Nat→Nat→List (Nat×Nat)
 |0,_=>[]
 |b+1,i=>if i<s.size then((Utf8.decode s i).1,i)::Zbe s b (i+(Utf8.decode s i).2)else []
theorem Zbs(s:ByteArray)(b i:Nat)(h:s.size≤i):Zbe s b i=[]:=by
 cases b with
 |zero=>rfl
 |succ b=>simp only[Zbe];rw[if_neg (by omega)]
theorem Zer(s:ByteArray)(b i:Nat)(h:i<s.size):Zbe s (b+1) i=((Utf8.decode s i).1,i)::Zbe s b (i+(Utf8.decode s i).2):=by
 simp only[Zbe];rw[if_pos h]
theorem Zhn(s:ByteArray):∀(b c i:Nat),s.size≤i+b→s.size≤i+c→Zbe s b i=Zbe s c i
 |0,c,i,h,_=>by rw[Zbs s c i (by omega)];rfl
 |b+1,0,i,_,h=>by rw[Zbs s (b+1) i (by omega)];rfl
 |b+1,c+1,i,h1,h2=>by
  by_cases h:i<s.size
  ·have:=Zbp s i h
   rw[Zer s b i h,Zer s c i h,Zhn s b c _ (by omega) (by omega)]
  ·rw[Zbs s _ i (by omega),Zbs s _ i (by omega)]
def Jc(s:ByteArray)(i:Nat):List (Nat×Nat):=Zbe s (s.size - i) i
theorem Jw(s:ByteArray)(i:Nat)(h:s.size≤i):Jc s i=[]:=Zbs s _ i h
theorem Wx(s:ByteArray)(i:Nat)(h:i<s.size):Jc s i=((Utf8.decode s i).1,i)::Jc s (i+(Utf8.decode s i).2):=by
 have:=Zbp s i h;unfold Jc;rw[show s.size - i=(s.size - i - 1)+1 from by omega,Zer s _ i h];congr 1
 exact Zhn s _ _ _ (by omega) (by omega)
def Yl(s:ByteArray):List (Nat×Nat):=Jc s 0
theorem Zho(s:ByteArray):∀(b i:Nat),s.size≤i+b→(Jc s i).length≤s.size - i
 |0,i,h=>by rw[Jw s i (by omega)];simp
 |b+1,i,h=>by
  by_cases hi:i<s.size
  ·have:=Zbp s i hi
   have ih:=Zho s b (i+(Utf8.decode s i).2) (by omega);rw[Wx s i hi,List.length_cons];omega
  ·rw[Jw s i (by omega)];simp
theorem Jp(s:ByteArray):(Yl s).length≤s.size:=Zho s s.size 0 (by omega)
theorem Vu(s:ByteArray):∀(b i:Nat),s.size≤i+b→∀ x ∈ Jc s i,i≤x.2∧x.2<s.size∧x.1≤1114111
 |0,i,h=>by rw[Jw s i (by omega)];simp
 |b+1,i,h=>by
  by_cases hi:i<s.size
  ·have:=Zbp s i hi
   rw[Wx s i hi];intro x hx;rcases List.mem_cons.1 hx with rfl | hx
   ·dsimp only;omega
   ·have:=Vu s b (i+(Utf8.decode s i).2) (by omega) x hx
    omega
  ·rw[Jw s i (by omega)];simp
def Yw(p:Nat×Nat)(r:Nat):Nat×Nat:=if r=10 then(p.1+1,1)else(p.1,p.2+1)
def Zdd(at_:Int):List (Nat×Nat)→Nat×Nat→Nat×Nat
 |[],p=>p
 |x::l,p=>if at_≤(x.2:Int)then p else Zdd at_ l (Yw p x.1)
def Zs(s:ByteArray)(at_:Int):Nat×Nat:=Zdd at_ (Yl s) (1,1)
theorem placeStep_bd(p:Nat×Nat)(r:Nat)(m:Nat)(h1:p.1≤m)(h2:p.2≤m)(h3:1≤m): (Yw p r).1≤m+1∧(Yw p r).2≤m+1:=by
 unfold Yw;split<;>(dsimp only;omega)
theorem placeL_bd(at_:Int):∀(l:List (Nat×Nat))(p:Nat×Nat)(m:Nat),p.1≤m→p.2≤m→1≤m→(Zdd at_ l p).1≤m+l.length∧(Zdd at_ l p).2≤m+l.length
 |[],p,m,h1,h2,_=>by simp only[Zdd,List.length_nil];omega
 |x::l,p,m,h1,h2,h3=>by
  simp only[Zdd,List.length_cons];split
  ·omega
  ·have:=placeStep_bd p x.1 m h1 h2 h3
   have:=placeL_bd at_ l (Yw p x.1) (m+1) this.1 this.2 (by omega);omega
theorem Zdc(s:ByteArray)(at_:Int):(Zs s at_).1≤1+s.size∧(Zs s at_).2≤1+s.size:=by
 have h:=placeL_bd at_ (Yl s) (1,1) 1 (by simp) (by simp) (by omega);have:=Jp s;unfold Zs;omega
theorem Ziy(at_:Nat):∀(done rest:List (Nat×Nat))(p:Nat×Nat),(∀ x ∈ done,x.2<at_)→(∀ x ∈ rest,at_≤x.2)→Zdd at_ (done++rest) p=done.foldl (fun p x=>Yw p x.1) p
 |[],rest,p,_,hr=>by
  cases rest with
  |nil=>rfl
  |cons x l=>
   have:=hr x (List.mem_cons_self);simp only[List.nil_append,Zdd,List.foldl_nil];rw[if_pos (by omega)]
 |x::l,rest,p,hd,hr=>by
  have:=hd x (List.mem_cons_self);simp only[List.cons_append,Zdd,List.foldl_cons];rw[if_neg (by omega),Ziy at_ l rest _ (fun y hy=>hd y (List.mem_cons_of_mem _ hy)) hr]
structure Zdx(s:ByteArray)(i:Nat)(done:List (Nat×Nat)):Prop where
 all:Yl s=done++Jc s i
 before:∀ x ∈ done,x.2<i
theorem Zdx.zero(s:ByteArray):Zdx s 0 []:=⟨rfl,fun x hx=>by cases hx⟩
theorem Zdx.next{s:ByteArray}{i:Nat}{done:List (Nat×Nat)}(h:Zdx s i done)(hi:i<s.size):Zdx s (i+(Utf8.decode s i).2) (done++[((Utf8.decode s i).1,i)]):=by
 have:=Zbp s i hi;refine⟨?_,fun x hx=>?_⟩
 ·rw[h.all,Wx s i hi];simp
 ·rcases List.mem_append.1 hx with hx | hx
  ·have:=h.before x hx;omega
  ·simp at hx;subst hx;dsimp only;omega
theorem Zdx.place{s:ByteArray}{i:Nat}{done:List (Nat×Nat)}(h:Zdx s i done):Zs s i=done.foldl (fun p x=>Yw p x.1) (1,1):=by
 unfold Zs;rw[h.all];exact Ziy i done _ _ h.before (fun x hx=>(Vu s s.size i (by omega) x hx).1)
theorem Zdx.length_end{s:ByteArray}{i:Nat}{done:List (Nat×Nat)}(h:Zdx s i done)(hi:s.size≤i):Yl s=done:=by
 rw[h.all,Jw s i hi,List.append_nil]
def Zfh(n:Int):Bool:=decide (97≤n∧n≤122) || decide (65≤n∧n≤90) || decide (192≤n∧n≤591∧n≠215∧n≠247)
def Zat(n:Int):Bool:=Zfh n || decide (48≤n∧n≤57) || decide (n=32) || decide (n=39) || decide (n=45)
def Zbt(s:ByteArray):Bool:=decide (1≤(Yl s).length) && decide ((Yl s).length≤24) && (Yl s).all (fun x=>Zat x.1) &&
 decide (((Yl s).map (·.1)).head?≠some 32) && decide (((Yl s).map (·.1)).getLast?≠some 32)
theorem head_space(s:ByteArray)(h:0<s.size):((Yl s).map (·.1)).head?=some 32↔gB s 0=32:=by
 unfold Yl;rw[Wx s 0 h];simp only[List.map_cons,List.head?_cons,Option.some.injEq];constructor
 ·intro e
  have:=Zgb s 0 (by omega);omega
 ·intro e
  rw[Wy s 0 (by omega)];exact e
theorem Zja(s:ByteArray):∀(b i:Nat),s.size≤i+b→i<s.size→(((Jc s i).map (·.1)).getLast?=some 32↔gB s (s.size - 1)=32)
 |0,i,h,hi=>by omega
 |b+1,i,h,hi=>by
  have hb:=Zbp s i hi;rw[Wx s i hi];by_cases hn:i+(Utf8.decode s i).2<s.size
  ·have ih:=Zja s b (i+(Utf8.decode s i).2) (by omega) hn
   rw[←ih,Wx s _ hn];simp only[List.map_cons,List.getLast?_cons_cons]
  ·rw[Jw s _ (by omega)]
   simp only[List.map_cons,List.map_nil,List.getLast?_singleton,Option.some.injEq];constructor
   ·intro e
    have:=Zgb s i (by omega);rw[show s.size - 1=i from by omega];omega
   ·intro e
    by_cases h1:1<(Utf8.decode s i).2
    ·have:=dec_last s i h1
     rw[show i+(Utf8.decode s i).2 - 1=s.size - 1 from by omega]at this;omega
    ·rw[show s.size - 1=i from by omega]at e
     rw[Wy s i (by omega)];exact e
theorem last_space(s:ByteArray)(h:0<s.size):((Yl s).map (·.1)).getLast?=some 32↔gB s (s.size - 1)=32:=Zja s s.size 0 (by omega) h
def Bd(s:ByteArray)(i:Nat):Prop:=i≤s.size∧∃ done,Zdx s i done
theorem Bd.zero(s:ByteArray):Bd s 0:=⟨Nat.zero_le _,[],Zdx.zero s⟩
theorem dec_cont(s:ByteArray)(i k:Nat)(_hi:i<s.size)(h0:0<k)(h1:k<(Utf8.decode s i).2):128≤gB s (i+k):=by
 rw[Zcr]at h1;split at h1
 ·dsimp only at h1;omega
 ·split at h1
  ·rename_i h
   have c1:=(Zah s (i+1)).1 h.2;split at h1
   ·dsimp only at h1;rw[show k=1 from by omega];omega
   ·dsimp only at h1;omega
  ·split at h1
   ·rename_i h
    have c1:=(Zah s (i+1)).1 h.2.1;have c2:=(Zah s (i+2)).1 h.2.2;split at h1
    ·dsimp only at h1
     have hk:k=1∨k=2:=by omega
     rcases hk with rfl | rfl<;>omega
    ·dsimp only at h1;omega
   ·split at h1
    ·rename_i h
     have c1:=(Zah s (i+1)).1 h.2.1;have c2:=(Zah s (i+2)).1 h.2.2.1;have c3:=(Zah s (i+3)).1 h.2.2.2;split at h1
     ·dsimp only at h1
      have hk:k=1∨k=2∨k=3:=by omega
      rcases hk with rfl | rfl | rfl<;>omega
     ·dsimp only at h1;omega
    ·dsimp only at h1;omega
theorem upto_reach(s:ByteArray)(q:Nat)(hq:q≤s.size)(ha:q=s.size∨gB s q<128):∀(b i:Nat)(done:List (Nat×Nat)),q≤i+b→i≤q→Zdx s i done→∃ more,Zdx s q (done++more)
 |0,i,done,h1,h2,h=>by
  have:i=q:=by omega
  subst this;exact⟨[],by simpa using h⟩
 |b+1,i,done,h1,h2,h=>by
  by_cases he:i=q
  ·subst he
   exact⟨[],by simpa using h⟩
  ·have hi:i<s.size:=by omega
   have hd:=Zbp s i hi
   have hle:i+(Utf8.decode s i).2≤q:=by
    rcases Nat.lt_or_ge q (i+(Utf8.decode s i).2)with hlt | hge
    ·exfalso
     have:=dec_cont s i (q - i) hi (by omega) (by omega);rw[show i+(q - i)=q from by omega]at this;omega
    ·exact hge
   obtain⟨more,hm⟩:=upto_reach s q hq ha b _ _ (by omega) hle (h.next hi);exact⟨_::more,by simpa using hm⟩
theorem Bd.reach{s:ByteArray}{q:Nat}(hq:q≤s.size)(ha:q=s.size∨gB s q<128):Bd s q:=by
 obtain⟨m,hm⟩:=upto_reach s q hq ha q 0 [] (by omega) (by omega) (Zdx.zero s);exact⟨hq,_,hm⟩
theorem Bd.end_(s:ByteArray):Bd s s.size:=Bd.reach (Nat.le_refl _) (.inl rfl)
theorem Bd.next{s:ByteArray}{i:Nat}(h:Bd s i)(hi:i<s.size):Bd s (i+(Utf8.decode s i).2):=by
 obtain⟨_,d,hu⟩:=h;have:=Zbp s i hi;exact⟨by omega,_,hu.next hi⟩
theorem Bd.behind{s:ByteArray}{q:Nat}(hq:q<s.size)(ha:gB s q<128):Bd s (q+1):=by
 have h:=(Bd.reach (Nat.le_of_lt hq) (.inr ha)).next hq;rwa [Wy s q ha]at h
theorem dec_part(s:ByteArray)(i j:Nat)(hj:j≤s.size)(h:i+(Utf8.decode s i).2≤j)(hi:i<j):Utf8.decode (s.extract 0 j) i=Utf8.decode s i:=by
 have hz:(s.extract 0 j).size=j:=by rw[size_extract s 0 j hj];omega
 have hg:∀ k,k<j→gB (s.extract 0 j) k=gB s k:=fun k hk=>by
  have:=Zev s 0 j k (by omega) hj;rwa [Nat.zero_add]at this
 have hc:∀ k,k<j→cB (s.extract 0 j) k=cB s k:=fun k hk=>by
  rw[Bool.eq_iff_iff,Zah,Zah,hz,hg k hk];omega
 have hc':∀ k,cB (s.extract 0 j) k=true→k<j:=fun k hk=>by
  have:=(Zah _ _).1 hk;omega
 have h0:=hg i hi;rw[Zcr s i]at h;rw[Zcr (s.extract 0 j) i,Zcr s i,h0];by_cases ha:gB s i<128
 ·rw[if_pos ha,if_pos ha]
 ·rw[if_neg ha]at h
  rw[if_neg ha,if_neg ha];by_cases k1:i+1<j
  ·rw[hc _ k1,hg _ k1]
   by_cases k2:i+2<j
   ·rw[hc _ k2,hg _ k2]
    by_cases k3:i+3<j
    ·rw[hc _ k3,hg _ k3]
    ·have e3:cB (s.extract 0 j) (i+3)=false:=by
      rw[←Bool.not_eq_true];intro hh;exact k3 (hc' _ hh)
     rw[e3];by_cases b1:gB s i / 32=6∧cB s (i+1)=true
     ·rw[if_pos b1,if_pos b1]
     ·rw[if_neg b1]at h;rw[if_neg b1,if_neg b1]
      by_cases b2:gB s i / 16=14∧cB s (i+1)=true∧cB s (i+2)=true
      ·rw[if_pos b2,if_pos b2]
      ·rw[if_neg b2]at h;rw[if_neg b2,if_neg b2]
       rw[if_neg (by simp)];repeat' split
       all_goals first
        |rfl
        |(exfalso;simp only[*]at h;simp at h;omega)
        |(exfalso;rw[if_pos (by assumption)]at h;rw[if_pos (by assumption)]at h;dsimp only at h;omega)
   ·have e2:cB (s.extract 0 j) (i+2)=false:=by
     rw[←Bool.not_eq_true];intro hh;exact k2 (hc' _ hh)
    rw[e2];by_cases b1:gB s i / 32=6∧cB s (i+1)=true
    ·rw[if_pos b1,if_pos b1]
    ·rw[if_neg b1]at h;rw[if_neg b1,if_neg b1,if_neg (by simp),if_neg (by simp)]
     repeat' split
     all_goals first
      |rfl
      |(exfalso;rw[if_pos (by assumption)]at h;rw[if_pos (by assumption)]at h;dsimp only at h;omega)
      |(exfalso;rw[if_neg (by assumption)]at h;rw[if_pos (by assumption)]at h;rw[if_pos (by assumption)]at h;dsimp only at h;omega)
  ·have e1:cB (s.extract 0 j) (i+1)=false:=by
    rw[←Bool.not_eq_true];intro hh;exact k1 (hc' _ hh)
   rw[e1,if_neg (by simp),if_neg (by simp),if_neg (by simp)];repeat' split
   all_goals first
    |rfl
    |(exfalso;rw[if_pos (by assumption)]at h;rw[if_pos (by assumption)]at h;dsimp only at h;omega)
    |(exfalso;rw[if_neg (by assumption)]at h;rw[if_pos (by assumption)]at h;rw[if_pos (by assumption)]at h;dsimp only at h;omega)
    |(exfalso;rw[if_neg (by assumption)]at h;rw[if_neg (by assumption)]at h;rw[if_pos (by assumption)]at h;rw[if_pos (by assumption)]at h;dsimp only at h;omega)
theorem Zdg(s:ByteArray)(i j:Nat)(hij:i≤j)(hj:j≤s.size):s.extract i j=(s.extract i s.size).extract 0 (j - i):=by
 rw[ByteArray.extract_extract];congr 1<;>omega
theorem dec_piece(s:ByteArray)(i j k:Nat)(hij:i≤j)(hj:j≤s.size)(hk:i+k<j)(h:i+k+(Utf8.decode s (i+k)).2≤j):Utf8.decode (s.extract i j) k=Utf8.decode s (i+k):=by
 have e:=Zml s i (by omega) k (by omega);rw[Zdg s i j hij hj,dec_part _ _ _ (by rw[size_extract _ _ _ (Nat.le_refl _)];omega) (by rw[e];omega) (by omega),e]
def fld(p:Nat×Nat)(l:List (Nat×Nat)):Nat×Nat:=l.foldl (fun p x=>Yw p x.1) p
theorem Zfz(p:Nat×Nat)(x:Nat×Nat)(l:List (Nat×Nat)):fld p (x::l)=fld (Yw p x.1) l:=rfl
theorem fld_app(p:Nat×Nat)(l m:List (Nat×Nat)):fld p (l++m)=fld (fld p l) m:=List.foldl_append
def adv(p x:Nat×Nat):Nat×Nat:=if 1<x.1 then(p.1+x.1 - 1,x.2)else(p.1,p.2+x.2 - 1)
theorem fld_adv(l:List (Nat×Nat)):∀(p q:Nat×Nat),1≤q.1→1≤q.2→fld (adv p q) l=adv p (fld q l):=by
 induction l with
 |nil=>intro p q _ _;rfl
 |cons x l ih=>
  intro p q h1 h2;rw[Zfz,Zfz]
  have e:Yw (adv p q) x.1=adv p (Yw q x.1):=by
   unfold Yw adv;by_cases hx:x.1=10
   ·simp only[if_pos hx]
    repeat' split
    all_goals first
     |(exfalso;omega)
     |(simp;try omega)
   ·simp only[if_neg hx]
    repeat' split
    all_goals(simp;try omega)
  rw[e,ih p (Yw q x.1) (by unfold Yw;split<;>(dsimp only;omega)) (by unfold Yw;split<;>(dsimp only;omega))]
theorem adv_one(p:Nat×Nat):adv p (1,1)=p:=by
 unfold adv;simp
theorem Zhr(s:ByteArray)(i j:Nat)(hj:j≤s.size):∀(b k:Nat)(more:List (Nat×Nat))(done:List (Nat×Nat)),j≤i+k+b→i+k≤j→Zdx s (i+k) done→Zdx s j (done++more) →
  (Jc (s.extract i j) k).map (·.1)=more.map (·.1)
 |0,k,more,done,h1,h2,hu,hw=>by
  have e:i+k=j:=by omega
  have hz:(s.extract i j).size=j - i:=size_extract s i j hj;rw[Jw _ _ (by omega)];have a1:=hu.all;have a2:=hw.all;rw[e]at a1;rw[a1,List.append_assoc]at a2;have:=List.append_cancel_left a2
  have:more=[]:=by
   have hl:=congrArg List.length this;simp at hl;exact hl
  rw[this]
 |b+1,k,more,done,h1,h2,hu,hw=>by
  by_cases e:i+k=j
  ·exact Zhr s i j hj 0 k more done (by omega) h2 hu hw
  ·have hlt:i+k<s.size:=by omega
   have hz:(s.extract i j).size=j - i:=size_extract s i j hj;have hn:=hu.next hlt;have a1:=hu.all;have a2:=hw.all;rw[Wx s _ hlt]at a1;rw[a1,List.append_assoc]at a2;have a3:=List.append_cancel_left a2;cases more with
   |nil=>
    exfalso;rw[List.nil_append]at a3;have hm:((Utf8.decode s (i+k)).1,i+k) ∈ Jc s j:=by rw[←a3];exact List.mem_cons_self
    have:=(Vu s s.size j (by omega) _ hm).1;simp at this;omega
   |cons x more=>
    rw[List.cons_append]at a3;have hx:x=((Utf8.decode s (i+k)).1,i+k):=(List.cons.inj a3).1.symm
    have hle:i+k+(Utf8.decode s (i+k)).2≤j:=by
     rcases Nat.lt_or_ge j (i+k+(Utf8.decode s (i+k)).2)with hlt' | hge
     ·exfalso
      have t:=(List.cons.inj a3).2;cases more with
      |nil=>
            rw[List.nil_append]at t;by_cases hjs:j<s.size
            ·rw[Wx s j hjs]at t
             have hm:((Utf8.decode s j).1,j) ∈ Jc s (i+k+(Utf8.decode s (i+k)).2):=by rw[t];exact List.mem_cons_self
             have:=(Vu s s.size _ (by omega) _ hm).1;simp at this;omega
            ·have:=Zbp s (i+k) hlt
             omega
      |cons y more=>
            have hm:y ∈ Jc s (i+k+(Utf8.decode s (i+k)).2):=by rw[t];simp
            have g1:=(Vu s s.size _ (by omega) _ hm).1;have g2:=hw.before y (by simp);omega
     ·exact hge
    have hd:=dec_piece s i j k (by omega) hj (by omega) hle;have hb:=Zbp s (i+k) hlt;rw[Wx _ k (by omega),hd,List.map_cons,List.map_cons,hx];congr 1
    have ih:=Zhr s i j hj b (k+(Utf8.decode s (i+k)).2) more (done++[((Utf8.decode s (i+k)).1,i+k)]) (by omega) (by omega) (by rw[←Nat.add_assoc];exact hn) (by rw[List.append_assoc];rw[←hx];simpa using hw);exact ih
theorem fld_map(l m:List (Nat×Nat))(h:l.map (·.1)=m.map (·.1))(p:Nat×Nat):fld p l=fld p m:=by
 have e:∀ l:List (Nat×Nat),∀ p,fld p l=(l.map (·.1)).foldl Yw p:=by
  intro l;induction l with
  |nil=>intro p;rfl
  |cons x l ih=>intro p;rw[Zfz,ih];rfl
 rw[e,e,h]
theorem Zdx.more{s:ByteArray}{i j:Nat}{d e:List (Nat×Nat)}(hi:Zdx s i d)(hj:Zdx s j e)(hij:i≤j):∃ more,e=d++more∧∀ x ∈ more,i≤x.2:=by
 have a1:=hi.all;have a2:=hj.all;rw[a1]at a2;rcases List.append_eq_append_iff.1 a2 with⟨m,h1,h2⟩ | ⟨m,h1,h2⟩
 ·refine⟨m,h1,fun x hx=>?_⟩
  have hm:x ∈ Jc s i:=by rw[h2];simp[hx]
  exact(Vu s s.size i (by omega) x hm).1
 ·cases m with
  |nil=>exact⟨[],by simpa using h1.symm,fun x hx=>by cases hx⟩
  |cons x m=>
   exfalso;have g1:=hi.before x (by rw[h1];simp);have hm:x ∈ Jc s j:=by rw[h2];simp
   have g2:=(Vu s s.size j (by omega) x hm).1;omega
theorem Zdb{s:ByteArray}{i:Nat}{d:List (Nat×Nat)}(h:Zdx s i d):Zs s i=fld (1,1) d:=h.place
theorem place_pass{s:ByteArray}{i j:Nat}(hi:Bd s i)(hj:Bd s j)(hij:i≤j):Zs s (j:Int)=adv (Zs s (i:Int)) (Zs (s.extract i j) ((j - i:Nat):Int)):=by
 obtain⟨hi1,d,hu⟩:=hi;obtain⟨hj1,e,hv⟩:=hj;obtain⟨more,rfl,_⟩:=hu.more hv hij;have hz:(s.extract i j).size=j - i:=size_extract s i j hj1;have hp:=Zhr s i j hj1 (j - i) 0 more d (by omega) (by omega) (by simpa using hu) hv;obtain⟨_,f,hw⟩:=Bd.end_ (s.extract i j);have hf:=hw.length_end (Nat.le_refl _);rw[Zdb hu,Zdb hv,fld_app];rw[←hz,Zdb hw,←hf];have hf2:fld (1,1) (Yl (s.extract i j))=fld (1,1) more:=fld_map _ _ hp _;rw[hf2,←fld_adv more _ _ (by decide) (by decide),adv_one]
theorem place_lt{s:ByteArray}{i j:Nat}(hi:Bd s i)(hj:Bd s j)(hij:i<j) :
  (Zs s (i:Int)).1<(Zs s (j:Int)).1∨(Zs s (i:Int)).1=(Zs s (j:Int)).1∧(Zs s (i:Int)).2<(Zs s (j:Int)).2:=by
 obtain⟨hi1,d,hu⟩:=hi;obtain⟨hj1,e,hv⟩:=hj;obtain⟨more,rfl,hge⟩:=hu.more hv (by omega)
 have hne:more≠[]:=by
  rintro rfl;have a1:=hu.all;have a2:=hv.all;rw[List.append_nil]at a2;rw[a1]at a2;have a3:=List.append_cancel_left a2;rw[Wx s i (by omega)]at a3;have hm:((Utf8.decode s i).1,i) ∈ Jc s j:=by rw[←a3];exact List.mem_cons_self
  have:=(Vu s s.size j (by omega) _ hm).1;simp at this;omega
 rw[Zdb hu,Zdb hv,fld_app];generalize fld (1,1) d=p
 have key:∀(l:List (Nat×Nat))(p q:Nat×Nat),(p.1<q.1∨p.1=q.1∧p.2<q.2)→p.1<(fld q l).1∨p.1=(fld q l).1∧p.2<(fld q l).2:=by
  intro l;induction l with
  |nil=>intro p q h;exact h
  |cons x l ih=>
   intro p q h;rw[Zfz];apply ih;unfold Yw;split<;>(dsimp only;omega)
 cases more with
 |nil=>exact absurd rfl hne
 |cons x l=>
  rw[Zfz];apply key;unfold Yw;split<;>(dsimp only;omega)
theorem place_pos(s:ByteArray){i:Nat}(hi:Bd s i):1≤(Zs s (i:Int)).1∧1≤(Zs s (i:Int)).2:=by
 obtain⟨_,d,hu⟩:=hi;rw[Zdb hu]
 have key:∀(l:List (Nat×Nat))(p:Nat×Nat),1≤p.1→1≤p.2→1≤(fld p l).1∧1≤(fld p l).2:=by
  intro l;induction l with
  |nil=>intro p h1 h2;exact⟨h1,h2⟩
  |cons x l ih=>
   intro p h1 h2;rw[Zfz];apply ih<;>(unfold Yw;split<;>(dsimp only;omega))
 exact key _ _ (by decide) (by decide)
theorem ascii_rune(s:ByteArray)(i:Nat)(hi:i<s.size)(h:gB s i<128):(gB s i,i) ∈ Yl s:=by
 obtain⟨_,d,hu⟩:=Bd.reach (Nat.le_of_lt hi) (.inr h);rw[hu.all,Wx s i hi,Wy s i h];simp
def Zag(x:Int):Bool:=decide (97≤x) && decide (x≤122)
theorem Zds(x:Int):Zag x=true↔97≤x∧x≤122:=by unfold Zag;simp
def Xe(c:Int)(x:Int):Bool:= !decide (x=c)
theorem Zba(c x:Int):Xe c x=true↔x≠c:=by unfold Xe;simp
def Zfx(x:Int):Bool:=decide (x=32) || decide (x=9) || decide (x=10)
theorem Zco(x:Int):Zfx x=true↔x=32∨x=9∨x=10:=by unfold Zfx;simp[or_assoc]
def tw(p:Int→Bool)(l:List Int):Nat:=(l.takeWhile p).length
theorem Zhk(p:Int→Bool):tw p []=0:=rfl
theorem Vt{p:Int→Bool}{x:Int}(r:List Int)(h:p x=true):tw p (x::r)=tw p r+1:=by simp[tw,h]
theorem Zbv{p:Int→Bool}{x:Int}(r:List Int)(h:p x=false):tw p (x::r)=0:=by simp[tw,h]
theorem Zhb(p:Int→Bool):∀ l:List Int,tw p l≤l.length
 |[]=>Nat.le_refl _
 |x::r=>by
  cases h:p x with
  |true=>rw[Vt r h,List.length_cons];have:=Zhb p r;omega
  |false=>rw[Zbv r h];omega
theorem tw_at(p:Int→Bool):∀(l:List Int)(k:Nat),k<tw p l→∃ x,l[k]?=some x∧p x=true
 |[],k,h=>by rw[Zhk]at h;omega
 |x::r,k,h=>by
  cases hp:p x with
  |true=>
   rw[Vt r hp]at h;cases k with
   |zero=>exact⟨x,rfl,hp⟩
   |succ k=>
    obtain⟨y,h1,h2⟩:=tw_at p r k (by omega);exact⟨y,by simpa using h1,h2⟩
  |false=>rw[Zbv r hp]at h;omega
theorem tw_end(p:Int→Bool):∀(l:List Int),tw p l=l.length∨∃ x,l[tw p l]?=some x∧p x=false
 |[]=>.inl rfl
 |x::r=>by
  cases hp:p x with
  |true=>
   rw[Vt r hp];rcases tw_end p r with h | ⟨y,h1,h2⟩
   ·exact .inl (by rw[h,List.length_cons])
   ·exact .inr ⟨y,by simpa using h1,h2⟩
  |false=>rw[Zbv r hp];exact .inr ⟨x,rfl,hp⟩
theorem Zms(p:Int→Bool)(l:List Int):∀ y ∈ l.take (tw p l),p y=true:=by
 intro y hy;obtain⟨k,hk⟩:=List.mem_iff_getElem?.1 hy;rw[List.getElem?_take]at hk;split at hk
 ·rename_i h
  obtain⟨x,h1,h2⟩:=tw_at p l k h;rw[h1]at hk;cases hk
  exact h2
 ·cases hk
theorem Zcx(l:List Int):(Xr l).length=tw isD l:=rfl
theorem firstD_tw(l:List Int):Xr l=l.take (tw isD l):=(Zfi l).symm
def Jr:List Int→Nat
 |[]=>0
 |c::r=>if(c=60∨c=62∨c=33)∧r.head?=some 61 then 2
  else if c=123∨c=125∨c=40∨c=41∨c=59∨c=43∨c=45∨c=42∨c=61∨c=60∨c=62 then 1 else 0
theorem Zeu(c:Int)(r:List Int):Jr (c::r)=if(c=60∨c=62∨c=33)∧r.head?=some 61 then 2
 else if c=123∨c=125∨c=40∨c=41∨c=59∨c=43∨c=45∨c=42∨c=61∨c=60∨c=62 then 1 else 0:=rfl
def Yf:List Int→Int×Nat×Nat×Nat
 |[]=>(0,0,0,0)
 |c::r=>
  if Zag c=true then(1,0,tw Zag (c::r),tw Zag (c::r))
  else if isD c=true then(if 2<tw isD (c::r)∨(tw isD (c::r)=2∧c=48)then(-2,0,0,0)else(2,0,tw isD (c::r),tw isD (c::r)))
  else if c=35 then(-1,0,tw (Xe 10) (c::r),tw (Xe 10) (c::r))
  else if c=34 then(if tw (Xe 34) r=r.length∨Zbt (strOfNums (r.take (tw (Xe 34) r)))=false then(-3,0,0,0)else(3,1,tw (Xe 34) r+1,tw (Xe 34) r+2))
  else if Jr (c::r)=0 then(-4,0,0,0)else(4,0,Jr (c::r),Jr (c::r))
theorem Uy(c:Int)(r:List Int):Yf (c::r) =
 if Zag c=true then(1,0,tw Zag (c::r),tw Zag (c::r))
 else if isD c=true then(if 2<tw isD (c::r)∨(tw isD (c::r)=2∧c=48)then(-2,0,0,0)else(2,0,tw isD (c::r),tw isD (c::r)))
 else if c=35 then(-1,0,tw (Xe 10) (c::r),tw (Xe 10) (c::r))
 else if c=34 then(if tw (Xe 34) r=r.length∨Zbt (strOfNums (r.take (tw (Xe 34) r)))=false then(-3,0,0,0)else(3,1,tw (Xe 34) r+1,tw (Xe 34) r+2))
 else if Jr (c::r)=0 then(-4,0,0,0)else(4,0,Jr (c::r),Jr (c::r)):=rfl
theorem markL_le(l:List Int):Jr l≤l.length∧Jr l≤2:=by
 cases l with
 |nil=>simp[Jr]
 |cons c r=>
  rw[Zeu];split
  ·rename_i h
   cases r with
   |nil=>simp at h
   |cons d r=>simp
  ·split<;>simp
theorem Jj(c:Int)(r:List Int)(P:Int×Nat×Nat×Nat→Prop)
  (h1:Zag c=true→P (1,0,tw Zag (c::r),tw Zag (c::r)))
  (h2:isD c=true→tw isD (c::r)≤2→¬(tw isD (c::r)=2∧c=48)→P (2,0,tw isD (c::r),tw isD (c::r)))
  (h2e:isD c=true→(2<tw isD (c::r)∨(tw isD (c::r)=2∧c=48))→P (-2,0,0,0))
  (h3:c=35→P (-1,0,tw (Xe 10) (c::r),tw (Xe 10) (c::r)))
  (h4:c=34→tw (Xe 34) r<r.length→Zbt (strOfNums (r.take (tw (Xe 34) r)))=true→P (3,1,tw (Xe 34) r+1,tw (Xe 34) r+2))
  (h4e:c=34→(tw (Xe 34) r=r.length∨Zbt (strOfNums (r.take (tw (Xe 34) r)))=false)→P (-3,0,0,0))
  (h5:Zag c=false→isD c=false→c≠35→c≠34→Jr (c::r)≠0→P (4,0,Jr (c::r),Jr (c::r)))
  (h5e:Zag c=false→isD c=false→c≠35→c≠34→Jr (c::r)=0→P (-4,0,0,0)):P (Yf (c::r)):=by
 rw[Uy];split
 ·exact h1 (by assumption)
 ·rename_i n1
  rw[Bool.not_eq_true]at n1;split
  ·split
   ·exact h2e (by assumption) (by assumption)
   ·exact h2 (by assumption) (by omega) (by omega)
  ·rename_i n2
   rw[Bool.not_eq_true]at n2;split
   ·exact h3 (by assumption)
   ·split
    ·split
     ·exact h4e (by assumption) (by assumption)
     ·rename_i hn
      have:=Zhb (Xe 34) r;refine h4 (by assumption) (by omega) ?_;rw[←Bool.not_eq_false];intro hh;exact hn (.inr hh)
    ·split
     ·exact h5e n1 n2 (by assumption) (by assumption) (by assumption)
     ·exact h5 n1 n2 (by assumption) (by assumption) (by assumption)
theorem Zgi(l:List Int)(h:l≠[]):(Yf l).2.1≤(Yf l).2.2.1∧(Yf l).2.2.1≤(Yf l).2.2.2∧(Yf l).2.2.2≤l.length∧(-1≤(Yf l).1→1≤(Yf l).2.2.2) ∧
  (Yf l).1≠0 ∧ -4≤(Yf l).1∧(Yf l).1≤4:=by
 cases l with
 |nil=>exact absurd rfl h
 |cons c r=>
  refine Jj c r (fun x=>x.2.1≤x.2.2.1∧x.2.2.1≤x.2.2.2∧x.2.2.2≤(c::r).length∧(-1≤x.1→1≤x.2.2.2)∧x.1≠0 ∧ -4≤x.1∧x.1≤4) ?_ ?_ ?_ ?_ ?_ ?_ ?_ ?_
  ·intro hs
   have:=Zhb Zag (c::r);rw[Vt r hs]at *;refine⟨by simp,by simp,by simpa using this,fun _=>by simp,by simp,by simp,by simp⟩
  ·intro hs _ _
   have:=Zhb isD (c::r);rw[Vt r hs]at *;refine⟨by simp,by simp,by simpa using this,fun _=>by simp,by simp,by simp,by simp⟩
  ·intro _ _;simp
  ·intro hc
   have hp:Xe 10 c=true:=by rw[Zba];omega
   have:=Zhb (Xe 10) (c::r);rw[Vt r hp]at *;refine⟨by simp,by simp,by simpa using this,fun _=>by simp,by simp,by simp,by simp⟩
  ·intro _ h _
   refine⟨by simp,by simp,by simp;omega,fun _=>by simp,by simp,by simp,by simp⟩
  ·intro _ _;simp
  ·intro _ _ _ _ h
   have:=markL_le (c::r);refine⟨by simp,by simp,this.1,fun _=>by simp;omega,by simp,by simp,by simp⟩
  ·intro _ _ _ _ _;simp
theorem tokL_last(l:List Int)(h:0<(Yf l).1):∃ x,l[(Yf l).2.2.2 - 1]?=some x∧x<128:=by
 cases l with
 |nil=>simp[Yf]at h
 |cons c r=>
  revert h
  refine Jj c r (fun x=>0<x.1→∃ y,(c::r)[x.2.2.2 - 1]?=some y∧y<128) ?_ ?_ ?_ ?_ ?_ ?_ ?_ ?_
  ·intro hs _
   obtain⟨x,h1,h2⟩:=tw_at Zag (c::r) (tw Zag (c::r) - 1) (by rw[Vt r hs];omega);exact⟨x,h1,by rw[Zds]at h2;omega⟩
  ·intro hs _ _ _
   obtain⟨x,h1,h2⟩:=tw_at isD (c::r) (tw isD (c::r) - 1) (by rw[Vt r hs];omega);exact⟨x,h1,by rw[Zbf]at h2;omega⟩
  ·intro _ _ h;simp at h
  ·intro _ h;simp at h
  ·intro _ h _ _
   rcases tw_end (Xe 34) r with he | ⟨x,h1,h2⟩
   ·omega
   ·refine⟨x,by simpa using h1,?_⟩
    have:x=34:=by
     rcases Decidable.em (x=34)with e | e
     ·exact e
     ·rw[(Zba 34 x).2 e]at h2;cases h2
    omega
  ·intro _ _ h;simp at h
  ·intro _ _ _ _ h _
   rw[Zeu]at h ⊢;split
   ·rename_i hc
    cases r with
    |nil=>simp at hc
    |cons d r=>
     simp at hc;refine⟨d,by simp,by omega⟩
   ·rename_i hc
    rw[if_neg hc]at h;split
    ·exact⟨c,by simp,by omega⟩
    ·rename_i hc2
     rw[if_neg hc2]at h;exact absurd rfl h
  ·intro _ _ _ _ _ h;simp at h
def Zbo:List Int→Bool→Nat
 |[],_=>0
 |c::r,true=>1+Zbo r (Xe 10 c)
 |c::r,false=>if c=35 then 1+Zbo r true else if Zfx c=true then 1+Zbo r false else 0
theorem Znf:∀(l:List Int)(b:Bool),Zbo l b≤l.length
 |[],_=>Nat.le_refl _
 |c::r,true=>by have:=Znf r (Xe 10 c);simp only[Zbo,List.length_cons];omega
 |c::r,false=>by
  have h1:=Znf r true;have h2:=Znf r false;simp only[Zbo,List.length_cons];split
  ·omega
  ·split<;>omega
theorem gapM_true:∀ l:List Int,Zbo l true=tw (Xe 10) l+Zbo (l.drop (tw (Xe 10) l)) false
 |[]=>rfl
 |c::r=>by
  cases h:Xe 10 c with
  |true=>
   rw[Vt r h];simp only[Zbo,h,List.drop_succ_cons];rw[gapM_true r];omega
  |false=>
   have hc:c=10:=by
    rcases Decidable.em (c=10)with e | e
    ·exact e
    ·rw[(Zba 10 c).2 e]at h;cases h
   subst hc;rw[Zbv r h];simp only[Zbo,h,List.drop_zero];rw[if_neg (by decide),if_pos (by decide)];omega
structure TokV where
 k:Int
 t:ByteArray
 n:Int
 line:Nat
 col:Nat
 p:Nat
def TokV.cells(v:TokV):List Value:=[.int .i64 v.k,.string v.t,.int .i64 v.n,.int .i64 (v.line:Int),.int .i64 (v.col:Int)]
def Zk(s:ByteArray)(a:Nat):List Int:=(bL s).drop a
theorem Zam(s:ByteArray){a:Nat}(h:s.size≤a):Zk s a=[]:=Zfk s a h
theorem Yt(s:ByteArray){a:Nat}(h:a<s.size):Zk s a=(gB s a:Int)::Zk s (a+1):=Ziq s a h
theorem Xk(s:ByteArray)(a:Nat):(Zk s a).length=s.size - a:=by unfold Zk;rw[List.length_drop,Vr]
theorem restL_drop(s:ByteArray)(a n:Nat):(Zk s a).drop n=Zk s (a+n):=by unfold Zk;rw[List.drop_drop]
theorem Zlm(s:ByteArray)(a k:Nat)(h:a+k<s.size):(Zk s a)[k]?=some (gB s (a+k):Int):=by
 unfold Zk;rw[List.getElem?_drop,Zhy s _ h]
theorem Zet(s:ByteArray){a:Nat}(h:a<s.size):Zk s a≠[]:=by rw[Yt s h];simp
def Zlv(s:ByteArray)(a:Nat):TokV:=⟨0,⟨#[]⟩,0,(Zs s (a:Int)).1,(Zs s (a:Int)).2,a⟩
def Zcb(k:Int)(l:List Int):Int:=if k=2 then Jo (Xr l)else 0
def Zep(s:ByteArray)(a:Nat):TokV:=
 ⟨(Yf (Zk s a)).1,s.extract (a+(Yf (Zk s a)).2.1) (a+(Yf (Zk s a)).2.2.1),Zcb (Yf (Zk s a)).1 (Zk s a),(Zs s (a:Int)).1,(Zs s (a:Int)).2,a⟩
def Ziu(k:Int):Int:=if k = -2 then 12 else if k = -3 then 10 else 6
def Zmd(s:ByteArray):Nat→Nat→List TokV→List TokV×Int×Nat
 |0,_,_=>([],0,0)
 |b+1,a,acc=>
  if s.size≤a then(acc++[Zlv s a],0,0)
  else if Zfx (gB s a)=true then Zmd s b (a+1) acc
  else if(Yf (Zk s a)).1 < -1 then([],Ziu (Yf (Zk s a)).1,a)
  else if(Yf (Zk s a)).1 = -1 then Zmd s b (a+(Yf (Zk s a)).2.2.2) acc
  else Zmd s b (a+(Yf (Zk s a)).2.2.2) (acc++[Zep s a])
theorem Zax(s:ByteArray){a:Nat}(h:a<s.size)(hk : -1≤(Yf (Zk s a)).1):1≤(Yf (Zk s a)).2.2.2∧a+(Yf (Zk s a)).2.2.2≤s.size:=by
 have:=Zgi (Zk s a) (Zet s h);rw[Xk]at this;omega
theorem Zda(s:ByteArray):∀(b c a:Nat)(acc:List TokV),a≤s.size→s.size<a+b→s.size<a+c→Zmd s b a acc=Zmd s c a acc
 |0,c,a,acc,h1,h,hc=>by exfalso;omega
 |b+1,0,a,acc,h1,h,hc=>by exfalso;omega
 |b+1,c+1,a,acc,h1,h,hc=>by
  unfold Zmd;by_cases h0:s.size≤a
  ·rw[if_pos h0,if_pos h0]
  ·rw[if_neg h0,if_neg h0]
   split
   ·exact Zda s b c _ _ (by omega) (by omega) (by omega)
   ·split
    ·rfl
    ·rename_i hk
     have:=Zax s (by omega) (by omega : -1≤(Yf (Zk s a)).1);split
     ·exact Zda s b c _ _ (by omega) (by omega) (by omega)
     ·exact Zda s b c _ _ (by omega) (by omega) (by omega)
def Uq(s:ByteArray)(a:Nat)(acc:List TokV):List TokV×Int×Nat:=Zmd s (s.size+1) a acc
theorem Zhm(s:ByteArray)(a:Nat)(acc:List TokV):Uq s a acc =
  if s.size≤a then(acc++[Zlv s a],0,0)
  else if Zfx (gB s a)=true then Uq s (a+1) acc
  else if(Yf (Zk s a)).1 < -1 then([],Ziu (Yf (Zk s a)).1,a)
  else if(Yf (Zk s a)).1 = -1 then Uq s (a+(Yf (Zk s a)).2.2.2) acc
  else Uq s (a+(Yf (Zk s a)).2.2.2) (acc++[Zep s a]):=by
 unfold Uq;conv=>lhs;unfold Zmd
 by_cases h0:s.size≤a
 ·rw[if_pos h0,if_pos h0]
 ·rw[if_neg h0,if_neg h0]
  split
  ·exact Zda s _ _ _ _ (by omega) (by omega) (by omega)
  ·split
   ·rfl
   ·rename_i hk
    have:=Zax s (by omega) (by omega : -1≤(Yf (Zk s a)).1);split
    ·exact Zda s _ _ _ _ (by omega) (by omega) (by omega)
    ·exact Zda s _ _ _ _ (by omega) (by omega) (by omega)
theorem Zli(s:ByteArray){a:Nat}(acc:List TokV)(h:s.size≤a):Uq s a acc=(acc++[Zlv s a],0,0):=by rw[Zhm,if_pos h]
theorem Zbz(s:ByteArray){a:Nat}(acc:List TokV)(h:a<s.size)(hb:Zfx (gB s a)=true):Uq s a acc=Uq s (a+1) acc:=by
 rw[Zhm,if_neg (by omega),if_pos hb]
theorem Zlh(s:ByteArray){a:Nat}(acc:List TokV)(h:a<s.size)(hb:Zfx (gB s a)=false)(hk:(Yf (Zk s a)).1 < -1):Uq s a acc=([],Ziu (Yf (Zk s a)).1,a):=by
 rw[Zhm,if_neg (by omega),if_neg (by rw[hb];simp),if_pos hk]
theorem Zlg(s:ByteArray){a:Nat}(acc:List TokV)(h:a<s.size)(hb:Zfx (gB s a)=false)(hk:(Yf (Zk s a)).1 = -1):Uq s a acc=Uq s (a+(Yf (Zk s a)).2.2.2) acc:=by
 rw[Zhm,if_neg (by omega),if_neg (by rw[hb];simp),if_neg (by omega),if_pos hk]
theorem Zlf(s:ByteArray){a:Nat}(acc:List TokV)(h:a<s.size)(hb:Zfx (gB s a)=false)(hk:0<(Yf (Zk s a)).1):Uq s a acc=Uq s (a+(Yf (Zk s a)).2.2.2) (acc++[Zep s a]):=by
 rw[Zhm,if_neg (by omega),if_neg (by rw[hb];simp),if_neg (by omega),if_neg (by omega)]
theorem tokL_hash(r:List Int):Yf (35::r)=(-1,0,tw (Xe 10) r+1,tw (Xe 10) r+1):=by
 rw[Uy,if_neg (by decide),if_neg (by decide),if_pos rfl,Vt r (by decide)]
def Zfa(s:ByteArray)(a:Nat):Nat:=a+Zbo (Zk s a) false
theorem gapE_le(s:ByteArray){a:Nat}(h:a≤s.size):a≤Zfa s a∧Zfa s a≤s.size:=by
 have:=Znf (Zk s a) false;rw[Xk]at this;unfold Zfa;omega
theorem Zne(s:ByteArray):∀(b a:Nat),s.size≤a+b→a≤s.size→Bd s a →
  (∀ acc,Uq s a acc=Uq s (Zfa s a) acc)∧Bd s (Zfa s a)∧(Zfa s a<s.size→Zfx (gB s (Zfa s a))=false∧gB s (Zfa s a)≠35)
 |0,a,h,h1,hB=>by
  have e:Zfa s a=a:=by unfold Zfa;rw[Zam s (by omega)];rfl
  rw[e];exact⟨fun _=>rfl,hB,fun hh=>by omega⟩
 |b+1,a,h,h1,hB=>by
  by_cases ha:a<s.size
  ·by_cases h35:gB s a=35
   ·have hbd:Bd s (a+(tw (Xe 10) (Zk s (a+1))+1)):=by
     have hle:=Zhb (Xe 10) (Zk s (a+1));rw[Xk]at hle;rcases tw_end (Xe 10) (Zk s (a+1))with he | ⟨x,hx,hp⟩
     ·rw[Xk]at he
      rw[he,show a+(s.size - (a+1)+1)=s.size from by omega];exact Bd.end_ s
     ·have hlt:tw (Xe 10) (Zk s (a+1))<(Zk s (a+1)).length:=by
            rcases Nat.lt_or_ge (tw (Xe 10) (Zk s (a+1))) (Zk s (a+1)).length with hh | hh
            ·exact hh
            ·rw[List.getElem?_eq_none hh]at hx;cases hx
      rw[Xk]at hlt;rw[Zlm s (a+1) _ (by omega)]at hx;cases hx
      refine Bd.reach (by omega) (.inr ?_);rw[show a+(tw (Xe 10) (Zk s (a+1))+1)=a+1+tw (Xe 10) (Zk s (a+1))from by omega];rcases Decidable.em (gB s (a+1+tw (Xe 10) (Zk s (a+1)))=10)with e | e
      ·omega
      ·rw[(Zba 10 _).2 (by omega)]at hp;cases hp
    have hle:=hbd.1;obtain⟨i1,i2,i3⟩:=Zne s b (a+(tw (Xe 10) (Zk s (a+1))+1)) (by omega) hle hbd
    have e:Zfa s a=Zfa s (a+(tw (Xe 10) (Zk s (a+1))+1)):=by
     unfold Zfa;rw[Yt s ha,h35];simp only[Zbo];rw[if_pos (show((35:Nat):Int)=35 from rfl),gapM_true,restL_drop,show a+1+tw (Xe 10) (Zk s (a+1))=a+(tw (Xe 10) (Zk s (a+1))+1)from by omega];omega
    rw[e];refine⟨fun acc=>?_,i2,i3⟩;have ht:Yf (Zk s a)=(-1,0,tw (Xe 10) (Zk s (a+1))+1,tw (Xe 10) (Zk s (a+1))+1):=by rw[Yt s ha,h35];exact tokL_hash _
    rw[Zlg s acc ha (by rw[h35];decide) (by rw[ht]),ht];exact i1 acc
   ·cases hbl:Zfx (gB s a)with
    |true=>
     have h128:gB s a<128:=by rw[Zco]at hbl;omega
     obtain⟨i1,i2,i3⟩:=Zne s b (a+1) (by omega) (by omega) (Bd.behind ha h128)
     have e:Zfa s a=Zfa s (a+1):=by
      unfold Zfa;rw[Yt s ha];simp only[Zbo];rw[if_neg (by omega),if_pos hbl];omega
     rw[e];exact⟨fun acc=>(Zbz s acc ha hbl).trans (i1 acc),i2,i3⟩
    |false=>
     have e:Zfa s a=a:=by
      unfold Zfa;rw[Yt s ha];simp only[Zbo];rw[if_neg (by omega),hbl,if_neg (by simp)];omega
     rw[e];exact⟨fun _=>rfl,hB,fun _=>⟨hbl,h35⟩⟩
  ·exact Zne s 0 a (by omega) h1 hB
theorem tok_bd(s:ByteArray){a:Nat}(h:a<s.size)(hk:0<(Yf (Zk s a)).1):Bd s (a+(Yf (Zk s a)).2.2.2):=by
 obtain⟨x,h1,h2⟩:=tokL_last (Zk s a) hk;have hb:=Zax s h (by omega);rw[Zlm s a _ (by omega)]at h1;cases h1
 have:=Bd.behind (s:=s) (q:=a+((Yf (Zk s a)).2.2.2 - 1)) (by omega) (by omega);rwa [show a+((Yf (Zk s a)).2.2.2 - 1)+1=a+(Yf (Zk s a)).2.2.2 from by omega]at this
theorem rem_bd(s:ByteArray){a:Nat}(h:a<s.size)(hk:(Yf (Zk s a)).1 = -1):Bd s (a+(Yf (Zk s a)).2.2.2):=by
 have hb:=Zax s h (by omega)
 have h35:gB s a=35∧(Yf (Zk s a)).2.2.2=tw (Xe 10) (Zk s a):=by
  rw[Yt s h]at hk ⊢;revert hk
  refine Jj (gB s a) (Zk s (a+1)) (fun x=>x.1 = -1→gB s a=35∧x.2.2.2=tw (Xe 10) ((gB s a:Int)::Zk s (a+1))) ?_ ?_ ?_ ?_ ?_ ?_ ?_ ?_
  ·intro _ hh;simp at hh
  ·intro _ _ _ hh;simp at hh
  ·intro _ _ hh;simp at hh
  ·intro hc _;exact⟨by omega,rfl⟩
  ·intro _ _ _ hh;simp at hh
  ·intro _ _ hh;simp at hh
  ·intro _ _ _ _ _ hh;simp at hh
  ·intro _ _ _ _ _ hh;simp at hh
 rw[h35.2]at hb ⊢;rcases tw_end (Xe 10) (Zk s a)with he | ⟨x,hx,hp⟩
 ·rw[Xk]at he
  rw[he,show a+(s.size - a)=s.size from by omega];exact Bd.end_ s
 ·by_cases hlt:a+tw (Xe 10) (Zk s a)<s.size
  ·rw[Zlm s a _ hlt]at hx
   cases hx
   refine Bd.reach hb.2 (.inr ?_);rcases Decidable.em (gB s (a+tw (Xe 10) (Zk s a))=10)with e | e
   ·omega
   ·rw[(Zba 10 _).2 (by omega)]at hp;cases hp
  ·rw[show a+tw (Xe 10) (Zk s a)=s.size from by omega]
   exact Bd.end_ s
open Go.Shelf
def indexByteL_ren:Go.Shelf.Ren:=⟨fun | 137=>180 | 217=>194 | 266=>197 | n=>n,fun | 9=>9 | 5=>5 | 3=>3 | n=>n,fun | n=>n⟩
theorem indexByteL:Go.Proofs.Lays.n137 Tryz.prog indexByteL_ren:= {
 mixed:=by kernel_rfl
 f137:=Tryz.func180.trans (congrArg some (by kernel_rfl))
 f217:=Tryz.func194.trans (congrArg some (by kernel_rfl))
 f266:=Tryz.func197.trans (congrArg some (by kernel_rfl))
 t3:=Tryz.underlying3
 a3:=Tryz.isAgg3
 z3:=Tryz.sizeOf3
 v3:=Tryz.zeroValue3
 t5:=Tryz.underlying5
 a5:=Tryz.isAgg5
 z5:=Tryz.sizeOf5
 v5:=Tryz.zeroValue5
 t9:=Tryz.underlying9
 a9:=Tryz.isAgg9
 z9:=Tryz.sizeOf9
 v9:=Tryz.zeroValue9 }
def hasPrefixL_ren:Go.Shelf.Ren:=⟨fun | 99=>183 | 206=>196 | n=>n,fun | 9=>9 | 4=>4 | 3=>3 | n=>n,fun | n=>n⟩
theorem hasPrefixL:Go.Proofs.Lays.n99 Tryz.prog hasPrefixL_ren:= {
 mixed:=by kernel_rfl
 f99:=Tryz.func183.trans (congrArg some (by kernel_rfl))
 f206:=Tryz.func196.trans (congrArg some (by kernel_rfl))
 t3:=Tryz.underlying3
 a3:=Tryz.isAgg3
 z3:=Tryz.sizeOf3
 v3:=Tryz.zeroValue3
 t4:=Tryz.underlying4
 a4:=Tryz.isAgg4
 z4:=Tryz.sizeOf4
 v4:=Tryz.zeroValue4
 t9:=Tryz.underlying9
 a9:=Tryz.isAgg9
 z9:=Tryz.sizeOf9
 v9:=Tryz.zeroValue9 }
theorem bL_map(s:ByteArray):bL s=s.data.toList.map fun c:UInt8=>(c.toNat:Int):=by
 apply List.ext_getElem?;intro i;by_cases h:i<s.size
 ·rw[Zhy s i h,List.getElem?_map,Uc s i h]
  have:s.data.toList[i]?=some (s[i]'h):=by
   rw[Array.getElem?_toList];exact Array.getElem?_eq_getElem (by simpa using h)
  rw[this];rfl
 ·rw[List.getElem?_eq_none (by rw[Vr];omega),List.getElem?_eq_none (by rw[List.length_map,Array.length_toList];exact Nat.le_of_not_lt h)]
def idxOf(c:Int)(l:List Int):Int:=if tw (Xe c) l=l.length then -1 else(tw (Xe c) l:Int)
theorem Zjb(c:UInt8):∀ l:List UInt8,Lib.indexByte l c=idxOf (c.toNat:Int) (l.map fun c:UInt8=>(c.toNat:Int))
 |[]=>by simp[Lib.indexByte,idxOf,tw]
 |b::l=>by
  have ih:=Zjb c l;unfold Lib.indexByte;by_cases h:b=c
  ·subst h
   rw[if_pos (by simp)];unfold idxOf;rw[List.map_cons,Zbv _ (by unfold Xe;simp)];simp
  ·have hn:Xe (c.toNat:Int) (b.toNat:Int)=true:=by
    rw[Zba];intro e;exact h (UInt8.toNat_inj.1 (by omega))
   rw[if_neg (by simpa using h),ih];unfold idxOf;rw[List.map_cons,Vt _ hn,List.length_cons];have:=Zhb (Xe (c.toNat:Int)) (l.map fun c:UInt8=>(c.toNat:Int));by_cases e:tw (Xe (c.toNat:Int)) (l.map fun c:UInt8=>(c.toNat:Int))=(l.map fun c:UInt8=>(c.toNat:Int)).length
   ·rw[if_pos e,if_pos (by simp),if_pos (by omega)]
   ·rw[if_neg e,if_neg (by simp),if_neg (by omega)];try omega
theorem IndexByte_any(s:ByteArray)(c:Nat)(hc:c<256)(w:World):Calls Tryz.prog 180 #[.string s,.int .u8 (c:Int)] w fun e w'=>e=.returned (.int .i64 (idxOf (c:Int) (bL s)))∧w=w':=by
 refine(Any.strings_IndexByte indexByteL s (c:Int) w).mono ?_;rintro e w' ⟨rfl,rfl⟩;refine⟨?_,rfl⟩;rw[Zjb,bL_map];congr 3
 simp;omega
theorem prefix_map(p l:List UInt8):p.isPrefixOf l=(p.map fun c:UInt8=>(c.toNat:Int)).isPrefixOf (l.map fun c:UInt8=>(c.toNat:Int)):=by
 induction p generalizing l with
 |nil=>simp
 |cons x p ih=>
  cases l with
  |nil=>simp
  |cons y l=>
   simp only[List.map_cons,List.isPrefixOf,ih l];congr 1
   rw[Bool.eq_iff_iff];simp only[beq_iff_eq];constructor
   ·rintro rfl;rfl
   ·intro h;exact UInt8.toNat_inj.1 (by omega)
theorem HasPrefix_any(s p:ByteArray)(w:World):Calls Tryz.prog 183 #[.string s,.string p] w fun e w'=>e=.returned (.bool ((bL p).isPrefixOf (bL s)))∧w=w':=by
 refine(Any.strings_HasPrefix hasPrefixL s p w).mono ?_;rintro e w' ⟨rfl,rfl⟩;refine⟨?_,rfl⟩;rw[bL_map,bL_map,←prefix_map];rfl
def mkL:List (List Int):=[[123],[125],[40],[41],[59],[43],[45],[42],[61],[60],[62],[60,61],[62,61],[33,61]]
def Vi(l:List Int)(n:Nat)(m:List Int):Nat:=if n<m.length∧m.isPrefixOf l=true then m.length else n
theorem mk_fold(l:List Int):mkL.foldl (Vi l) 0=Jr l:=by
 cases l with
 |nil=>simp[mkL,Vi,Jr]
 |cons c r=>
  rw[Zeu]
  have hd:∀ d:Int,([d]:List Int).isPrefixOf (c::r)=decide (c=d):=by
   intro d;rw[Bool.eq_iff_iff];simp[List.isPrefixOf];exact eq_comm
  have he:∀ d e:Int,([d,e]:List Int).isPrefixOf (c::r)=(decide (c=d) && decide (r.head?=some e)):=by
   intro d e;rw[Bool.eq_iff_iff];cases r with
   |nil=>simp[List.isPrefixOf]
   |cons y r=>simp[List.isPrefixOf];rw[@eq_comm _ d,@eq_comm _ e]
  simp only[mkL,List.foldl_cons,List.foldl_nil,Vi,hd,he,List.length_cons,List.length_nil,decide_eq_true_eq,Bool.and_eq_true];by_cases e61:r.head?=some 61
  all_goals
   by_cases h123:c=123
   ·subst h123;simp[e61]
   by_cases h125:c=125
   ·subst h125;simp[e61]
   by_cases h40:c=40
   ·subst h40;simp[e61]
   by_cases h41:c=41
   ·subst h41;simp[e61]
   by_cases h59:c=59
   ·subst h59;simp[e61]
   by_cases h43:c=43
   ·subst h43;simp[e61]
   by_cases h45:c=45
   ·subst h45;simp[e61]
   by_cases h42:c=42
   ·subst h42;simp[e61]
   by_cases h61:c=61
   ·subst h61;simp[e61]
   by_cases h60:c=60
   ·subst h60;simp[e61]
   by_cases h62:c=62
   ·subst h62;simp[e61]
   by_cases h33:c=33
   ·subst h33;simp[e61]
   simp[h123,h125,h40,h41,h59,h43,h45,h42,h61,h60,h62,h33]
theorem mk_bd(l:List Int)(k:Nat):(mkL.take k).foldl (Vi l) 0≤2:=by
 have key:∀(m:List (List Int))(n:Nat),n≤2→(∀ x ∈ m,x.length≤2)→m.foldl (Vi l) n≤2:=by
  intro m;induction m with
  |nil=>intro n h _;exact h
  |cons x m ih=>
   intro n h hm;rw[List.foldl_cons];refine ih _ ?_ (fun y hy=>hm y (by simp[hy]));unfold Vi;split
   ·exact hm x (by simp)
   ·exact h
 refine key _ 0 (by decide) fun x hx=>?_
 have:∀ x ∈ mkL,x.length≤2:=by decide
 exact this x (List.mem_of_mem_take hx)
theorem mk_next(l:List Int)(k:Nat)(h:k<14):(mkL.take (k+1)).foldl (Vi l) 0=Vi l ((mkL.take k).foldl (Vi l) 0) (mkL[k]'h):=by
 rw[List.take_succ_eq_append_getElem h,List.foldl_append];rfl
def mkS:List ByteArray:=mkL.map strOfNums
def mkCs:List Value:=mkS.map Value.string
theorem mk_by(k:Nat)(h:k<14):∀ x ∈ mkL[k]'h,0≤x∧x<256:=by
 have:∀ y ∈ mkL,∀ x ∈ y,0≤x∧x<256:=by decide
 exact this _ (List.getElem_mem _)
theorem mkCs_at(k:Nat)(h:k<14):mkCs[k]?=some (.string (strOfNums (mkL[k]'h))):=by
 unfold mkCs mkS;rw[List.getElem?_map,List.getElem?_map,List.getElem?_eq_getElem h];rfl
theorem mk_len(k:Nat)(h:k<14):1≤(mkL[k]'h).length∧(mkL[k]'h).length≤2:=by
 have:∀ y ∈ mkL,1≤y.length∧y.length≤2:=by decide
 exact this _ (List.getElem_mem _)
set_option linter.unusedVariables false
set_option linter.unusedSimpArgs false
theorem Vo{a b:Bool}(h:a=b):Ending.returned (.bool a)=.returned (.bool b):=by rw[h]
theorem Zmu{k:IntKind}{a b:Int}(h:a=b):Ending.returned (.int k a)=.returned (.int k b):=by rw[h]
theorem Zly(n:Int)(w:World):Calls Tryz.prog 159 #[.int .i32 n] w fun e w'=>e=.returned (.bool (decide (97≤n∧n≤122)))∧w=w':=by
 go_enter Tryz.func159,Tryz.ntmps159;go_wp2
 all_goals
  go_ret;refine⟨Vo ?_,rfl⟩;rw[Bool.eq_iff_iff];simp;try omega
theorem Letter_any(n:Int)(w:World):Calls Tryz.prog 198 #[.int .i32 n] w fun e w'=>e=.returned (.bool (Zfh n))∧w=w':=by
 go_enter Tryz.func198,Tryz.ntmps198;go_wp2_with(go_at_call 159;refine(Zly _ _).mono ?_;rintro e w' ⟨rfl,rfl⟩)
 all_goals
  go_ret;refine⟨Vo ?_,rfl⟩;rw[Bool.eq_iff_iff];simp[Zfh];try omega
theorem rLetter_any(n:Int)(w:World):Calls Tryz.prog 172 #[.int .i64 n] w fun e w'=>e=.returned (.bool (Zfh n))∧w=w':=by
 go_enter Tryz.func172,Tryz.ntmps172;go_wp2
 all_goals
  go_ret;refine⟨Vo ?_,rfl⟩;rw[Bool.eq_iff_iff];simp[Zfh];try omega
theorem Digit_any(n:Int)(w:World):Calls Tryz.prog 161 #[.int .i32 n] w fun e w'=>e=.returned (.bool (decide (48≤n∧n≤57)))∧w=w':=by
 go_enter Tryz.func161,Tryz.ntmps161;go_wp2
 all_goals
  go_ret;refine⟨Vo ?_,rfl⟩;rw[Bool.eq_iff_iff];simp;try omega
theorem Blank_any(n:Int)(w:World):Calls Tryz.prog 157 #[.int .i32 n] w fun e w'=>e=.returned (.bool (decide (n=32∨n=9∨n=10)))∧w=w':=by
 go_enter Tryz.func157,Tryz.ntmps157;go_wp2
 all_goals
  go_ret;refine⟨Vo ?_,rfl⟩;rw[Bool.eq_iff_iff];simp;try omega
theorem Zjp(n:Int)(w:World):Calls Tryz.prog 195 #[.int .i32 n] w fun e w'=>e=.returned (.bool (Zat n))∧w=w':=by
 go_enter Tryz.func195,Tryz.ntmps195;go_wp2_with(first
 |(go_at_call 198;refine(Letter_any _ _).mono ?_;rintro e w' ⟨rfl,rfl⟩)
 |(go_at_call 161;refine(Digit_any _ _).mono ?_;rintro e w' ⟨rfl,rfl⟩))
 all_goals
  go_ret;refine⟨Vo ?_,rfl⟩;rw[Bool.eq_iff_iff];simp_all[Zat];try omega
theorem Place_any(s:ByteArray)(a:Int)(w:World)(hs:s.size≤140737488355328):Calls Tryz.prog 156 #[.string s,.int .i64 a] w fun e w'=>e=.returned (.tuple #[.int .i64 ((Zs s a).1:Nat),.int .i64 ((Zs s a).2:Nat)])∧Below w.heap.size w w':=by
 go_enter Tryz.func156,Tryz.ntmps156;go_wp2
 go_loopw [4,5] (fun l c w'=>∃(pos:Nat)(p:Nat×Nat),w'=w.iter s pos∧l=.int .i64 (p.1:Nat)∧c=.int .i64 (p.2:Nat)∧Zdd a (Jc s pos) p=Zs s a∧p.1≤pos+1∧p.2≤pos+1∧pos≤s.size) (fun _ _ w'=>s.size - w'.iterPos w.heap.size)
 case atStart=>exact⟨0,(1,1),rfl,rfl,rfl,rfl,by omega,by omega,by omega⟩
 case round=>
  obtain⟨pos,p,rfl,rfl,rfl,hl,h1,h2,h3⟩:=hrel;by_cases hp:pos<s.size
  ·have hnx:∀ ty,(Instr.next (.pointer (some ⟨w.heap.size,0,none⟩)) true ty).run Tryz.prog (w.iter s pos)=_:=fun ty=>run_next_any w s pos ty hp
   have hwd:=Zbp s pos hp;rw[Wx s pos hp]at hl;simp only[Zdd]at hl;have HL:=Hh hl;clear hl;obtain⟨d1,d2,d3,d4⟩:=hwd;by_cases ha:a≤(pos:Int)
   ·go_wp2
    go_ret2
    have:=HL.out;rw[if_pos ha]at this;rw[←this];exact⟨rfl,(Below.refl _ _).alloc (Nat.le_refl _) _⟩
   ·have HL2:=HL.out
    rw[if_neg ha]at HL2;have ha':¬ a≤(pos:Int):=ha;have HM:=Hh HL2;clear HL2 HL;by_cases hr:(Utf8.decode s pos).1=10
    ·have hb:(((Utf8.decode s pos).1:Int) == 10)=true:=by rw[hr];rfl
     have HR:=Hh hr;clear hr;go_wp2
     go_roundw
     case rel=>
      refine⟨pos+(Utf8.decode s pos).2,Yw p (Utf8.decode s pos).1,rfl,?_,?_,HM.out,?_⟩
      ·simp[Yw,HR.out]
      ·simp[Yw,HR.out]
      ·simp only[Yw,HR.out,if_pos];omega
     case measure=>simp;omega
    ·have hb:(((Utf8.decode s pos).1:Int) == 10)=false:=by simp;omega
     have HR:=Hh hr;clear hr;go_wp2
     go_roundw
     case rel=>
      refine⟨pos+(Utf8.decode s pos).2,Yw p (Utf8.decode s pos).1,rfl,?_,?_,HM.out,?_⟩
      ·simp[Yw,HR.out]
      ·simp[Yw,HR.out]
      ·simp only[Yw,HR.out,if_false];omega
     case measure=>simp;omega
  ·have hnx:∀ ty,(Instr.next (.pointer (some ⟨w.heap.size,0,none⟩)) true ty).run Tryz.prog (w.iter s pos)=_:=fun ty=>run_next_end w s pos ty hp
   rw[Jw s pos (by omega)]at hl;have HL:=Hh hl;clear hl;go_wp2
   go_ret2
   rw[←HL.out];exact⟨rfl,(Below.refl _ _).alloc (Nat.le_refl _) _⟩
theorem At_in(s:ByteArray)(i:Nat)(w:World)(hs:s.size≤140737488355328)(h:i<s.size):Calls Tryz.prog 158 #[.string s,.int .i64 i] w fun e w'=>e=.returned (.tuple #[.int .i32 (Utf8.decode s i).1,.int .i64 (Utf8.decode s i).2])∧Below w.heap.size w w':=by
 have hz:=size_extract s i s.size (Nat.le_refl _);have hd:=Zml s i (by omega) 0 (by omega);have hb:=Zbp s i h;rw[Nat.add_zero]at hd;rw[←hd]at hb ⊢;generalize hr:s.extract i s.size=rest at *;have HR:=Hh hr;have HZ:=Hh hz;have h0:0<rest.size:=by omega
 have hnx:∀ ty,(Instr.next (.pointer (some ⟨w.heap.size,0,none⟩)) true ty).run Tryz.prog (w.iter rest 0)=_:=fun ty=>run_next_any w rest 0 ty h0
 rw[Nat.zero_add]at hnx;clear hz hd;have hi:(0:Int)≤(i:Int):=by omega
 have hi':(i:Int)≤(s.size:Int):=by omega
 by_cases hp:(Utf8.decode rest 0).2<rest.size
 ·have hnx2:∀ ty,(Instr.next (.pointer (some ⟨w.heap.size,0,none⟩)) true ty).run Tryz.prog (w.iter rest (Utf8.decode rest 0).2)=_:=fun ty=>run_next_any w rest _ ty hp
  go_enter Tryz.func158,Tryz.ntmps158;go_wp2
  refine wp_loop_rounds 2 ?_;rw[rounds_succ];go_wp2
  rw[rounds_succ];go_wp2
  go_ret2
  exact⟨rfl,(Below.refl _ _).alloc (Nat.le_refl _) _⟩
 ·have hnx2:∀ ty,(Instr.next (.pointer (some ⟨w.heap.size,0,none⟩)) true ty).run Tryz.prog (w.iter rest (Utf8.decode rest 0).2)=_:=fun ty=>run_next_end w rest _ ty hp
  have he:(Utf8.decode rest 0).2=rest.size:=by have:=HZ.out;omega
  have HE:=Hh he;clear he;go_enter Tryz.func158,Tryz.ntmps158;go_wp2
  refine wp_loop_rounds 2 ?_;rw[rounds_succ];go_wp2
  rw[rounds_succ];go_wp2
  go_ret2
  exact⟨by rw[HE.out];rfl,(Below.refl _ _).alloc (Nat.le_refl _) _⟩
theorem Name_any(s:ByteArray)(w:World)(hs:s.size≤140737488355328):Calls Tryz.prog 181 #[.string s] w fun e w'=>e=.returned (.bool (Zbt s))∧Below w.heap.size w w':=by
 go_enter Tryz.func181,Tryz.ntmps181;go_wp2
 go_loopw [3] (fun n w'=>∃(pos:Nat)(done:List (Nat×Nat)),w'=w.iter s pos∧n=.int .i64 done.length∧Zdx s pos done∧done.length≤24∧done.all (fun x=>Zat x.1)=true) (fun _ w'=>s.size - w'.iterPos w.heap.size)
 case atStart=>exact⟨0,[],rfl,rfl,Zdx.zero s,by simp,by simp⟩
 case round=>
  obtain⟨pos,done,rfl,rfl,hu,h24,hall⟩:=hrel;have HU:=Hh hu;have HA:=Hh hall;clear hu hall;by_cases hp:pos<s.size
  ·have hnx:∀ ty,(Instr.next (.pointer (some ⟨w.heap.size,0,none⟩)) true ty).run Tryz.prog (w.iter s pos)=_:=fun ty=>run_next_any w s pos ty hp
   have hwd:=Zbp s pos hp;have hl:done.length+1≤(Yl s).length:=by have:=HU.out;rw[(this.next hp).all];simp
   have hlz:=Jp s;obtain⟨d1,d2,d3,d4⟩:=hwd;by_cases h25:24<done.length+1
   ·go_wp2_with(go_at_call 195;refine(Zjp _ _).mono ?_;rintro e w' ⟨rfl,rfl⟩)
    go_ret;refine⟨Vo ?_,(Below.refl _ _).alloc (Nat.le_refl _) _⟩;unfold Zbt;simp;omega
   ·cases hin:Zat ((Utf8.decode s pos).1:Int)with
    |false=>
     go_wp2_with(go_at_call 195;refine(Zjp _ _).mono ?_;rintro e w' ⟨rfl,rfl⟩)
     go_ret;refine⟨Vo ?_,(Below.refl _ _).alloc (Nat.le_refl _) _⟩
     have:(Yl s).all (fun x=>Zat x.1)=false:=by
      rw[(HU.out.next hp).all];simp[hin]
     unfold Zbt;rw[this];simp
    |true=>
     go_wp2_with(go_at_call 195;refine(Zjp _ _).mono ?_;rintro e w' ⟨rfl,rfl⟩)
     go_roundw
     case rel=>exact⟨pos+(Utf8.decode s pos).2,done++[((Utf8.decode s pos).1,pos)],rfl,by simp,HU.out.next hp,by simp;omega,by rw[List.all_append,HA.out];simp[hin]⟩
     case measure=>simp;omega
  ·have hnx:∀ ty,(Instr.next (.pointer (some ⟨w.heap.size,0,none⟩)) true ty).run Tryz.prog (w.iter s pos)=_:=fun ty=>run_next_end w s pos ty hp
   have he:=HU.out.length_end (by omega)
   have hv:Zbt s=(decide (1≤done.length) && decide (((Yl s).map (·.1)).head?≠some 32) && decide (((Yl s).map (·.1)).getLast?≠some 32)):=by
    unfold Zbt;rw[he,HA.out];simp[h24]
   have HV:=Hh hv;have HE:=Hh he;clear hv he;by_cases hz:0<done.length
   ·have hz2:0<s.size:=by have:=Jp s;rw[HE.out]at this;omega
    have hh:=head_space s hz2;have ht:=last_space s hz2;rw[Uc s 0 hz2]at hh;rw[Uc s (s.size - 1) (by omega)]at ht;have HH:=Hh hh;have HT:=Hh ht;clear hh ht;go_wp2
    all_goals
     go_ret;refine⟨Vo ?_,(Below.refl _ _).alloc (Nat.le_refl _) _⟩;have hh:=HH.out;have ht:=HT.out;rw[HV.out,Bool.eq_iff_iff];simp only[ne_eq,hh,ht];simp;omega
   ·go_wp2
    go_ret;refine⟨Vo ?_,(Below.refl _ _).alloc (Nat.le_refl _) _⟩;rw[HV.out];simp;omega
theorem rI{k:IntKind}{a b:Int}(h:a=b):Ending.returned (.int k a)=.returned (.int k b):=by rw[h]
theorem rB{a b:Bool}(h:a=b):Ending.returned (.bool a)=.returned (.bool b):=by rw[h]
theorem rV{a b:Value}(h:a=b):Ending.returned a=.returned b:=by rw[h]
theorem vI{k:IntKind}{a b:Int}(h:a=b):Value.int k a=Value.int k b:=by rw[h]
theorem slice_nn{P:Program}(t:TypeId)(h:P.underlying t=some .string)(s:ByteArray)(i n:Nat)(hz:i+n≤s.size)(w:World) :
  (Instr.slice t (.string s) (some (.int .i64 (i:Int))) (some (.int .i64 ((i:Int)+(n:Int)))) none).run P w=.ok (.string (s.extract i (i+n))) w:=by
 rw[run_slice_string w t s .i64 .i64 _ _ h (by omega) (by omega) (by omega)];rw[show((i:Int)+(n:Int)).toNat=i+n from by omega,Int.toNat_natCast]
theorem digitsEnd_any(s:ByteArray)(a:Nat)(w:World)(hs:s.size≤140737488355328)(ha:a≤s.size):Calls Tryz.prog 193 #[.string s,.int .i64 a] w fun e w'=>e=.returned (.int .i64 ((a+(Xr ((bL s).drop a)).length:Nat):Int))∧w=w':=by
 go_enter Tryz.func193,Tryz.ntmps193;go_wp2
 go_loop [1] (fun i=>∃ k:Nat,i=.int .i64 k∧k≤s.size∧k+(Xr ((bL s).drop k)).length=a+(Xr ((bL s).drop a)).length) (fun i=>s.size - (intOf i).toNat)
 case atStart=>exact⟨a,rfl,ha,rfl⟩
 case round=>
  obtain⟨k,rfl,hk,he⟩:=hrel;by_cases h:k<s.size
  ·have g:=Uc s k h
   have hd:=Ziq s k h;have l1:(k:Int)<(s.size:Int):=by omega
   have l0:decide (s.size≤k)=false:=by simp;omega
   cases hD:isD (gB s k:Int)with
   |true=>
    have hD':=(Zbf _).1 hD;rw[hd,Jz _ hD,List.length_cons]at he;rw[g]at hD';have b1:(48:Int)≤((s[k]'h).toNat:Int):=hD'.1;have b2:((s[k]'h).toNat:Int)≤57:=hD'.2;have HE:=Hh he;clear he hd hD hD' g;go_wp2
    go_round
    case rel=>exact⟨k+1,by go_num,by omega,by have:=HE.out;omega⟩
    case measure=>simp[intOf];omega
   |false=>
    rw[hd,Zhu _ hD]at he;have hE:k=a+(Xr ((bL s).drop a)).length:=he;have hD':¬(48≤(gB s k:Int)∧(gB s k:Int)≤57):=fun c=>by rw[(Zbf _).2 c]at hD;cases hD
    rw[g]at hD';have HE:=Hh hE;clear he hd hD g hE;by_cases b1:(48:Int)≤((s[k]'h).toNat:Int)
    ·have b2:¬((s[k]'h).toNat:Int)≤57:=fun c=>hD' ⟨b1,c⟩
     clear hD';go_wp2
     go_ret;exact⟨rI (by have:=HE.out;omega),rfl⟩
    ·clear hD'
     go_wp2
     go_ret;exact⟨rI (by have:=HE.out;omega),rfl⟩
  ·rw[Zfk s k (by omega)]at he
   have hE:k=a+(Xr ((bL s).drop a)).length:=he;have HE:=Hh hE;clear he hE;go_wp2
   go_ret;exact⟨rI (by have:=HE.out;omega),rfl⟩
def takeV(x:Int×Int×Bool):Value:=.tuple #[.int .i64 x.1,.int .i64 x.2.1,.bool x.2.2]
theorem dTake_any (s :ByteArray)(a most:Int)(w:World)(hs:s.size≤140737488355328)(m1 : -9223372036854775808≤most)(m2:most≤9223372036854775807)(a1 : -9223372036854775808≤a)(a2:a≤9223372036854775807) :
   Calls Tryz.prog 179 #[.string s,.int .i64 a,.int .i64 most] w fun e w'=>e=.returned (takeV (Uk s a most))∧w=w':=by
 by_cases h0:a<0
 · have T:=Hh (show Uk s a most=(0,0,false) by unfold Uk;rw[if_pos (.inl h0)])
   go_enter Tryz.func179,Tryz.ntmps179;go_wp2
   go_ret3
   exact⟨by rw[T.out];rfl,rfl⟩
 · by_cases h1 : (s.size:Int)≤a
   · have T:=Hh (show Uk s a most=(0,0,false) by unfold Uk;rw[if_pos (.inr h1)])
     go_enter Tryz.func179,Tryz.ntmps179;go_wp2
     go_ret3
     exact⟨by rw[T.out];rfl,rfl⟩
   · obtain ⟨i, rfl⟩ :∃ i:Nat,a=i:=⟨a.toNat,by omega⟩
     have hi:i<s.size:=by omega
     obtain⟨D,hD⟩:∃ D,Xr ((bL s).drop i)=D:=⟨_,rfl⟩
     have hend:=digitsEnd_any s i
     have htk:Uk s i most=if D≠[]∧(D.length:Int)≤most∧D.length≤9∧Zca D=true then(Jo D,(i:Int)+(D.length:Int),true)else(0,0,false):=by
       unfold Uk;rw[if_neg (by omega),Int.toNat_natCast,hD]
     rw[hD]at hend
     have hle:D.length≤s.size - i:=by
       have:=firstD_len ((bL s).drop i);rw[hD,List.length_drop,Vr]at this;exact this
     have hdr:=Zfi ((bL s).drop i);rw[hD]at hdr;have l1:decide ((i:Int)<0)=false:=by simp
     have l2:decide (s.size≤i)=false:=by simp;omega
     have l3:(i:Int)<(s.size:Int):=by omega
     have HDR:=Hh hdr;have hsub:(i:Int)+(D.length:Int) - (i:Int)=(D.length:Int):=by omega
     have hD':∀ x ∈ D,48≤x∧x≤57:=fun x hx=>firstD_isD _ x (by rw[hD];exact hx)
     clear hdr hD;by_cases c0:D.length=0
     · rw[if_neg (fun c=>c.1 (List.eq_nil_of_length_eq_zero c0))]at htk
       have T:=Hh htk;clear htk;go_enter Tryz.func179,Tryz.ntmps179;go_wp2_with(go_at_call 193;refine(hend _ hs (by omega)).mono ?_;rintro e w' ⟨rfl,rfl⟩)
       go_ret3
       exact⟨by rw[T.out];rfl,rfl⟩
     · have n0 : ((D.length:Int) == 0)=false:=by rw[beq_eq_false_iff_ne];omega
       by_cases c1:most<(D.length:Int)
       · rw[if_neg (fun c=>by omega)]at htk
         have T:=Hh htk;clear htk;go_enter Tryz.func179,Tryz.ntmps179;go_wp2_with(go_at_call 193;refine(hend _ hs (by omega)).mono ?_;rintro e w' ⟨rfl,rfl⟩)
         go_ret3
         exact⟨by rw[T.out];rfl,rfl⟩
       · by_cases c2:9<(D.length:Int)
         · rw[if_neg (fun c=>by omega)]at htk
           have T:=Hh htk;clear htk;go_enter Tryz.func179,Tryz.ntmps179;go_wp2_with(go_at_call 193;refine(hend _ hs (by omega)).mono ?_;rintro e w' ⟨rfl,rfl⟩)
           go_ret3
           exact⟨by rw[T.out];rfl,rfl⟩
         · have g0:D[0]?=some ((s[i]'hi).toNat:Int):=by
             have h:=congrArg (fun l:List Int=>l[0]?) HDR.out;rw[List.getElem?_take_of_lt (by omega),List.getElem?_drop,Nat.add_zero,Zhy s i hi,Uc s i hi]at h;exact h.symm
           have hpl:Zca D=(!(((s[i]'hi).toNat:Int) == 48) || decide (D.length=1)):=by
             unfold Zca;rw[g0];rw[Bool.eq_iff_iff];simp
           cases hp:Zca D with
           |false=>
             rw[if_neg (fun c=>by rw[hp]at c;exact absurd c.2.2.2 (by simp))]at htk;have T:=Hh htk;rw[hp]at hpl
             have e1:(((s[i]'hi).toNat:Int) == 48)=true:=by
               cases h:(((s[i]'hi).toNat:Int) == 48)with
               |true=>rfl
               |false=>rw[h]at hpl;simp at hpl
             have e2:1<(D.length:Int):=by
               rw[e1]at hpl;simp at hpl;omega
             clear htk hp hpl g0;go_enter Tryz.func179,Tryz.ntmps179;go_wp2_with(go_at_call 193;refine(hend _ hs (by omega)).mono ?_;rintro e w' ⟨rfl,rfl⟩)
             go_ret3
             exact⟨by rw[T.out];rfl,rfl⟩
           |true=>
             rw[if_pos ⟨fun c=>c0 (by rw[c];rfl),by omega,by omega,hp⟩]at htk;have T:=Hh htk;rw[hp]at hpl
             have e:(((s[i]'hi).toNat:Int) == 48)=false∨(((s[i]'hi).toNat:Int) == 48)=true∧(D.length:Int)≤1:=by
               cases h:(((s[i]'hi).toNat:Int) == 48)with
               |false=>exact .inl rfl
               |true=>rw[h]at hpl;simp at hpl;exact .inr ⟨rfl,by omega⟩
             have hb:∀ k (hk:k<D.length),∃ hz:i+k<s.size,D[k]=((s[i+k]'hz).toNat:Int):=by
               intro k hk;have hz:i+k<s.size:=by omega
               refine⟨hz,?_⟩;have h:=congrArg (fun l:List Int=>l[k]?) HDR.out;rw[List.getElem?_take_of_lt (by omega),List.getElem?_drop,Zhy s (i+k) hz,Uc s (i+k) hz,List.getElem?_eq_getElem hk]at h;exact(Option.some.inj h).symm
             have hdd:∀ x ∈ D,48≤x∧x≤57:=hD'
             clear htk hp hpl g0;have HBB:=Hh hb;have HDD:=Hh hdd;clear hb hdd;rcases e with e | ⟨e,e'⟩
             all_goals
               go_enter Tryz.func179,Tryz.ntmps179;go_wp2_with(go_at_call 193;refine(hend _ hs (by omega)).mono ?_;rintro e w' ⟨rfl,rfl⟩)
               go_loop [6,10,45] (fun n _ j=>∃ k:Nat,j=.int .i64 k∧k≤D.length∧n=.int .i64 (Jo (D.take k))) (fun _ _ j=>D.length - (intOf j).toNat)
               case atStart=>exact⟨0,rfl,by omega,rfl⟩
               case round=>
                 obtain⟨k,rfl,hk,rfl⟩:=hrel;by_cases hkl:k<D.length
                 · obtain⟨hz,hx⟩:=HBB.out k hkl
                   have hv:=Zaw (D.take k) (fun x hx=>HDD.out x (List.mem_of_mem_take hx));have hlen:(D.take k).length=k:=by rw[List.length_take];omega
                   rw[hlen]at hv;have hv2:Jo (D.take k)<1000000000:=Int.lt_of_lt_of_le hv.2 (pow10_le (show k≤9 by omega));have hv1:=hv.1;have hd:=HDD.out _ (List.getElem_mem hkl);rw[hx]at hd;obtain⟨hd1,hd2⟩:=hd
                   have hs2:Jo (D.take (k+1))=10*Jo (D.take k)+(((s[i+k]'hz).toNat:Int) - 48):=by
                     rw[List.take_succ_eq_append_getElem hkl,Zif,hx]
                   have HS:=Hh hs2;have lk:(k:Int)<(D.length:Int):=by omega
                   have li:(i:Int)+(k:Int)<(s.size:Int):=by omega
                   clear hs2 hv hx hlen;generalize Jo (D.take k)=V at *;go_wp2
                   go_round
                   case rel=>exact⟨k+1,by go_num,by omega,by rw[HS.out]⟩
                   case measure=>simp[intOf];omega
                 · obtain rfl:k=D.length:=by omega
                   have HL:=Hh (show Jo (D.take D.length)=Jo D by rw[List.take_length]);clear hk hkl;go_wp2
                   go_ret3
                   exact⟨by rw[T.out];exact rV (by unfold takeV;rw[←HL.out];rfl),rfl⟩
open Go Go.RowKit
def Zdu(w:World)(B:Nat)(A:Option Addr)(cs:List Value):Prop:=
 cs=[]∨∃ g off,A=some ⟨g,off,none⟩∧g<B∧∀ j,j<cs.length→w.cell? ⟨g,off+j,none⟩=cs[j]?
theorem Zdu.same{w w':World}{B:Nat}{A:Option Addr}{cs:List Value}(h:Zdu w B A cs)(hs:∀ k,k<B→w'.heap[k]?=w.heap[k]?):Zdu w' B A cs:=by
 rcases h with h | ⟨g,off,rfl,hg,hc⟩
 ·exact .inl h
 ·exact .inr ⟨g,off,rfl,hg,fun j hj=>(World.cell?_of_block (w:=w) (a:=⟨g,off+j,none⟩) (hs g hg)).trans (hc j hj)⟩
theorem Zdu.below{w w':World}{B:Nat}{A:Option Addr}{cs:List Value}(h:Zdu w B A cs)(hb:Below B w w'):Zdu w' B A cs:=h.same hb.block
theorem Zdu.mono{w:World}{B B':Nat}{A:Option Addr}{cs:List Value}(h:Zdu w B A cs)(hB:B≤B'):Zdu w B' A cs:=by
 rcases h with h | ⟨g,off,rfl,hg,hc⟩
 ·exact .inl h
 ·exact .inr ⟨g,off,rfl,by omega,hc⟩
theorem Zdu.alloc{w:World}{B:Nat}{A:Option Addr}{cs:List Value}(h:Zdu w B A cs)(hB:B≤w.heap.size)(o:Obj):Zdu (w.alloc o) B A cs:=
 h.same fun k hk=>Below.heap_alloc w o k (by omega)
theorem Zdu.at_{w:World}{B:Nat}{A:Option Addr}{cs:List Value}(h:Zdu w B A cs)(hn:0<cs.length):∃ g off,A=some ⟨g,off,none⟩∧g<B∧∀ j,j<cs.length→w.cell? ⟨g,off+j,none⟩=cs[j]?:=by
 rcases h with h | h
 ·rw[h]at hn;simp at hn
 ·exact h
theorem Xd{w:World}{base:Nat}{e:TypeId}{size:Nat}{v:Value}{n:Nat}{xs:List Value}(h:w.ownsRow base e size v n xs) :
  ∃ A c,v=.slice A n c∧n≤c∧c≤maxLen∧Zdu w w.heap.size A xs:=by
 obtain⟨h1,h2⟩:=id h;rcases h2 with⟨rfl,rfl⟩ | ⟨g,cap,cur,rfl,hb,hh,hn,hm,hs,ht⟩
 ·exact⟨none,0,rfl,by omega,by unfold maxLen;omega,.inl (List.eq_nil_of_length_eq_zero (by simpa using h1))⟩
 ·refine⟨_,cap,rfl,hn,hm,.inr ⟨g,0,rfl,(h.lt g rfl).2,fun j hj=>?_⟩⟩
  rw[Nat.zero_add];exact World.ownsRow.cellAt h j (by omega)
def Zge(a b:Value):Prop:=∀ k,a.ownBlock=some k→b.ownBlock≠some k
theorem Zge.symm{a b:Value}(h:Zge a b):Zge b a:=fun k hb ha=>h k ha hb
theorem Zge.nil(b:Value):Zge (.slice none 0 0) b:=fun k h=>by simp[Value.ownBlock]at h
theorem Zge.grown{a v v':Value}{w:World}{base:Nat}{e:TypeId}{size n:Nat}{xs:List Value}{H:Nat}(h:Zge a v)(ha:w.ownsRow base e size a n xs)(hH:w.heap.size≤H)
  (hat:v'.ownBlock=v.ownBlock∨v'.ownBlock=some H):Zge a v':=by
 intro k hk;rcases hat with e | e
 ·rw[e];exact h k hk
 ·rw[e]
  have:=(ha.lt k hk).2;intro c;injection c with c;omega
theorem Zge.kept{a v:Value}{w w':World}{base:Nat}{e:TypeId}{size n:Nat}{xs:List Value}(h:Zge a v)(ha:w.ownsRow base e size a n xs)(hg:w.grownBy w' v.ownBlock):w'.ownsRow base e size a n xs:=by
 refine ha.kept hg ?_;cases hk:a.ownBlock with
 |none=>exact .inl rfl
 |some k=>exact .inr (fun c=>h k hk c.symm)
theorem own_mono{w:World}{base base':Nat}{e:TypeId}{size:Nat}{v:Value}{n:Nat}{xs:List Value}(h:w.ownsRow base e size v n xs)(hb:base'≤base):w.ownsRow base' e size v n xs:=by
 obtain⟨h1,h2⟩:=h;refine⟨h1,?_⟩;rcases h2 with h2 | ⟨g,cap,cur,hv,hg,r⟩
 ·exact .inl h2
 ·exact .inr ⟨g,cap,cur,hv,by omega,r⟩
theorem Un{w w':World}{base:Nat}{e:TypeId}{size:Nat}{v:Value}{n:Nat}{xs:List Value}(h:w.ownsRow base e size v n xs)(hb:Below w.heap.size w w'):w'.ownsRow base e size v n xs:=by
 obtain⟨h1,h2⟩:=id h;refine⟨h1,?_⟩;rcases h2 with h2 | ⟨g,cap,cur,hv,hg,hh,r⟩
 ·exact .inl h2
 ·refine .inr ⟨g,cap,cur,hv,hg,?_,r⟩
  rw[hb.block g ((h.lt g (by rw[hv];rfl)).2)];exact hh
theorem Zmb{P:Program}{w:World}{ops:Array Oper}{rest:List Oper}{o:Oper}{a:Act}{Q:Exit→Act→World→Prop}(s x:Operand)(t e:TypeId)(bytes:Nat)(z:Value)
  (ht:P.underlying t=some (.slice e))(hinfo:(P.info? e).map (fun i=>(i.zero,i.size,i.bytes))=some (some z,1,bytes))(hzs:z.cells.size=1)(hby:bytes≤64)
  (hgd:o.guard=none)(ho:o.op=.call { callee:=.builtin .append,args:=#[s,x],argTypes:=#[t,t] })
  (base:Nat)(v:Value)(n:Nat)(xs:List Value)(u:Value)(hs:a.eval s=v)(hown:w.ownsRow base e 1 v n xs)(hx:a.eval x=.slice (some ⟨w.heap.size,0,none⟩) 1 1)(h1:u.oneCell'=true)
  (hn:n≤1099511627776)(hbase:base≤w.heap.size)
  (h:∀ v' w',w'.ownsRow base e 1 v' (n+1) (xs++[u])→w.grownBy w' v.ownBlock→(v'.ownBlock=v.ownBlock∨v'.ownBlock=some (w.heap.size+1))→wpList P ops Q rest (a.put o.dst v') w') :
  wpList P ops Q (o::rest) a (w.alloc (.cells #[u] e)):=by
 obtain⟨i,hi,hz,hsize,hbytes⟩:=info_parts hinfo
 refine wpList_append_own_at (w.alloc (.cells #[u] e)) hgd s x t ho base e i z 1 bytes ht hi hz hsize hbytes hzs (by decide) v n xs hs (hown.alloc _) ⟨w.heap.size,0,none⟩ 1 1 [u] hx rfl (cell_one_new _ _ _)
  (by intro y hy;rw[List.mem_singleton]at hy;rw[hy];exact h1) (by unfold maxLen;omega) ?_ (by simp;omega) ?_
 ·have:(n+1)*bytes≤(n+1)*64:=Nat.mul_le_mul_left _ hby
  omega
 ·intro v' w' ho' hg _ hat
  refine h v' w' ho' ((World.grownBy_alloc w _ _).trans hg) ?_;rcases hat with e | e
  ·exact .inl e
  ·refine .inr (by simpa using e)
theorem Zgv{B:Nat}{w0 w w':World}{v:Value}{base:Nat}{e:TypeId}{size n:Nat}{xs:List Value}(h:Below B w0 w)(hown:w.ownsRow base e size v n xs)(hg:w.grownBy w' v.ownBlock)(hB:B≤base)(hs:B≤w.heap.size):Below B w0 w':=
 h.grown hg hs (fun k hk=>by have:=hown.lt k hk;omega)
theorem Ue{w b c:World}(h:Below w.heap.size w b)(k:Below b.heap.size b c):Below w.heap.size w c:=h.trans (k.mono h.size)
theorem Wa{B:Nat}{a w:World}(h:Below B a w):Below B a w.drew:=⟨h.os,h.tape,h.output,h.size,h.block⟩
theorem Zhx{B:Nat}{a w:World}(h:Below B a w)(n:Nat):Below B a (w.drewN n):=⟨h.os,h.tape,h.output,h.size,h.block⟩
def Zf(w:World)(g:Nat)(t:TypeId)(cs:Array Value):Prop:=w.heap[g]?=some (.cells cs t (0,0))
theorem Zf.inside{w:World}{g:Nat}{t:TypeId}{cs:Array Value}(h:Zf w g t cs):g<w.heap.size:=by
 apply Nat.lt_of_not_le;intro c;have e:w.heap[g]?=none:=Array.getElem?_eq_none c;unfold Zf at h;rw[e]at h;cases h
theorem Zf.read{w:World}{g:Nat}{t:TypeId}{cs:Array Value}(h:Zf w g t cs)(i:Nat):w.cell? ⟨g,i,none⟩=cs[i]?:=cell_of_row w g i cs t (0,0) h
theorem Zf.thawed{w:World}{g:Nat}{t:TypeId}{cs:Array Value}(h:Zf w g t cs)(i:Nat):w.frozen? ⟨g,i,none⟩=false:=by
 have e:w.heap[g]?=some (.cells cs t (0,0)):=h;simp[World.frozen?,e]
theorem Zf.made(w:World)(t:TypeId)(cs:Array Value):Zf (w.alloc (.cells cs t)) w.heap.size t cs:=heap_alloc_new w _
theorem Zf.alloc{w:World}{g:Nat}{t:TypeId}{cs:Array Value}(h:Zf w g t cs)(o:Obj):Zf (w.alloc o) g t cs:=by
 unfold Zf;rw[Below.heap_alloc w o g h.inside];exact h
theorem Zf.write{w:World}{g:Nat}{t:TypeId}{cs:Array Value}(h:Zf w g t cs)(i:Nat)(u:Value):Zf (w.setCell ⟨g,i,none⟩ u) g t (cs.setIfInBounds i u):=
 heap_setCell_same w g i cs t u h
theorem Zf.aside{w:World}{g:Nat}{t:TypeId}{cs:Array Value}(h:Zf w g t cs){p:Addr}(hp:g≠p.block)(u:Value):Zf (w.setCell p u) g t cs:=by
 unfold Zf;rw[Below.heap_setCell w p u g hp];exact h
theorem Zf.below{w w':World}{B g:Nat}{t:TypeId}{cs:Array Value}(h:Zf w g t cs)(hb:Below B w w')(hg:g<B):Zf w' g t cs:=by
 unfold Zf;rw[hb.block g hg];exact h
def Zgy(cs:Array Value)(f:Nat)(l:List Int):Prop:=f+l.length=cs.size∧∀ j,j<l.length→cs[f+j]?=some (.int .u8 (l.getD j 0))
theorem Zgy.next{cs:Array Value}{f:Nat}{l:List Int}(h:Zgy cs (f+1) l)(x:Int):Zgy (cs.setIfInBounds f (.int .u8 x)) f (x::l):=by
 obtain⟨h1,h2⟩:=h;refine⟨by rw[Array.size_setIfInBounds,List.length_cons];omega,fun j hj=>?_⟩;rw[List.length_cons]at hj;rw[Array.getElem?_setIfInBounds];cases j with
 |zero=>rw[if_pos (by omega),if_pos (by omega)];rfl
 |succ j=>
  rw[if_neg (by omega),show f+(j+1)=f+1+j from by omega,h2 j (by omega)];rfl
theorem Zgy.cells{w:World}{g:Nat}{t:TypeId}{cs:Array Value}{f:Nat}{l:List Int}(h:Zgy cs f l)(hw:Zf w g t cs):∀ j,j<l.length→w.cell? ⟨g,f+j,none⟩=some (.int .u8 (l.getD j 0)):=fun j hj=>by
 rw[hw.read];exact h.2 j hj
theorem whole2{w:World}{g:Nat}{t:TypeId}{a b:Value}(h:Zf w g t #[a,b]):w.cell? ⟨g,0,none⟩=some a∧w.cell? ⟨g,1,none⟩=some b∧w.frozen? ⟨g,0,none⟩=false∧w.frozen? ⟨g,1,none⟩=false:=
 ⟨by rw[h.read];rfl,by rw[h.read];rfl,h.thawed 0,h.thawed 1⟩
theorem Zy{w:World}{g:Nat}{t:TypeId}{a b c:Value}(h:Zf w g t #[a,b,c]):w.cell? ⟨g,0,none⟩=some a∧w.cell? ⟨g,1,none⟩=some b∧w.cell? ⟨g,2,none⟩=some c ∧
  w.frozen? ⟨g,0,none⟩=false∧w.frozen? ⟨g,1,none⟩=false∧w.frozen? ⟨g,2,none⟩=false:=
 ⟨by rw[h.read];rfl,by rw[h.read];rfl,by rw[h.read];rfl,h.thawed 0,h.thawed 1,h.thawed 2⟩
structure Two(w:World)(t:TypeId)(cs:Array Value)(u:TypeId)(ds:Array Value)(x:World):Prop where
 k0:Zf x w.heap.size t cs
 k1:Zf x (w.heap.size+1) u ds
 below:Below w.heap.size w x
theorem Two.start(w:World)(t:TypeId)(cs:Array Value)(u:TypeId)(ds:Array Value):Two w t cs u ds ((w.alloc (.cells cs t)).alloc (.cells ds u)):=by
 refine⟨(Zf.made _ _ _).alloc _,?_,((Below.refl _ _).alloc (Nat.le_refl _) _).alloc (by simp) _⟩;have:=Zf.made (w.alloc (.cells cs t)) u ds;simpa using this
theorem Two.next{w x y:World}{t u:TypeId}{cs ds:Array Value}(h:Two w t cs u ds x)(hb:Below x.heap.size x y):Two w t cs u ds y:=
 ⟨h.k0.below hb h.k0.inside,h.k1.below hb h.k1.inside,h.below.trans (hb.mono h.below.size)⟩
theorem Two.drew{w x:World}{t u:TypeId}{cs ds:Array Value}(h:Two w t cs u ds x):Two w t cs u ds x.drew:=
 ⟨h.k0,h.k1,h.below.drew⟩
def Zfl(w:World)(A:Option Addr)(cs:List Value):Prop:=
 cs=[]∨∃ x,A=some x∧x.block<w.heap.size∧∀ j,j<cs.length→w.cell? (x.add j)=cs[j]?
theorem Zfl.below{w w':World}{A:Option Addr}{cs:List Value}(h:Zfl w A cs)(hb:Below w.heap.size w w'):Zfl w' A cs:=by
 rcases h with h | ⟨x,rfl,hx,hc⟩
 ·exact .inl h
 ·refine .inr ⟨x,rfl,Nat.lt_of_lt_of_le hx hb.size,fun j hj=>?_⟩
  rw[hb.cell (p:=x.add j) (by unfold Addr.add;split<;>exact hx)];exact hc j hj
theorem Zfl.alloc{w:World}{A:Option Addr}{cs:List Value}(h:Zfl w A cs)(o:Obj):Zfl (w.alloc o) A cs:=h.below ((Below.refl _ _).alloc (Nat.le_refl _) o)
theorem Zfl.at_{w:World}{A:Option Addr}{cs:List Value}(h:Zfl w A cs)(hn:0<cs.length):∃ x,A=some x∧x.block<w.heap.size∧∀ j,j<cs.length→w.cell? (x.add j)=cs[j]?:=by
 rcases h with h | h
 ·rw[h]at hn;simp at hn
 ·exact h
theorem Zdu.reads{w:World}{A:Option Addr}{cs:List Value}(h:Zdu w w.heap.size A cs):Zfl w A cs:=by
 rcases h with h | ⟨g,off,rfl,hg,hc⟩
 ·exact .inl h
 ·exact .inr ⟨⟨g,off,none⟩,rfl,hg,fun j hj=>by rw[Addr.add_lit];exact hc j hj⟩
theorem Zfl.made(w:World)(cs:Array Value)(t:TypeId):Zfl (w.alloc (.cells cs t)) (some ⟨w.heap.size,0,none⟩) cs.toList:=by
 refine .inr ⟨_,rfl,by simp,fun j hj=>?_⟩;rw[Addr.add_lit,(Zf.made w t cs).read,Nat.zero_add];simp
theorem strCells_str(l:List Int)(hl:∀ x ∈ l,0≤x∧x<256):Lib.strCells (strOfNums l)=l.map (Value.int .u8):=by
 have e:(strOfNums l).data.toList.map (fun c:UInt8=>(c.toNat:Int))=l:=by
  rw[strOfNums_data,List.map_map];conv=>rhs;rw[←List.map_id l]
  apply List.map_congr_left;intro x hx;have:=hl x hx;simp;omega
 unfold Lib.strCells;conv=>rhs;rw[←e,List.map_map]
 rfl
def Vq(k:Int)(t:ByteArray)(n:Int)(size e:Int):Value:=.tuple #[.agg #[.int .i64 k,.string t,.int .i64 n,.int .i64 0,.int .i64 0],.int .i64 size,.int .i64 e]
def Vv(t:ByteArray):Value:=
 if(Yf (bL t)).1 < -1 then Vq 0 ⟨#[]⟩ 0 0 (Ziu (Yf (bL t)).1)
 else Vq (Yf (bL t)).1 (t.extract (Yf (bL t)).2.1 (Yf (bL t)).2.2.1) (Zcb (Yf (bL t)).1 (bL t)) (Yf (bL t)).2.2.2 0
theorem Znj(t:ByteArray)(h:0<t.size):bL t=(gB t 0:Int)::(bL t).drop 1:=by
 have:=Ziq t 0 h;rwa [List.drop_zero,Nat.zero_add]at this
theorem tkNumber(t:ByteArray)(w:World)(hs:t.size≤140737488355328)(h0:0<t.size)(hd:isD (gB t 0)=true) :
  Calls Tryz.prog 162 #[.string t] w fun e w'=>e=.returned (Vv t)∧Below w.heap.size w w':=by
 have hsm:Zag (gB t 0:Int)=false:=by rw[Zbf]at hd;rw[←Bool.not_eq_true,Zds];omega
 have hb:=Znj t h0;have hlen:=Zhb isD (bL t);rw[Vr]at hlen;have hpos:0<tw isD (bL t):=by rw[hb,Vt _ hd];omega
 by_cases hbad:2<tw isD (bL t)∨(tw isD (bL t)=2∧gB t 0=48)
 ·have hT:Uk t 0 2=(0,0,false):=by
   unfold Uk;rw[if_neg (by omega),if_neg];rw[show(0:Int).toNat=0 from rfl,List.drop_zero,Zcx];rintro⟨_,h2,_,h4⟩;rcases hbad with h | ⟨h,h'⟩
   ·omega
   ·have hx:(Xr (bL t))[0]?=some 48:=by
     rw[hb,Jz _ hd,List.getElem?_cons_zero,h'];rfl
    have hl:(Xr (bL t)).length=2:=by rw[Zcx];exact h
    unfold Zca at h4;rw[hx,hl]at h4;simp at h4
  have hv:Vv t=Vq 0 ⟨#[]⟩ 0 0 12:=by
   have hk:Yf (bL t)=(-2,0,0,0):=by
    rw[hb]at hbad ⊢;rw[Uy,if_neg (by rw[hsm];simp),if_pos hd,if_pos (by rcases hbad with h | ⟨h,h'⟩;exact .inl h;exact .inr ⟨h,by omega⟩)]
   unfold Vv;rw[hk];rfl
  have HV:=Hh hv;have c1:=fun w=>dTake_any t 0 2 w hs (by omega) (by omega) (by omega) (by omega)
  rw[hT]at c1;simp only[takeV]at c1;clear hT hv hbad hd hsm hb;go_enter Tryz.func162,Tryz.ntmps162;go_wp2_with(go_at_call 179;refine(c1 _).mono ?_;rintro e w1 ⟨rfl,rfl⟩)
  refine bodyPost_ret (v:=Vq 0 ⟨#[]⟩ 0 0 12) (by simp[results,Tryz.results162,go_sem,Vq]) rfl ⟨by rw[HV.out],?_⟩;exact(Below.refl _ _).alloc (Nat.le_refl _) _
 ·obtain⟨n,hn⟩:∃ n,tw isD (bL t)=n:=⟨_,rfl⟩
  rw[hn]at hbad hlen hpos
  have hT:Uk t 0 2=(Jo (Xr (bL t)),(n:Int),true):=by
   unfold Uk;rw[if_neg (by omega)];rw[show(0:Int).toNat=0 from rfl,List.drop_zero,Zcx,hn,if_pos]
   ·rw[Int.zero_add]
   ·refine⟨?_,by omega,by omega,?_⟩
    ·rw[hb,Jz _ hd];simp
    ·have hx:(Xr (bL t))[0]?=some (gB t 0:Int):=by rw[hb,Jz _ hd,List.getElem?_cons_zero]
     have hl:(Xr (bL t)).length=n:=by rw[Zcx];exact hn
     unfold Zca;rw[hx,hl];simp;omega
  have hv:Vv t=Vq 2 (t.extract 0 n) (Jo (Xr (bL t))) n 0:=by
   have hk:Yf (bL t)=(2,0,n,n):=by
    rw[hb]at hn ⊢;rw[Uy,if_neg (by rw[hsm];simp),if_pos hd,if_neg (by rw[hn];omega),hn]
   unfold Vv;rw[hk];rfl
  have HV:=Hh hv;have c1:=fun w=>dTake_any t 0 2 w hs (by omega) (by omega) (by omega) (by omega)
  rw[hT]at c1;simp only[takeV]at c1;clear hT hv hbad hd hsm hb;generalize Jo (Xr (bL t))=V at *;have HN:=Hh hn;clear hn;have l1:(n:Int)≤(t.size:Int):=by omega
  go_enter Tryz.func162,Tryz.ntmps162;go_wp2_with(go_at_call 179;refine(c1 _).mono ?_;rintro e w1 ⟨rfl,rfl⟩)
  refine bodyPost_ret (v:=Vq 2 (t.extract 0 n) V n 0) (by simp[results,Tryz.results162,go_sem,Vq]) rfl ⟨by rw[HV.out],?_⟩;exact(Below.refl _ _).alloc (Nat.le_refl _) _
theorem dec_is(t:ByteArray)(i:Nat)(c:Int)(hc:0≤c)(hc2:c<128):((Utf8.decode t i).1:Int)=c↔(gB t i:Int)=c:=by
 constructor
 ·intro h
  have:=Zgb t i (by omega);omega
 ·intro h
  rw[Wy t i (by omega)];exact h
theorem small_dec(t:ByteArray)(i:Nat):decide (97≤((Utf8.decode t i).1:Int)∧((Utf8.decode t i).1:Int)≤122)=Zag (gB t i:Int):=by
 rw[Bool.eq_iff_iff,decide_eq_true_iff,Zds];constructor
 ·intro h
  have:=Zgb t i (by omega);omega
 ·intro h
  rw[Wy t i (by omega)];exact h
theorem digit_dec(t:ByteArray)(i:Nat):decide (48≤((Utf8.decode t i).1:Int)∧((Utf8.decode t i).1:Int)≤57)=isD (gB t i:Int):=by
 rw[Bool.eq_iff_iff,decide_eq_true_iff,Zbf];constructor
 ·intro h
  have:=Zgb t i (by omega);omega
 ·intro h
  rw[Wy t i (by omega)];exact h
theorem blank_dec(t:ByteArray)(i:Nat):decide (((Utf8.decode t i).1:Int)=32∨((Utf8.decode t i).1:Int)=9∨((Utf8.decode t i).1:Int)=10)=Zfx (gB t i:Int):=by
 rw[Bool.eq_iff_iff,decide_eq_true_iff,Zco,dec_is t i 32 (by omega) (by omega),dec_is t i 9 (by omega) (by omega),dec_is t i 10 (by omega) (by omega)]
theorem Znh(t:ByteArray)(i:Nat)(c:Int)(hc:0≤c)(hc2:c<128):(((Utf8.decode t i).1:Int) == c)=((gB t i:Int) == c):=by
 rw[Bool.eq_iff_iff,beq_iff_eq,beq_iff_eq,dec_is t i c hc hc2]
theorem Zan{w:World}{g:Nat}{t:TypeId}{a b c d e:Value}(h:Zf w g t #[a,b,c,d,e]):w.cell? ⟨g,0,none⟩=some a∧w.cell? ⟨g,1,none⟩=some b∧w.cell? ⟨g,2,none⟩=some c∧w.cell? ⟨g,3,none⟩=some d∧w.cell? ⟨g,4,none⟩=some e:=
 ⟨h.read 0,h.read 1,h.read 2,h.read 3,h.read 4⟩
theorem whole_extract(t:ByteArray):t.extract 0 t.size=t:=by simp
theorem Zac{w:World}{g:Nat}{t:TypeId}{a b c d e:Value}(h:Zf w g t #[a,b,c,d,e]) :
  w.cell? ⟨g,0,none⟩=some a∧w.cell? ⟨g,1,none⟩=some b∧w.cell? ⟨g,2,none⟩=some c∧w.cell? ⟨g,3,none⟩=some d∧w.cell? ⟨g,4,none⟩=some e ∧
  w.frozen? ⟨g,0,none⟩=false∧w.frozen? ⟨g,1,none⟩=false∧w.frozen? ⟨g,2,none⟩=false∧w.frozen? ⟨g,3,none⟩=false∧w.frozen? ⟨g,4,none⟩=false:=
 ⟨h.read 0,h.read 1,h.read 2,h.read 3,h.read 4,h.thawed 0,h.thawed 1,h.thawed 2,h.thawed 3,h.thawed 4⟩
theorem Zgr(w:World)(s:ByteArray)(cs:Array Value)(ty:TypeId)(q:Nat):Zf ((w.alloc (.cells cs ty)).iter s q) w.heap.size ty cs:=
 (Zf.made w ty cs).below (B:=(w.alloc (.cells cs ty)).heap.size) ((Below.refl _ _).alloc (Nat.le_refl _) _) (by simp)
theorem Zf.set5{w:World}{g:Nat}{t:TypeId}{a b c d e:Value}(h:Zf w g t #[a,b,c,d,e])(x0 x1 x2 x3 x4:Value) :
  Zf (((((w.setCell ⟨g,0,none⟩ x0).setCell ⟨g,1,none⟩ x1).setCell ⟨g,2,none⟩ x2).setCell ⟨g,3,none⟩ x3).setCell ⟨g,4,none⟩ x4) g t #[x0,x1,x2,x3,x4]:=
 ((((h.write 0 x0).write 1 x1).write 2 x2).write 3 x3).write 4 x4
theorem Below.set5{B g:Nat}{w0 w:World}(h:Below B w0 w)(hg:B≤g)(x0 x1 x2 x3 x4:Value) :
  Below B w0 (((((w.setCell ⟨g,0,none⟩ x0).setCell ⟨g,1,none⟩ x1).setCell ⟨g,2,none⟩ x2).setCell ⟨g,3,none⟩ x3).setCell ⟨g,4,none⟩ x4):=
 ((((h.setCell hg x0).setCell hg x1).setCell hg x2).setCell hg x3).setCell hg x4
theorem tkWord(t:ByteArray)(w:World)(hs:t.size≤140737488355328)(h0:0<t.size)(hd:Zag (gB t 0)=true) :
  Calls Tryz.prog 160 #[.string t] w fun e w'=>e=.returned (Vv t)∧Below w.heap.size w w':=by
 have hb:=Znj t h0;have hlen:=Zhb Zag (bL t);rw[Vr]at hlen;obtain⟨n,hn⟩:∃ n,tw Zag (bL t)=n:=⟨_,rfl⟩
 have hv:Vv t=Vq 1 (t.extract 0 n) 0 n 0:=by
  have hk:Yf (bL t)=(1,0,n,n):=by
   rw[hb]at hn ⊢;rw[Uy,if_pos hd,hn]
  unfold Vv;rw[hk];rfl
 rw[hn]at hlen;have HV:=Hh hv;have HN:=Hh hn;have l1:(n:Int)≤(t.size:Int):=by omega
 clear hv hn hb hd;go_enter Tryz.func160,Tryz.ntmps160;go_wp2
 go_loopw [3] (fun c wr=>∃ pos:Nat,c=.int .i64 (t.size:Int)∧wr=(w.alloc (.cells #[.int .i64 0,.string ⟨#[]⟩,.int .i64 0,.int .i64 0,.int .i64 0] 69)).iter t pos∧pos≤t.size∧pos+tw Zag ((bL t).drop pos)=n) (fun _ wr=>t.size - wr.iterPos (w.heap.size+1))
 case atStart=>exact⟨0,rfl,rfl,by omega,by rw[List.drop_zero,Nat.zero_add];exact HN.out⟩
 case round=>
  obtain⟨pos,rfl,rfl,hps,he⟩:=hrel;by_cases hp:pos<t.size
  ·have hnx:=fun ty=>run_next_any (P:=Tryz.prog) (w.alloc (.cells #[.int .i64 0,.string ⟨#[]⟩,.int .i64 0,.int .i64 0,.int .i64 0] 69)) t pos ty hp
   rw[show(w.alloc (.cells #[.int .i64 0,.string ⟨#[]⟩,.int .i64 0,.int .i64 0,.int .i64 0] 69)).heap.size=w.heap.size+1 from by simp]at hnx;have c1:=fun w=>Zly ((Utf8.decode t pos).1:Int) w
   rw[small_dec]at c1;rw[Ziq t pos hp]at he;cases hsm:Zag (gB t pos:Int)with
   |true=>
    rw[hsm]at c1;rw[Vt _ hsm]at he;have hw1:(Utf8.decode t pos).2=1:=by rw[Zds]at hsm;rw[Wy t pos (by omega)]
    have HE:=Hh he;have HW:=Hh hw1;clear he hw1 hsm;go_wp2_with(go_at_call 159;refine(c1 _).mono ?_;rintro e w1 ⟨rfl,rfl⟩)
    go_roundw
    case rel=>exact⟨pos+1,rfl,by rw[HW.out],by omega,by have:=HE.out;omega⟩
    case measure=>
     have:=HW.out;have e:w.heap.size+1=(w.alloc (.cells #[.int .i64 0,.string ⟨#[]⟩,.int .i64 0,.int .i64 0,.int .i64 0] 69)).heap.size:=by simp
     rw[e,World.iterPos_iter,World.iterPos_iter];omega
   |false=>
    rw[hsm]at c1;rw[Zbv _ hsm]at he;have he':pos=n:=by omega
    subst he';clear he hsm;obtain⟨k0,k1,k2,k3,k4,f0,f1,f2,f3,f4⟩:=Zac (Zgr w t #[.int .i64 0,.string ⟨#[]⟩,.int .i64 0,.int .i64 0,.int .i64 0] 69 (pos+(Utf8.decode t pos).2));go_wp2_with(go_at_call 159;refine(c1 _).mono ?_;rintro e w1 ⟨rfl,rfl⟩)
    have hF:=Zan (Zf.set5 (Zgr w t #[.int .i64 0,.string ⟨#[]⟩,.int .i64 0,.int .i64 0,.int .i64 0] 69 (pos+(Utf8.decode t pos).2)) (.int .i64 1) (.string (t.extract 0 pos)) (.int .i64 0) (.int .i64 0) (.int .i64 0));refine bodyPost_ret (v:=Vq 1 (t.extract 0 pos) 0 pos 0) (by simp[results,Tryz.results160,go_sem,Vq,hF]) rfl ⟨by rw[HV.out],?_⟩;exact Below.set5 (((Below.refl _ _).alloc (Nat.le_refl _) _).alloc (by simp) _) (Nat.le_refl _) _ _ _ _ _
  ·rw[Zfk t pos (by omega),Zhk]at he
   have he':t.size=n:=by omega
   have HE:=Hh he';have hnx:=fun ty=>run_next_end (P:=Tryz.prog) (w.alloc (.cells #[.int .i64 0,.string ⟨#[]⟩,.int .i64 0,.int .i64 0,.int .i64 0] 69)) t pos ty hp
   rw[show(w.alloc (.cells #[.int .i64 0,.string ⟨#[]⟩,.int .i64 0,.int .i64 0,.int .i64 0] 69)).heap.size=w.heap.size+1 from by simp]at hnx;clear he he';obtain⟨k0,k1,k2,k3,k4,f0,f1,f2,f3,f4⟩:=Zac (Zgr w t #[.int .i64 0,.string ⟨#[]⟩,.int .i64 0,.int .i64 0,.int .i64 0] 69 pos);go_wp2
   have hF:=Zan (Zf.set5 (Zgr w t #[.int .i64 0,.string ⟨#[]⟩,.int .i64 0,.int .i64 0,.int .i64 0] 69 pos) (.int .i64 1) (.string t) (.int .i64 0) (.int .i64 0) (.int .i64 0));refine bodyPost_ret (v:=Vq 1 t 0 t.size 0) (by simp[results,Tryz.results160,go_sem,Vq,hF]) rfl ⟨by rw[HV.out,←HE.out,whole_extract],?_⟩;exact Below.set5 (((Below.refl _ _).alloc (Nat.le_refl _) _).alloc (by simp) _) (Nat.le_refl _) _ _ _ _ _
def MarksPost(w:World)(e:Ending)(w':World):Prop:=∃ g,e=.returned (.slice (some ⟨g,0,none⟩) 14 14)∧w.heap.size≤g∧Zf w' g 9 mkCs.toArray∧Below w.heap.size w w'
theorem mkCs_eq:mkCs.toArray=#[.string ⟨#[123]⟩,.string ⟨#[125]⟩,.string ⟨#[40]⟩,.string ⟨#[41]⟩,.string ⟨#[59]⟩,.string ⟨#[43]⟩,.string ⟨#[45]⟩,.string ⟨#[42]⟩,.string ⟨#[61]⟩,.string ⟨#[60]⟩,.string ⟨#[62]⟩,.string ⟨#[60,61]⟩,.string ⟨#[62,61]⟩,.string ⟨#[33,61]⟩]:=by kernel_rfl
theorem tkMarks(w:World):Calls Tryz.prog 182 #[] w (MarksPost w):=by
 have hE:=Hh mkCs_eq;go_enter Tryz.func182,Tryz.ntmps182;go_wp2
 go_ret;refine⟨w.heap.size,rfl,Nat.le_refl _,?_,(Below.refl _ _).alloc (Nat.le_refl _) _⟩;rw[hE.out];exact Zf.made _ _ _
theorem tkMark(t:ByteArray)(w:World)(hs:t.size≤140737488355328)(h0:0<t.size)(h1:Zag (gB t 0)=false)(h2:isD (gB t 0)=false)(h3:gB t 0≠35)(h4:gB t 0≠34) :
  Calls Tryz.prog 164 #[.string t] w fun e w'=>e=.returned (Vv t)∧Below w.heap.size w w':=by
 have hb:=Znj t h0
 have hk:Yf (bL t)=if Jr (bL t)=0 then(-4,0,0,0)else(4,0,Jr (bL t),Jr (bL t)):=by
  rw[hb,Uy,if_neg (by rw[h1];simp),if_neg (by rw[h2];simp),if_neg (by omega),if_neg (by omega)]
 have HK:=Hh hk;have hle:=markL_le (bL t);rw[Vr]at hle;have HL:=Hh hle;clear hk hb h1 h2 h3 h4 hle;go_enter Tryz.func164,Tryz.ntmps164;go_wp2_with(go_at_call 182;refine(tkMarks _).mono ?_;rintro e w1 ⟨g,rfl,hg1,hW1,b1⟩)
 go_loop [3,9] (fun n i=>∃ k:Nat,k≤14∧i=.int .i64 (k:Int)∧n=.int .i64 (((mkL.take k).foldl (Vi (bL t)) 0:Nat):Int)) (fun _ i=>14 - (intOf i).toNat)
 case atStart=>exact⟨0,by omega,rfl,rfl⟩
 case round=>
  obtain⟨k,hk,rfl,rfl⟩:=hrel;have hbd:=mk_bd (bL t) k;by_cases hkl:k<14
  ·have hst:=mk_next (bL t) k hkl
   have hce:w1.cell? ⟨g,k,none⟩=some (.string (strOfNums (mkL[k]'hkl))):=by
    rw[hW1.read k];have:=mkCs_at k hkl;rw[←this];simp
   have hby:=mk_by k hkl;have hml:=mk_len k hkl;generalize mkL[k]'hkl=m at *;generalize hn:(mkL.take k).foldl (Vi (bL t)) 0=n at *;have hpre:=HasPrefix_any t (strOfNums m);rw[bL_str m hby]at hpre;have hsz:(strOfNums m).size=m.length:=strOfNums_size m;have HST:=Hh hst;have HSZ:=Hh hsz;have HNN:=Hh hn;have HBY:=Hh hby;have hs1:1≤(strOfNums m).size∧(strOfNums m).size≤2:=by omega
   generalize strOfNums m=ms at *;clear hst hsz hn hby hW1;obtain⟨s1,s2⟩:=hs1;have lk:(k:Int)<14:=by omega
   by_cases hlt:(n:Int)<(ms.size:Int)
   ·cases hp:m.isPrefixOf (bL t)with
    |true=>
     rw[hp]at hpre;have hv:Vi (bL t) n m=ms.size:=by unfold Vi;rw[if_pos ⟨by have:=HSZ.out;omega,hp⟩,HSZ.out]
     have HV:=Hh hv;clear hv hp;go_wp2_with(go_at_call 183;refine(hpre _).mono ?_;rintro e w2 ⟨rfl,rfl⟩)
     go_round
     case rel=>exact⟨k+1,by omega,by go_num,by rw[HST.out,HV.out]⟩
     case measure=>simp[intOf];omega
    |false=>
     rw[hp]at hpre;have hv:Vi (bL t) n m=n:=by unfold Vi;rw[if_neg (by rw[hp];simp)]
     have HV:=Hh hv;clear hv hp;go_wp2_with(go_at_call 183;refine(hpre _).mono ?_;rintro e w2 ⟨rfl,rfl⟩)
     go_round
     case rel=>exact⟨k+1,by omega,by go_num,by rw[HST.out,HV.out]⟩
     case measure=>simp[intOf];omega
   ·have hv:Vi (bL t) n m=n:=by unfold Vi;rw[if_neg (by have:=HSZ.out;omega)]
    have HV:=Hh hv;clear hv;go_wp2_with(go_at_call 183;refine(hpre _).mono ?_;rintro e w2 ⟨rfl,rfl⟩)
    go_round
    case rel=>exact⟨k+1,by omega,by go_num,by rw[HST.out,HV.out]⟩
    case measure=>simp[intOf];omega
  ·obtain rfl:k=14:=by omega
   have hfold:(mkL.take 14).foldl (Vi (bL t)) 0=Jr (bL t):=by rw[←mk_fold];rfl
   rw[hfold];generalize hm:Jr (bL t)=n at *;have HM:=Hh hm;obtain⟨l1,l2⟩:=HL.out;have hW:Zf w1 w.heap.size 69 #[.int .i64 0,.string ⟨#[]⟩,.int .i64 0,.int .i64 0,.int .i64 0]:=(Zf.made w 69 #[.int .i64 0,.string ⟨#[]⟩,.int .i64 0,.int .i64 0,.int .i64 0]).below b1 (by simp);obtain⟨k0,k1,k2,k3,k4,f0,f1,f2,f3,f4⟩:=Zac hW;have hB:Below w.heap.size w w1:=((Below.refl _ _).alloc (Nat.le_refl _) _).trans (b1.mono (by simp));have HB:=Hh hB;clear hfold hm hbd hkl hB;by_cases hz:n=0
   ·subst hz
    have hv:Vv t=Vq 0 ⟨#[]⟩ 0 0 6:=by unfold Vv;rw[HK.out,if_pos rfl];rfl
    have HV:=Hh hv;clear hv;go_wp2
    have hF:=Zan (Zf.set5 hW (.int .i64 0) (.string ⟨#[]⟩) (.int .i64 0) (.int .i64 0) (.int .i64 0));refine bodyPost_ret (v:=Vq 0 ⟨#[]⟩ 0 0 6) (by simp[results,Tryz.results164,go_sem,Vq,hF]) rfl ⟨by rw[HV.out],?_⟩;exact Below.set5 HB.out (Nat.le_refl _) _ _ _ _ _
   ·have hv:Vv t=Vq 4 (t.extract 0 n) 0 n 0:=by unfold Vv;rw[HK.out,if_neg hz];rfl
    have HV:=Hh hv;clear hv;have hz2:((n:Int) == 0)=false:=by simpa using hz
    have l3:(n:Int)≤(t.size:Int):=by omega
    go_wp2
    have hF:=Zan (Zf.set5 hW (.int .i64 4) (.string (t.extract 0 n)) (.int .i64 0) (.int .i64 0) (.int .i64 0));refine bodyPost_ret (v:=Vq 4 (t.extract 0 n) 0 n 0) (by simp[results,Tryz.results164,go_sem,Vq,hF]) rfl ⟨by rw[HV.out],?_⟩;exact Below.set5 HB.out (Nat.le_refl _) _ _ _ _ _
theorem bL_rest(t:ByteArray)(a:Nat)(h:a≤t.size):bL (t.extract a t.size)=(bL t).drop a:=by
 have e:=Zjs t a (t.size - a) (by omega);rw[show a+(t.size - a)=t.size from by omega]at e;rw[e,List.take_of_length_le (by rw[List.length_drop,Vr];omega)]
theorem Zfj(t:ByteArray)(a n:Nat)(h:a+n≤t.size):t.extract a (a+n)=strOfNums (((bL t).drop a).take n):=by
 rw[←Zjs t a n h,str_bL]
theorem tkName(t:ByteArray)(w:World)(hs:t.size≤140737488355328)(h0:0<t.size)(hd:gB t 0=34) :
  Calls Tryz.prog 163 #[.string t] w fun e w'=>e=.returned (Vv t)∧Below w.heap.size w w':=by
 have hb:=Znj t h0
 have hk:Yf (bL t)=if tw (Xe 34) ((bL t).drop 1)=((bL t).drop 1).length∨Zbt (strOfNums (((bL t).drop 1).take (tw (Xe 34) ((bL t).drop 1))))=false then(-3,0,0,0)else(3,1,tw (Xe 34) ((bL t).drop 1)+1,tw (Xe 34) ((bL t).drop 1)+2):=by
  conv=>lhs;rw[hb]
  rw[Uy,hd,if_neg (by decide),if_neg (by decide),if_neg (by decide),if_pos (show((34:Nat):Int)=34 from rfl)]
 have hr:=bL_rest t 1 h0;have hz:(t.extract 1 t.size).size=t.size - 1:=size_extract t 1 t.size (Nat.le_refl _);have hrl:((bL t).drop 1).length=t.size - 1:=by rw[List.length_drop,Vr]
 have hle:=Zhb (Xe 34) ((bL t).drop 1);have hstr:=fun n h=>Zfj t 1 n h
 have c1:∀ w:World,Calls Tryz.prog 180 #[.string (t.extract 1 t.size),.int .u8 34] w fun e w'=>e=.returned (.int .i64 (if tw (Xe 34) ((bL t).drop 1)=((bL t).drop 1).length then -1 else(tw (Xe 34) ((bL t).drop 1):Int)))∧w=w':=fun w=>by
  have h:=IndexByte_any (t.extract 1 t.size) 34 (by decide) w;rw[hr]at h;exact h
 have hcut:∀ n,1+n≤t.size→(t.extract 1 t.size).extract 0 n=t.extract 1 (1+n):=by
  intro n hn;have:=Zdg t 1 (1+n) (by omega) hn;rw[this];congr 1;omega
 obtain⟨n,hn⟩:∃ n,tw (Xe 34) ((bL t).drop 1)=n:=⟨_,rfl⟩
 rw[hn]at hk hle c1;rw[hrl]at hk hle c1;have l1:(1:Int)≤(t.size:Int):=by omega
 by_cases he:n=t.size - 1
 ·rw[if_pos he]at c1
  have hv:Vv t=Vq 0 ⟨#[]⟩ 0 0 10:=by
    have hk':Yf (bL t)=(-3,0,0,0):=by rw[hk,if_pos (Or.inl he)]
    unfold Vv;rw[hk'];rfl
  have HV:=Hh hv;clear hv hk he hn hle hrl hstr hcut hr hb hd;have HZ:=Hh hz;clear hz;go_enter Tryz.func163,Tryz.ntmps163;go_wp2_with(go_at_call 180;refine(c1 _).mono ?_;rintro e w2 ⟨rfl,rfl⟩)
  refine bodyPost_ret (v:=Vq 0 ⟨#[]⟩ 0 0 10) (by simp[results,Tryz.results163,go_sem,Vq]) rfl ⟨by rw[HV.out],?_⟩;exact(Below.refl _ _).alloc (Nat.le_refl _) _
 ·rw[if_neg he]at c1
  have hlt:1+n<t.size:=by omega
  have hx:=hcut n (by omega);have c2:=fun w=>Name_any ((t.extract 1 t.size).extract 0 n) w (by rw[hx,size_extract t 1 (1+n) (by omega)];omega)
  have hx2:=hstr n (by omega);cases hnm:Zbt ((t.extract 1 t.size).extract 0 n)with
  |false=>
    rw[hnm]at c2
    have hv:Vv t=Vq 0 ⟨#[]⟩ 0 0 10:=by
     have hk':Yf (bL t)=(-3,0,0,0):=by rw[hk,if_pos (Or.inr (by rw[←hx2,←hx];exact hnm))]
     unfold Vv;rw[hk'];rfl
    have HV:=Hh hv;have HZ:=Hh hz;have l2:(n:Int)≤(t.size:Int) - 1:=by omega
    have l4:n≤(t.extract 1 t.size).size:=by omega
    clear hv hk he hn hle hrl hstr hcut hr hb hd hx hx2 hnm hz;go_enter Tryz.func163,Tryz.ntmps163;go_wp2_with(first
 |(go_at_call 180;refine(c1 _).mono ?_;rintro e w2 ⟨rfl,rfl⟩)
 |(go_at_call 181;refine(c2 _).mono ?_;rintro e w2 ⟨rfl,b2⟩;have hW:=(Zf.made w 69 #[.int .i64 0,.string ⟨#[]⟩,.int .i64 0,.int .i64 0,.int .i64 0]).below b2 (by simp);obtain⟨k0,k1,k2,k3,k4,f0,f1,f2,f3,f4⟩:=Zac hW;have HW:=Hh hW;have HB:=Hh (Ue ((Below.refl w.heap.size w).alloc (Nat.le_refl _) _) b2);clear hW b2))
    have hF:=Zan (Zf.set5 HW.out (.int .i64 0) (.string ⟨#[]⟩) (.int .i64 0) (.int .i64 0) (.int .i64 0));refine bodyPost_ret (v:=Vq 0 ⟨#[]⟩ 0 0 10) (by simp[results,Tryz.results163,go_sem,Vq,hF]) rfl ⟨by rw[HV.out],?_⟩;exact Below.set5 HB.out (Nat.le_refl _) _ _ _ _ _
  |true=>
    rw[hnm]at c2
    have hv:Vv t=Vq 3 ((t.extract 1 t.size).extract 0 n) 0 (n+2) 0:=by
     have hk':Yf (bL t)=(3,1,n+1,n+2):=by rw[hk,if_neg (by rw[←hx2,←hx,hnm];simp;omega)]
     unfold Vv;rw[hk',hx];show Vq 3 (t.extract 1 (n+1)) 0 _ 0=_;rw[Nat.add_comm n 1];rfl
    have HV:=Hh hv;have HZ:=Hh hz;have l2:(n:Int)≤(t.size:Int) - 1:=by omega
    have l4:n≤(t.extract 1 t.size).size:=by omega
    clear hv hk he hn hle hrl hstr hcut hr hb hd hx hx2 hnm hz;go_enter Tryz.func163,Tryz.ntmps163;go_wp2_with(first
 |(go_at_call 180;refine(c1 _).mono ?_;rintro e w2 ⟨rfl,rfl⟩)
 |(go_at_call 181;refine(c2 _).mono ?_;rintro e w2 ⟨rfl,b2⟩;have hW:=(Zf.made w 69 #[.int .i64 0,.string ⟨#[]⟩,.int .i64 0,.int .i64 0,.int .i64 0]).below b2 (by simp);obtain⟨k0,k1,k2,k3,k4,f0,f1,f2,f3,f4⟩:=Zac hW;have HW:=Hh hW;have HB:=Hh (Ue ((Below.refl w.heap.size w).alloc (Nat.le_refl _) _) b2);clear hW b2))
    have hF:=Zan (Zf.set5 HW.out (.int .i64 3) (.string ((t.extract 1 t.size).extract 0 n)) (.int .i64 0) (.int .i64 0) (.int .i64 0));refine bodyPost_ret (v:=Vq 3 ((t.extract 1 t.size).extract 0 n) 0 (n+2) 0) (by simp[results,Tryz.results163,go_sem,Vq,hF]) rfl ⟨by rw[HV.out],?_⟩;exact Below.set5 HB.out (Nat.le_refl _) _ _ _ _ _
structure Zq(S:Nat→Prop)(w w':World):Prop where
 os:w'.os=w.os
 tape:w'.tape=w.tape
 output:w'.output=w.output
 size:w.heap.size≤w'.heap.size
 block:∀ k,k<w.heap.size→¬ S k→w'.heap[k]?=w.heap[k]?
theorem Zq.refl(S:Nat→Prop)(w:World):Zq S w w:=⟨rfl,rfl,rfl,Nat.le_refl _,fun _ _ _=>rfl⟩
theorem Zq.trans{S:Nat→Prop}{a b c:World}(h:Zq S a b)(k:Zq S b c):Zq S a c:=
 ⟨k.os.trans h.os,k.tape.trans h.tape,k.output.trans h.output,Nat.le_trans h.size k.size,fun i hi hn=>(k.block i (Nat.lt_of_lt_of_le hi h.size) hn).trans (h.block i hi hn)⟩
theorem Zq.mono{S T:Nat→Prop}{a b:World}(h:Zq S a b)(hs:∀ k,S k→T k):Zq T a b:=⟨h.os,h.tape,h.output,h.size,fun k hk hn=>h.block k hk fun c=>hn (hs k c)⟩
theorem Zq.of_below{S:Nat→Prop}{a b:World}(h:Below a.heap.size a b):Zq S a b:=⟨h.os,h.tape,h.output,h.size,fun k hk _=>h.block k hk⟩
theorem Zq.below{S:Nat→Prop}{a b:World}(h:Zq S a b){B:Nat}(hB:B≤a.heap.size)(hs:∀ k,S k→B≤k):Below B a b:=
 ⟨h.os,h.tape,h.output,h.size,fun k hk=>h.block k (by omega) fun c=>by have:=hs k c;omega⟩
theorem Zq.setCell{S:Nat→Prop}{a b:World}(h:Zq S a b){p:Addr}(hp:S p.block)(u:Value):Zq S a (b.setCell p u):=
 h.trans ⟨rfl,rfl,rfl,by simp[World.setCell],fun k _ hn=>Below.heap_setCell _ _ _ _ (fun c=>hn (c ▸ hp))⟩
theorem Zq.alloc{S:Nat→Prop}{a b:World}(h:Zq S a b)(o:Obj):Zq S a (b.alloc o):=
 h.trans ⟨rfl,rfl,rfl,by simp,fun k hk _=>Below.heap_alloc _ _ _ hk⟩
theorem Zq.drew{S:Nat→Prop}{a b:World}(h:Zq S a b):Zq S a b.drew:=⟨h.os,h.tape,h.output,h.size,h.block⟩
theorem Zq.grown{S:Nat→Prop}{a b c:World}(h:Zq S a b){row:Option Nat}(hg:b.grownBy c row)(hr:∀ k,row=some k→S k):Zq S a c:=
 h.trans ⟨hg.os,hg.tape,hg.output,hg.size,fun k hk hn=>hg.block k hk fun c=>hn (hr k c.symm)⟩
theorem Zq.whole{S:Nat→Prop}{a b:World}(h:Zq S a b){g:Nat}{t:TypeId}{cs:Array Value}(hw:Zf a g t cs)(hg:¬ S g):Zf b g t cs:=by
 unfold Zf;rw[h.block g hw.inside hg];exact hw
theorem Zq.owns{S:Nat→Prop}{a b:World}(h:Zq S a b){base:Nat}{e:TypeId}{size:Nat}{v:Value}{n:Nat}{xs:List Value}(ho:a.ownsRow base e size v n xs)(hv:∀ k,v.ownBlock=some k→¬ S k):b.ownsRow base e size v n xs:=by
 obtain⟨h1,h2⟩:=id ho;refine⟨h1,?_⟩;rcases h2 with h2 | ⟨g,cap,cur,rfl,hg,hh,r⟩
 ·exact .inl h2
 ·refine .inr ⟨g,cap,cur,rfl,hg,?_,r⟩
  rw[h.block g (ho.lt g rfl).2 (hv g rfl)];exact hh
theorem Zdt{w w':World}{row:Option Nat}(hg:w.grownBy w' row){g:Nat}{t:TypeId}{cs:Array Value}(hw:Zf w g t cs)(hn:row≠some g):Zf w' g t cs:=by
 unfold Zf;rw[hg.block g hw.inside (fun c=>hn c.symm)];exact hw
theorem Zae{w:World}{base:Nat}{e:TypeId}{size:Nat}{v:Value}{n:Nat}{xs:List Value}(h:w.ownsRow base e size v n xs){p:Addr}(hp:v.ownBlock≠some p.block)(u:Value):(w.setCell p u).ownsRow base e size v n xs:=
 (Zq.setCell (S:=fun k=>k=p.block) (Zq.refl _ w) rfl u).owns h fun k hk c=>hp (by rw[hk,c])
theorem firstV_form(t:ByteArray):∃ k x n z e,Vv t=Vq k x n z e:=by
 unfold Vv;split
 ·exact⟨_,_,_,_,_,rfl⟩
 ·exact⟨_,_,_,_,_,rfl⟩
theorem tkFirst(t:ByteArray)(w:World)(hs:t.size≤140737488355328)(h35:0<t.size→gB t 0≠35) :
  Calls Tryz.prog 127 #[.string t] w fun e w'=>e=.returned (Vv t)∧Below w.heap.size w w':=by
 by_cases h0:0<t.size
 ·have hne:t.toList.isEmpty=false:=by
    rw[ByteArray.toList_eq,List.isEmpty_eq_false_iff,ne_eq,←List.length_eq_zero_iff];show ¬ t.data.size=0;exact Nat.ne_of_gt h0
  have hne2:(!t.toList.isEmpty)=true:=by rw[hne];rfl
  have c0:∀ w,Calls Tryz.prog 158 #[.string t,.int .i64 0] w fun e w'=>e=.returned (.tuple #[.int .i32 (Utf8.decode t 0).1,.int .i64 (Utf8.decode t 0).2])∧Below w.heap.size w w':=fun w=>At_in t 0 w hs h0
  have c1:=fun w=>Zly ((Utf8.decode t 0).1:Int) w
  have c2:=fun w=>Digit_any ((Utf8.decode t 0).1:Int) w
  have c3:=Znh t 0 34 (by omega) (by omega);rw[small_dec]at c1;rw[digit_dec]at c2;obtain⟨k,x,n,z,e,hv⟩:=firstV_form t;have h35':=h35 h0;cases hsm:Zag (gB t 0:Int)with
  |true=>
    have d1:=fun w=>tkWord t w hs h0 hsm
    rw[hsm]at c1;rw[hv]at d1 ⊢;have HV:=Hh hv;simp only[Vq]at d1;clear hv hsm c3;go_enter Tryz.func127,Tryz.ntmps127;go_wp2_with(first
 |(go_at_call 158;refine(c0 _).mono ?_;rintro e w1 ⟨rfl,b1⟩;have b1':=Ue ((Below.refl w.heap.size w).alloc (Nat.le_refl _) _) b1;have W1:=Hh ((Zf.made w 69 #[.int .i64 0,.string ⟨#[]⟩,.int .i64 0,.int .i64 0,.int .i64 0]).below b1 (by simp));clear b1)
 |(go_at_call 159;refine(c1 _).mono ?_;rintro e w2 ⟨rfl,rfl⟩)
 |(go_at_call 161;refine(c2 _).mono ?_;rintro e w2 ⟨rfl,rfl⟩)
 |(go_at_call 160;refine(d1 _).mono ?_;rintro e w2 ⟨rfl,b2⟩;have HB:=Hh (Ue b1' b2);have HW:=Hh (W1.out.below b2 W1.out.inside);obtain⟨k0,k1,k2,k3,k4,f0,f1,f2,f3,f4⟩:=Zac HW.out;clear b2 b1'))
    have hF:=Zan (Zf.set5 HW.out (.int .i64 k) (.string x) (.int .i64 n) (.int .i64 0) (.int .i64 0));refine bodyPost_ret (v:=Vq k x n z e) (by simp[results,Tryz.results127,go_sem,Vq,hF]) rfl ⟨rfl,?_⟩;exact Below.set5 HB.out (Nat.le_refl _) _ _ _ _ _
  |false=>
    cases hdg:isD (gB t 0:Int)with
    |true=>
     have d1:=fun w=>tkNumber t w hs h0 hdg
     rw[hsm]at c1;rw[hdg]at c2;rw[hv]at d1 ⊢;have HV:=Hh hv;simp only[Vq]at d1;clear hv hsm hdg c3;go_enter Tryz.func127,Tryz.ntmps127;go_wp2_with(first
 |(go_at_call 158;refine(c0 _).mono ?_;rintro e w1 ⟨rfl,b1⟩;have b1':=Ue ((Below.refl w.heap.size w).alloc (Nat.le_refl _) _) b1;have W1:=Hh ((Zf.made w 69 #[.int .i64 0,.string ⟨#[]⟩,.int .i64 0,.int .i64 0,.int .i64 0]).below b1 (by simp));clear b1)
 |(go_at_call 159;refine(c1 _).mono ?_;rintro e w2 ⟨rfl,rfl⟩)
 |(go_at_call 161;refine(c2 _).mono ?_;rintro e w2 ⟨rfl,rfl⟩)
 |(go_at_call 162;refine(d1 _).mono ?_;rintro e w2 ⟨rfl,b2⟩;have HB:=Hh (Ue b1' b2);have HW:=Hh (W1.out.below b2 W1.out.inside);obtain⟨k0,k1,k2,k3,k4,f0,f1,f2,f3,f4⟩:=Zac HW.out;clear b2 b1'))
     have hF:=Zan (Zf.set5 HW.out (.int .i64 k) (.string x) (.int .i64 n) (.int .i64 0) (.int .i64 0));refine bodyPost_ret (v:=Vq k x n z e) (by simp[results,Tryz.results127,go_sem,Vq,hF]) rfl ⟨rfl,?_⟩;exact Below.set5 HB.out (Nat.le_refl _) _ _ _ _ _
    |false=>
     by_cases hq:gB t 0=34
     ·have q1:(((Utf8.decode t 0).1:Int) == 34)=true:=by rw[c3];simp[hq]
      have d1:=fun w=>tkName t w hs h0 hq
      rw[hsm]at c1;rw[hdg]at c2;rw[hv]at d1 ⊢;have HV:=Hh hv;simp only[Vq]at d1;clear hv hsm hdg c3 hq;go_enter Tryz.func127,Tryz.ntmps127;go_wp2_with(first
 |(go_at_call 158;refine(c0 _).mono ?_;rintro e w1 ⟨rfl,b1⟩;have b1':=Ue ((Below.refl w.heap.size w).alloc (Nat.le_refl _) _) b1;have W1:=Hh ((Zf.made w 69 #[.int .i64 0,.string ⟨#[]⟩,.int .i64 0,.int .i64 0,.int .i64 0]).below b1 (by simp));clear b1)
 |(go_at_call 159;refine(c1 _).mono ?_;rintro e w2 ⟨rfl,rfl⟩)
 |(go_at_call 161;refine(c2 _).mono ?_;rintro e w2 ⟨rfl,rfl⟩)
 |(go_at_call 163;refine(d1 _).mono ?_;rintro e w2 ⟨rfl,b2⟩;have HB:=Hh (Ue b1' b2);have HW:=Hh (W1.out.below b2 W1.out.inside);obtain⟨k0,k1,k2,k3,k4,f0,f1,f2,f3,f4⟩:=Zac HW.out;clear b2 b1'))
      have hF:=Zan (Zf.set5 HW.out (.int .i64 k) (.string x) (.int .i64 n) (.int .i64 0) (.int .i64 0));refine bodyPost_ret (v:=Vq k x n z e) (by simp[results,Tryz.results127,go_sem,Vq,hF]) rfl ⟨rfl,?_⟩;exact Below.set5 HB.out (Nat.le_refl _) _ _ _ _ _
     ·have q1:(((Utf8.decode t 0).1:Int) == 34)=false:=by rw[c3];simp;omega
      have d1:=fun w=>tkMark t w hs h0 hsm hdg h35' hq
      rw[hsm]at c1;rw[hdg]at c2;rw[hv]at d1 ⊢;have HV:=Hh hv;simp only[Vq]at d1;clear hv hsm hdg c3 hq;go_enter Tryz.func127,Tryz.ntmps127;go_wp2_with(first
 |(go_at_call 158;refine(c0 _).mono ?_;rintro e w1 ⟨rfl,b1⟩;have b1':=Ue ((Below.refl w.heap.size w).alloc (Nat.le_refl _) _) b1;have W1:=Hh ((Zf.made w 69 #[.int .i64 0,.string ⟨#[]⟩,.int .i64 0,.int .i64 0,.int .i64 0]).below b1 (by simp));clear b1)
 |(go_at_call 159;refine(c1 _).mono ?_;rintro e w2 ⟨rfl,rfl⟩)
 |(go_at_call 161;refine(c2 _).mono ?_;rintro e w2 ⟨rfl,rfl⟩)
 |(go_at_call 164;refine(d1 _).mono ?_;rintro e w2 ⟨rfl,b2⟩;have HB:=Hh (Ue b1' b2);have HW:=Hh (W1.out.below b2 W1.out.inside);obtain⟨k0,k1,k2,k3,k4,f0,f1,f2,f3,f4⟩:=Zac HW.out;clear b2 b1'))
      have hF:=Zan (Zf.set5 HW.out (.int .i64 k) (.string x) (.int .i64 n) (.int .i64 0) (.int .i64 0));refine bodyPost_ret (v:=Vq k x n z e) (by simp[results,Tryz.results127,go_sem,Vq,hF]) rfl ⟨rfl,?_⟩;exact Below.set5 HB.out (Nat.le_refl _) _ _ _ _ _
 ·have he:t=⟨#[]⟩:=by
    apply ByteArray.ext;apply Array.eq_empty_of_size_eq_zero;have:t.data.size=t.size:=rfl;omega
  subst he;have hv:Vv ⟨#[]⟩=Vq 0 ⟨#[]⟩ 0 0 0:=by kernel_rfl
  have HV:=Hh hv;clear hv h35;go_enter Tryz.func127,Tryz.ntmps127;go_wp2
  refine bodyPost_ret (v:=Vq 0 ⟨#[]⟩ 0 0 0) (by simp[results,Tryz.results127,go_sem,Vq]) rfl ⟨by rw[HV.out],?_⟩;exact(Below.refl _ _).alloc (Nat.le_refl _) _
theorem gap_skip(t:ByteArray):∀(k pos:Nat),pos+k≤t.size→(∀ j,j<k→gB t (pos+j)≠10)→Zbo (Zk t pos) true=k+Zbo (Zk t (pos+k)) true
 |0,pos,_,_=>by simp
 |k+1,pos,h,hb=>by
  have h0:=hb 0 (by omega);rw[Nat.add_zero]at h0;rw[Yt t (show pos<t.size by omega)];simp only[Zbo];rw[(Zba 10 _).2 (by omega),gap_skip t k (pos+1) (by omega) (fun j hj=>by have:=hb (j+1) (by omega);rwa [show pos+1+j=pos+(j+1)from by omega]),show pos+1+k=pos+(k+1)from by omega];omega
theorem gap_in(t:ByteArray)(pos:Nat)(h:pos<t.size):Zbo (Zk t pos) true=(Utf8.decode t pos).2+Zbo (Zk t (pos+(Utf8.decode t pos).2)) (((Utf8.decode t pos).1:Int) != 10):=by
 have hd:=Zbp t pos h;by_cases h1:(Utf8.decode t pos).2=1
 ·have e:(((Utf8.decode t pos).1:Int) != 10)=Xe 10 (gB t pos:Int):=by
   unfold bne;rw[Znh t pos 10 (by omega) (by omega)];unfold Xe;congr 1
  rw[e,h1,Yt t h];rfl
 ·have hall:∀ j,j<(Utf8.decode t pos).2→gB t (pos+j)≠10:=by
   intro j hj;by_cases hj0:j=0
   ·subst hj0
    rw[Nat.add_zero];intro hc;rw[Wy t pos (by omega)]at h1;exact h1 rfl
   ·have:=dec_cont t pos j h (by omega) hj
    omega
  have e:(((Utf8.decode t pos).1:Int) != 10)=true:=by
   unfold bne;rw[Znh t pos 10 (by omega) (by omega)];have:=hall 0 (by omega);rw[Nat.add_zero]at this;simp;omega
  rw[e];exact gap_skip t _ pos hd.2.1 hall
theorem gap_hash(t:ByteArray)(pos:Nat)(h:pos<t.size)(h35:gB t pos=35):Zbo (Zk t pos) false=(Utf8.decode t pos).2+Zbo (Zk t (pos+(Utf8.decode t pos).2)) true:=by
 rw[Wy t pos (by omega),Yt t h,h35];simp only[Zbo];rw[if_pos (show((35:Nat):Int)=35 from rfl)]
theorem gap_blank(t:ByteArray)(pos:Nat)(h:pos<t.size)(h35:gB t pos≠35)(hb:Zfx (gB t pos:Int)=true):Zbo (Zk t pos) false=(Utf8.decode t pos).2+Zbo (Zk t (pos+(Utf8.decode t pos).2)) false:=by
 have:gB t pos<128:=by rw[Zco]at hb;omega
 rw[Wy t pos this,Yt t h];simp only[Zbo];rw[if_neg (by omega),if_pos hb]
theorem gap_stop(t:ByteArray)(pos:Nat)(h:pos<t.size)(h35:gB t pos≠35)(hb:Zfx (gB t pos:Int)=false):Zbo (Zk t pos) false=0:=by
 rw[Yt t h];simp only[Zbo];rw[if_neg (by omega),if_neg (by rw[hb];simp)]
theorem tkGap(t:ByteArray)(w:World)(hs:t.size≤140737488355328):Calls Tryz.prog 126 #[.string t] w fun e w'=>e=.returned (.int .i64 (Zbo (Zk t 0) false:Nat))∧Below w.heap.size w w':=by
 generalize hG:Zbo (Zk t 0) false=G;have HG:=Hh hG;clear hG;go_enter Tryz.func126,Tryz.ntmps126;go_wp2
 go_loopw [3] (fun c wr=>∃(pos:Nat)(b:Bool),c=.bool b∧wr=w.iter t pos∧pos≤t.size∧pos+Zbo (Zk t pos) b=G) (fun _ wr=>t.size - wr.iterPos w.heap.size)
 case atStart=>exact⟨0,false,rfl,rfl,by omega,by rw[Nat.zero_add];exact HG.out⟩
 case round=>
  obtain⟨pos,b,rfl,rfl,hps,he⟩:=hrel;have HE:=Hh he;clear he;by_cases hp:pos<t.size
  ·have hnx:∀ ty,(Instr.next (.pointer (some ⟨w.heap.size,0,none⟩)) true ty).run Tryz.prog (w.iter t pos)=_:=fun ty=>run_next_any w t pos ty hp
   have hd:=Zbp t pos hp;obtain⟨d1,d2,d3,d4⟩:=hd;have c1:=fun w=>Blank_any ((Utf8.decode t pos).1:Int) w
   rw[blank_dec]at c1;have q35:=Znh t pos 35 (by omega) (by omega);cases b with
   |true=>
    have hg:=gap_in t pos hp;have HX:=Hh hg;clear hg q35 c1;go_wp2
    go_roundw
    case rel=>exact⟨pos+(Utf8.decode t pos).2,_,rfl,rfl,d2,by have:=HX.out;have:=HE.out;omega⟩
    case measure=>simp;omega
   |false=>
    by_cases h35:gB t pos=35
    ·have hq:(((Utf8.decode t pos).1:Int) == 35)=true:=by rw[q35];simp[h35]
     have hg:=gap_hash t pos hp h35;have HX:=Hh hg;clear hg q35 h35;go_wp2_with(go_at_call 157;refine(c1 _).mono ?_;rintro e w1 ⟨rfl,rfl⟩)
     go_roundw
     case rel=>exact⟨pos+(Utf8.decode t pos).2,true,rfl,rfl,d2,by have:=HX.out;have:=HE.out;omega⟩
     case measure=>simp;omega
    ·have hq:(((Utf8.decode t pos).1:Int) == 35)=false:=by rw[q35];simp;omega
     cases hbl:Zfx (gB t pos:Int)with
     |true=>
      have hg:=gap_blank t pos hp h35 hbl;have HX:=Hh hg;rw[hbl]at c1;clear hg q35 h35 hbl;go_wp2_with(go_at_call 157;refine(c1 _).mono ?_;rintro e w1 ⟨rfl,rfl⟩)
      go_roundw
      case rel=>exact⟨pos+(Utf8.decode t pos).2,false,rfl,rfl,d2,by have:=HX.out;have:=HE.out;omega⟩
      case measure=>simp;omega
     |false=>
      have hg:=gap_stop t pos hp h35 hbl;have HX:=Hh hg;rw[hbl]at c1;clear hg q35 h35 hbl;go_wp2_with(go_at_call 157;refine(c1 _).mono ?_;rintro e w1 ⟨rfl,rfl⟩)
      go_ret;exact⟨rI (by have:=HX.out;have:=HE.out;omega),(Below.refl _ _).alloc (Nat.le_refl _) _⟩
  ·have hnx:∀ ty,(Instr.next (.pointer (some ⟨w.heap.size,0,none⟩)) true ty).run Tryz.prog (w.iter t pos)=_:=fun ty=>run_next_end w t pos ty hp
   have hz:t.size=G:=by
    have:=HE.out;rw[Zam t (by omega)]at this;cases b<;>(simp only[Zbo]at this;omega)
   have HZ:=Hh hz;clear hz;go_wp2
   go_ret;exact⟨rI (by have:=HZ.out;omega),(Below.refl _ _).alloc (Nat.le_refl _) _⟩
def PassPost(X:Nat)(r:ByteArray)(p:Nat×Nat)(n:Nat)(w:World)(e:Ending)(w':World):Prop:=
 e=.returned (.tuple #[])∧Zf w' X 201 #[.string (r.extract n r.size),.int .i64 ((adv p (Zs (r.extract 0 n) n)).1:Nat),.int .i64 ((adv p (Zs (r.extract 0 n) n)).2:Nat)]∧Zq (fun b=>b=X) w w'
theorem tkPass(X:Nat)(r:ByteArray)(p:Nat×Nat)(n:Nat)(w:World)(hr:r.size≤140737488355328)(hn:n≤r.size)(p1:p.1≤140737488355328)(p2:p.2≤140737488355328)
  (hW:Zf w X 201 #[.string r,.int .i64 (p.1:Nat),.int .i64 (p.2:Nat)]) :
  Calls Tryz.prog 125 #[.pointer (some ⟨X,0,none⟩),.int .i64 (n:Int)] w (PassPost X r p n w):=by
 have hz:=size_extract r 0 n hn;have hpb:=Zdc (r.extract 0 n) n;have c1:=fun w=>Place_any (r.extract 0 n) (n:Int) w (by omega)
 have hq3:1≤((Zs (r.extract 0 n) (n:Int)).2:Int):=by
  have e:=(place_pos (r.extract 0 n) (Bd.end_ _)).2;rw[hz,Nat.sub_zero]at e;omega
 generalize hq:Zs (r.extract 0 n) (n:Int)=q at *;have HQ:=Hh hq;rw[hz]at hpb;obtain⟨hq1,hq2⟩:=hpb;have l1:(n:Int)≤(r.size:Int):=by omega
 have k0:w.cell? ⟨X,0,none⟩=some (.string r):=hW.read 0;have HW:=Hh hW;clear hq hz hW;have hXi:=HW.out.inside;by_cases hl:1<(q.1:Int)
 ·have ha:adv p q=(p.1+q.1 - 1,q.2):=by unfold adv;rw[if_pos (by omega)]
  have HA:=Hh ha;clear ha;go_enter Tryz.func125,Tryz.ntmps125;go_wp2_with(go_at_call 156;refine(c1 _).mono ?_;rintro e w1 ⟨rfl,b1⟩;have W1:=Hh (HW.out.below b1 hXi);have B1:=Hh b1;have k0:=W1.out.read 0;have k1:=W1.out.read 1;have k2:=W1.out.read 2;have f0:=W1.out.thawed 0;have f1:=W1.out.thawed 1;have f2:=W1.out.thawed 2;clear b1)
  go_end0
  refine⟨rfl,?_,?_⟩
  ·rw[HQ.out,HA.out]
   dsimp only;rw[show((p.1+q.1 - 1:Nat):Int)=(p.1:Int)+((q.1:Int) - 1)from by omega];exact((W1.out.write 1 _).write 2 _).write 0 _
  ·refine Zq.setCell (Zq.setCell (Zq.setCell (Zq.of_below B1.out) ?_ _) ?_ _) ?_ _<;>rfl
 ·have ha:adv p q=(p.1,p.2+q.2 - 1):=by unfold adv;rw[if_neg (by omega)]
  have HA:=Hh ha;have hq2':1≤(q.2:Int):=hq3;clear ha;go_enter Tryz.func125,Tryz.ntmps125;go_wp2_with(go_at_call 156;refine(c1 _).mono ?_;rintro e w1 ⟨rfl,b1⟩;have W1:=Hh (HW.out.below b1 hXi);have B1:=Hh b1;have k0:=W1.out.read 0;have k1:=W1.out.read 1;have k2:=W1.out.read 2;have f0:=W1.out.thawed 0;have f1:=W1.out.thawed 1;have f2:=W1.out.thawed 2;clear b1)
  go_end0
  refine⟨rfl,?_,?_⟩
  ·rw[HQ.out,HA.out]
   dsimp only;rw[show((p.2+q.2 - 1:Nat):Int)=(p.2:Int)+((q.2:Int) - 1)from by omega];exact(W1.out.write 2 _).write 0 _
  ·refine Zq.setCell (Zq.setCell (Zq.of_below B1.out) ?_ _) ?_ _<;>rfl
theorem own_heap{w w':World}{base:Nat}{e:TypeId}{size:Nat}{v:Value}{n:Nat}{xs:List Value}(h:w.ownsRow base e size v n xs)(he:w'.heap=w.heap):w'.ownsRow base e size v n xs:=by
 unfold World.ownsRow at *;rw[he];exact h
structure Zib(Y wr:World)(o:Obj):Prop where
 heap:Y.heap=(wr.alloc o).heap
 os:Y.os=wr.os
 tape:Y.tape=wr.tape
 output:Y.output=wr.output
theorem Zib.keeps{S:Nat→Prop}{a Y wr:World}{o:Obj}(l:Zib Y wr o)(h:Zq S a wr):Zq S a Y:=by
 have k:=h.alloc o;exact⟨l.os.trans h.os,l.tape.trans h.tape,l.output.trans h.output,by rw[l.heap];exact k.size,fun b h1 h2=>by rw[l.heap];exact k.block b h1 h2⟩
theorem Zib.whole{Y wr:World}{o:Obj}(l:Zib Y wr o){g:Nat}{t:TypeId}{cs:Array Value}(h:Zf wr g t cs):Zf Y g t cs:=by
 unfold Zf;rw[l.heap];exact h.alloc o
theorem Zib.own{Y wr:World}{o:Obj}(l:Zib Y wr o){base:Nat}{e:TypeId}{size:Nat}{v:Value}{n:Nat}{xs:List Value}(h:wr.ownsRow base e size v n xs):Y.ownsRow base e size v n xs:=own_heap (h.alloc o) l.heap
theorem Zib.size{Y wr:World}{o:Obj}(l:Zib Y wr o):Y.heap.size=wr.heap.size+1:=by rw[l.heap];simp
theorem Zib.far{Y wr w3:World}{o:Obj}(l:Zib Y wr o){row:Option Nat}(hg:Y.grownBy w3 row){p:Addr}(hp:p.block<wr.heap.size)(hn:some p.block≠row):w3.cell? p=wr.cell? p∧w3.frozen? p=wr.frozen? p:=by
 have h1:=hg.block p.block (by rw[l.size];omega) hn;have h2:Y.heap[p.block]?=wr.heap[p.block]?:=by rw[l.heap];exact Below.heap_alloc wr o p.block hp
 exact⟨World.cell?_of_block (h1.trans h2),World.frozen?_of_block (h1.trans h2)⟩
theorem Zq.drewN{S:Nat→Prop}{a b:World}(h:Zq S a b)(q:Nat):Zq S a (b.drewN q):=⟨h.os,h.tape,h.output,h.size,h.block⟩
theorem Zib.ge{Y wr:World}{o:Obj}(l:Zib Y wr o){n:Nat}(h:n≤wr.heap.size):n≤Y.heap.size:=by rw[l.size];omega
theorem Zib.below{Y wr w:World}{o:Obj}(l:Zib Y wr o){B:Nat}(h:Below B w wr)(hB:B≤wr.heap.size):Below B w Y:=
 ⟨l.os.trans h.os,l.tape.trans h.tape,l.output.trans h.output,by rw[l.size];have:=h.size;omega,fun k hk=>by rw[l.heap,Below.heap_alloc wr o k (by omega)];exact h.block k hk⟩
theorem Zib.grown{Y wr w':World}{o:Obj}(l:Zib Y wr o){row:Option Nat}(hg:Y.grownBy w' row):wr.grownBy w' row:=
 ⟨hg.os.trans l.os,hg.tape.trans l.tape,hg.output.trans l.output,Nat.le_trans (by rw[l.size];omega) hg.size,fun k hk hn=>(hg.block k (by rw[l.size];omega) hn).trans (by rw[l.heap];exact Below.heap_alloc wr o k hk)⟩
theorem Zf.drew{w:World}{g:Nat}{t:TypeId}{cs:Array Value}(h:Zf w g t cs):Zf w.drew g t cs:=h
theorem Zf.drewN{w:World}{g:Nat}{t:TypeId}{cs:Array Value}(h:Zf w g t cs)(n:Nat):Zf (w.drewN n) g t cs:=h
theorem Zhj:Tryz.prog.underlying 62=some (.slice 69):=by kernel_rfl
theorem Zhs:(Tryz.prog.info? 69).map (fun i=>(i.zero,i.size,i.bytes))=some (some (.agg #[.int .i64 0,.string ⟨#[]⟩,.int .i64 0,.int .i64 0,.int .i64 0]),5,48):=by kernel_rfl
theorem Zcf{P:Program}{w Y:World}{ops:Array Oper}{rest:List Oper}{o:Oper}{a:Act}{Q:Exit→Act→World→Prop}(s x:Operand)(t e:TypeId)(bytes:Nat)(z:Value)
  (ht:P.underlying t=some (.slice e))(hinfo:(P.info? e).map (fun i=>(i.zero,i.size,i.bytes))=some (some z,5,bytes))(hzs:z.cells.size=5)(hby:bytes≤64)
  (hgd:o.guard=none)(ho:o.op=.call { callee:=.builtin .append,args:=#[s,x],argTypes:=#[t,t] })
  (base:Nat)(v:Value)(n:Nat)(xs:List Value)(c0 c1 c2 c3 c4:Value)(hs:a.eval s=v)(hown:w.ownsRow base e 5 v n xs)(g:Nat)(hgz:g=w.heap.size)(hx:a.eval x=.slice (some ⟨g,0,none⟩) 1 1)(h1:∀ u ∈ [c0,c1,c2,c3,c4],u.oneCell'=true)
  (hn:n≤1099511627776)(hbase:base≤w.heap.size)(l:Zib Y w (.cells #[c0,c1,c2,c3,c4] e))
  (h:∀ v' w',w'.ownsRow base e 5 v' (n+1) (xs++[c0,c1,c2,c3,c4])→w.grownBy w' v.ownBlock→(v'.ownBlock=v.ownBlock∨v'.ownBlock=some (w.heap.size+1))→wpList P ops Q rest (a.put o.dst v') w') :
  wpList P ops Q (o::rest) a Y:=by
 subst hgz;obtain⟨i,hi,hz,hsize,hbytes⟩:=info_parts hinfo;have hwl:Zf Y w.heap.size e #[c0,c1,c2,c3,c4]:=by unfold Zf;rw[l.heap];exact Zf.made w e _
 refine wpList_append_own_at Y hgd s x t ho base e i z 5 bytes ht hi hz hsize hbytes hzs (by decide) v n xs hs (l.own hown) ⟨w.heap.size,0,none⟩ 1 1 [c0,c1,c2,c3,c4] hx rfl ?_ h1 (by unfold maxLen;omega) ?_ (by rw[l.size];omega) ?_
 ·intro j u hj
  have hr:=hwl.read j;have ha:(⟨w.heap.size,0,none⟩:Addr).add j=⟨w.heap.size,j,none⟩:=by simp[Addr.add];omega
  rw[ha,hr,←hj];simp
 ·have:(n+1)*bytes≤(n+1)*64:=Nat.mul_le_mul_left _ hby
  omega
 ·intro v' w' ho' hg _ hat
  refine h v' w' ho' (l.grown hg) ?_;rcases hat with e | e
  ·exact .inl e
  ·refine .inr (by rw[l.size]at e;exact e)
def Jb(L:List TokV):List Value:=L.flatMap TokV.cells
theorem tokCs_snoc(L:List TokV)(v:TokV):Jb (L++[v])=Jb L++v.cells:=by unfold Jb;simp
theorem Zig(L:List TokV):(Jb L).length=L.length*5:=by
 induction L with
 |nil=>rfl
 |cons v L ih=>
  have:Jb (v::L)=v.cells++Jb L:=rfl;rw[this,List.length_append,ih,List.length_cons];have:v.cells.length=5:=rfl;omega
def Zbk(s:ByteArray):List TokV×Int×Nat×Nat:=
 if 65536<s.size then([],3,1,1)
 else if(Uq s 0 []).2.1=0 then((Uq s 0 []).1,0,0,0)else([],(Uq s 0 []).2.1,(Zs s ((Uq s 0 []).2.2:Nat)).1,(Zs s ((Uq s 0 []).2.2:Nat)).2)
def Zr(x:Int×Nat×Nat):Value:=.agg #[.int .i64 x.1,.int .i64 (x.2.1:Int),.int .i64 (x.2.2:Int)]
def ScanPost(s:ByteArray)(w:World)(e:Ending)(w':World):Prop:=
 ∃ v,e=.returned (.tuple #[v,Zr (Zbk s).2])∧w'.ownsRow w.heap.size 69 5 v (Zbk s).1.length (Jb (Zbk s).1)∧Below w.heap.size w w'
structure ScW(s:ByteArray)(w:World)(a:Nat)(acc:List TokV)(v:Value)(wr:World):Prop where
 two:Two w 29 #[.int .i64 0,.int .i64 0,.int .i64 0] 201 #[.string (s.extract a s.size),.int .i64 ((Zs s (a:Int)).1:Nat),.int .i64 ((Zs s (a:Int)).2:Nat)] wr
 row:wr.ownsRow (w.heap.size+2) 69 5 v acc.length (Jb acc)
theorem ScW.lo{s:ByteArray}{w wr:World}{a:Nat}{acc:List TokV}{v:Value}(h:ScW s w a acc v wr):w.heap.size+2≤wr.heap.size:=h.two.k1.inside
theorem ScW.next{s:ByteArray}{w wr w':World}{a:Nat}{acc:List TokV}{v:Value}(h:ScW s w a acc v wr)(hb:Below wr.heap.size wr w'):ScW s w a acc v w':=
 ⟨h.two.next hb,Un h.row hb⟩
theorem adv_place(s:ByteArray){a b:Nat}(ha:Bd s a)(hb:Bd s b)(hab:a≤b) :
  adv (Zs s (a:Int)) (Zs ((s.extract a s.size).extract 0 (b - a)) ((b - a:Nat):Int))=Zs s (b:Int):=by
 have e:(s.extract a s.size).extract 0 (b - a)=s.extract a b:=(Zdg s a b hab hb.1).symm;rw[e];exact(place_pass ha hb hab).symm
theorem rest_rest(s:ByteArray){a b:Nat}(hab:a≤b)(hb:b≤s.size):(s.extract a s.size).extract (b - a) (s.extract a s.size).size=s.extract b s.size:=by
 rw[size_extract s a s.size (Nat.le_refl _),ByteArray.extract_extract];congr 1<;>omega
theorem ScW.passed{s:ByteArray}{w wr w':World}{a b:Nat}{acc:List TokV}{v:Value}{e:Ending}(h:ScW s w a acc v wr)(ha:Bd s a)(hb:Bd s b)(hab:a≤b)
  (hp:PassPost (w.heap.size+1) (s.extract a s.size) (Zs s (a:Int)) (b - a) wr e w'):ScW s w b acc v w':=by
 obtain⟨_,hW,hk⟩:=hp;rw[adv_place s ha hb hab,rest_rest s hab hb.1]at hW;refine⟨⟨hk.whole h.two.k0 (by omega),hW,h.two.below.trans ?_⟩,hk.owns h.row fun k hkk=>?_⟩
 ·exact hk.below (Nat.le_trans (Nat.le_add_right _ 2) h.lo) (fun k hk=>by omega)
 ·have:=(h.row.lt k hkk).1
  omega
theorem ScW.push{s:ByteArray}{w wr W w':World}{a:Nat}{acc:List TokV}{v v':Value}(h:ScW s w a acc v wr)(hb:Below wr.heap.size wr W)(t:TokV)
  (ho:w'.ownsRow (w.heap.size+2) 69 5 v' (acc.length+1) (Jb acc++t.cells))(hg:W.grownBy w' v.ownBlock):ScW s w a (acc++[t]) v' w':=by
 have hW:=h.next hb;refine⟨⟨Zdt hg hW.two.k0 ?_,Zdt hg hW.two.k1 ?_,?_⟩,?_⟩
 ·intro c
  have:=(hW.row.lt _ c).1;omega
 ·intro c
  have:=(hW.row.lt _ c).1;omega
 ·exact Zgv hW.two.below hW.row hg (by omega) (Nat.le_trans (Nat.le_add_right _ 2) hW.lo)
 ·rw[tokCs_snoc,List.length_append]
  exact ho
def lenV:Value→Nat
 |.slice _ n _=>n
 |_=>0
theorem Zeq(s:ByteArray){L:List TokV}{e:Int}{p:Nat}(h64:s.size≤65536)(h:Uq s 0 []=(L,e,p)):Zbk s=if e=0 then(L,0,0,0)else([],e,(Zs s (p:Nat)).1,(Zs s (p:Nat)).2):=by
 unfold Zbk;rw[if_neg (by omega),h]
theorem first_at(s:ByteArray){a:Nat}(ha:a≤s.size):Vv (s.extract a s.size) =
  if(Yf (Zk s a)).1 < -1 then Vq 0 ⟨#[]⟩ 0 0 (Ziu (Yf (Zk s a)).1)
  else Vq (Yf (Zk s a)).1 (s.extract (a+(Yf (Zk s a)).2.1) (a+(Yf (Zk s a)).2.2.1)) (Zcb (Yf (Zk s a)).1 (Zk s a)) (Yf (Zk s a)).2.2.2 0:=by
 unfold Vv;rw[bL_rest s a ha]
 have hb:(Yf (Zk s a)).2.2.1≤s.size - a:=by
  by_cases hlt:a<s.size
  ·have:=Zgi (Zk s a) (Zet s hlt)
   rw[Xk]at this;omega
  ·rw[Zam s (by omega)];simp[Yf]
 have e:(s.extract a s.size).extract (Yf (Zk s a)).2.1 (Yf (Zk s a)).2.2.1=s.extract (a+(Yf (Zk s a)).2.1) (a+(Yf (Zk s a)).2.2.1):=by
  rw[ByteArray.extract_extract];congr 1
  omega
 show(if(Yf (Zk s a)).1 < -1 then _ else Vq (Yf (Zk s a)).1 ((s.extract a s.size).extract (Yf (Zk s a)).2.1 (Yf (Zk s a)).2.2.1) _ _ 0)=_;rw[e];rfl
theorem tok_rem(s:ByteArray){a:Nat}(h:a<s.size):(Yf (Zk s a)).1 = -1→gB s a=35:=by
 rw[Yt s h];refine Jj (gB s a) (Zk s (a+1)) (fun x=>x.1 = -1→gB s a=35) ?_ ?_ ?_ ?_ ?_ ?_ ?_ ?_
 ·intro _ hh;simp at hh
 ·intro _ _ _ hh;simp at hh
 ·intro _ _ hh;simp at hh
 ·intro hc _;omega
 ·intro _ _ _ hh;simp at hh
 ·intro _ _ hh;simp at hh
 ·intro _ _ _ _ _ hh;simp at hh
 ·intro _ _ _ _ _ hh;simp at hh
theorem errE_is(k:Int):Ziu k=12∨Ziu k=10∨Ziu k=6:=by
 unfold Ziu;split
 ·exact .inl rfl
 ·split
  ·exact .inr (.inl rfl)
  ·exact .inr (.inr rfl)
theorem Zjl(s:ByteArray):Zs s ((0:Nat):Int)=(1,1):=by rw[Zdb (Zdx.zero s)];rfl
theorem gB_rest(s:ByteArray){a:Nat}(ha:a<s.size):gB (s.extract a s.size) 0=gB s a:=by
 have:=Zev s a s.size 0 (by omega) (Nat.le_refl _);rwa [Nat.add_zero]at this
theorem rest_zero(s:ByteArray)(a:Nat)(ha:a≤s.size):Zk (s.extract a s.size) 0=Zk s a:=by
 unfold Zk;rw[bL_rest s a ha,List.drop_zero]
theorem tkScan(s:ByteArray)(w:World)(hs:s.size≤140737488355328):Calls Tryz.prog 95 #[.string s] w (ScanPost s w):=by
 by_cases h64:65536<s.size
 ·have hv:Zbk s=([],3,1,1):=by unfold Zbk;rw[if_pos h64]
  have HV:=Hh hv;clear hv;have l1:65536<(s.size:Int):=by omega
  go_enter Tryz.func95,Tryz.ntmps95;go_wp2
  refine bodyPost_ret (v:=.tuple #[.slice none 0 0,.agg #[.int .i64 3,.int .i64 1,.int .i64 1]]) (by simp[results,Tryz.results95,go_sem]) rfl ⟨.slice none 0 0,by rw[HV.out];rfl,by rw[HV.out];exact⟨rfl,.inl ⟨rfl,rfl⟩⟩,?_⟩;exact(Below.refl _ _).alloc (Nat.le_refl _) _
 ·have l1:(s.size:Int)≤65536:=by omega
  go_enter Tryz.func95,Tryz.ntmps95;go_wp2
  go_loopw [4] (fun v wr=>∃(a:Nat)(acc:List TokV),ScW s w a acc v wr∧Bd s a∧acc.length≤a∧Uq s a acc=Uq s 0 []) (fun v _=>s.size+1 - lenV v)
  case atStart=>
    refine⟨0,[],⟨?_,⟨rfl,.inl ⟨rfl,rfl⟩⟩⟩,Bd.zero s,Nat.le_refl _,rfl⟩;have e:s.extract 0 s.size=s:=by simp
    rw[e,Zjl];exact Two.start w _ _ _ _
  case round=>
    obtain⟨a,acc,hst,hbd,hac,hsc⟩:=hrel;obtain⟨A,cp,rfl,hnc,hcm,_⟩:=Xd hst.row;have hle:=gapE_le s hbd.1;obtain⟨hg1,hg2,hg3⟩:=Zne s s.size a (by omega) hbd.1 hbd;have hgv:Zfa s a=a+Zbo (Zk s a) false:=rfl
    have c1:∀ w,Calls Tryz.prog 126 #[.string (s.extract a s.size)] w fun e w'=>e=.returned (.int .i64 ((Zfa s a - a:Nat):Int))∧Below w.heap.size w w':=fun w=>by
     have h:=tkGap (s.extract a s.size) w (by rw[size_extract _ _ _ (Nat.le_refl _)];omega);rw[rest_zero s a hbd.1,show Zbo (Zk s a) false=Zfa s a - a from by omega]at h;exact h
    have hgs:=hg1 acc;rw[hsc]at hgs;generalize Zfa s a=b at *
    have c2:=fun w=>tkFirst (s.extract b s.size) w (by rw[size_extract _ _ _ (Nat.le_refl _)];omega) (fun h=>by
     rw[size_extract _ _ _ (Nat.le_refl _)]at h;rw[gB_rest s (by omega)];exact(hg3 (by omega)).2)
    rw[first_at s hle.2]at c2;have p1:=Zdc s (a:Int);have p2:=Zdc s (b:Int);obtain⟨hle1,hle2⟩:=hle;obtain⟨p3,p4⟩:=p1;obtain⟨p5,p6⟩:=p2;have k0:wr.cell? ⟨w.heap.size+1,0,none⟩=some (.string (s.extract a s.size)):=hst.two.k1.read 0;have hrz:=size_extract s a s.size (Nat.le_refl _);have HP:=Hh (And.intro hbd (And.intro hg2 (And.intro hg3 hrz)));have HST:=Hh hst;have HGS:=Hh hgs;have HL:=Hh (And.intro hac hnc);clear hst hgs hsc hg1 hgv hbd hg2 hg3 hrz hac hnc;by_cases hend:b=s.size
    ·have hx:s.extract b b=⟨#[]⟩:=by
      apply ByteArray.ext;apply Array.eq_empty_of_size_eq_zero;show(s.extract b b).size=0;rw[size_extract _ _ _ hle2];omega
     have hnil:=Zam s (show s.size≤b by omega)
     have hv:Zbk s=(acc++[Zlv s b],0,0,0):=by
      rw[Zeq s (by omega) (HGS.out.trans (Zli s acc (by omega))),if_pos rfl]
     have htc:(Zlv s b).cells=[.int .i64 0,.string ⟨#[]⟩,.int .i64 0,.int .i64 ((Zs s (b:Int)).1:Nat),.int .i64 ((Zs s (b:Int)).2:Nat)]:=rfl
     have c3:∀ w,Calls Tryz.prog 127 #[.string (s.extract b s.size)] w fun e w'=>e=.returned (Vq 0 ⟨#[]⟩ 0 0 0)∧Below w.heap.size w w':=fun w=>by
      have h:=c2 w;rw[hnil]at h;have e:(if(Yf []).1 < -1 then Vq 0 ⟨#[]⟩ 0 0 (Ziu (Yf []).1)else Vq (Yf []).1 (s.extract (b+(Yf []).2.1) (b+(Yf []).2.2.1)) (Zcb (Yf []).1 []) (Yf []).2.2.2 0)=Vq 0 (s.extract b b) 0 0 0:=rfl;rw[e,hx]at h;exact h
     simp only[Vq]at c3;have HV:=Hh hv;have HTC:=Hh htc;clear hx hnil hv htc c2 hend;go_wp2_with(first
 |(go_at_call 126;refine(c1 _).mono ?_;rintro e w1 ⟨rfl,b1⟩;have S1:=Hh (HST.out.next b1);clear b1)
 |(go_at_call 125;refine(tkPass (w.heap.size+1) (s.extract a s.size) (Zs s (a:Int)) (b - a) _ (by rw[HP.out.2.2.2];omega) (by rw[HP.out.2.2.2];omega) (by omega) (by omega) S1.out.two.k1).mono ?_;rintro e w2 q2;obtain rfl:=q2.1;have S2:=Hh (S1.out.passed HP.out.1 HP.out.2.1 hle1 q2);have k2:w2.cell? ⟨w.heap.size+1,0,none⟩=some (.string (s.extract b s.size)):=S2.out.two.k1.read 0;clear q2)
 |(go_at_call 127;refine(c3 _).mono ?_;rintro e w3 ⟨rfl,b3⟩;have S3:=Hh (S2.out.next b3);clear b3
   have x1:w3.cell? ⟨w.heap.size+1,1,none⟩=some (.int .i64 ((Zs s (b:Int)).1:Nat)):=S3.out.two.k1.read 1;have x2:w3.cell? ⟨w.heap.size+1,2,none⟩=some (.int .i64 ((Zs s (b:Int)).2:Nat)):=S3.out.two.k1.read 2;have y0:w3.cell? ⟨w.heap.size,0,none⟩=some (.int .i64 0):=S3.out.two.k0.read 0;have y1:w3.cell? ⟨w.heap.size,1,none⟩=some (.int .i64 0):=S3.out.two.k0.read 1;have y2:w3.cell? ⟨w.heap.size,2,none⟩=some (.int .i64 0):=S3.out.two.k0.read 2;have z0:=S3.out.two.k0.thawed 0;have z1:=S3.out.two.k0.thawed 1;have z2:=S3.out.two.k0.thawed 2;have hlo:w.heap.size+1<w3.heap.size:=S3.out.lo
   have hlo0:w.heap.size<w3.heap.size:=Nat.lt_of_succ_lt hlo))
     go_region
     go_wp2_with(first
 |(at_builtin;refine Zcf (w:=w3.alloc (.cells #[.int .i64 0,.string ⟨#[]⟩,.int .i64 0,.int .i64 ((Zs s (b:Int)).1:Nat),.int .i64 ((Zs s (b:Int)).2:Nat)] 69)) (.tmp 40) (.tmp 42) 62 69 48 _ Zhj Zhs (by rfl) (by decide) rfl rfl (w.heap.size+2) (.slice A acc.length cp) acc.length (Jb acc) _ _ _ _ _ rfl (S3.out.row.alloc _) (w3.heap.size+1) (by simp) rfl (by simp[Value.oneCell']) (by have:=HL.out;omega) (by simp;omega) ⟨rfl,rfl,rfl,rfl⟩ ?_
   intro v5 w5 o5 g5 at5;obtain⟨A5,cp5,rfl,_⟩:=Xd o5;have S5:=Hh (S3.out.push ((Below.refl _ _).alloc (Nat.le_refl _) _) (Zlv s b) (by rw[HTC.out];exact o5) g5);have T5:=Hh (Zdt g5 (Zf.made w3 69 #[.int .i64 0,.string ⟨#[]⟩,.int .i64 0,.int .i64 ((Zs s (b:Int)).1:Nat),.int .i64 ((Zs s (b:Int)).2:Nat)]) (fun c=>by have:=(S3.out.row.lt _ c).2;omega));have t0:w5.cell? ⟨w3.heap.size,0,none⟩=some (.int .i64 0):=T5.out.read 0;have y0:w5.cell? ⟨w.heap.size,0,none⟩=some (.int .i64 0):=S5.out.two.k0.read 0;have y1:w5.cell? ⟨w.heap.size,1,none⟩=some (.int .i64 0):=S5.out.two.k0.read 1;have y2:w5.cell? ⟨w.heap.size,2,none⟩=some (.int .i64 0):=S5.out.two.k0.read 2;have z0:=S5.out.two.k0.thawed 0;have z1:=S5.out.two.k0.thawed 1;have z2:=S5.out.two.k0.thawed 2
   clear o5 g5 at5))
     have hF:=((S5.out.two.k0.write 0 (.int .i64 0)).write 1 (.int .i64 0)).write 2 (.int .i64 0);have hF3:=Zy hF;have hrow:=own_mono S5.out.row (show w.heap.size≤w.heap.size+2 by omega);rw[List.length_append]at hrow;refine bodyPost_ret (v:=.tuple #[.slice A5 (acc.length+1) cp5,.agg #[.int .i64 0,.int .i64 0,.int .i64 0]]) (by simp[results,Tryz.results95,go_sem,hF3]) rfl ⟨.slice A5 (acc.length+1) cp5,by rw[HV.out];rfl,?_,?_⟩
     ·rw[HV.out]
      have hn:∀ k,(Value.slice A5 (acc.length+1) cp5).ownBlock=some k→k≠w.heap.size:=fun k hk c=>by have:=(S5.out.row.lt k hk).1;omega
      have hn0:(Value.slice A5 (acc.length+1) cp5).ownBlock≠some w.heap.size:=fun c=>hn _ c rfl
      exact Zae (Zae (Zae (by rw[List.length_append];exact hrow) hn0 _) hn0 _) hn0 _
     ·exact((S5.out.two.below.setCell (Nat.le_refl _) _).setCell (Nat.le_refl _) _).setCell (Nat.le_refl _) _
    ·have hbl:=(HP.out.2.2.1 (by omega)).1
     have hkk:(Yf (Zk s b)).1 < -1∨0<(Yf (Zk s b)).1:=by
      have h1:=Zgi (Zk s b) (Zet s (by omega));have h2:=tok_rem s (show b<s.size by omega);have h3:=(HP.out.2.2.1 (by omega)).2;omega
     rcases hkk with hk | hk
     ·simp only[if_pos hk,Vq]at c2
      have hE:Ziu (Yf (Zk s b)).1=12∨Ziu (Yf (Zk s b)).1=10∨Ziu (Yf (Zk s b)).1=6:=errE_is _
      have hv:Zbk s=([],Ziu (Yf (Zk s b)).1,(Zs s (b:Nat)).1,(Zs s (b:Nat)).2):=by
       rw[Zeq s (by omega) (HGS.out.trans (Zlh s acc (by omega) hbl hk)),if_neg (by omega)]
      generalize Ziu (Yf (Zk s b)).1=E at *;have hE0:(E == 0)=false:=by rw[beq_eq_false_iff_ne];omega
      have hE1:(E != 0)=true:=by simp;omega
      have HV:=Hh hv;clear hk hv hbl;go_wp2_with(first
 |(go_at_call 126;refine(c1 _).mono ?_;rintro e w1 ⟨rfl,b1⟩;have S1:=Hh (HST.out.next b1);clear b1)
 |(go_at_call 125;refine(tkPass (w.heap.size+1) (s.extract a s.size) (Zs s (a:Int)) (b - a) _ (by rw[HP.out.2.2.2];omega) (by rw[HP.out.2.2.2];omega) (by omega) (by omega) S1.out.two.k1).mono ?_;rintro e w2 q2;obtain rfl:=q2.1;have S2:=Hh (S1.out.passed HP.out.1 HP.out.2.1 hle1 q2);have k2:w2.cell? ⟨w.heap.size+1,0,none⟩=some (.string (s.extract b s.size)):=S2.out.two.k1.read 0;clear q2)
 |(go_at_call 127;refine(c2 _).mono ?_;rintro e w3 ⟨rfl,b3⟩;have S3:=Hh (S2.out.next b3);clear b3
   have x1:w3.cell? ⟨w.heap.size+1,1,none⟩=some (.int .i64 ((Zs s (b:Int)).1:Nat)):=S3.out.two.k1.read 1;have x2:w3.cell? ⟨w.heap.size+1,2,none⟩=some (.int .i64 ((Zs s (b:Int)).2:Nat)):=S3.out.two.k1.read 2;have y0:w3.cell? ⟨w.heap.size,0,none⟩=some (.int .i64 0):=S3.out.two.k0.read 0;have y1:w3.cell? ⟨w.heap.size,1,none⟩=some (.int .i64 0):=S3.out.two.k0.read 1;have y2:w3.cell? ⟨w.heap.size,2,none⟩=some (.int .i64 0):=S3.out.two.k0.read 2;have z0:=S3.out.two.k0.thawed 0;have z1:=S3.out.two.k0.thawed 1;have z2:=S3.out.two.k0.thawed 2;have hlo:w.heap.size+1<w3.heap.size:=S3.out.lo
   have hlo0:w.heap.size<w3.heap.size:=Nat.lt_of_succ_lt hlo))
      go_region
      go_wp2
      have hF:=((((S3.out.two.k0.write 0 (.int .i64 E)).write 1 (.int .i64 ((Zs s (b:Int)).1:Nat))).write 2 (.int .i64 ((Zs s (b:Int)).2:Nat))).alloc (.cells #[.int .i64 0,.string ⟨#[]⟩,.int .i64 0,.int .i64 0,.int .i64 0] 69)).drew;have hF3:=Zy hF;refine bodyPost_ret (v:=.tuple #[.slice none 0 0,.agg #[.int .i64 E,.int .i64 ((Zs s (b:Int)).1:Nat),.int .i64 ((Zs s (b:Int)).2:Nat)]]) (by simp[results,Tryz.results95,go_sem,hF3]) rfl ⟨.slice none 0 0,by rw[HV.out];rfl,by rw[HV.out];exact⟨rfl,.inl ⟨rfl,rfl⟩⟩,?_⟩;exact Wa ((((S3.out.two.below.setCell (Nat.le_refl _) _).setCell (Nat.le_refl _) _).setCell (Nat.le_refl _) _).alloc (by simp[World.setCell];omega) _)
     ·have hk1:¬(Yf (Zk s b)).1 < -1:=by omega
      simp only[if_neg hk1,Vq]at c2;have hsc:=HGS.out.trans (Zlf s acc (by omega) hbl hk);have hadv:=Zax s (show b<s.size by omega) (by omega : -1≤(Yf (Zk s b)).1);have hbd2:=tok_bd s (show b<s.size by omega) hk;have htc:(Zep s b).cells=[.int .i64 (Yf (Zk s b)).1,.string (s.extract (b+(Yf (Zk s b)).2.1) (b+(Yf (Zk s b)).2.2.1)),.int .i64 (Zcb (Yf (Zk s b)).1 (Zk s b)),.int .i64 ((Zs s (b:Int)).1:Nat),.int .i64 ((Zs s (b:Int)).2:Nat)]:=rfl;generalize s.extract (b+(Yf (Zk s b)).2.1) (b+(Yf (Zk s b)).2.2.1)=X at *;generalize Zcb (Yf (Zk s b)).1 (Zk s b)=N at *;generalize(Yf (Zk s b)).2.2.2=Z at *;generalize(Yf (Zk s b)).1=K at *;have HSC:=Hh (And.intro hsc (And.intro hbd2 htc));obtain⟨hz1,hz2⟩:=hadv;have hK0:(K == 0)=false:=by rw[beq_eq_false_iff_ne];omega
      clear hsc hbd2 htc hbl hk hk1;go_wp2_with(first
 |(go_at_call 126;refine(c1 _).mono ?_;rintro e w1 ⟨rfl,b1⟩;have S1:=Hh (HST.out.next b1);clear b1)
 |(go_at_call 125;refine(tkPass (w.heap.size+1) (s.extract a s.size) (Zs s (a:Int)) (b - a) _ (by rw[HP.out.2.2.2];omega) (by rw[HP.out.2.2.2];omega) (by omega) (by omega) S1.out.two.k1).mono ?_;rintro e w2 q2;obtain rfl:=q2.1;have S2:=Hh (S1.out.passed HP.out.1 HP.out.2.1 hle1 q2);have k2:w2.cell? ⟨w.heap.size+1,0,none⟩=some (.string (s.extract b s.size)):=S2.out.two.k1.read 0;clear q2)
 |(go_at_call 127;refine(c2 _).mono ?_;rintro e w3 ⟨rfl,b3⟩;have S3:=Hh (S2.out.next b3);clear b3
   have x1:w3.cell? ⟨w.heap.size+1,1,none⟩=some (.int .i64 ((Zs s (b:Int)).1:Nat)):=S3.out.two.k1.read 1;have x2:w3.cell? ⟨w.heap.size+1,2,none⟩=some (.int .i64 ((Zs s (b:Int)).2:Nat)):=S3.out.two.k1.read 2;have y0:w3.cell? ⟨w.heap.size,0,none⟩=some (.int .i64 0):=S3.out.two.k0.read 0;have y1:w3.cell? ⟨w.heap.size,1,none⟩=some (.int .i64 0):=S3.out.two.k0.read 1;have y2:w3.cell? ⟨w.heap.size,2,none⟩=some (.int .i64 0):=S3.out.two.k0.read 2;have z0:=S3.out.two.k0.thawed 0;have z1:=S3.out.two.k0.thawed 1;have z2:=S3.out.two.k0.thawed 2;have hlo:w.heap.size+1<w3.heap.size:=S3.out.lo
   have hlo0:w.heap.size<w3.heap.size:=Nat.lt_of_succ_lt hlo))
      go_region
      go_wp2_with(first
 |(at_builtin;refine Zcf (w:=w3.alloc (.cells #[.int .i64 K,.string X,.int .i64 N,.int .i64 ((Zs s (b:Int)).1:Nat),.int .i64 ((Zs s (b:Int)).2:Nat)] 69)) (.tmp 40) (.tmp 42) 62 69 48 _ Zhj Zhs (by rfl) (by decide) rfl rfl (w.heap.size+2) (.slice A acc.length cp) acc.length (Jb acc) _ _ _ _ _ rfl (S3.out.row.alloc _) (w3.heap.size+1) (by simp) rfl (by simp[Value.oneCell']) (by have:=HL.out;omega) (by simp;omega) ⟨rfl,rfl,rfl,rfl⟩ ?_
   intro v5 w5 o5 g5 at5;obtain⟨A5,cp5,rfl,_⟩:=Xd o5;have S5:=Hh (S3.out.push ((Below.refl _ _).alloc (Nat.le_refl _) _) (Zep s b) (by rw[HSC.out.2.2];exact o5) g5);have T5:=Hh (Zdt g5 (Zf.made w3 69 #[.int .i64 K,.string X,.int .i64 N,.int .i64 ((Zs s (b:Int)).1:Nat),.int .i64 ((Zs s (b:Int)).2:Nat)]) (fun c=>by have:=(S3.out.row.lt _ c).2;omega));have t0:w5.cell? ⟨w3.heap.size,0,none⟩=some (.int .i64 K):=T5.out.read 0;have y0:w5.cell? ⟨w.heap.size,0,none⟩=some (.int .i64 0):=S5.out.two.k0.read 0;have y1:w5.cell? ⟨w.heap.size,1,none⟩=some (.int .i64 0):=S5.out.two.k0.read 1;have y2:w5.cell? ⟨w.heap.size,2,none⟩=some (.int .i64 0):=S5.out.two.k0.read 2;have z0:=S5.out.two.k0.thawed 0;have z1:=S5.out.two.k0.thawed 1;have z2:=S5.out.two.k0.thawed 2;clear o5 g5 at5)
 |(go_at_call 125;refine(tkPass (w.heap.size+1) (s.extract b s.size) (Zs s (b:Int)) Z _ (by rw[size_extract _ _ _ (Nat.le_refl _)];omega) (by rw[size_extract _ _ _ (Nat.le_refl _)];omega) (by omega) (by omega) S5.out.two.k1).mono ?_;rintro e w6 q6;obtain rfl:=q6.1;have S6:=Hh (S5.out.passed (b:=b+Z) HP.out.2.1 HSC.out.2.1 (by omega) (by rw[show b+Z - b=Z from by omega];exact q6));clear q6))
      go_roundw
      case rel=>exact⟨b+Z,acc++[Zep s b],S6.out,HSC.out.2.1,by have:=HL.out;simp;omega,HSC.out.1.symm⟩
      case measure=>have:=HL.out;simp[lenV];omega
end Go.Proofs.YtdngkgickbaboaaGreat
