/-
  No conditions but those that each theorem names.
-/
import Derived.Laws.RangeAny
import Derived.Laws.BytesArg
import Derived.Laws.Strings
set_option maxRecDepth 20000
set_option maxHeartbeats 12800000
namespace Go.Proofs.YtljdgdphldckhaaGreat
open Go
theorem Qz{α:Type}(l:List α)(i:Nat)(a:α):l.toArray.setIfInBounds i a=(l.set i a).toArray:=List.setIfInBounds_toArray l i a
theorem Qy{α:Type}{l:List α}{a b:α}:(a::l).set 0 b=b::l:=rfl
theorem Qx{α:Type}{l:List α}{i:Nat}{a b:α}:(a::l).set (i+1) b=a::l.set i b:=rfl
def gB(s:ByteArray)(i:Nat):Nat:=(s.get! i).toNat
theorem Zad(s:ByteArray)(i:Nat):gB s i<256:=(s.get! i).toNat_lt
theorem Uk(s:ByteArray)(i:Nat)(h:i<s.size):gB s i=(s[i]'h).toNat:=by
 unfold gB;have:=get_at s i h;rw[Nat.add_zero]at this;rw[this]
def cB(s:ByteArray)(i:Nat):Bool:=decide (i<s.size) && decide (128≤gB s i) && decide (gB s i<192)
theorem Zbb(s:ByteArray)(i:Nat):cB s i=true↔i<s.size∧128≤gB s i∧gB s i<192:=by
 unfold cB;simp;omega
theorem Zei(s:ByteArray)(i:Nat):Utf8.decode s i =
  if gB s i<128 then(gB s i,1)
  else if gB s i / 32=6∧cB s (i+1)=true then
   (if 128≤gB s i % 32*64+gB s (i+1) % 64 then(gB s i % 32*64+gB s (i+1) % 64,2)else(65533,1))
  else if gB s i / 16=14∧cB s (i+1)=true∧cB s (i+2)=true then
   (if 2048≤gB s i % 16*4096+gB s (i+1) % 64*64+gB s (i+2) % 64∧¬(55296≤gB s i % 16*4096+gB s (i+1) % 64*64+gB s (i+2) % 64∧gB s i % 16*4096+gB s (i+1) % 64*64+gB s (i+2) % 64≤57343)then(gB s i % 16*4096+gB s (i+1) % 64*64+gB s (i+2) % 64,3)else(65533,1))
  else if gB s i / 8=30∧cB s (i+1)=true∧cB s (i+2)=true∧cB s (i+3)=true then
   (if 65536≤gB s i % 8*262144+gB s (i+1) % 64*4096+gB s (i+2) % 64*64+gB s (i+3) % 64∧gB s i % 8*262144+gB s (i+1) % 64*4096+gB s (i+2) % 64*64+gB s (i+3) % 64≤1114111 then(gB s i % 8*262144+gB s (i+1) % 64*4096+gB s (i+2) % 64*64+gB s (i+3) % 64,4)else(65533,1))
  else(65533,1):=by
 have e:∀ k,(s.get! k).toNat=gB s k:=fun k=>rfl
 have c:∀ k,(decide (i+k<s.size) && (gB s (i+k) / 64 == 2))=cB s (i+k):=by
  intro k;rw[Bool.eq_iff_iff,Zbb];simp;omega
 have h0:=Zad s i;have h1:=Zad s (i+1);have h2:=Zad s (i+2);unfold Utf8.decode;simp only[e,c,Nat.add_zero,Utf8.runeError,Bool.and_eq_true,beq_iff_eq,Utf8.valid,Bool.or_eq_true,decide_eq_true_eq,and_assoc,ge_iff_le];generalize gB s i=a at *;generalize gB s (i+1)=b at *;generalize gB s (i+2)=d at *;generalize gB s (i+3)=f at *;repeat' split
 all_goals first
  |rfl
  |(exfalso;omega)
theorem Zco(s:ByteArray)(i:Nat)(h:i<s.size):1≤(Utf8.decode s i).2∧i+(Utf8.decode s i).2≤s.size∧(Utf8.decode s i).2≤4∧(Utf8.decode s i).1≤1114111:=by
 have h0:=Zad s i;rw[Zei];repeat' split
 all_goals simp only[Zbb]at *
 all_goals((try dsimp only);omega)
theorem Zhx(s:ByteArray)(i:Nat)(h:(Utf8.decode s i).1<128):(Utf8.decode s i).1=gB s i∧(Utf8.decode s i).2=1:=by
 rw[Zei]at h ⊢;repeat' split
 all_goals(simp only[*]at h;revert h;dsimp only;repeat' split)
 all_goals first
  |(exact fun _=>⟨rfl,rfl⟩)
  |(intro h;exfalso;simp only[*]at *;omega)
  |(intro h;exfalso;omega)
theorem Vi(s:ByteArray)(i:Nat)(h:gB s i<128):Utf8.decode s i=(gB s i,1):=by
 rw[Zei,if_pos h]
theorem dec_last(s:ByteArray)(i:Nat)(h:1<(Utf8.decode s i).2):128≤gB s (i+(Utf8.decode s i).2 - 1):=by
 rw[Zei]at h ⊢;repeat' split
 all_goals simp only[*,Zbb]at *
 all_goals(try(simp at h;done))
 all_goals(simp;omega)
def Zdj(n:Int):List Int:=
 if n<0∨1114111<n∨(55296≤n∧n≤57343)then []
 else if n<128 then [n]
 else if n<2048 then [192+n / 64,128+n % 64]
 else if n<65536 then [224+n / 4096,128+n / 64 % 64,128+n % 64]
 else [240+n / 262144,128+n / 4096 % 64,128+n / 64 % 64,128+n % 64]
def Zja:List Int→Int
 |[a]=>a
 |[a,b]=>(a - 192)*64+b - 128
 |[a,b,c]=>(a - 224)*4096+(b - 128)*64+c - 128
 |[a,b,c,d]=>(a - 240)*262144+(b - 128)*4096+(c - 128)*64+d - 128
 |_=>0
def Ve(s:ByteArray)(i n:Nat):List Int:=(List.range n).map fun j=>(gB s (i+j):Int)
theorem Zex(s:ByteArray)(i n:Nat):(Ve s i n).length=n:=by simp[Ve]
theorem hit_iff1{a:Int}(h0:0≤a)(h1:a<256):Zdj (Zja [a])=[a]↔a<128:=by
 show Zdj (a)=_↔_;unfold Zdj;repeat' split
 all_goals simp
 all_goals omega
theorem hit_iff2{a b:Int}(h0:0≤a)(h1:a<256)(h2:0≤b)(h3:b<256):Zdj (Zja [a,b])=[a,b]↔194≤a∧a<224∧128≤b∧b<192:=by
 show Zdj ((a - 192)*64+b - 128)=_↔_;unfold Zdj;repeat' split
 all_goals simp
 all_goals omega
theorem hit_iff3{a b c:Int}(h0:0≤a)(h1:a<256)(h2:0≤b)(h3:b<256)(h4:0≤c)(h5:c<256):Zdj (Zja [a,b,c])=[a,b,c] ↔
  224≤a∧a<240∧128≤b∧b<192∧128≤c∧c<192∧2048≤(a - 224)*4096+(b - 128)*64+c - 128∧¬(55296≤(a - 224)*4096+(b - 128)*64+c - 128∧(a - 224)*4096+(b - 128)*64+c - 128≤57343):=by
 show Zdj ((a - 224)*4096+(b - 128)*64+c - 128)=_↔_;unfold Zdj;repeat' split
 all_goals simp
 all_goals omega
theorem hit_iff4{a b c d:Int}(h0:0≤a)(h1:a<256)(h2:0≤b)(h3:b<256)(h4:0≤c)(h5:c<256)(h6:0≤d)(h7:d<256):Zdj (Zja [a,b,c,d])=[a,b,c,d] ↔
  240≤a∧a<248∧128≤b∧b<192∧128≤c∧c<192∧128≤d∧d<192∧65536≤(a - 240)*262144+(b - 128)*4096+(c - 128)*64+d - 128∧(a - 240)*262144+(b - 128)*4096+(c - 128)*64+d - 128≤1114111:=by
 show Zdj ((a - 240)*262144+(b - 128)*4096+(c - 128)*64+d - 128)=_↔_;unfold Zdj;repeat' split
 all_goals simp
 all_goals omega
theorem numsAt1(s:ByteArray)(i:Nat):Ve s i 1=[(gB s i:Int)]:=rfl
theorem numsAt2(s:ByteArray)(i:Nat):Ve s i 2=[(gB s i:Int),(gB s (i+1):Int)]:=rfl
theorem numsAt3(s:ByteArray)(i:Nat):Ve s i 3=[(gB s i:Int),(gB s (i+1):Int),(gB s (i+2):Int)]:=rfl
theorem numsAt4(s:ByteArray)(i:Nat):Ve s i 4=[(gB s i:Int),(gB s (i+1):Int),(gB s (i+2):Int),(gB s (i+3):Int)]:=rfl
def Zdp(s:ByteArray)(i n:Nat):Bool:=decide (Zdj (Zja (Ve s i n))=Ve s i n)
theorem hitAt1(s:ByteArray)(i:Nat):Zdp s i 1=true↔gB s i<128:=by
 unfold Zdp;rw[decide_eq_true_iff,numsAt1,hit_iff1 (by omega) (by have:=Zad s i;omega)];omega
theorem hitAt2(s:ByteArray)(i:Nat):Zdp s i 2=true↔194≤gB s i∧gB s i<224∧128≤gB s (i+1)∧gB s (i+1)<192:=by
 have:=Zad s i;have:=Zad s (i+1);unfold Zdp;rw[decide_eq_true_iff,numsAt2,hit_iff2 (by omega) (by omega) (by omega) (by omega)];omega
theorem hitAt3(s:ByteArray)(i:Nat):Zdp s i 3=true↔224≤gB s i∧gB s i<240∧128≤gB s (i+1)∧gB s (i+1)<192∧128≤gB s (i+2)∧gB s (i+2)<192 ∧
  2048≤gB s i % 16*4096+gB s (i+1) % 64*64+gB s (i+2) % 64∧¬(55296≤gB s i % 16*4096+gB s (i+1) % 64*64+gB s (i+2) % 64∧gB s i % 16*4096+gB s (i+1) % 64*64+gB s (i+2) % 64≤57343):=by
 have:=Zad s i;have:=Zad s (i+1);have:=Zad s (i+2);unfold Zdp;rw[decide_eq_true_iff,numsAt3,hit_iff3 (by omega) (by omega) (by omega) (by omega) (by omega) (by omega)];omega
theorem hitAt4(s:ByteArray)(i:Nat):Zdp s i 4=true↔240≤gB s i∧gB s i<248∧128≤gB s (i+1)∧gB s (i+1)<192∧128≤gB s (i+2)∧gB s (i+2)<192∧128≤gB s (i+3)∧gB s (i+3)<192 ∧
  65536≤gB s i % 8*262144+gB s (i+1) % 64*4096+gB s (i+2) % 64*64+gB s (i+3) % 64∧gB s i % 8*262144+gB s (i+1) % 64*4096+gB s (i+2) % 64*64+gB s (i+3) % 64≤1114111:=by
 have:=Zad s i;have:=Zad s (i+1);have:=Zad s (i+2);have:=Zad s (i+3);unfold Zdp;rw[decide_eq_true_iff,numsAt4,hit_iff4 (by omega) (by omega) (by omega) (by omega) (by omega) (by omega) (by omega) (by omega)];omega
theorem dec_hit1(s:ByteArray)(i:Nat)(h:Zdp s i 1=true):Utf8.decode s i=((Zja (Ve s i 1)).toNat,1):=by
 rw[Vi s i ((hitAt1 s i).1 h)];rfl
theorem dec_hit2(s:ByteArray)(i:Nat)(hi:i+2≤s.size)(h:Zdp s i 2=true):Utf8.decode s i=((Zja (Ve s i 2)).toNat,2):=by
 rw[hitAt2]at h;have c1:=(Zbb s (i+1)).2 ⟨by omega,by omega,by omega⟩;rw[Zei,if_neg (by omega),if_pos ⟨by omega,c1⟩,if_pos (by omega),numsAt2];show _=((((gB s i:Int) - 192)*64+gB s (i+1) - 128).toNat,2);congr 1;omega
theorem dec_hit3(s:ByteArray)(i:Nat)(hi:i+3≤s.size)(h:Zdp s i 3=true):Utf8.decode s i=((Zja (Ve s i 3)).toNat,3):=by
 rw[hitAt3]at h;have c1:=(Zbb s (i+1)).2 ⟨by omega,by omega,by omega⟩;have c2:=(Zbb s (i+2)).2 ⟨by omega,by omega,by omega⟩;rw[Zei,if_neg (by omega),if_neg (by omega),if_pos ⟨by omega,c1,c2⟩,if_pos (by omega),numsAt3];show _=((((gB s i:Int) - 224)*4096+((gB s (i+1):Int) - 128)*64+gB s (i+2) - 128).toNat,3);congr 1;omega
theorem dec_hit4(s:ByteArray)(i:Nat)(hi:i+4≤s.size)(h:Zdp s i 4=true):Utf8.decode s i=((Zja (Ve s i 4)).toNat,4):=by
 rw[hitAt4]at h;have c1:=(Zbb s (i+1)).2 ⟨by omega,by omega,by omega⟩;have c2:=(Zbb s (i+2)).2 ⟨by omega,by omega,by omega⟩;have c3:=(Zbb s (i+3)).2 ⟨by omega,by omega,by omega⟩;rw[Zei,if_neg (by omega),if_neg (by omega),if_neg (by omega),if_pos ⟨by omega,c1,c2,c3⟩,if_pos (by omega),numsAt4];show _=((((gB s i:Int) - 240)*262144+((gB s (i+1):Int) - 128)*4096+((gB s (i+2):Int) - 128)*64+gB s (i+3) - 128).toNat,4);congr 1;omega
theorem dec_hit(s:ByteArray)(i n:Nat)(h1:1≤n)(h4:n≤4)(hi:i+n≤s.size)(h:Zdp s i n=true):Utf8.decode s i=((Zja (Ve s i n)).toNat,n):=by
 have hn:n=1∨n=2∨n=3∨n=4:=by omega
 rcases hn with rfl | rfl | rfl | rfl
 ·exact dec_hit1 s i h
 ·exact dec_hit2 s i hi h
 ·exact dec_hit3 s i hi h
 ·exact dec_hit4 s i hi h
theorem num_nonneg(s:ByteArray)(i n:Nat)(h1:1≤n)(h4:n≤4)(h:Zdp s i n=true):0≤Zja (Ve s i n):=by
 unfold Zdp at h;rw[decide_eq_true_iff]at h;rcases Int.lt_or_le (Zja (Ve s i n)) 0 with hn | hn
 ·exfalso
  have e:Zdj (Zja (Ve s i n))=[]:=by unfold Zdj;rw[if_pos (.inl hn)]
  rw[e]at h;have:=congrArg List.length h;rw[Zex]at this;simp at this;omega
 ·exact hn
theorem dec_nohit(s:ByteArray)(i:Nat)(hi:i<s.size)(h:∀ n,1≤n→n≤4→i+n≤s.size→Zdp s i n=false):Utf8.decode s i=(65533,1):=by
 have g1:=Zad s i;have g2:=Zad s (i+1);have g3:=Zad s (i+2);have g4:=Zad s (i+3)
 have k1:¬ gB s i<128:=by
  have:=h 1 (by omega) (by omega) (by omega);rw[←hitAt1,this];simp
 have k2:i+2≤s.size→¬(194≤gB s i∧gB s i<224∧128≤gB s (i+1)∧gB s (i+1)<192):=fun hs=>by
  have:=h 2 (by omega) (by omega) hs;rw[←hitAt2,this];simp
 have k3:i+3≤s.size→_:=fun hs=>mt (hitAt3 s i).2 (by rw[h 3 (by omega) (by omega) hs];simp)
 have k4:i+4≤s.size→_:=fun hs=>mt (hitAt4 s i).2 (by rw[h 4 (by omega) (by omega) hs];simp)
 clear h;rw[Zei,if_neg k1];repeat' split
 all_goals(try simp only[Zbb]at *)
 all_goals first
  |rfl
  |(exfalso;omega)
theorem Zgt(s:ByteArray)(a b i:Nat)(h:a+i<b)(hb:b≤s.size):gB (s.extract a b) i=gB s (a+i):=by
 rw[Uk _ i (by rw[ByteArray.size_extract];omega),Uk _ (a+i) (by omega),ByteArray.getElem_extract]
theorem size_extract(s:ByteArray)(a b:Nat)(hb:b≤s.size):(s.extract a b).size=b - a:=by rw[ByteArray.size_extract];omega
theorem numsAt_extract(s:ByteArray)(a n:Nat)(h:a+n≤s.size):Ve (s.extract a (a+n)) 0 n=Ve s a n:=by
 unfold Ve;apply List.map_congr_left;intro j hj;rw[List.mem_range]at hj;rw[Nat.zero_add,Zgt s a (a+n) j (by omega) h]
theorem Zob(s:ByteArray)(a:Nat)(h:a≤s.size)(i:Nat)(hi:a+i<s.size):Utf8.decode (s.extract a s.size) i=Utf8.decode s (a+i):=by
 have hz:(s.extract a s.size).size=s.size - a:=size_extract s a s.size (Nat.le_refl _);have g0:gB (s.extract a s.size) i=gB s (a+i):=Zgt s a s.size i hi (Nat.le_refl _)
 have gc:∀ k,cB (s.extract a s.size) (i+k)=cB s (a+i+k)∧(cB s (a+i+k)=true→gB (s.extract a s.size) (i+k)=gB s (a+i+k)):=by
  intro k;by_cases hk:a+i+k<s.size
  ·have g:=Zgt s a s.size (i+k) (by omega) (Nat.le_refl _)
   rw[show a+(i+k)=a+i+k from by omega]at g;refine⟨?_,fun _=>g⟩;unfold cB;rw[hz,g];simp only[show(i+k<s.size - a)=True from by simp;omega,hk]
  ·have e1:cB (s.extract a s.size) (i+k)=false:=by unfold cB;rw[hz];simp;omega
   have e2:cB s (a+i+k)=false:=by unfold cB;simp;omega
   exact⟨e1.trans e2.symm,fun h=>by rw[e2]at h;cases h⟩
 obtain⟨c1,d1⟩:=gc 1;obtain⟨c2,d2⟩:=gc 2;obtain⟨c3,d3⟩:=gc 3;rw[Zei,Zei,g0,c1,c2,c3];by_cases e1:cB s (a+i+1)=true
 ·rw[d1 e1]
  by_cases e2:cB s (a+i+2)=true
  ·rw[d2 e2]
   by_cases e3:cB s (a+i+3)=true
   ·rw[d3 e3]
   ·simp[e3]
  ·simp[e2]
 ·simp[e1]
theorem Zie(l m:List Int)(hl:∀ x ∈ l,0≤x∧x<256)(hm:∀ x ∈ m,0≤x∧x<256)(h:strOfNums l=strOfNums m):l=m:=by
 have e:=congrArg (fun b:ByteArray=>b.data.toList.map (fun c:UInt8=>(c.toNat:Int))) h
 have k:∀ l:List Int,(∀ x ∈ l,0≤x∧x<256)→(strOfNums l).data.toList.map (fun c:UInt8=>(c.toNat:Int))=l:=by
  intro l hl;rw[strOfNums_data,List.map_map];conv=>rhs;rw[←List.map_id l]
  apply List.map_congr_left;intro x hx;have:=hl x hx;simp;omega
 rw[←k l hl,←k m hm];exact e
theorem encI_bd(n:Int):∀ x ∈ Zdj n,0≤x∧x<256:=by
 unfold Zdj;repeat' split
 all_goals(intro x hx;simp at hx;try omega)
theorem Znc(s:ByteArray)(i n:Nat):∀ x ∈ Ve s i n,0≤x∧x<256:=by
 intro x hx;simp only[Ve,List.mem_map]at hx;obtain⟨j,_,rfl⟩:=hx;have:=Zad s (i+j);omega
theorem Zip(s:ByteArray)(i n:Nat)(h:i+n≤s.size):s.extract i (i+n)=strOfNums (Ve s i n):=by
 have hz:(s.extract i (i+n)).size=n:=by rw[size_extract _ _ _ h];omega
 apply ByteArray.ext;apply Array.ext
 ·show(s.extract i (i+n)).size=(strOfNums (Ve s i n)).size
  rw[hz,strOfNums_size,Zex]
 ·intro j h1 h2
  have hj:j<n:=by rw[←hz];exact h1
  have e:(strOfNums (Ve s i n)).data[j]=UInt8.ofNat (gB s (i+j)):=by
   simp[strOfNums,Ve]
  rw[e];have g:=Uk s (i+j) (by omega);apply UInt8.toNat_inj.1;rw[g];simp;rfl
theorem hit_test(s:ByteArray)(i n:Nat)(h:i+n≤s.size):((strOfNums (Zdj (Zja (Ve s i n)))).toList == (s.extract i (i+n)).toList)=Zdp s i n:=by
 rw[ByteArray.toList_eq,ByteArray.toList_eq,Bool.eq_iff_iff,beq_iff_eq,Zip s i n h];unfold Zdp;rw[decide_eq_true_iff];constructor
 ·intro e
  exact Zie _ _ (encI_bd _) (Znc _ _ _) (ByteArray.ext (Array.toList_inj.1 e))
 ·intro e;rw[e]
end Go.Proofs.YtljdgdphldckhaaGreat
