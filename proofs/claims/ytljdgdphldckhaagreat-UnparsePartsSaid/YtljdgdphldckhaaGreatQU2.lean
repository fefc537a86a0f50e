/-
  No conditions but those that each theorem names.
-/
import Derived.Test.YtljdgdphldckhaaGreatRows
import Derived.WalkKit
import Derived.ProofKit
import Derived.WalkLawsBesides
import Derived.Outline
import Derived.OpenShut
import Derived.Below
import Derived.Lib.Hide
import Derived.Shelf.Small.Strs
import Derived.Shelf.Strings.Prefix
import Derived.Calls
import Derived.Laws.Strings
import Derived.Laws.Strings2
import Derived.IntWalk
import Derived.Laws.OwnMore
import Derived.Maps.AppendAt
import Derived.OwnWalk
import Derived.Deep.QuietTactic
import Derived.Laws.Rows
import Derived.Laws.BytesArg
import Derived.Lib.AppendStr
import Derived.Test.YtljdgdphldckhaaGreatQU1
set_option maxRecDepth 20000
set_option maxHeartbeats 12800000
namespace Go.Proofs.YtljdgdphldckhaaGreat
open Go.ChangeShapes Go.WideShapes Go.ChangeAt Go.RowKit
theorem Hh{p:Prop}(h:p):Hid p:=Lib.hid h
open Go
def bL(s:ByteArray):List Int:=Ve s 0 s.size
theorem Vm(s:ByteArray):(bL s).length=s.size:=Zex _ _ _
theorem Ziy(s:ByteArray):∀ x ∈ bL s,0≤x∧x<256:=Znc _ _ _
theorem Zgl(s:ByteArray):strOfNums (bL s)=s:=by
 have h:=Zip s 0 s.size (by omega);rw[Nat.zero_add]at h;unfold bL;rw[←h];exact ByteArray.extract_zero_size
theorem Zkd(s:ByteArray)(i:Nat)(h:i<s.size):(bL s)[i]?=some (gB s i:Int):=by
 simp[bL,Ve,h]
theorem Zll(l:List Int)(hl:∀ x ∈ l,0≤x∧x<256):bL (strOfNums l)=l:=
 Zie _ _ (Ziy _) hl (Zgl _)
theorem Zld(l m:List Int)(hl:∀ x ∈ l,0≤x∧x<256)(hm:∀ x ∈ m,0≤x∧x<256):((strOfNums l).toList == (strOfNums m).toList)=decide (l=m):=by
 rw[ByteArray.toList_eq,ByteArray.toList_eq,Bool.eq_iff_iff,beq_iff_eq,decide_eq_true_iff];constructor
 ·intro e;exact Zie _ _ hl hm (ByteArray.ext (Array.toList_inj.1 e))
 ·intro e;rw[e]
theorem Zlm(s:ByteArray)(i n:Nat)(h:i+n≤s.size):bL (s.extract i (i+n))=((bL s).drop i).take n:=by
 rw[Zip s i n h,Zll _ (Znc _ _ _)];apply List.ext_getElem?;intro j;by_cases hj:j<n
 ·rw[List.getElem?_take_of_lt hj,List.getElem?_drop,Zkd s (i+j) (by omega)]
  simp[Ve,hj]
 ·rw[List.getElem?_eq_none (by rw[Zex];omega),List.getElem?_eq_none (by rw[List.length_take];omega)]
theorem Zle(l m:List Int):strOfNums l++strOfNums m=strOfNums (l++m):=by
 apply ByteArray.ext;rw[ByteArray.data_append];simp[strOfNums]
def Zds(n:Nat):List Int:=if n<10 then [48+(n:Int)]else Zds (n / 10)++[48+((n % 10:Nat):Int)]
theorem Zeh{n:Nat}(h:n<10):Zds n=[48+(n:Int)]:=by rw[Zds,if_pos h]
theorem Zgb{n:Nat}(h:10≤n):Zds n=Zds (n / 10)++[48+((n % 10:Nat):Int)]:=by
 conv=>lhs;rw[Zds]
 rw[if_neg (by omega)]
def isD(x:Int):Bool:=decide (48≤x) && decide (x≤57)
theorem Zce(x:Int):isD x=true↔48≤x∧x≤57:=by simp[isD]
theorem digL_isD(n:Nat):∀ x ∈ Zds n,48≤x∧x≤57:=by
 induction n using Nat.strongRecOn with
 |ind n ih=>
  by_cases h:n<10
  ·rw[Zeh h];intro x hx;simp at hx;omega
  ·rw[Zgb (by omega)]
   intro x hx;rcases List.mem_append.1 hx with hx | hx
   ·exact ih (n / 10) (by omega) x hx
   ·simp at hx;omega
theorem Zkc(n:Nat):Zds n≠[]:=by
 by_cases h:n<10
 ·rw[Zeh h];simp
 ·rw[Zgb (by omega)];simp
theorem digL_len(n k:Nat)(hk:1≤k):(Zds n).length≤k↔n<10 ^ k:=by
 induction k generalizing n with
 |zero=>omega
 |succ k ih=>
  by_cases h:n<10
  ·rw[Zeh h]
   have:10≤10 ^ (k+1):=by
    have:=Nat.pow_le_pow_right (show 0<10 by omega) (show 1≤k+1 by omega);omega
   simp;omega
  ·rw[Zgb (by omega),List.length_append]
   have e:(10:Nat) ^ (k+1)=10 ^ k*10:=Nat.pow_succ _ _;cases k with
   |zero=>
    have:=List.length_pos_iff.2 (Zkc (n / 10));rw[show 0+1=1 from rfl,Nat.pow_one,List.length_singleton];omega
   |succ k=>
    have:=ih (n / 10) (by omega);simp only[List.length_singleton];rw[e];omega
def Zak(l:List Int):Int:=l.foldl (fun n d=>10*n+(d - 48)) 0
theorem Zki(l:List Int)(d:Int):Zak (l++[d])=10*Zak l+(d - 48):=by simp[Zak]
theorem snoc_cases(l:List Int):l=[]∨∃ m d,l=m++[d]:=by
 rcases List.eq_nil_or_concat l with h | ⟨m,d,h⟩
 ·exact .inl h
 ·exact .inr ⟨m,d,by rw[h,List.concat_eq_append]⟩
theorem Zbr(l:List Int)(hl:∀ x ∈ l,48≤x∧x≤57):0≤Zak l∧Zak l<10 ^ l.length:=by
 generalize hn:l.length=n;induction n generalizing l with
 |zero=>rw[List.eq_nil_of_length_eq_zero hn];simp[Zak]
 |succ n ih=>
  rcases snoc_cases l with rfl | ⟨m,d,rfl⟩
  ·simp at hn
  ·have:=ih m (fun x hx=>hl x (by simp[hx])) (by simpa using hn)
   have:=hl d (by simp);rw[Zki,Int.pow_succ];omega
theorem pow10_le{k:Nat}(h:k≤9):(10:Int) ^ k≤1000000000:=by
 have h:k=0∨k=1∨k=2∨k=3∨k=4∨k=5∨k=6∨k=7∨k=8∨k=9:=by omega
 rcases h with rfl | rfl | rfl | rfl | rfl | rfl | rfl | rfl | rfl | rfl<;>decide
def Zdn(l:List Int):Bool:= !decide (l[0]?=some 48) || decide (l.length=1)
theorem digL_plain(n:Nat):Zdn (Zds n)=true:=by
 induction n using Nat.strongRecOn with
 |ind n ih=>
  by_cases h:n<10
  ·rw[Zeh h];simp[Zdn]
  ·have h1:=ih (n / 10) (by omega)
   rw[Zgb (by omega)];by_cases h2:n / 10<10
   ·rw[Zeh h2];simp[Zdn];omega
   ·have:=List.length_pos_iff.2 (Zkc (n / 10 / 10))
    have e:(Zds (n / 10)).length≠1:=by rw[Zgb (by omega),List.length_append,List.length_singleton];omega
    have p:=List.length_pos_iff.2 (Zkc (n / 10));simp only[Zdn,Bool.or_eq_true,Bool.not_eq_true',decide_eq_false_iff_not,decide_eq_true_iff]at h1 ⊢;left;rw[List.getElem?_append_left p];rcases h1 with h1 | h1
    ·exact h1
    ·exact absurd h1 e
theorem digL_valL(l:List Int)(hl:∀ x ∈ l,48≤x∧x≤57)(h0:l≠[]):Zds (Zak l).toNat=l↔Zdn l=true:=by
 constructor
 ·intro h;rw[←h];exact digL_plain _
 ·generalize hn:l.length=n
  induction n generalizing l with
  |zero=>exact absurd (List.eq_nil_of_length_eq_zero hn) h0
  |succ n ih=>
   intro hp;rcases snoc_cases l with rfl | ⟨m,d,rfl⟩
   ·exact absurd rfl h0
   ·have hd:=hl d (by simp)
    have hm:=fun x hx=>hl x (List.mem_append_left [d] hx)
    have hv:=Zbr m hm;rw[Zki];by_cases hm0:m=[]
    ·subst hm0
     simp only[Zak,List.foldl_nil];rw[Zeh (by omega)];simp;omega
    ·have hpm:0<m.length:=List.length_pos_iff.2 hm0
     simp only[Zdn,Bool.or_eq_true,Bool.not_eq_true',decide_eq_false_iff_not,decide_eq_true_iff,List.length_append,List.length_singleton]at hp
     have hp1:¬(m++[d])[0]?=some 48:=by
      rcases hp with hp | hp
      ·exact hp
      ·omega
     rw[List.getElem?_append_left hpm]at hp1;have hi:=ih m hm hm0 (by simpa using hn) (by simp[Zdn,hp1])
     have hv1:Zak m≠0:=by
      intro c;rw[c]at hi;rw[←hi]at hp1;exact hp1 (by rw[show Int.toNat 0=0 from rfl,Zeh (by omega)];rfl)
     rw[Zgb (by omega),show(10*Zak m+(d - 48)).toNat / 10=(Zak m).toNat from by omega,hi];congr 2
     omega
def Ziz(n:Int):List Int:=if n<0 then 45::Zds (-n).toNat else Zds n.toNat
def Wl(n:Int):ByteArray:=strOfNums (Ziz n)
theorem Zma{n:Int}(h:n<0):Ziz n=45::Zds (-n).toNat:=by rw[Ziz,if_pos h]
theorem Zfh{n:Int}(h:0≤n):Ziz n=Zds n.toNat:=by rw[Ziz,if_neg (by omega)]
theorem putL_bd(n:Int):∀ x ∈ Ziz n,45≤x∧x≤57:=by
 unfold Ziz;split
 ·intro x hx
  rcases List.mem_cons.1 hx with h | h
  ·omega
  ·have:=digL_isD _ x h;omega
 ·intro x hx;have:=digL_isD _ x hx;omega
theorem putL_by(n:Int):∀ x ∈ Ziz n,0≤x∧x<256:=fun x hx=>by have:=putL_bd n x hx;omega
theorem putL_len(n:Int)(h1 : -9223372036854775808≤n)(h2:n≤9223372036854775807):(Ziz n).length≤20:=by
 unfold Ziz;split
 ·have:=(digL_len (-n).toNat 19 (by omega)).2 (by omega)
  simp;omega
 ·have:=(digL_len n.toNat 19 (by omega)).2 (by omega)
  omega
theorem Zbi(n:Int)(h1 : -9223372036854775808≤n)(h2:n≤9223372036854775807):(Wl n).size≤20:=by
 unfold Wl;rw[strOfNums_size];exact putL_len n h1 h2
def Xx(l:List Int):List Int:=l.takeWhile isD
theorem Zav{x:Int}(r:List Int)(h:isD x=true):Xx (x::r)=x::Xx r:=by simp[Xx,h]
theorem Zka{x:Int}(r:List Int)(h:isD x=false):Xx (x::r)=[]:=by simp[Xx,h]
theorem firstD_isD(l:List Int):∀ x ∈ Xx l,48≤x∧x≤57:=by
 intro x hx
 have:isD x=true:=by
  unfold Xx at hx;exact(List.all_eq_true.1 (List.all_takeWhile (l:=l) (p:=isD))) x hx
 exact(Zce x).1 this
theorem Zhb(l:List Int):l.take (Xx l).length=Xx l:=by
 induction l with
 |nil=>rfl
 |cons x r ih=>
  cases h:isD x with
  |true=>rw[Zav r h];simp[ih]
  |false=>rw[Zka r h];rfl
theorem firstD_len(l:List Int):(Xx l).length≤l.length:=by
 have:=congrArg List.length (Zhb l);rw[List.length_take]at this;omega
theorem drop_cons{l:List Int}{i:Nat}(h:i<l.length):l.drop i=l[i]::l.drop (i+1):=List.drop_eq_getElem_cons h
theorem Zkt(s:ByteArray)(i:Nat)(h:i<s.size):(bL s).drop i=(gB s i:Int)::(bL s).drop (i+1):=by
 have hl:i<(bL s).length:=by rw[Vm];exact h
 rw[drop_cons hl];congr 1
 have:=Zkd s i h;rw[List.getElem?_eq_getElem hl]at this;exact Option.some.inj this
theorem Zhe(s:ByteArray)(i:Nat)(h:s.size≤i):(bL s).drop i=[]:=List.drop_eq_nil_of_le (by rw[Vm];exact h)
def Us(s:ByteArray)(a most:Int):Int×Int×Bool:=
 if a<0∨(s.size:Int)≤a then(0,0,false)
 else if Xx ((bL s).drop a.toNat)≠[]∧((Xx ((bL s).drop a.toNat)).length:Int)≤most∧(Xx ((bL s).drop a.toNat)).length≤9∧Zdn (Xx ((bL s).drop a.toNat))=true then
  (Zak (Xx ((bL s).drop a.toNat)),a+((Xx ((bL s).drop a.toNat)).length:Int),true)
 else(0,0,false)
def Zcc(s:ByteArray):Nat→Nat→List (Nat×Nat)
 |0,_=>[]
 |b+1,i=>if i<s.size then((Utf8.decode s i).1,i)::Zcc s b (i+(Utf8.decode s i).2)else []
theorem Zcq(s:ByteArray)(b i:Nat)(h:s.size≤i):Zcc s b i=[]:=by
 cases b with
 |zero=>rfl
 |succ b=>simp only[Zcc];rw[if_neg (by omega)]
theorem Zgn(s:ByteArray)(b i:Nat)(h:i<s.size):Zcc s (b+1) i=((Utf8.decode s i).1,i)::Zcc s b (i+(Utf8.decode s i).2):=by
 simp only[Zcc];rw[if_pos h]
theorem Zjm(s:ByteArray):∀(b c i:Nat),s.size≤i+b→s.size≤i+c→Zcc s b i=Zcc s c i
 |0,c,i,h,_=>by rw[Zcq s c i (by omega)];rfl
 |b+1,0,i,_,h=>by rw[Zcq s (b+1) i (by omega)];rfl
 |b+1,c+1,i,h1,h2=>by
  by_cases h:i<s.size
  ·have:=Zco s i h
   rw[Zgn s b i h,Zgn s c i h,Zjm s b c _ (by omega) (by omega)]
  ·rw[Zcq s _ i (by omega),Zcq s _ i (by omega)]
def Zaa(s:ByteArray)(i:Nat):List (Nat×Nat):=Zcc s (s.size - i) i
theorem Zau(s:ByteArray)(i:Nat)(h:s.size≤i):Zaa s i=[]:=Zcq s _ i h
theorem Vh(s:ByteArray)(i:Nat)(h:i<s.size):Zaa s i=((Utf8.decode s i).1,i)::Zaa s (i+(Utf8.decode s i).2):=by
 have:=Zco s i h;unfold Zaa;rw[show s.size - i=(s.size - i - 1)+1 from by omega,Zgn s _ i h];congr 1
 exact Zjm s _ _ _ (by omega) (by omega)
def Yo(s:ByteArray):List (Nat×Nat):=Zaa s 0
theorem Zjn(s:ByteArray):∀(b i:Nat),s.size≤i+b→(Zaa s i).length≤s.size - i
 |0,i,h=>by rw[Zau s i (by omega)];simp
 |b+1,i,h=>by
  by_cases hi:i<s.size
  ·have:=Zco s i hi
   have ih:=Zjn s b (i+(Utf8.decode s i).2) (by omega);rw[Vh s i hi,List.length_cons];omega
  ·rw[Zau s i (by omega)];simp
theorem Zan(s:ByteArray):(Yo s).length≤s.size:=Zjn s s.size 0 (by omega)
theorem Uf(s:ByteArray):∀(b i:Nat),s.size≤i+b→∀ x ∈ Zaa s i,i≤x.2∧x.2<s.size∧x.1≤1114111
 |0,i,h=>by rw[Zau s i (by omega)];simp
 |b+1,i,h=>by
  by_cases hi:i<s.size
  ·have:=Zco s i hi
   rw[Vh s i hi];intro x hx;rcases List.mem_cons.1 hx with rfl | hx
   ·dsimp only;omega
   ·have:=Uf s b (i+(Utf8.decode s i).2) (by omega) x hx
    omega
  ·rw[Zau s i (by omega)];simp
def Xc(p:Nat×Nat)(r:Nat):Nat×Nat:=if r=10 then(p.1+1,1)else(p.1,p.2+1)
def Zet(at_:Int):List (Nat×Nat)→Nat×Nat→Nat×Nat
 |[],p=>p
 |x::l,p=>if at_≤(x.2:Int)then p else Zet at_ l (Xc p x.1)
def Zs(s:ByteArray)(at_:Int):Nat×Nat:=Zet at_ (Yo s) (1,1)
theorem placeStep_bd(p:Nat×Nat)(r:Nat)(m:Nat)(h1:p.1≤m)(h2:p.2≤m)(h3:1≤m): (Xc p r).1≤m+1∧(Xc p r).2≤m+1:=by
 unfold Xc;split<;>(dsimp only;omega)
theorem placeL_bd(at_:Int):∀(l:List (Nat×Nat))(p:Nat×Nat)(m:Nat),p.1≤m→p.2≤m→1≤m→(Zet at_ l p).1≤m+l.length∧(Zet at_ l p).2≤m+l.length
 |[],p,m,h1,h2,_=>by simp only[Zet,List.length_nil];omega
 |x::l,p,m,h1,h2,h3=>by
  simp only[Zet,List.length_cons];split
  ·omega
  ·have:=placeStep_bd p x.1 m h1 h2 h3
   have:=placeL_bd at_ l (Xc p x.1) (m+1) this.1 this.2 (by omega);omega
theorem Zes(s:ByteArray)(at_:Int):(Zs s at_).1≤1+s.size∧(Zs s at_).2≤1+s.size:=by
 have h:=placeL_bd at_ (Yo s) (1,1) 1 (by simp) (by simp) (by omega);have:=Zan s;unfold Zs;omega
theorem Zkw(at_:Nat):∀(done rest:List (Nat×Nat))(p:Nat×Nat),(∀ x ∈ done,x.2<at_)→(∀ x ∈ rest,at_≤x.2)→Zet at_ (done++rest) p=done.foldl (fun p x=>Xc p x.1) p
 |[],rest,p,_,hr=>by
  cases rest with
  |nil=>rfl
  |cons x l=>
   have:=hr x (List.mem_cons_self);simp only[List.nil_append,Zet,List.foldl_nil];rw[if_pos (by omega)]
 |x::l,rest,p,hd,hr=>by
  have:=hd x (List.mem_cons_self);simp only[List.cons_append,Zet,List.foldl_cons];rw[if_neg (by omega),Zkw at_ l rest _ (fun y hy=>hd y (List.mem_cons_of_mem _ hy)) hr]
structure Zfr(s:ByteArray)(i:Nat)(done:List (Nat×Nat)):Prop where
 all:Yo s=done++Zaa s i
 before:∀ x ∈ done,x.2<i
theorem Zfr.zero(s:ByteArray):Zfr s 0 []:=⟨rfl,fun x hx=>by cases hx⟩
theorem Zfr.next{s:ByteArray}{i:Nat}{done:List (Nat×Nat)}(h:Zfr s i done)(hi:i<s.size):Zfr s (i+(Utf8.decode s i).2) (done++[((Utf8.decode s i).1,i)]):=by
 have:=Zco s i hi;refine⟨?_,fun x hx=>?_⟩
 ·rw[h.all,Vh s i hi];simp
 ·rcases List.mem_append.1 hx with hx | hx
  ·have:=h.before x hx;omega
  ·simp at hx;subst hx;dsimp only;omega
theorem Zfr.place{s:ByteArray}{i:Nat}{done:List (Nat×Nat)}(h:Zfr s i done):Zs s i=done.foldl (fun p x=>Xc p x.1) (1,1):=by
 unfold Zs;rw[h.all];exact Zkw i done _ _ h.before (fun x hx=>(Uf s s.size i (by omega) x hx).1)
theorem Zfr.length_end{s:ByteArray}{i:Nat}{done:List (Nat×Nat)}(h:Zfr s i done)(hi:s.size≤i):Yo s=done:=by
 rw[h.all,Zau s i hi,List.append_nil]
def Zha(n:Int):Bool:=decide (97≤n∧n≤122) || decide (65≤n∧n≤90) || decide (192≤n∧n≤591∧n≠215∧n≠247)
def Zbp(n:Int):Bool:=Zha n || decide (48≤n∧n≤57) || decide (n=32) || decide (n=39) || decide (n=45)
def Zct(s:ByteArray):Bool:=decide (1≤(Yo s).length) && decide ((Yo s).length≤24) && (Yo s).all (fun x=>Zbp x.1) &&
 decide (((Yo s).map (·.1)).head?≠some 32) && decide (((Yo s).map (·.1)).getLast?≠some 32)
theorem head_space(s:ByteArray)(h:0<s.size):((Yo s).map (·.1)).head?=some 32↔gB s 0=32:=by
 unfold Yo;rw[Vh s 0 h];simp only[List.map_cons,List.head?_cons,Option.some.injEq];constructor
 ·intro e
  have:=Zhx s 0 (by omega);omega
 ·intro e
  rw[Vi s 0 (by omega)];exact e
theorem Zky(s:ByteArray):∀(b i:Nat),s.size≤i+b→i<s.size→(((Zaa s i).map (·.1)).getLast?=some 32↔gB s (s.size - 1)=32)
 |0,i,h,hi=>by omega
 |b+1,i,h,hi=>by
  have hb:=Zco s i hi;rw[Vh s i hi];by_cases hn:i+(Utf8.decode s i).2<s.size
  ·have ih:=Zky s b (i+(Utf8.decode s i).2) (by omega) hn
   rw[←ih,Vh s _ hn];simp only[List.map_cons,List.getLast?_cons_cons]
  ·rw[Zau s _ (by omega)]
   simp only[List.map_cons,List.map_nil,List.getLast?_singleton,Option.some.injEq];constructor
   ·intro e
    have:=Zhx s i (by omega);rw[show s.size - 1=i from by omega];omega
   ·intro e
    by_cases h1:1<(Utf8.decode s i).2
    ·have:=dec_last s i h1
     rw[show i+(Utf8.decode s i).2 - 1=s.size - 1 from by omega]at this;omega
    ·rw[show s.size - 1=i from by omega]at e
     rw[Vi s i (by omega)];exact e
theorem last_space(s:ByteArray)(h:0<s.size):((Yo s).map (·.1)).getLast?=some 32↔gB s (s.size - 1)=32:=Zky s s.size 0 (by omega) h
def Bd(s:ByteArray)(i:Nat):Prop:=i≤s.size∧∃ done,Zfr s i done
theorem Bd.zero(s:ByteArray):Bd s 0:=⟨Nat.zero_le _,[],Zfr.zero s⟩
theorem dec_cont(s:ByteArray)(i k:Nat)(_hi:i<s.size)(h0:0<k)(h1:k<(Utf8.decode s i).2):128≤gB s (i+k):=by
 rw[Zei]at h1;split at h1
 ·dsimp only at h1;omega
 ·split at h1
  ·rename_i h
   have c1:=(Zbb s (i+1)).1 h.2;split at h1
   ·dsimp only at h1;rw[show k=1 from by omega];omega
   ·dsimp only at h1;omega
  ·split at h1
   ·rename_i h
    have c1:=(Zbb s (i+1)).1 h.2.1;have c2:=(Zbb s (i+2)).1 h.2.2;split at h1
    ·dsimp only at h1
     have hk:k=1∨k=2:=by omega
     rcases hk with rfl | rfl<;>omega
    ·dsimp only at h1;omega
   ·split at h1
    ·rename_i h
     have c1:=(Zbb s (i+1)).1 h.2.1;have c2:=(Zbb s (i+2)).1 h.2.2.1;have c3:=(Zbb s (i+3)).1 h.2.2.2;split at h1
     ·dsimp only at h1
      have hk:k=1∨k=2∨k=3:=by omega
      rcases hk with rfl | rfl | rfl<;>omega
     ·dsimp only at h1;omega
    ·dsimp only at h1;omega
theorem upto_reach(s:ByteArray)(q:Nat)(hq:q≤s.size)(ha:q=s.size∨gB s q<128):∀(b i:Nat)(done:List (Nat×Nat)),q≤i+b→i≤q→Zfr s i done→∃ more,Zfr s q (done++more)
 |0,i,done,h1,h2,h=>by
  have:i=q:=by omega
  subst this;exact⟨[],by simpa using h⟩
 |b+1,i,done,h1,h2,h=>by
  by_cases he:i=q
  ·subst he
   exact⟨[],by simpa using h⟩
  ·have hi:i<s.size:=by omega
   have hd:=Zco s i hi
   have hle:i+(Utf8.decode s i).2≤q:=by
    rcases Nat.lt_or_ge q (i+(Utf8.decode s i).2)with hlt | hge
    ·exfalso
     have:=dec_cont s i (q - i) hi (by omega) (by omega);rw[show i+(q - i)=q from by omega]at this;omega
    ·exact hge
   obtain⟨more,hm⟩:=upto_reach s q hq ha b _ _ (by omega) hle (h.next hi);exact⟨_::more,by simpa using hm⟩
theorem Bd.reach{s:ByteArray}{q:Nat}(hq:q≤s.size)(ha:q=s.size∨gB s q<128):Bd s q:=by
 obtain⟨m,hm⟩:=upto_reach s q hq ha q 0 [] (by omega) (by omega) (Zfr.zero s);exact⟨hq,_,hm⟩
theorem Bd.end_(s:ByteArray):Bd s s.size:=Bd.reach (Nat.le_refl _) (.inl rfl)
theorem Bd.next{s:ByteArray}{i:Nat}(h:Bd s i)(hi:i<s.size):Bd s (i+(Utf8.decode s i).2):=by
 obtain⟨_,d,hu⟩:=h;have:=Zco s i hi;exact⟨by omega,_,hu.next hi⟩
theorem Bd.behind{s:ByteArray}{q:Nat}(hq:q<s.size)(ha:gB s q<128):Bd s (q+1):=by
 have h:=(Bd.reach (Nat.le_of_lt hq) (.inr ha)).next hq;rwa [Vi s q ha]at h
theorem dec_part(s:ByteArray)(i j:Nat)(hj:j≤s.size)(h:i+(Utf8.decode s i).2≤j)(hi:i<j):Utf8.decode (s.extract 0 j) i=Utf8.decode s i:=by
 have hz:(s.extract 0 j).size=j:=by rw[size_extract s 0 j hj];omega
 have hg:∀ k,k<j→gB (s.extract 0 j) k=gB s k:=fun k hk=>by
  have:=Zgt s 0 j k (by omega) hj;rwa [Nat.zero_add]at this
 have hc:∀ k,k<j→cB (s.extract 0 j) k=cB s k:=fun k hk=>by
  rw[Bool.eq_iff_iff,Zbb,Zbb,hz,hg k hk];omega
 have hc':∀ k,cB (s.extract 0 j) k=true→k<j:=fun k hk=>by
  have:=(Zbb _ _).1 hk;omega
 have h0:=hg i hi;rw[Zei s i]at h;rw[Zei (s.extract 0 j) i,Zei s i,h0];by_cases ha:gB s i<128
 ·rw[if_pos ha,if_pos ha]
 ·rw[if_neg ha]at h
  rw[if_neg ha,if_neg ha];by_cases k1:i+1<j
  ·rw[hc _ k1,hg _ k1]
   by_cases k2:i+2<j
   ·rw[hc _ k2,hg _ k2]
    by_cases k3:i+3<j
    ·rw[hc _ k3,hg _ k3]
    ·have e3:cB (s.extract 0 j) (i+3)=false:=by
      rw[←Bool.not_eq_true];intro hh;exact k3 (hc' _ hh)
     rw[e3];by_cases b1:gB s i / 32=6∧cB s (i+1)=true
     ·rw[if_pos b1,if_pos b1]
     ·rw[if_neg b1]at h;rw[if_neg b1,if_neg b1]
      by_cases b2:gB s i / 16=14∧cB s (i+1)=true∧cB s (i+2)=true
      ·rw[if_pos b2,if_pos b2]
      ·rw[if_neg b2]at h;rw[if_neg b2,if_neg b2]
       rw[if_neg (by simp)];repeat' split
       all_goals first
        |rfl
        |(exfalso;simp only[*]at h;simp at h;omega)
        |(exfalso;rw[if_pos (by assumption)]at h;rw[if_pos (by assumption)]at h;dsimp only at h;omega)
   ·have e2:cB (s.extract 0 j) (i+2)=false:=by
     rw[←Bool.not_eq_true];intro hh;exact k2 (hc' _ hh)
    rw[e2];by_cases b1:gB s i / 32=6∧cB s (i+1)=true
    ·rw[if_pos b1,if_pos b1]
    ·rw[if_neg b1]at h;rw[if_neg b1,if_neg b1,if_neg (by simp),if_neg (by simp)]
     repeat' split
     all_goals first
      |rfl
      |(exfalso;rw[if_pos (by assumption)]at h;rw[if_pos (by assumption)]at h;dsimp only at h;omega)
      |(exfalso;rw[if_neg (by assumption)]at h;rw[if_pos (by assumption)]at h;rw[if_pos (by assumption)]at h;dsimp only at h;omega)
  ·have e1:cB (s.extract 0 j) (i+1)=false:=by
    rw[←Bool.not_eq_true];intro hh;exact k1 (hc' _ hh)
   rw[e1,if_neg (by simp),if_neg (by simp),if_neg (by simp)];repeat' split
   all_goals first
    |rfl
    |(exfalso;rw[if_pos (by assumption)]at h;rw[if_pos (by assumption)]at h;dsimp only at h;omega)
    |(exfalso;rw[if_neg (by assumption)]at h;rw[if_pos (by assumption)]at h;rw[if_pos (by assumption)]at h;dsimp only at h;omega)
    |(exfalso;rw[if_neg (by assumption)]at h;rw[if_neg (by assumption)]at h;rw[if_pos (by assumption)]at h;rw[if_pos (by assumption)]at h;dsimp only at h;omega)
theorem Zev(s:ByteArray)(i j:Nat)(hij:i≤j)(hj:j≤s.size):s.extract i j=(s.extract i s.size).extract 0 (j - i):=by
 rw[ByteArray.extract_extract];congr 1<;>omega
theorem dec_piece(s:ByteArray)(i j k:Nat)(hij:i≤j)(hj:j≤s.size)(hk:i+k<j)(h:i+k+(Utf8.decode s (i+k)).2≤j):Utf8.decode (s.extract i j) k=Utf8.decode s (i+k):=by
 have e:=Zob s i (by omega) k (by omega);rw[Zev s i j hij hj,dec_part _ _ _ (by rw[size_extract _ _ _ (Nat.le_refl _)];omega) (by rw[e];omega) (by omega),e]
def fld(p:Nat×Nat)(l:List (Nat×Nat)):Nat×Nat:=l.foldl (fun p x=>Xc p x.1) p
theorem Zht(p:Nat×Nat)(x:Nat×Nat)(l:List (Nat×Nat)):fld p (x::l)=fld (Xc p x.1) l:=rfl
theorem fld_app(p:Nat×Nat)(l m:List (Nat×Nat)):fld p (l++m)=fld (fld p l) m:=List.foldl_append
def adv(p x:Nat×Nat):Nat×Nat:=if 1<x.1 then(p.1+x.1 - 1,x.2)else(p.1,p.2+x.2 - 1)
theorem fld_adv(l:List (Nat×Nat)):∀(p q:Nat×Nat),1≤q.1→1≤q.2→fld (adv p q) l=adv p (fld q l):=by
 induction l with
 |nil=>intro p q _ _;rfl
 |cons x l ih=>
  intro p q h1 h2;rw[Zht,Zht]
  have e:Xc (adv p q) x.1=adv p (Xc q x.1):=by
   unfold Xc adv;by_cases hx:x.1=10
   ·simp only[if_pos hx]
    repeat' split
    all_goals first
     |(exfalso;omega)
     |(simp;try omega)
   ·simp only[if_neg hx]
    repeat' split
    all_goals(simp;try omega)
  rw[e,ih p (Xc q x.1) (by unfold Xc;split<;>(dsimp only;omega)) (by unfold Xc;split<;>(dsimp only;omega))]
theorem adv_one(p:Nat×Nat):adv p (1,1)=p:=by
 unfold adv;simp
theorem Zju(s:ByteArray)(i j:Nat)(hj:j≤s.size):∀(b k:Nat)(more:List (Nat×Nat))(done:List (Nat×Nat)),j≤i+k+b→i+k≤j→Zfr s (i+k) done→Zfr s j (done++more) →
  (Zaa (s.extract i j) k).map (·.1)=more.map (·.1)
 |0,k,more,done,h1,h2,hu,hw=>by
  have e:i+k=j:=by omega
  have hz:(s.extract i j).size=j - i:=size_extract s i j hj;rw[Zau _ _ (by omega)];have a1:=hu.all;have a2:=hw.all;rw[e]at a1;rw[a1,List.append_assoc]at a2;have:=List.append_cancel_left a2
  have:more=[]:=by
   have hl:=congrArg List.length this;simp at hl;exact hl
  rw[this]
 |b+1,k,more,done,h1,h2,hu,hw=>by
  by_cases e:i+k=j
  ·exact Zju s i j hj 0 k more done (by omega) h2 hu hw
  ·have hlt:i+k<s.size:=by omega
   have hz:(s.extract i j).size=j - i:=size_extract s i j hj;have hn:=hu.next hlt;have a1:=hu.all;have a2:=hw.all;rw[Vh s _ hlt]at a1;rw[a1,List.append_assoc]at a2;have a3:=List.append_cancel_left a2;cases more with
   |nil=>
    exfalso;rw[List.nil_append]at a3;have hm:((Utf8.decode s (i+k)).1,i+k) ∈ Zaa s j:=by rw[←a3];exact List.mem_cons_self
    have:=(Uf s s.size j (by omega) _ hm).1;simp at this;omega
   |cons x more=>
    rw[List.cons_append]at a3;have hx:x=((Utf8.decode s (i+k)).1,i+k):=(List.cons.inj a3).1.symm
    have hle:i+k+(Utf8.decode s (i+k)).2≤j:=by
     rcases Nat.lt_or_ge j (i+k+(Utf8.decode s (i+k)).2)with hlt' | hge
     ·exfalso
      have t:=(List.cons.inj a3).2;cases more with
      |nil=>
            rw[List.nil_append]at t;by_cases hjs:j<s.size
            ·rw[Vh s j hjs]at t
             have hm:((Utf8.decode s j).1,j) ∈ Zaa s (i+k+(Utf8.decode s (i+k)).2):=by rw[t];exact List.mem_cons_self
             have:=(Uf s s.size _ (by omega) _ hm).1;simp at this;omega
            ·have:=Zco s (i+k) hlt
             omega
      |cons y more=>
            have hm:y ∈ Zaa s (i+k+(Utf8.decode s (i+k)).2):=by rw[t];simp
            have g1:=(Uf s s.size _ (by omega) _ hm).1;have g2:=hw.before y (by simp);omega
     ·exact hge
    have hd:=dec_piece s i j k (by omega) hj (by omega) hle;have hb:=Zco s (i+k) hlt;rw[Vh _ k (by omega),hd,List.map_cons,List.map_cons,hx];congr 1
    have ih:=Zju s i j hj b (k+(Utf8.decode s (i+k)).2) more (done++[((Utf8.decode s (i+k)).1,i+k)]) (by omega) (by omega) (by rw[←Nat.add_assoc];exact hn) (by rw[List.append_assoc];rw[←hx];simpa using hw);exact ih
theorem fld_map(l m:List (Nat×Nat))(h:l.map (·.1)=m.map (·.1))(p:Nat×Nat):fld p l=fld p m:=by
 have e:∀ l:List (Nat×Nat),∀ p,fld p l=(l.map (·.1)).foldl Xc p:=by
  intro l;induction l with
  |nil=>intro p;rfl
  |cons x l ih=>intro p;rw[Zht,ih];rfl
 rw[e,e,h]
theorem Zfr.more{s:ByteArray}{i j:Nat}{d e:List (Nat×Nat)}(hi:Zfr s i d)(hj:Zfr s j e)(hij:i≤j):∃ more,e=d++more∧∀ x ∈ more,i≤x.2:=by
 have a1:=hi.all;have a2:=hj.all;rw[a1]at a2;rcases List.append_eq_append_iff.1 a2 with⟨m,h1,h2⟩ | ⟨m,h1,h2⟩
 ·refine⟨m,h1,fun x hx=>?_⟩
  have hm:x ∈ Zaa s i:=by rw[h2];simp[hx]
  exact(Uf s s.size i (by omega) x hm).1
 ·cases m with
  |nil=>exact⟨[],by simpa using h1.symm,fun x hx=>by cases hx⟩
  |cons x m=>
   exfalso;have g1:=hi.before x (by rw[h1];simp);have hm:x ∈ Zaa s j:=by rw[h2];simp
   have g2:=(Uf s s.size j (by omega) x hm).1;omega
theorem Zer{s:ByteArray}{i:Nat}{d:List (Nat×Nat)}(h:Zfr s i d):Zs s i=fld (1,1) d:=h.place
theorem place_pass{s:ByteArray}{i j:Nat}(hi:Bd s i)(hj:Bd s j)(hij:i≤j):Zs s (j:Int)=adv (Zs s (i:Int)) (Zs (s.extract i j) ((j - i:Nat):Int)):=by
 obtain⟨hi1,d,hu⟩:=hi;obtain⟨hj1,e,hv⟩:=hj;obtain⟨more,rfl,_⟩:=hu.more hv hij;have hz:(s.extract i j).size=j - i:=size_extract s i j hj1;have hp:=Zju s i j hj1 (j - i) 0 more d (by omega) (by omega) (by simpa using hu) hv;obtain⟨_,f,hw⟩:=Bd.end_ (s.extract i j);have hf:=hw.length_end (Nat.le_refl _);rw[Zer hu,Zer hv,fld_app];rw[←hz,Zer hw,←hf];have hf2:fld (1,1) (Yo (s.extract i j))=fld (1,1) more:=fld_map _ _ hp _;rw[hf2,←fld_adv more _ _ (by decide) (by decide),adv_one]
theorem place_lt{s:ByteArray}{i j:Nat}(hi:Bd s i)(hj:Bd s j)(hij:i<j) :
  (Zs s (i:Int)).1<(Zs s (j:Int)).1∨(Zs s (i:Int)).1=(Zs s (j:Int)).1∧(Zs s (i:Int)).2<(Zs s (j:Int)).2:=by
 obtain⟨hi1,d,hu⟩:=hi;obtain⟨hj1,e,hv⟩:=hj;obtain⟨more,rfl,hge⟩:=hu.more hv (by omega)
 have hne:more≠[]:=by
  rintro rfl;have a1:=hu.all;have a2:=hv.all;rw[List.append_nil]at a2;rw[a1]at a2;have a3:=List.append_cancel_left a2;rw[Vh s i (by omega)]at a3;have hm:((Utf8.decode s i).1,i) ∈ Zaa s j:=by rw[←a3];exact List.mem_cons_self
  have:=(Uf s s.size j (by omega) _ hm).1;simp at this;omega
 rw[Zer hu,Zer hv,fld_app];generalize fld (1,1) d=p
 have key:∀(l:List (Nat×Nat))(p q:Nat×Nat),(p.1<q.1∨p.1=q.1∧p.2<q.2)→p.1<(fld q l).1∨p.1=(fld q l).1∧p.2<(fld q l).2:=by
  intro l;induction l with
  |nil=>intro p q h;exact h
  |cons x l ih=>
   intro p q h;rw[Zht];apply ih;unfold Xc;split<;>(dsimp only;omega)
 cases more with
 |nil=>exact absurd rfl hne
 |cons x l=>
  rw[Zht];apply key;unfold Xc;split<;>(dsimp only;omega)
theorem place_pos(s:ByteArray){i:Nat}(hi:Bd s i):1≤(Zs s (i:Int)).1∧1≤(Zs s (i:Int)).2:=by
 obtain⟨_,d,hu⟩:=hi;rw[Zer hu]
 have key:∀(l:List (Nat×Nat))(p:Nat×Nat),1≤p.1→1≤p.2→1≤(fld p l).1∧1≤(fld p l).2:=by
  intro l;induction l with
  |nil=>intro p h1 h2;exact⟨h1,h2⟩
  |cons x l ih=>
   intro p h1 h2;rw[Zht];apply ih<;>(unfold Xc;split<;>(dsimp only;omega))
 exact key _ _ (by decide) (by decide)
theorem ascii_rune(s:ByteArray)(i:Nat)(hi:i<s.size)(h:gB s i<128):(gB s i,i) ∈ Yo s:=by
 obtain⟨_,d,hu⟩:=Bd.reach (Nat.le_of_lt hi) (.inr h);rw[hu.all,Vh s i hi,Vi s i h];simp
def Zba(x:Int):Bool:=decide (97≤x) && decide (x≤122)
theorem Zfj(x:Int):Zba x=true↔97≤x∧x≤122:=by unfold Zba;simp
def Xl(c:Int)(x:Int):Bool:= !decide (x=c)
theorem Zbw(c x:Int):Xl c x=true↔x≠c:=by unfold Xl;simp
def Zhq(x:Int):Bool:=decide (x=32) || decide (x=9) || decide (x=10)
theorem Zef(x:Int):Zhq x=true↔x=32∨x=9∨x=10:=by unfold Zhq;simp[or_assoc]
def tw(p:Int→Bool)(l:List Int):Nat:=(l.takeWhile p).length
theorem Zjh(p:Int→Bool):tw p []=0:=rfl
theorem Ue{p:Int→Bool}{x:Int}(r:List Int)(h:p x=true):tw p (x::r)=tw p r+1:=by simp[tw,h]
theorem Zdf{p:Int→Bool}{x:Int}(r:List Int)(h:p x=false):tw p (x::r)=0:=by simp[tw,h]
theorem Ziw(p:Int→Bool):∀ l:List Int,tw p l≤l.length
 |[]=>Nat.le_refl _
 |x::r=>by
  cases h:p x with
  |true=>rw[Ue r h,List.length_cons];have:=Ziw p r;omega
  |false=>rw[Zdf r h];omega
theorem tw_at(p:Int→Bool):∀(l:List Int)(k:Nat),k<tw p l→∃ x,l[k]?=some x∧p x=true
 |[],k,h=>by rw[Zjh]at h;omega
 |x::r,k,h=>by
  cases hp:p x with
  |true=>
   rw[Ue r hp]at h;cases k with
   |zero=>exact⟨x,rfl,hp⟩
   |succ k=>
    obtain⟨y,h1,h2⟩:=tw_at p r k (by omega);exact⟨y,by simpa using h1,h2⟩
  |false=>rw[Zdf r hp]at h;omega
theorem tw_end(p:Int→Bool):∀(l:List Int),tw p l=l.length∨∃ x,l[tw p l]?=some x∧p x=false
 |[]=>.inl rfl
 |x::r=>by
  cases hp:p x with
  |true=>
   rw[Ue r hp];rcases tw_end p r with h | ⟨y,h1,h2⟩
   ·exact .inl (by rw[h,List.length_cons])
   ·exact .inr ⟨y,by simpa using h1,h2⟩
  |false=>rw[Zdf r hp];exact .inr ⟨x,rfl,hp⟩
theorem Zoj(p:Int→Bool)(l:List Int):∀ y ∈ l.take (tw p l),p y=true:=by
 intro y hy;obtain⟨k,hk⟩:=List.mem_iff_getElem?.1 hy;rw[List.getElem?_take]at hk;split at hk
 ·rename_i h
  obtain⟨x,h1,h2⟩:=tw_at p l k h;rw[h1]at hk;cases hk
  exact h2
 ·cases hk
theorem Zeo(l:List Int):(Xx l).length=tw isD l:=rfl
theorem firstD_tw(l:List Int):Xx l=l.take (tw isD l):=(Zhb l).symm
def Zaq:List Int→Nat
 |[]=>0
 |c::r=>if(c=60∨c=62∨c=33)∧r.head?=some 61 then 2
  else if c=123∨c=125∨c=40∨c=41∨c=59∨c=43∨c=45∨c=42∨c=61∨c=60∨c=62 then 1 else 0
theorem Zgr(c:Int)(r:List Int):Zaq (c::r)=if(c=60∨c=62∨c=33)∧r.head?=some 61 then 2
 else if c=123∨c=125∨c=40∨c=41∨c=59∨c=43∨c=45∨c=42∨c=61∨c=60∨c=62 then 1 else 0:=rfl
def Yh:List Int→Int×Nat×Nat×Nat
 |[]=>(0,0,0,0)
 |c::r=>
  if Zba c=true then(1,0,tw Zba (c::r),tw Zba (c::r))
  else if isD c=true then(if 2<tw isD (c::r)∨(tw isD (c::r)=2∧c=48)then(-2,0,0,0)else(2,0,tw isD (c::r),tw isD (c::r)))
  else if c=35 then(-1,0,tw (Xl 10) (c::r),tw (Xl 10) (c::r))
  else if c=34 then(if tw (Xl 34) r=r.length∨Zct (strOfNums (r.take (tw (Xl 34) r)))=false then(-3,0,0,0)else(3,1,tw (Xl 34) r+1,tw (Xl 34) r+2))
  else if Zaq (c::r)=0 then(-4,0,0,0)else(4,0,Zaq (c::r),Zaq (c::r))
theorem Jw(c:Int)(r:List Int):Yh (c::r) =
 if Zba c=true then(1,0,tw Zba (c::r),tw Zba (c::r))
 else if isD c=true then(if 2<tw isD (c::r)∨(tw isD (c::r)=2∧c=48)then(-2,0,0,0)else(2,0,tw isD (c::r),tw isD (c::r)))
 else if c=35 then(-1,0,tw (Xl 10) (c::r),tw (Xl 10) (c::r))
 else if c=34 then(if tw (Xl 34) r=r.length∨Zct (strOfNums (r.take (tw (Xl 34) r)))=false then(-3,0,0,0)else(3,1,tw (Xl 34) r+1,tw (Xl 34) r+2))
 else if Zaq (c::r)=0 then(-4,0,0,0)else(4,0,Zaq (c::r),Zaq (c::r)):=rfl
theorem markL_le(l:List Int):Zaq l≤l.length∧Zaq l≤2:=by
 cases l with
 |nil=>simp[Zaq]
 |cons c r=>
  rw[Zgr];split
  ·rename_i h
   cases r with
   |nil=>simp at h
   |cons d r=>simp
  ·split<;>simp
theorem Zag(c:Int)(r:List Int)(P:Int×Nat×Nat×Nat→Prop)
  (h1:Zba c=true→P (1,0,tw Zba (c::r),tw Zba (c::r)))
  (h2:isD c=true→tw isD (c::r)≤2→¬(tw isD (c::r)=2∧c=48)→P (2,0,tw isD (c::r),tw isD (c::r)))
  (h2e:isD c=true→(2<tw isD (c::r)∨(tw isD (c::r)=2∧c=48))→P (-2,0,0,0))
  (h3:c=35→P (-1,0,tw (Xl 10) (c::r),tw (Xl 10) (c::r)))
  (h4:c=34→tw (Xl 34) r<r.length→Zct (strOfNums (r.take (tw (Xl 34) r)))=true→P (3,1,tw (Xl 34) r+1,tw (Xl 34) r+2))
  (h4e:c=34→(tw (Xl 34) r=r.length∨Zct (strOfNums (r.take (tw (Xl 34) r)))=false)→P (-3,0,0,0))
  (h5:Zba c=false→isD c=false→c≠35→c≠34→Zaq (c::r)≠0→P (4,0,Zaq (c::r),Zaq (c::r)))
  (h5e:Zba c=false→isD c=false→c≠35→c≠34→Zaq (c::r)=0→P (-4,0,0,0)):P (Yh (c::r)):=by
 rw[Jw];split
 ·exact h1 (by assumption)
 ·rename_i n1
  rw[Bool.not_eq_true]at n1;split
  ·split
   ·exact h2e (by assumption) (by assumption)
   ·exact h2 (by assumption) (by omega) (by omega)
  ·rename_i n2
   rw[Bool.not_eq_true]at n2;split
   ·exact h3 (by assumption)
   ·split
    ·split
     ·exact h4e (by assumption) (by assumption)
     ·rename_i hn
      have:=Ziw (Xl 34) r;refine h4 (by assumption) (by omega) ?_;rw[←Bool.not_eq_false];intro hh;exact hn (.inr hh)
    ·split
     ·exact h5e n1 n2 (by assumption) (by assumption) (by assumption)
     ·exact h5 n1 n2 (by assumption) (by assumption) (by assumption)
theorem Zid(l:List Int)(h:l≠[]):(Yh l).2.1≤(Yh l).2.2.1∧(Yh l).2.2.1≤(Yh l).2.2.2∧(Yh l).2.2.2≤l.length∧(-1≤(Yh l).1→1≤(Yh l).2.2.2) ∧
  (Yh l).1≠0 ∧ -4≤(Yh l).1∧(Yh l).1≤4:=by
 cases l with
 |nil=>exact absurd rfl h
 |cons c r=>
  refine Zag c r (fun x=>x.2.1≤x.2.2.1∧x.2.2.1≤x.2.2.2∧x.2.2.2≤(c::r).length∧(-1≤x.1→1≤x.2.2.2)∧x.1≠0 ∧ -4≤x.1∧x.1≤4) ?_ ?_ ?_ ?_ ?_ ?_ ?_ ?_
  ·intro hs
   have:=Ziw Zba (c::r);rw[Ue r hs]at *;refine⟨by simp,by simp,by simpa using this,fun _=>by simp,by simp,by simp,by simp⟩
  ·intro hs _ _
   have:=Ziw isD (c::r);rw[Ue r hs]at *;refine⟨by simp,by simp,by simpa using this,fun _=>by simp,by simp,by simp,by simp⟩
  ·intro _ _;simp
  ·intro hc
   have hp:Xl 10 c=true:=by rw[Zbw];omega
   have:=Ziw (Xl 10) (c::r);rw[Ue r hp]at *;refine⟨by simp,by simp,by simpa using this,fun _=>by simp,by simp,by simp,by simp⟩
  ·intro _ h _
   refine⟨by simp,by simp,by simp;omega,fun _=>by simp,by simp,by simp,by simp⟩
  ·intro _ _;simp
  ·intro _ _ _ _ h
   have:=markL_le (c::r);refine⟨by simp,by simp,this.1,fun _=>by simp;omega,by simp,by simp,by simp⟩
  ·intro _ _ _ _ _;simp
theorem tokL_last(l:List Int)(h:0<(Yh l).1):∃ x,l[(Yh l).2.2.2 - 1]?=some x∧x<128:=by
 cases l with
 |nil=>simp[Yh]at h
 |cons c r=>
  revert h
  refine Zag c r (fun x=>0<x.1→∃ y,(c::r)[x.2.2.2 - 1]?=some y∧y<128) ?_ ?_ ?_ ?_ ?_ ?_ ?_ ?_
  ·intro hs _
   obtain⟨x,h1,h2⟩:=tw_at Zba (c::r) (tw Zba (c::r) - 1) (by rw[Ue r hs];omega);exact⟨x,h1,by rw[Zfj]at h2;omega⟩
  ·intro hs _ _ _
   obtain⟨x,h1,h2⟩:=tw_at isD (c::r) (tw isD (c::r) - 1) (by rw[Ue r hs];omega);exact⟨x,h1,by rw[Zce]at h2;omega⟩
  ·intro _ _ h;simp at h
  ·intro _ h;simp at h
  ·intro _ h _ _
   rcases tw_end (Xl 34) r with he | ⟨x,h1,h2⟩
   ·omega
   ·refine⟨x,by simpa using h1,?_⟩
    have:x=34:=by
     rcases Decidable.em (x=34)with e | e
     ·exact e
     ·rw[(Zbw 34 x).2 e]at h2;cases h2
    omega
  ·intro _ _ h;simp at h
  ·intro _ _ _ _ h _
   rw[Zgr]at h ⊢;split
   ·rename_i hc
    cases r with
    |nil=>simp at hc
    |cons d r=>
     simp at hc;refine⟨d,by simp,by omega⟩
   ·rename_i hc
    rw[if_neg hc]at h;split
    ·exact⟨c,by simp,by omega⟩
    ·rename_i hc2
     rw[if_neg hc2]at h;exact absurd rfl h
  ·intro _ _ _ _ _ h;simp at h
def Zcn:List Int→Bool→Nat
 |[],_=>0
 |c::r,true=>1+Zcn r (Xl 10 c)
 |c::r,false=>if c=35 then 1+Zcn r true else if Zhq c=true then 1+Zcn r false else 0
theorem Zox:∀(l:List Int)(b:Bool),Zcn l b≤l.length
 |[],_=>Nat.le_refl _
 |c::r,true=>by have:=Zox r (Xl 10 c);simp only[Zcn,List.length_cons];omega
 |c::r,false=>by
  have h1:=Zox r true;have h2:=Zox r false;simp only[Zcn,List.length_cons];split
  ·omega
  ·split<;>omega
theorem gapM_true:∀ l:List Int,Zcn l true=tw (Xl 10) l+Zcn (l.drop (tw (Xl 10) l)) false
 |[]=>rfl
 |c::r=>by
  cases h:Xl 10 c with
  |true=>
   rw[Ue r h];simp only[Zcn,h,List.drop_succ_cons];rw[gapM_true r];omega
  |false=>
   have hc:c=10:=by
    rcases Decidable.em (c=10)with e | e
    ·exact e
    ·rw[(Zbw 10 c).2 e]at h;cases h
   subst hc;rw[Zdf r h];simp only[Zcn,h,List.drop_zero];rw[if_neg (by decide),if_pos (by decide)];omega
structure TokV where
 k:Int
 t:ByteArray
 n:Int
 line:Nat
 col:Nat
 p:Nat
def TokV.cells(v:TokV):List Value:=[.int .i64 v.k,.string v.t,.int .i64 v.n,.int .i64 (v.line:Int),.int .i64 (v.col:Int)]
def Zl(s:ByteArray)(a:Nat):List Int:=(bL s).drop a
theorem Zbg(s:ByteArray){a:Nat}(h:s.size≤a):Zl s a=[]:=Zhe s a h
theorem Xa(s:ByteArray){a:Nat}(h:a<s.size):Zl s a=(gB s a:Int)::Zl s (a+1):=Zkt s a h
theorem Xp(s:ByteArray)(a:Nat):(Zl s a).length=s.size - a:=by unfold Zl;rw[List.length_drop,Vm]
theorem restL_drop(s:ByteArray)(a n:Nat):(Zl s a).drop n=Zl s (a+n):=by unfold Zl;rw[List.drop_drop]
theorem Zmv(s:ByteArray)(a k:Nat)(h:a+k<s.size):(Zl s a)[k]?=some (gB s (a+k):Int):=by
 unfold Zl;rw[List.getElem?_drop,Zkd s _ h]
theorem Zgo(s:ByteArray){a:Nat}(h:a<s.size):Zl s a≠[]:=by rw[Xa s h];simp
def Znj(s:ByteArray)(a:Nat):TokV:=⟨0,⟨#[]⟩,0,(Zs s (a:Int)).1,(Zs s (a:Int)).2,a⟩
def Zdo(k:Int)(l:List Int):Int:=if k=2 then Zak (Xx l)else 0
def Zgk(s:ByteArray)(a:Nat):TokV:=
 ⟨(Yh (Zl s a)).1,s.extract (a+(Yh (Zl s a)).2.1) (a+(Yh (Zl s a)).2.2.1),Zdo (Yh (Zl s a)).1 (Zl s a),(Zs s (a:Int)).1,(Zs s (a:Int)).2,a⟩
def Zku(k:Int):Int:=if k = -2 then 12 else if k = -3 then 10 else 6
def Znq(s:ByteArray):Nat→Nat→List TokV→List TokV×Int×Nat
 |0,_,_=>([],0,0)
 |b+1,a,acc=>
  if s.size≤a then(acc++[Znj s a],0,0)
  else if Zhq (gB s a)=true then Znq s b (a+1) acc
  else if(Yh (Zl s a)).1 < -1 then([],Zku (Yh (Zl s a)).1,a)
  else if(Yh (Zl s a)).1 = -1 then Znq s b (a+(Yh (Zl s a)).2.2.2) acc
  else Znq s b (a+(Yh (Zl s a)).2.2.2) (acc++[Zgk s a])
theorem Zbs(s:ByteArray){a:Nat}(h:a<s.size)(hk : -1≤(Yh (Zl s a)).1):1≤(Yh (Zl s a)).2.2.2∧a+(Yh (Zl s a)).2.2.2≤s.size:=by
 have:=Zid (Zl s a) (Zgo s h);rw[Xp]at this;omega
theorem Zeq(s:ByteArray):∀(b c a:Nat)(acc:List TokV),a≤s.size→s.size<a+b→s.size<a+c→Znq s b a acc=Znq s c a acc
 |0,c,a,acc,h1,h,hc=>by exfalso;omega
 |b+1,0,a,acc,h1,h,hc=>by exfalso;omega
 |b+1,c+1,a,acc,h1,h,hc=>by
  unfold Znq;by_cases h0:s.size≤a
  ·rw[if_pos h0,if_pos h0]
  ·rw[if_neg h0,if_neg h0]
   split
   ·exact Zeq s b c _ _ (by omega) (by omega) (by omega)
   ·split
    ·rfl
    ·rename_i hk
     have:=Zbs s (by omega) (by omega : -1≤(Yh (Zl s a)).1);split
     ·exact Zeq s b c _ _ (by omega) (by omega) (by omega)
     ·exact Zeq s b c _ _ (by omega) (by omega) (by omega)
def Js(s:ByteArray)(a:Nat)(acc:List TokV):List TokV×Int×Nat:=Znq s (s.size+1) a acc
theorem Zjj(s:ByteArray)(a:Nat)(acc:List TokV):Js s a acc =
  if s.size≤a then(acc++[Znj s a],0,0)
  else if Zhq (gB s a)=true then Js s (a+1) acc
  else if(Yh (Zl s a)).1 < -1 then([],Zku (Yh (Zl s a)).1,a)
  else if(Yh (Zl s a)).1 = -1 then Js s (a+(Yh (Zl s a)).2.2.2) acc
  else Js s (a+(Yh (Zl s a)).2.2.2) (acc++[Zgk s a]):=by
 unfold Js;conv=>lhs;unfold Znq
 by_cases h0:s.size≤a
 ·rw[if_pos h0,if_pos h0]
 ·rw[if_neg h0,if_neg h0]
  split
  ·exact Zeq s _ _ _ _ (by omega) (by omega) (by omega)
  ·split
   ·rfl
   ·rename_i hk
    have:=Zbs s (by omega) (by omega : -1≤(Yh (Zl s a)).1);split
    ·exact Zeq s _ _ _ _ (by omega) (by omega) (by omega)
    ·exact Zeq s _ _ _ _ (by omega) (by omega) (by omega)
theorem Zms(s:ByteArray){a:Nat}(acc:List TokV)(h:s.size≤a):Js s a acc=(acc++[Znj s a],0,0):=by rw[Zjj,if_pos h]
theorem Zdl(s:ByteArray){a:Nat}(acc:List TokV)(h:a<s.size)(hb:Zhq (gB s a)=true):Js s a acc=Js s (a+1) acc:=by
 rw[Zjj,if_neg (by omega),if_pos hb]
theorem Zmr(s:ByteArray){a:Nat}(acc:List TokV)(h:a<s.size)(hb:Zhq (gB s a)=false)(hk:(Yh (Zl s a)).1 < -1):Js s a acc=([],Zku (Yh (Zl s a)).1,a):=by
 rw[Zjj,if_neg (by omega),if_neg (by rw[hb];simp),if_pos hk]
theorem Zmq(s:ByteArray){a:Nat}(acc:List TokV)(h:a<s.size)(hb:Zhq (gB s a)=false)(hk:(Yh (Zl s a)).1 = -1):Js s a acc=Js s (a+(Yh (Zl s a)).2.2.2) acc:=by
 rw[Zjj,if_neg (by omega),if_neg (by rw[hb];simp),if_neg (by omega),if_pos hk]
theorem Zmp(s:ByteArray){a:Nat}(acc:List TokV)(h:a<s.size)(hb:Zhq (gB s a)=false)(hk:0<(Yh (Zl s a)).1):Js s a acc=Js s (a+(Yh (Zl s a)).2.2.2) (acc++[Zgk s a]):=by
 rw[Zjj,if_neg (by omega),if_neg (by rw[hb];simp),if_neg (by omega),if_neg (by omega)]
theorem tokL_hash(r:List Int):Yh (35::r)=(-1,0,tw (Xl 10) r+1,tw (Xl 10) r+1):=by
 rw[Jw,if_neg (by decide),if_neg (by decide),if_pos rfl,Ue r (by decide)]
def Zgv(s:ByteArray)(a:Nat):Nat:=a+Zcn (Zl s a) false
theorem gapE_le(s:ByteArray){a:Nat}(h:a≤s.size):a≤Zgv s a∧Zgv s a≤s.size:=by
 have:=Zox (Zl s a) false;rw[Xp]at this;unfold Zgv;omega
theorem Zow(s:ByteArray):∀(b a:Nat),s.size≤a+b→a≤s.size→Bd s a →
  (∀ acc,Js s a acc=Js s (Zgv s a) acc)∧Bd s (Zgv s a)∧(Zgv s a<s.size→Zhq (gB s (Zgv s a))=false∧gB s (Zgv s a)≠35)
 |0,a,h,h1,hB=>by
  have e:Zgv s a=a:=by unfold Zgv;rw[Zbg s (by omega)];rfl
  rw[e];exact⟨fun _=>rfl,hB,fun hh=>by omega⟩
 |b+1,a,h,h1,hB=>by
  by_cases ha:a<s.size
  ·by_cases h35:gB s a=35
   ·have hbd:Bd s (a+(tw (Xl 10) (Zl s (a+1))+1)):=by
     have hle:=Ziw (Xl 10) (Zl s (a+1));rw[Xp]at hle;rcases tw_end (Xl 10) (Zl s (a+1))with he | ⟨x,hx,hp⟩
     ·rw[Xp]at he
      rw[he,show a+(s.size - (a+1)+1)=s.size from by omega];exact Bd.end_ s
     ·have hlt:tw (Xl 10) (Zl s (a+1))<(Zl s (a+1)).length:=by
            rcases Nat.lt_or_ge (tw (Xl 10) (Zl s (a+1))) (Zl s (a+1)).length with hh | hh
            ·exact hh
            ·rw[List.getElem?_eq_none hh]at hx;cases hx
      rw[Xp]at hlt;rw[Zmv s (a+1) _ (by omega)]at hx;cases hx
      refine Bd.reach (by omega) (.inr ?_);rw[show a+(tw (Xl 10) (Zl s (a+1))+1)=a+1+tw (Xl 10) (Zl s (a+1))from by omega];rcases Decidable.em (gB s (a+1+tw (Xl 10) (Zl s (a+1)))=10)with e | e
      ·omega
      ·rw[(Zbw 10 _).2 (by omega)]at hp;cases hp
    have hle:=hbd.1;obtain⟨i1,i2,i3⟩:=Zow s b (a+(tw (Xl 10) (Zl s (a+1))+1)) (by omega) hle hbd
    have e:Zgv s a=Zgv s (a+(tw (Xl 10) (Zl s (a+1))+1)):=by
     unfold Zgv;rw[Xa s ha,h35];simp only[Zcn];rw[if_pos (show((35:Nat):Int)=35 from rfl),gapM_true,restL_drop,show a+1+tw (Xl 10) (Zl s (a+1))=a+(tw (Xl 10) (Zl s (a+1))+1)from by omega];omega
    rw[e];refine⟨fun acc=>?_,i2,i3⟩;have ht:Yh (Zl s a)=(-1,0,tw (Xl 10) (Zl s (a+1))+1,tw (Xl 10) (Zl s (a+1))+1):=by rw[Xa s ha,h35];exact tokL_hash _
    rw[Zmq s acc ha (by rw[h35];decide) (by rw[ht]),ht];exact i1 acc
   ·cases hbl:Zhq (gB s a)with
    |true=>
     have h128:gB s a<128:=by rw[Zef]at hbl;omega
     obtain⟨i1,i2,i3⟩:=Zow s b (a+1) (by omega) (by omega) (Bd.behind ha h128)
     have e:Zgv s a=Zgv s (a+1):=by
      unfold Zgv;rw[Xa s ha];simp only[Zcn];rw[if_neg (by omega),if_pos hbl];omega
     rw[e];exact⟨fun acc=>(Zdl s acc ha hbl).trans (i1 acc),i2,i3⟩
    |false=>
     have e:Zgv s a=a:=by
      unfold Zgv;rw[Xa s ha];simp only[Zcn];rw[if_neg (by omega),hbl,if_neg (by simp)];omega
     rw[e];exact⟨fun _=>rfl,hB,fun _=>⟨hbl,h35⟩⟩
  ·exact Zow s 0 a (by omega) h1 hB
theorem tok_bd(s:ByteArray){a:Nat}(h:a<s.size)(hk:0<(Yh (Zl s a)).1):Bd s (a+(Yh (Zl s a)).2.2.2):=by
 obtain⟨x,h1,h2⟩:=tokL_last (Zl s a) hk;have hb:=Zbs s h (by omega);rw[Zmv s a _ (by omega)]at h1;cases h1
 have:=Bd.behind (s:=s) (q:=a+((Yh (Zl s a)).2.2.2 - 1)) (by omega) (by omega);rwa [show a+((Yh (Zl s a)).2.2.2 - 1)+1=a+(Yh (Zl s a)).2.2.2 from by omega]at this
theorem rem_bd(s:ByteArray){a:Nat}(h:a<s.size)(hk:(Yh (Zl s a)).1 = -1):Bd s (a+(Yh (Zl s a)).2.2.2):=by
 have hb:=Zbs s h (by omega)
 have h35:gB s a=35∧(Yh (Zl s a)).2.2.2=tw (Xl 10) (Zl s a):=by
  rw[Xa s h]at hk ⊢;revert hk
  refine Zag (gB s a) (Zl s (a+1)) (fun x=>x.1 = -1→gB s a=35∧x.2.2.2=tw (Xl 10) ((gB s a:Int)::Zl s (a+1))) ?_ ?_ ?_ ?_ ?_ ?_ ?_ ?_
  ·intro _ hh;simp at hh
  ·intro _ _ _ hh;simp at hh
  ·intro _ _ hh;simp at hh
  ·intro hc _;exact⟨by omega,rfl⟩
  ·intro _ _ _ hh;simp at hh
  ·intro _ _ hh;simp at hh
  ·intro _ _ _ _ _ hh;simp at hh
  ·intro _ _ _ _ _ hh;simp at hh
 rw[h35.2]at hb ⊢;rcases tw_end (Xl 10) (Zl s a)with he | ⟨x,hx,hp⟩
 ·rw[Xp]at he
  rw[he,show a+(s.size - a)=s.size from by omega];exact Bd.end_ s
 ·by_cases hlt:a+tw (Xl 10) (Zl s a)<s.size
  ·rw[Zmv s a _ hlt]at hx
   cases hx
   refine Bd.reach hb.2 (.inr ?_);rcases Decidable.em (gB s (a+tw (Xl 10) (Zl s a))=10)with e | e
   ·omega
   ·rw[(Zbw 10 _).2 (by omega)]at hp;cases hp
  ·rw[show a+tw (Xl 10) (Zl s a)=s.size from by omega]
   exact Bd.end_ s
open Go.Shelf
def indexByteL_ren:Go.Shelf.Ren:=⟨fun | 137=>264 | 217=>284 | 266=>298 | n=>n,fun | 9=>9 | 5=>5 | 3=>3 | n=>n,fun | n=>n⟩
theorem indexByteL:Go.Proofs.Lays.n137 Tryz.prog indexByteL_ren:= {
 mixed:=by kernel_rfl
 f137:=Tryz.func264.trans (congrArg some (by kernel_rfl))
 f217:=Tryz.func284.trans (congrArg some (by kernel_rfl))
 f266:=Tryz.func298.trans (congrArg some (by kernel_rfl))
 t3:=Tryz.underlying3
 a3:=Tryz.isAgg3
 z3:=Tryz.sizeOf3
 v3:=Tryz.zeroValue3
 t5:=Tryz.underlying5
 a5:=Tryz.isAgg5
 z5:=Tryz.sizeOf5
 v5:=Tryz.zeroValue5
 t9:=Tryz.underlying9
 a9:=Tryz.isAgg9
 z9:=Tryz.sizeOf9
 v9:=Tryz.zeroValue9 }
def hasPrefixL_ren:Go.Shelf.Ren:=⟨fun | 99=>267 | 206=>286 | n=>n,fun | 9=>9 | 4=>4 | 3=>3 | n=>n,fun | n=>n⟩
theorem hasPrefixL:Go.Proofs.Lays.n99 Tryz.prog hasPrefixL_ren:= {
 mixed:=by kernel_rfl
 f99:=Tryz.func267.trans (congrArg some (by kernel_rfl))
 f206:=Tryz.func286.trans (congrArg some (by kernel_rfl))
 t3:=Tryz.underlying3
 a3:=Tryz.isAgg3
 z3:=Tryz.sizeOf3
 v3:=Tryz.zeroValue3
 t4:=Tryz.underlying4
 a4:=Tryz.isAgg4
 z4:=Tryz.sizeOf4
 v4:=Tryz.zeroValue4
 t9:=Tryz.underlying9
 a9:=Tryz.isAgg9
 z9:=Tryz.sizeOf9
 v9:=Tryz.zeroValue9 }
theorem bL_map(s:ByteArray):bL s=s.data.toList.map fun c:UInt8=>(c.toNat:Int):=by
 apply List.ext_getElem?;intro i;by_cases h:i<s.size
 ·rw[Zkd s i h,List.getElem?_map,Uk s i h]
  have:s.data.toList[i]?=some (s[i]'h):=by
   rw[Array.getElem?_toList];exact Array.getElem?_eq_getElem (by simpa using h)
  rw[this];rfl
 ·rw[List.getElem?_eq_none (by rw[Vm];omega),List.getElem?_eq_none (by rw[List.length_map,Array.length_toList];exact Nat.le_of_not_lt h)]
def idxOf(c:Int)(l:List Int):Int:=if tw (Xl c) l=l.length then -1 else(tw (Xl c) l:Int)
theorem Zkz(c:UInt8):∀ l:List UInt8,Lib.indexByte l c=idxOf (c.toNat:Int) (l.map fun c:UInt8=>(c.toNat:Int))
 |[]=>by simp[Lib.indexByte,idxOf,tw]
 |b::l=>by
  have ih:=Zkz c l;unfold Lib.indexByte;by_cases h:b=c
  ·subst h
   rw[if_pos (by simp)];unfold idxOf;rw[List.map_cons,Zdf _ (by unfold Xl;simp)];simp
  ·have hn:Xl (c.toNat:Int) (b.toNat:Int)=true:=by
    rw[Zbw];intro e;exact h (UInt8.toNat_inj.1 (by omega))
   rw[if_neg (by simpa using h),ih];unfold idxOf;rw[List.map_cons,Ue _ hn,List.length_cons];have:=Ziw (Xl (c.toNat:Int)) (l.map fun c:UInt8=>(c.toNat:Int));by_cases e:tw (Xl (c.toNat:Int)) (l.map fun c:UInt8=>(c.toNat:Int))=(l.map fun c:UInt8=>(c.toNat:Int)).length
   ·rw[if_pos e,if_pos (by simp),if_pos (by omega)]
   ·rw[if_neg e,if_neg (by simp),if_neg (by omega)];try omega
theorem IndexByte_any(s:ByteArray)(c:Nat)(hc:c<256)(w:World):Calls Tryz.prog 264 #[.string s,.int .u8 (c:Int)] w fun e w'=>e=.returned (.int .i64 (idxOf (c:Int) (bL s)))∧w=w':=by
 refine(Any.strings_IndexByte indexByteL s (c:Int) w).mono ?_;rintro e w' ⟨rfl,rfl⟩;refine⟨?_,rfl⟩;rw[Zkz,bL_map];congr 3
 simp;omega
theorem prefix_map(p l:List UInt8):p.isPrefixOf l=(p.map fun c:UInt8=>(c.toNat:Int)).isPrefixOf (l.map fun c:UInt8=>(c.toNat:Int)):=by
 induction p generalizing l with
 |nil=>simp
 |cons x p ih=>
  cases l with
  |nil=>simp
  |cons y l=>
   simp only[List.map_cons,List.isPrefixOf,ih l];congr 1
   rw[Bool.eq_iff_iff];simp only[beq_iff_eq];constructor
   ·rintro rfl;rfl
   ·intro h;exact UInt8.toNat_inj.1 (by omega)
theorem HasPrefix_any(s p:ByteArray)(w:World):Calls Tryz.prog 267 #[.string s,.string p] w fun e w'=>e=.returned (.bool ((bL p).isPrefixOf (bL s)))∧w=w':=by
 refine(Any.strings_HasPrefix hasPrefixL s p w).mono ?_;rintro e w' ⟨rfl,rfl⟩;refine⟨?_,rfl⟩;rw[bL_map,bL_map,←prefix_map];rfl
def mkL:List (List Int):=[[123],[125],[40],[41],[59],[43],[45],[42],[61],[60],[62],[60,61],[62,61],[33,61]]
def Vr(l:List Int)(n:Nat)(m:List Int):Nat:=if n<m.length∧m.isPrefixOf l=true then m.length else n
theorem mk_fold(l:List Int):mkL.foldl (Vr l) 0=Zaq l:=by
 cases l with
 |nil=>simp[mkL,Vr,Zaq]
 |cons c r=>
  rw[Zgr]
  have hd:∀ d:Int,([d]:List Int).isPrefixOf (c::r)=decide (c=d):=by
   intro d;rw[Bool.eq_iff_iff];simp[List.isPrefixOf];exact eq_comm
  have he:∀ d e:Int,([d,e]:List Int).isPrefixOf (c::r)=(decide (c=d) && decide (r.head?=some e)):=by
   intro d e;rw[Bool.eq_iff_iff];cases r with
   |nil=>simp[List.isPrefixOf]
   |cons y r=>simp[List.isPrefixOf];rw[@eq_comm _ d,@eq_comm _ e]
  simp only[mkL,List.foldl_cons,List.foldl_nil,Vr,hd,he,List.length_cons,List.length_nil,decide_eq_true_eq,Bool.and_eq_true];by_cases e61:r.head?=some 61
  all_goals
   by_cases h123:c=123
   ·subst h123;simp[e61]
   by_cases h125:c=125
   ·subst h125;simp[e61]
   by_cases h40:c=40
   ·subst h40;simp[e61]
   by_cases h41:c=41
   ·subst h41;simp[e61]
   by_cases h59:c=59
   ·subst h59;simp[e61]
   by_cases h43:c=43
   ·subst h43;simp[e61]
   by_cases h45:c=45
   ·subst h45;simp[e61]
   by_cases h42:c=42
   ·subst h42;simp[e61]
   by_cases h61:c=61
   ·subst h61;simp[e61]
   by_cases h60:c=60
   ·subst h60;simp[e61]
   by_cases h62:c=62
   ·subst h62;simp[e61]
   by_cases h33:c=33
   ·subst h33;simp[e61]
   simp[h123,h125,h40,h41,h59,h43,h45,h42,h61,h60,h62,h33]
theorem mk_bd(l:List Int)(k:Nat):(mkL.take k).foldl (Vr l) 0≤2:=by
 have key:∀(m:List (List Int))(n:Nat),n≤2→(∀ x ∈ m,x.length≤2)→m.foldl (Vr l) n≤2:=by
  intro m;induction m with
  |nil=>intro n h _;exact h
  |cons x m ih=>
   intro n h hm;rw[List.foldl_cons];refine ih _ ?_ (fun y hy=>hm y (by simp[hy]));unfold Vr;split
   ·exact hm x (by simp)
   ·exact h
 refine key _ 0 (by decide) fun x hx=>?_
 have:∀ x ∈ mkL,x.length≤2:=by decide
 exact this x (List.mem_of_mem_take hx)
theorem mk_next(l:List Int)(k:Nat)(h:k<14):(mkL.take (k+1)).foldl (Vr l) 0=Vr l ((mkL.take k).foldl (Vr l) 0) (mkL[k]'h):=by
 rw[List.take_succ_eq_append_getElem h,List.foldl_append];rfl
def mkS:List ByteArray:=mkL.map strOfNums
def mkCs:List Value:=mkS.map Value.string
theorem mk_by(k:Nat)(h:k<14):∀ x ∈ mkL[k]'h,0≤x∧x<256:=by
 have:∀ y ∈ mkL,∀ x ∈ y,0≤x∧x<256:=by decide
 exact this _ (List.getElem_mem _)
theorem mkCs_at(k:Nat)(h:k<14):mkCs[k]?=some (.string (strOfNums (mkL[k]'h))):=by
 unfold mkCs mkS;rw[List.getElem?_map,List.getElem?_map,List.getElem?_eq_getElem h];rfl
theorem mk_len(k:Nat)(h:k<14):1≤(mkL[k]'h).length∧(mkL[k]'h).length≤2:=by
 have:∀ y ∈ mkL,1≤y.length∧y.length≤2:=by decide
 exact this _ (List.getElem_mem _)
theorem rI{k:IntKind}{a b:Int}(h:a=b):Ending.returned (.int k a)=.returned (.int k b):=by rw[h]
theorem rV{a b:Value}(h:a=b):Ending.returned a=.returned b:=by rw[h]
theorem vI{k:IntKind}{a b:Int}(h:a=b):Value.int k a=Value.int k b:=by rw[h]
theorem slice_nn{P:Program}(t:TypeId)(h:P.underlying t=some .string)(s:ByteArray)(i n:Nat)(hz:i+n≤s.size)(w:World) :
  (Instr.slice t (.string s) (some (.int .i64 (i:Int))) (some (.int .i64 ((i:Int)+(n:Int)))) none).run P w=.ok (.string (s.extract i (i+n))) w:=by
 rw[run_slice_string w t s .i64 .i64 _ _ h (by omega) (by omega) (by omega)];rw[show((i:Int)+(n:Int)).toNat=i+n from by omega,Int.toNat_natCast]
set_option linter.unusedVariables false
set_option linter.unusedSimpArgs false
theorem digitsEnd_any(s:ByteArray)(a:Nat)(w:World)(hs:s.size≤140737488355328)(ha:a≤s.size):Calls Tryz.prog 283 #[.string s,.int .i64 a] w fun e w'=>e=.returned (.int .i64 ((a+(Xx ((bL s).drop a)).length:Nat):Int))∧w=w':=by
 go_enter Tryz.func283,Tryz.ntmps283;go_wp2
 go_loop [1] (fun i=>∃ k:Nat,i=.int .i64 k∧k≤s.size∧k+(Xx ((bL s).drop k)).length=a+(Xx ((bL s).drop a)).length) (fun i=>s.size - (intOf i).toNat)
 case atStart=>exact⟨a,rfl,ha,rfl⟩
 case round=>
  obtain⟨k,rfl,hk,he⟩:=hrel;by_cases h:k<s.size
  ·have g:=Uk s k h
   have hd:=Zkt s k h;have l1:(k:Int)<(s.size:Int):=by omega
   have l0:decide (s.size≤k)=false:=by simp;omega
   cases hD:isD (gB s k:Int)with
   |true=>
    have hD':=(Zce _).1 hD;rw[hd,Zav _ hD,List.length_cons]at he;rw[g]at hD';have b1:(48:Int)≤((s[k]'h).toNat:Int):=hD'.1;have b2:((s[k]'h).toNat:Int)≤57:=hD'.2;have HE:=Hh he;clear he hd hD hD' g;go_wp2
    go_round
    case rel=>exact⟨k+1,by go_num,by omega,by have:=HE.out;omega⟩
    case measure=>simp[intOf];omega
   |false=>
    rw[hd,Zka _ hD]at he;have hE:k=a+(Xx ((bL s).drop a)).length:=he;have hD':¬(48≤(gB s k:Int)∧(gB s k:Int)≤57):=fun c=>by rw[(Zce _).2 c]at hD;cases hD
    rw[g]at hD';have HE:=Hh hE;clear he hd hD g hE;by_cases b1:(48:Int)≤((s[k]'h).toNat:Int)
    ·have b2:¬((s[k]'h).toNat:Int)≤57:=fun c=>hD' ⟨b1,c⟩
     clear hD';go_wp2
     go_ret;exact⟨rI (by have:=HE.out;omega),rfl⟩
    ·clear hD'
     go_wp2
     go_ret;exact⟨rI (by have:=HE.out;omega),rfl⟩
  ·rw[Zhe s k (by omega)]at he
   have hE:k=a+(Xx ((bL s).drop a)).length:=he;have HE:=Hh hE;clear he hE;go_wp2
   go_ret;exact⟨rI (by have:=HE.out;omega),rfl⟩
def takeV(x:Int×Int×Bool):Value:=.tuple #[.int .i64 x.1,.int .i64 x.2.1,.bool x.2.2]
theorem dTake_any (s :ByteArray)(a most:Int)(w:World)(hs:s.size≤140737488355328)(m1 : -9223372036854775808≤most)(m2:most≤9223372036854775807)(a1 : -9223372036854775808≤a)(a2:a≤9223372036854775807) :
   Calls Tryz.prog 263 #[.string s,.int .i64 a,.int .i64 most] w fun e w'=>e=.returned (takeV (Us s a most))∧w=w':=by
 by_cases h0:a<0
 · have T:=Hh (show Us s a most=(0,0,false) by unfold Us;rw[if_pos (.inl h0)])
   go_enter Tryz.func263,Tryz.ntmps263;go_wp2
   go_ret3
   exact⟨by rw[T.out];rfl,rfl⟩
 · by_cases h1 : (s.size:Int)≤a
   · have T:=Hh (show Us s a most=(0,0,false) by unfold Us;rw[if_pos (.inr h1)])
     go_enter Tryz.func263,Tryz.ntmps263;go_wp2
     go_ret3
     exact⟨by rw[T.out];rfl,rfl⟩
   · obtain ⟨i, rfl⟩ :∃ i:Nat,a=i:=⟨a.toNat,by omega⟩
     have hi:i<s.size:=by omega
     obtain⟨D,hD⟩:∃ D,Xx ((bL s).drop i)=D:=⟨_,rfl⟩
     have hend:=digitsEnd_any s i
     have htk:Us s i most=if D≠[]∧(D.length:Int)≤most∧D.length≤9∧Zdn D=true then(Zak D,(i:Int)+(D.length:Int),true)else(0,0,false):=by
       unfold Us;rw[if_neg (by omega),Int.toNat_natCast,hD]
     rw[hD]at hend
     have hle:D.length≤s.size - i:=by
       have:=firstD_len ((bL s).drop i);rw[hD,List.length_drop,Vm]at this;exact this
     have hdr:=Zhb ((bL s).drop i);rw[hD]at hdr;have l1:decide ((i:Int)<0)=false:=by simp
     have l2:decide (s.size≤i)=false:=by simp;omega
     have l3:(i:Int)<(s.size:Int):=by omega
     have HDR:=Hh hdr;have hsub:(i:Int)+(D.length:Int) - (i:Int)=(D.length:Int):=by omega
     have hD':∀ x ∈ D,48≤x∧x≤57:=fun x hx=>firstD_isD _ x (by rw[hD];exact hx)
     clear hdr hD;by_cases c0:D.length=0
     · rw[if_neg (fun c=>c.1 (List.eq_nil_of_length_eq_zero c0))]at htk
       have T:=Hh htk;clear htk;go_enter Tryz.func263,Tryz.ntmps263;go_wp2_with(go_at_call 283;refine(hend _ hs (by omega)).mono ?_;rintro e w' ⟨rfl,rfl⟩)
       go_ret3
       exact⟨by rw[T.out];rfl,rfl⟩
     · have n0 : ((D.length:Int) == 0)=false:=by rw[beq_eq_false_iff_ne];omega
       by_cases c1:most<(D.length:Int)
       · rw[if_neg (fun c=>by omega)]at htk
         have T:=Hh htk;clear htk;go_enter Tryz.func263,Tryz.ntmps263;go_wp2_with(go_at_call 283;refine(hend _ hs (by omega)).mono ?_;rintro e w' ⟨rfl,rfl⟩)
         go_ret3
         exact⟨by rw[T.out];rfl,rfl⟩
       · by_cases c2:9<(D.length:Int)
         · rw[if_neg (fun c=>by omega)]at htk
           have T:=Hh htk;clear htk;go_enter Tryz.func263,Tryz.ntmps263;go_wp2_with(go_at_call 283;refine(hend _ hs (by omega)).mono ?_;rintro e w' ⟨rfl,rfl⟩)
           go_ret3
           exact⟨by rw[T.out];rfl,rfl⟩
         · have g0:D[0]?=some ((s[i]'hi).toNat:Int):=by
             have h:=congrArg (fun l:List Int=>l[0]?) HDR.out;rw[List.getElem?_take_of_lt (by omega),List.getElem?_drop,Nat.add_zero,Zkd s i hi,Uk s i hi]at h;exact h.symm
           have hpl:Zdn D=(!(((s[i]'hi).toNat:Int) == 48) || decide (D.length=1)):=by
             unfold Zdn;rw[g0];rw[Bool.eq_iff_iff];simp
           cases hp:Zdn D with
           |false=>
             rw[if_neg (fun c=>by rw[hp]at c;exact absurd c.2.2.2 (by simp))]at htk;have T:=Hh htk;rw[hp]at hpl
             have e1:(((s[i]'hi).toNat:Int) == 48)=true:=by
               cases h:(((s[i]'hi).toNat:Int) == 48)with
               |true=>rfl
               |false=>rw[h]at hpl;simp at hpl
             have e2:1<(D.length:Int):=by
               rw[e1]at hpl;simp at hpl;omega
             clear htk hp hpl g0;go_enter Tryz.func263,Tryz.ntmps263;go_wp2_with(go_at_call 283;refine(hend _ hs (by omega)).mono ?_;rintro e w' ⟨rfl,rfl⟩)
             go_ret3
             exact⟨by rw[T.out];rfl,rfl⟩
           |true=>
             rw[if_pos ⟨fun c=>c0 (by rw[c];rfl),by omega,by omega,hp⟩]at htk;have T:=Hh htk;rw[hp]at hpl
             have e:(((s[i]'hi).toNat:Int) == 48)=false∨(((s[i]'hi).toNat:Int) == 48)=true∧(D.length:Int)≤1:=by
               cases h:(((s[i]'hi).toNat:Int) == 48)with
               |false=>exact .inl rfl
               |true=>rw[h]at hpl;simp at hpl;exact .inr ⟨rfl,by omega⟩
             have hb:∀ k (hk:k<D.length),∃ hz:i+k<s.size,D[k]=((s[i+k]'hz).toNat:Int):=by
               intro k hk;have hz:i+k<s.size:=by omega
               refine⟨hz,?_⟩;have h:=congrArg (fun l:List Int=>l[k]?) HDR.out;rw[List.getElem?_take_of_lt (by omega),List.getElem?_drop,Zkd s (i+k) hz,Uk s (i+k) hz,List.getElem?_eq_getElem hk]at h;exact(Option.some.inj h).symm
             have hdd:∀ x ∈ D,48≤x∧x≤57:=hD'
             clear htk hp hpl g0;have HBB:=Hh hb;have HDD:=Hh hdd;clear hb hdd;rcases e with e | ⟨e,e'⟩
             all_goals
               go_enter Tryz.func263,Tryz.ntmps263;go_wp2_with(go_at_call 283;refine(hend _ hs (by omega)).mono ?_;rintro e w' ⟨rfl,rfl⟩)
               go_loop [6,10,45] (fun n _ j=>∃ k:Nat,j=.int .i64 k∧k≤D.length∧n=.int .i64 (Zak (D.take k))) (fun _ _ j=>D.length - (intOf j).toNat)
               case atStart=>exact⟨0,rfl,by omega,rfl⟩
               case round=>
                 obtain⟨k,rfl,hk,rfl⟩:=hrel;by_cases hkl:k<D.length
                 · obtain⟨hz,hx⟩:=HBB.out k hkl
                   have hv:=Zbr (D.take k) (fun x hx=>HDD.out x (List.mem_of_mem_take hx));have hlen:(D.take k).length=k:=by rw[List.length_take];omega
                   rw[hlen]at hv;have hv2:Zak (D.take k)<1000000000:=Int.lt_of_lt_of_le hv.2 (pow10_le (show k≤9 by omega));have hv1:=hv.1;have hd:=HDD.out _ (List.getElem_mem hkl);rw[hx]at hd;obtain⟨hd1,hd2⟩:=hd
                   have hs2:Zak (D.take (k+1))=10*Zak (D.take k)+(((s[i+k]'hz).toNat:Int) - 48):=by
                     rw[List.take_succ_eq_append_getElem hkl,Zki,hx]
                   have HS:=Hh hs2;have lk:(k:Int)<(D.length:Int):=by omega
                   have li:(i:Int)+(k:Int)<(s.size:Int):=by omega
                   clear hs2 hv hx hlen;generalize Zak (D.take k)=V at *;go_wp2
                   go_round
                   case rel=>exact⟨k+1,by go_num,by omega,by rw[HS.out]⟩
                   case measure=>simp[intOf];omega
                 · obtain rfl:k=D.length:=by omega
                   have HL:=Hh (show Zak (D.take D.length)=Zak D by rw[List.take_length]);clear hk hkl;go_wp2
                   go_ret3
                   exact⟨by rw[T.out];exact rV (by unfold takeV;rw[←HL.out];rfl),rfl⟩
open Go Go.RowKit
def Zfl(w:World)(B:Nat)(A:Option Addr)(cs:List Value):Prop:=
 cs=[]∨∃ g off,A=some ⟨g,off,none⟩∧g<B∧∀ j,j<cs.length→w.cell? ⟨g,off+j,none⟩=cs[j]?
theorem Zfl.same{w w':World}{B:Nat}{A:Option Addr}{cs:List Value}(h:Zfl w B A cs)(hs:∀ k,k<B→w'.heap[k]?=w.heap[k]?):Zfl w' B A cs:=by
 rcases h with h | ⟨g,off,rfl,hg,hc⟩
 ·exact .inl h
 ·exact .inr ⟨g,off,rfl,hg,fun j hj=>(World.cell?_of_block (w:=w) (a:=⟨g,off+j,none⟩) (hs g hg)).trans (hc j hj)⟩
theorem Zfl.below{w w':World}{B:Nat}{A:Option Addr}{cs:List Value}(h:Zfl w B A cs)(hb:Below B w w'):Zfl w' B A cs:=h.same hb.block
theorem Zfl.mono{w:World}{B B':Nat}{A:Option Addr}{cs:List Value}(h:Zfl w B A cs)(hB:B≤B'):Zfl w B' A cs:=by
 rcases h with h | ⟨g,off,rfl,hg,hc⟩
 ·exact .inl h
 ·exact .inr ⟨g,off,rfl,by omega,hc⟩
theorem Zfl.alloc{w:World}{B:Nat}{A:Option Addr}{cs:List Value}(h:Zfl w B A cs)(hB:B≤w.heap.size)(o:Obj):Zfl (w.alloc o) B A cs:=
 h.same fun k hk=>Below.heap_alloc w o k (by omega)
theorem Zfl.at_{w:World}{B:Nat}{A:Option Addr}{cs:List Value}(h:Zfl w B A cs)(hn:0<cs.length):∃ g off,A=some ⟨g,off,none⟩∧g<B∧∀ j,j<cs.length→w.cell? ⟨g,off+j,none⟩=cs[j]?:=by
 rcases h with h | h
 ·rw[h]at hn;simp at hn
 ·exact h
theorem Wd{w:World}{base:Nat}{e:TypeId}{size:Nat}{v:Value}{n:Nat}{xs:List Value}(h:w.ownsRow base e size v n xs) :
  ∃ A c,v=.slice A n c∧n≤c∧c≤maxLen∧Zfl w w.heap.size A xs:=by
 obtain⟨h1,h2⟩:=id h;rcases h2 with⟨rfl,rfl⟩ | ⟨g,cap,cur,rfl,hb,hh,hn,hm,hs,ht⟩
 ·exact⟨none,0,rfl,by omega,by unfold maxLen;omega,.inl (List.eq_nil_of_length_eq_zero (by simpa using h1))⟩
 ·refine⟨_,cap,rfl,hn,hm,.inr ⟨g,0,rfl,(h.lt g rfl).2,fun j hj=>?_⟩⟩
  rw[Nat.zero_add];exact World.ownsRow.cellAt h j (by omega)
def Zib(a b:Value):Prop:=∀ k,a.ownBlock=some k→b.ownBlock≠some k
theorem Zib.symm{a b:Value}(h:Zib a b):Zib b a:=fun k hb ha=>h k ha hb
theorem Zib.nil(b:Value):Zib (.slice none 0 0) b:=fun k h=>by simp[Value.ownBlock]at h
theorem Zib.grown{a v v':Value}{w:World}{base:Nat}{e:TypeId}{size n:Nat}{xs:List Value}{H:Nat}(h:Zib a v)(ha:w.ownsRow base e size a n xs)(hH:w.heap.size≤H)
  (hat:v'.ownBlock=v.ownBlock∨v'.ownBlock=some H):Zib a v':=by
 intro k hk;rcases hat with e | e
 ·rw[e];exact h k hk
 ·rw[e]
  have:=(ha.lt k hk).2;intro c;injection c with c;omega
theorem Zib.kept{a v:Value}{w w':World}{base:Nat}{e:TypeId}{size n:Nat}{xs:List Value}(h:Zib a v)(ha:w.ownsRow base e size a n xs)(hg:w.grownBy w' v.ownBlock):w'.ownsRow base e size a n xs:=by
 refine ha.kept hg ?_;cases hk:a.ownBlock with
 |none=>exact .inl rfl
 |some k=>exact .inr (fun c=>h k hk c.symm)
theorem own_mono{w:World}{base base':Nat}{e:TypeId}{size:Nat}{v:Value}{n:Nat}{xs:List Value}(h:w.ownsRow base e size v n xs)(hb:base'≤base):w.ownsRow base' e size v n xs:=by
 obtain⟨h1,h2⟩:=h;refine⟨h1,?_⟩;rcases h2 with h2 | ⟨g,cap,cur,hv,hg,r⟩
 ·exact .inl h2
 ·exact .inr ⟨g,cap,cur,hv,by omega,r⟩
theorem Jr{w w':World}{base:Nat}{e:TypeId}{size:Nat}{v:Value}{n:Nat}{xs:List Value}(h:w.ownsRow base e size v n xs)(hb:Below w.heap.size w w'):w'.ownsRow base e size v n xs:=by
 obtain⟨h1,h2⟩:=id h;refine⟨h1,?_⟩;rcases h2 with h2 | ⟨g,cap,cur,hv,hg,hh,r⟩
 ·exact .inl h2
 ·refine .inr ⟨g,cap,cur,hv,hg,?_,r⟩
  rw[hb.block g ((h.lt g (by rw[hv];rfl)).2)];exact hh
theorem Zno{P:Program}{w:World}{ops:Array Oper}{rest:List Oper}{o:Oper}{a:Act}{Q:Exit→Act→World→Prop}(s x:Operand)(t e:TypeId)(bytes:Nat)(z:Value)
  (ht:P.underlying t=some (.slice e))(hinfo:(P.info? e).map (fun i=>(i.zero,i.size,i.bytes))=some (some z,1,bytes))(hzs:z.cells.size=1)(hby:bytes≤64)
  (hgd:o.guard=none)(ho:o.op=.call { callee:=.builtin .append,args:=#[s,x],argTypes:=#[t,t] })
  (base:Nat)(v:Value)(n:Nat)(xs:List Value)(u:Value)(hs:a.eval s=v)(hown:w.ownsRow base e 1 v n xs)(hx:a.eval x=.slice (some ⟨w.heap.size,0,none⟩) 1 1)(h1:u.oneCell'=true)
  (hn:n≤1099511627776)(hbase:base≤w.heap.size)
  (h:∀ v' w',w'.ownsRow base e 1 v' (n+1) (xs++[u])→w.grownBy w' v.ownBlock→(v'.ownBlock=v.ownBlock∨v'.ownBlock=some (w.heap.size+1))→wpList P ops Q rest (a.put o.dst v') w') :
  wpList P ops Q (o::rest) a (w.alloc (.cells #[u] e)):=by
 obtain⟨i,hi,hz,hsize,hbytes⟩:=info_parts hinfo
 refine wpList_append_own_at (w.alloc (.cells #[u] e)) hgd s x t ho base e i z 1 bytes ht hi hz hsize hbytes hzs (by decide) v n xs hs (hown.alloc _) ⟨w.heap.size,0,none⟩ 1 1 [u] hx rfl (cell_one_new _ _ _)
  (by intro y hy;rw[List.mem_singleton]at hy;rw[hy];exact h1) (by unfold maxLen;omega) ?_ (by simp;omega) ?_
 ·have:(n+1)*bytes≤(n+1)*64:=Nat.mul_le_mul_left _ hby
  omega
 ·intro v' w' ho' hg _ hat
  refine h v' w' ho' ((World.grownBy_alloc w _ _).trans hg) ?_;rcases hat with e | e
  ·exact .inl e
  ·refine .inr (by simpa using e)
theorem Zir{B:Nat}{w0 w w':World}{v:Value}{base:Nat}{e:TypeId}{size n:Nat}{xs:List Value}(h:Below B w0 w)(hown:w.ownsRow base e size v n xs)(hg:w.grownBy w' v.ownBlock)(hB:B≤base)(hs:B≤w.heap.size):Below B w0 w':=
 h.grown hg hs (fun k hk=>by have:=hown.lt k hk;omega)
theorem Ul{w b c:World}(h:Below w.heap.size w b)(k:Below b.heap.size b c):Below w.heap.size w c:=h.trans (k.mono h.size)
theorem Wg{B:Nat}{a w:World}(h:Below B a w):Below B a w.drew:=⟨h.os,h.tape,h.output,h.size,h.block⟩
theorem Zoc{B:Nat}{a w:World}(h:Below B a w)(n:Nat):Below B a (w.drewN n):=⟨h.os,h.tape,h.output,h.size,h.block⟩
def Zd(w:World)(g:Nat)(t:TypeId)(cs:Array Value):Prop:=w.heap[g]?=some (.cells cs t (0,0))
theorem Zd.inside{w:World}{g:Nat}{t:TypeId}{cs:Array Value}(h:Zd w g t cs):g<w.heap.size:=by
 apply Nat.lt_of_not_le;intro c;have e:w.heap[g]?=none:=Array.getElem?_eq_none c;unfold Zd at h;rw[e]at h;cases h
theorem Zd.read{w:World}{g:Nat}{t:TypeId}{cs:Array Value}(h:Zd w g t cs)(i:Nat):w.cell? ⟨g,i,none⟩=cs[i]?:=cell_of_row w g i cs t (0,0) h
theorem Zd.thawed{w:World}{g:Nat}{t:TypeId}{cs:Array Value}(h:Zd w g t cs)(i:Nat):w.frozen? ⟨g,i,none⟩=false:=by
 have e:w.heap[g]?=some (.cells cs t (0,0)):=h;simp[World.frozen?,e]
theorem Zd.made(w:World)(t:TypeId)(cs:Array Value):Zd (w.alloc (.cells cs t)) w.heap.size t cs:=heap_alloc_new w _
theorem Zd.alloc{w:World}{g:Nat}{t:TypeId}{cs:Array Value}(h:Zd w g t cs)(o:Obj):Zd (w.alloc o) g t cs:=by
 unfold Zd;rw[Below.heap_alloc w o g h.inside];exact h
theorem Zd.write{w:World}{g:Nat}{t:TypeId}{cs:Array Value}(h:Zd w g t cs)(i:Nat)(u:Value):Zd (w.setCell ⟨g,i,none⟩ u) g t (cs.setIfInBounds i u):=
 heap_setCell_same w g i cs t u h
theorem Zd.aside{w:World}{g:Nat}{t:TypeId}{cs:Array Value}(h:Zd w g t cs){p:Addr}(hp:g≠p.block)(u:Value):Zd (w.setCell p u) g t cs:=by
 unfold Zd;rw[Below.heap_setCell w p u g hp];exact h
theorem Zd.below{w w':World}{B g:Nat}{t:TypeId}{cs:Array Value}(h:Zd w g t cs)(hb:Below B w w')(hg:g<B):Zd w' g t cs:=by
 unfold Zd;rw[hb.block g hg];exact h
def Ziu(cs:Array Value)(f:Nat)(l:List Int):Prop:=f+l.length=cs.size∧∀ j,j<l.length→cs[f+j]?=some (.int .u8 (l.getD j 0))
theorem Ziu.next{cs:Array Value}{f:Nat}{l:List Int}(h:Ziu cs (f+1) l)(x:Int):Ziu (cs.setIfInBounds f (.int .u8 x)) f (x::l):=by
 obtain⟨h1,h2⟩:=h;refine⟨by rw[Array.size_setIfInBounds,List.length_cons];omega,fun j hj=>?_⟩;rw[List.length_cons]at hj;rw[Array.getElem?_setIfInBounds];cases j with
 |zero=>rw[if_pos (by omega),if_pos (by omega)];rfl
 |succ j=>
  rw[if_neg (by omega),show f+(j+1)=f+1+j from by omega,h2 j (by omega)];rfl
theorem Ziu.cells{w:World}{g:Nat}{t:TypeId}{cs:Array Value}{f:Nat}{l:List Int}(h:Ziu cs f l)(hw:Zd w g t cs):∀ j,j<l.length→w.cell? ⟨g,f+j,none⟩=some (.int .u8 (l.getD j 0)):=fun j hj=>by
 rw[hw.read];exact h.2 j hj
theorem Zz{w:World}{g:Nat}{t:TypeId}{a b c:Value}(h:Zd w g t #[a,b,c]):w.cell? ⟨g,0,none⟩=some a∧w.cell? ⟨g,1,none⟩=some b∧w.cell? ⟨g,2,none⟩=some c ∧
  w.frozen? ⟨g,0,none⟩=false∧w.frozen? ⟨g,1,none⟩=false∧w.frozen? ⟨g,2,none⟩=false:=
 ⟨by rw[h.read];rfl,by rw[h.read];rfl,by rw[h.read];rfl,h.thawed 0,h.thawed 1,h.thawed 2⟩
structure Two(w:World)(t:TypeId)(cs:Array Value)(u:TypeId)(ds:Array Value)(x:World):Prop where
 k0:Zd x w.heap.size t cs
 k1:Zd x (w.heap.size+1) u ds
 below:Below w.heap.size w x
theorem Two.start(w:World)(t:TypeId)(cs:Array Value)(u:TypeId)(ds:Array Value):Two w t cs u ds ((w.alloc (.cells cs t)).alloc (.cells ds u)):=by
 refine⟨(Zd.made _ _ _).alloc _,?_,((Below.refl _ _).alloc (Nat.le_refl _) _).alloc (by simp) _⟩;have:=Zd.made (w.alloc (.cells cs t)) u ds;simpa using this
theorem Two.next{w x y:World}{t u:TypeId}{cs ds:Array Value}(h:Two w t cs u ds x)(hb:Below x.heap.size x y):Two w t cs u ds y:=
 ⟨h.k0.below hb h.k0.inside,h.k1.below hb h.k1.inside,h.below.trans (hb.mono h.below.size)⟩
theorem Two.drew{w x:World}{t u:TypeId}{cs ds:Array Value}(h:Two w t cs u ds x):Two w t cs u ds x.drew:=
 ⟨h.k0,h.k1,h.below.drew⟩
def Zhg(w:World)(A:Option Addr)(cs:List Value):Prop:=
 cs=[]∨∃ x,A=some x∧x.block<w.heap.size∧∀ j,j<cs.length→w.cell? (x.add j)=cs[j]?
theorem Zhg.below{w w':World}{A:Option Addr}{cs:List Value}(h:Zhg w A cs)(hb:Below w.heap.size w w'):Zhg w' A cs:=by
 rcases h with h | ⟨x,rfl,hx,hc⟩
 ·exact .inl h
 ·refine .inr ⟨x,rfl,Nat.lt_of_lt_of_le hx hb.size,fun j hj=>?_⟩
  rw[hb.cell (p:=x.add j) (by unfold Addr.add;split<;>exact hx)];exact hc j hj
theorem Zhg.alloc{w:World}{A:Option Addr}{cs:List Value}(h:Zhg w A cs)(o:Obj):Zhg (w.alloc o) A cs:=h.below ((Below.refl _ _).alloc (Nat.le_refl _) o)
theorem Zhg.at_{w:World}{A:Option Addr}{cs:List Value}(h:Zhg w A cs)(hn:0<cs.length):∃ x,A=some x∧x.block<w.heap.size∧∀ j,j<cs.length→w.cell? (x.add j)=cs[j]?:=by
 rcases h with h | h
 ·rw[h]at hn;simp at hn
 ·exact h
theorem Zfl.reads{w:World}{A:Option Addr}{cs:List Value}(h:Zfl w w.heap.size A cs):Zhg w A cs:=by
 rcases h with h | ⟨g,off,rfl,hg,hc⟩
 ·exact .inl h
 ·exact .inr ⟨⟨g,off,none⟩,rfl,hg,fun j hj=>by rw[Addr.add_lit];exact hc j hj⟩
theorem Zhg.made(w:World)(cs:Array Value)(t:TypeId):Zhg (w.alloc (.cells cs t)) (some ⟨w.heap.size,0,none⟩) cs.toList:=by
 refine .inr ⟨_,rfl,by simp,fun j hj=>?_⟩;rw[Addr.add_lit,(Zd.made w t cs).read,Nat.zero_add];simp
theorem strCells_str(l:List Int)(hl:∀ x ∈ l,0≤x∧x<256):Lib.strCells (strOfNums l)=l.map (Value.int .u8):=by
 have e:(strOfNums l).data.toList.map (fun c:UInt8=>(c.toNat:Int))=l:=by
  rw[strOfNums_data,List.map_map];conv=>rhs;rw[←List.map_id l]
  apply List.map_congr_left;intro x hx;have:=hl x hx;simp;omega
 unfold Lib.strCells;conv=>rhs;rw[←e,List.map_map]
 rfl
end Go.Proofs.YtljdgdphldckhaaGreat
