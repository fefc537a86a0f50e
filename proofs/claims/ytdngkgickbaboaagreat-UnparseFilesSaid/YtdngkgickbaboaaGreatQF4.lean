/- Parts of the proof. No conditions but those that each names. -/
import Derived.Deep.QuietTactic
import Derived.BigQuiet
import Derived.Test.YtdngkgickbaboaaGreatQF2
import Derived.Test.YtdngkgickbaboaaGreatQF3
set_option maxRecDepth 20000
set_option maxHeartbeats 12800000
set_option linter.unusedVariables false
set_option linter.unusedSimpArgs false
namespace Go.Proofs.YtdngkgickbaboaaGreat
open Go.Value renaming int→I,slice→Λ,pointer→Ω,string→Ψ
open Go.IntKind renaming i64→J
open _root_.Go.Proofs.Tryz renaming prog→Φ
open Nat renaming le_refl→Θ
open Nat renaming le_trans→Ξ
open And renaming intro→ζ
open Go.Ending renaming returned→η
open Go
inductive Tr (s:ByteArray):Nat→List TokV→Prop
 |fin:∀ a,a=s.size→Tr s a [Zpe s a]
 |skip:∀ a b L,a<b→Tr s b L→Tr s a L
 |tok:∀ a L,a<s.size→0<(Yj (Zl s a)).1→Bd s a→Tr s (a+(Yj (Zl s a)).2.2.2) L→Tr s a (Zgz s a::L)
theorem Zjf(s:ByteArray):∀(b a:Nat)(acc L:List TokV)(E:Int)(p:Nat),s.size≤a+b→a≤s.size→Bd s a→Zaa s a acc=(L,E,p) →
  (E=0→∃ L',L=acc++L'∧Tr s a L')∧(E≠0→L=[]∧Bd s p)
 |0,a,acc,L,E,p,h,h1,hB,hs=>by
  rw[Zom s acc (by omega)]at hs;injection hs with e1 e2;injection e2 with e2 e3;exact⟨fun _=>⟨_,e1.symm,Tr.fin a (by omega)⟩,fun c=>absurd e2.symm c⟩
 |b+1,a,acc,L,E,p,h,h1,hB,hs=>by
  by_cases ha:a<s.size
  ·cases hbl:Ziq (gB s a:Int)with
   |true=>
    rw[Zdy s acc ha hbl]at hs;obtain⟨i1,i2⟩:=Zjf s b (a+1) acc L E p (by omega) (by omega) (Bd.behind ha (by rw[Zex]at hbl;omega)) hs;refine⟨fun e=>?_,i2⟩;obtain⟨L',hL,ht⟩:=i1 e;exact⟨L',hL,Tr.skip a (a+1) L' (by omega) ht⟩
   |false=>
    by_cases hk:(Yj (Zl s a)).1 < -1
    ·rw[Zol s acc ha hbl hk]at hs
     injection hs with e1 e2;injection e2 with e2 e3;refine⟨fun c=>?_,fun _=>⟨e1.symm,e3 ▸ hB⟩⟩;have:=errE_is (Yj (Zl s a)).1;omega
    ·have hadv:=Zcm s ha (by omega)
     by_cases hr:(Yj (Zl s a)).1 = -1
     ·rw[Zok s acc ha hbl hr]at hs
      obtain⟨i1,i2⟩:=Zjf s b _ acc L E p (by omega) hadv.2 (rem_bd s ha hr) hs;refine⟨fun e=>?_,i2⟩;obtain⟨L',hL,ht⟩:=i1 e;exact⟨L',hL,Tr.skip a _ L' (by omega) ht⟩
     ·have hpos:0<(Yj (Zl s a)).1:=by
            have:=(Zjd (Zl s a) (Zhf s ha)).2.2.2.2.1;omega
      rw[Zoj s acc ha hbl hpos]at hs;obtain⟨i1,i2⟩:=Zjf s b _ (acc++[Zgz s a]) L E p (by omega) hadv.2 (tok_bd s ha hpos) hs;refine⟨fun e=>?_,i2⟩;obtain⟨L',hL,ht⟩:=i1 e;exact⟨Zgz s a::L',by rw[hL];simp,Tr.tok a L' ha hpos hB ht⟩
  ·exact Zjf s 0 a acc L E p (by omega) h1 hB hs
theorem Tr.up{s:ByteArray}{a:Nat}{L:List TokV}(h:Tr s a L) :
  (∀ v ∈ L,a≤v.p∧Bd s v.p∧v.line=(Zu s (v.p:Int)).1∧v.col=(Zu s (v.p:Int)).2)∧L.Pairwise (fun u v=>u.p<v.p):=by
 induction h with
 |fin a ha=>
  subst ha;refine⟨fun v hv=>?_,by simp⟩;simp at hv;subst hv;exact⟨Θ _,Bd.end_ s,rfl,rfl⟩
 |skip a b L hab _ ih=>exact⟨fun v hv=>⟨by have:=(ih.1 v hv).1;omega,(ih.1 v hv).2⟩,ih.2⟩
 |tok a L ha hk hB _ ih=>
  have hadv:=Zcm s ha (by omega);refine⟨fun v hv=>?_,?_⟩
  ·rcases List.mem_cons.1 hv with rfl | hv
   ·exact⟨Θ _,hB,rfl,rfl⟩
   ·exact⟨by have:=(ih.1 v hv).1;omega,(ih.1 v hv).2⟩
  ·rw[List.pairwise_cons]
   refine⟨fun v hv=>?_,ih.2⟩;have:=(ih.1 v hv).1;show a<v.p;omega
theorem Tr.before{s:ByteArray}{a:Nat}{L:List TokV}(h:Tr s a L){m:Nat}(hm:m+1<L.length) :
  (L[m]'(by omega)).line<(L[m+1]'hm).line∨(L[m]'(by omega)).line=(L[m+1]'hm).line∧(L[m]'(by omega)).col<(L[m+1]'hm).col:=by
 obtain⟨h1,h2⟩:=h.up;have hp:=List.pairwise_iff_getElem.1 h2 m (m+1) (by omega) hm (by omega);have u:=h1 _ (List.getElem_mem (show m<L.length by omega));have v:=h1 _ (List.getElem_mem hm);have:=place_lt u.2.1 v.2.1 hp;rw[u.2.2.1,u.2.2.2,v.2.2.1,v.2.2.2];exact this
def txt(v:TokV):List Int:=if v.k=3 then 34::(bL v.t++[34])else bL v.t
def wrL(L:List TokV):List Int:=L.flatMap fun v=>txt v++[32]
theorem wrL_cons(v:TokV)(L:List TokV):wrL (v::L)=txt v++32::wrL L:=by unfold wrL;simp
theorem name_no10(X:List Int)(hX:∀ x ∈ X,0≤x∧x<256)(h:Zdn (strOfNums X)=true):∀ x ∈ X,x≠10:=by
 intro x hx h10;subst h10;obtain⟨i,hi,he⟩:=List.mem_iff_getElem.1 hx;have hz:(strOfNums X).size=X.length:=strOfNums_size X;have hb:bL (strOfNums X)=X:=Zmx X hX;have hg:=Zlf (strOfNums X) i (by omega);rw[hb,List.getElem?_eq_getElem hi,he]at hg
 have hg10:gB (strOfNums X) i=10:=by
  have:=Option.some.inj hg;omega
 have hm:=ascii_rune (strOfNums X) i (by omega) (by omega);rw[hg10]at hm;unfold Zdn at h;simp only[Bool.and_eq_true]at h;have hin:=List.all_eq_true.1 h.1.1.2 _ hm;simp[Zci,Zhv]at hin
def GoodT(v:TokV):Prop:=∃ l:List Int,0<(Yj l).1∧v.k=(Yj l).1∧txt v=l.take (Yj l).2.2.2∧v.t=strOfNums ((l.take (Yj l).2.2.1).drop (Yj l).2.1)∧v.n=Zec (Yj l).1 l∧(∀ x ∈ txt v,0≤x∧x<256∧x≠10)∧(txt v).length=(Yj l).2.2.2
theorem tok_parts(l:List Int)(h:0<(Yj l).1)(hl:∀ x ∈ l,0≤x∧x<256):(if(Yj l).1=3 then 34::((l.take (Yj l).2.2.1).drop (Yj l).2.1++[34])else(l.take (Yj l).2.2.1).drop (Yj l).2.1)=l.take (Yj l).2.2.2∧∀ x ∈ l.take (Yj l).2.2.2,x≠10:=by
 cases l with
 |nil=>simp[Yj]at h
 |cons c m=>
  revert h
  refine Zaq c m (fun x=>0<x.1→(if x.1=3 then 34::(((c::m).take x.2.2.1).drop x.2.1++[34])else((c::m).take x.2.2.1).drop x.2.1)=(c::m).take x.2.2.2∧∀ y ∈ (c::m).take x.2.2.2,y≠10) ?_ ?_ ?_ ?_ ?_ ?_ ?_ ?_
  ·intro hs _
   refine⟨by rw[if_neg (by simp)];rfl,fun y hy=>?_⟩;have:=Zqa Zbl (c::m) y hy;rw[Zgb]at this;omega
  ·intro hs h2 h3 _
   refine⟨by rw[if_neg (by simp)];rfl,fun y hy=>?_⟩;have:=Zqa isD (c::m) y hy;rw[Zcw]at this;omega
  ·intro _ _ h;simp at h
  ·intro _ h;simp at h
  ·intro hc hlt hnm _
   subst hc;dsimp only;rcases tw_end (Xn 34) m with he | ⟨x,hx,hxp⟩
   ·omega
   ·have hx34:x=34:=by
     rcases Decidable.em (x=34)with e | e
     ·exact e
     ·rw[(Zcq 34 x).2 e]at hxp;cases hxp
    subst hx34;have hn10:=name_no10 _ (fun y hy=>hl y (List.mem_cons_of_mem _ (List.mem_of_mem_take hy))) hnm;generalize tw (Xn 34) m=n at *;have hm1:m.take (n+1)=m.take n++[34]:=by rw[List.take_add_one,hx];rfl
    refine⟨?_,?_⟩
    ·rw[if_pos rfl,List.take_succ_cons,List.take_succ_cons,List.drop_succ_cons,List.drop_zero,hm1]
    ·intro y hy
     rw[List.take_succ_cons,hm1]at hy;rcases List.mem_cons.1 hy with rfl | hy
     ·decide
     ·rcases List.mem_append.1 hy with hy | hy
      ·exact hn10 y hy
      ·simp at hy;omega
  ·intro _ _ h;simp at h
  ·intro h1 h2 h3 h4 h5 _
   refine⟨by rw[if_neg (by simp)];rfl,fun y hy=>?_⟩;dsimp only at hy
   have hc:c≠10:=by
    rintro rfl;rw[Zhi,if_neg (by simp),if_neg (by decide)]at h5;exact h5 rfl
   rw[Zhi]at hy;split at hy
   ·rename_i e1
    cases m with
    |nil=>simp at e1
    |cons d m'=>
     have hd:d=61:=by simpa using e1.2
     rcases List.mem_cons.1 hy with rfl | hy
     ·exact hc
     ·simp at hy;omega
   ·split at hy
    ·simp at hy;omega
    ·simp at hy
  ·intro _ _ _ _ _ h;simp at h
theorem good_tok(s:ByteArray){a:Nat}(ha:a<s.size)(hk:0<(Yj (Zl s a)).1):GoodT (Zgz s a):=by
 have hb:=Zjd (Zl s a) (Zhf s ha);rw[Xt]at hb;have hrange:∀ x ∈ Zl s a,0≤x∧x<256:=fun x hx=>Zke s x (List.mem_of_mem_drop hx)
 obtain⟨p1,p2⟩:=tok_parts (Zl s a) hk hrange
 have ht:(Zgz s a).t=strOfNums (((Zl s a).take (Yj (Zl s a)).2.2.1).drop (Yj (Zl s a)).2.1):=by
  have e:=Zhx s (a+(Yj (Zl s a)).2.1) ((Yj (Zl s a)).2.2.1 - (Yj (Zl s a)).2.1) (by omega);rw[show a+(Yj (Zl s a)).2.1+((Yj (Zl s a)).2.2.1 - (Yj (Zl s a)).2.1)=a+(Yj (Zl s a)).2.2.1 from by omega]at e;show s.extract _ _=_;rw[e,List.drop_take];unfold Zl;rw[List.drop_drop]
 have hx:txt (Zgz s a)=(Zl s a).take (Yj (Zl s a)).2.2.2:=by
  have hbl:bL (Zgz s a).t=((Zl s a).take (Yj (Zl s a)).2.2.1).drop (Yj (Zl s a)).2.1:=by
   rw[ht,Zmx _ (fun x hx=>hrange x (List.mem_of_mem_take (List.mem_of_mem_drop hx)))]
  unfold txt;rw[hbl,←p1];rfl
 refine⟨Zl s a,hk,rfl,hx,ht,rfl,fun x hxx=>?_,?_⟩
 ·rw[hx]at hxx
  have:=hrange x (List.mem_of_mem_take hxx);exact⟨this.1,this.2,p2 x hxx⟩
 ·rw[hx,List.length_take,Xt];omega
inductive Sh:List TokV→Prop
 |fin:∀ v:TokV,v.k=0→v.t=⟨#[]⟩→v.n=0→Sh [v]
 |tok:∀ v L,GoodT v→Sh L→Sh (v::L)
theorem Tr.sh{s:ByteArray}{a:Nat}{L:List TokV}(h:Tr s a L):Sh L:=by
 induction h with
 |fin a ha=>exact Sh.fin _ rfl rfl rfl
 |skip _ _ _ _ _ ih=>exact ih
 |tok a L ha hk _ _ ih=>exact Sh.tok _ _ (good_tok s ha hk) ih
theorem Tr.size{s:ByteArray}{a:Nat}{L:List TokV}(h:Tr s a L):(wrL L).length+2*a≤2*s.size+1:=by
 induction h with
 |fin a ha=>
  subst ha
  have:wrL [Zpe s s.size]=[32]:=by
   unfold wrL txt Zpe;rfl
  rw[this];simp;omega
 |skip a b L hab _ ih=>omega
 |tok a L ha hk _ _ ih=>
  have hadv:=Zcm s ha (by omega)
  have hlen:(txt (Zgz s a)).length=(Yj (Zl s a)).2.2.2:=by
   obtain⟨l,g1,g2,g3,g4,g5,g6,g7⟩:=good_tok s ha hk;have hrange:∀ x ∈ Zl s a,0≤x∧x<256:=fun x hx=>Zke s x (List.mem_of_mem_drop hx)
   obtain⟨p1,_⟩:=tok_parts (Zl s a) hk hrange;have hb:=Zjd (Zl s a) (Zhf s ha);rw[Xt]at hb;have e:=congrArg List.length p1;rw[List.length_take,Xt,Nat.min_eq_left (by omega)]at e
   have hbl:(bL (Zgz s a).t).length=(Yj (Zl s a)).2.2.1 - (Yj (Zl s a)).2.1:=by
    rw[Vs];show(s.extract _ _).size=_;rw[size_extract _ _ _ (by omega)];omega
   rw[←e];unfold txt;show(if(Yj (Zl s a)).1=3 then _ else _:List Int).length=_;split
   ·simp[hbl,Xt];omega
   ·simp[hbl,Xt];omega
  rw[wrL_cons,List.length_append,List.length_cons,hlen];omega
def SimT(L M:List TokV):Prop:=L.length=M.length∧∀(i:Nat)(h:i<L.length)(h':i<M.length),(M[i]'h').k=(L[i]'h).k∧(M[i]'h').t=(L[i]'h).t∧(M[i]'h').n=(L[i]'h).n∧(M[i]'h').line=1
theorem SimT.cons{u v:TokV}{L M:List TokV}(h:SimT L M)(h1:v.k=u.k)(h2:v.t=u.t)(h3:v.n=u.n)(h4:v.line=1):SimT (u::L) (v::M):=by
 refine⟨by simp[h.1],fun i hi hi'=>?_⟩;cases i with
 |zero=>exact⟨h1,h2,h3,h4⟩
 |succ i=>exact h.2 i (by simpa using hi) (by simpa using hi')
def zTok:TokV:=⟨0,⟨#[]⟩,0,0,0,0⟩
def Zx(L:List TokV)(a:Nat):TokV:=L[a]?.getD zTok
theorem curT_get(L:List TokV)(a:Nat)(h:a<L.length):Zx L a=L[a]'h:=by unfold Zx;rw[List.getElem?_eq_getElem h];rfl
structure Zog(L:List TokV):Prop where
 pos:0<L.length
 last:∀ i,i<L.length→((Zx L i).k=0↔i+1=L.length)
 num:∀ i,0≤(Zx L i).n∧(Zx L i).n≤99
theorem numOf_bd(l:List Int):0≤Zec (Yj l).1 l∧Zec (Yj l).1 l≤99:=by
 cases l with
 |nil=>simp[Yj,Zec]
 |cons c r=>
  refine Zaq c r (fun x=>0≤Zec x.1 (c::r)∧Zec x.1 (c::r)≤99) ?_ ?_ ?_ ?_ ?_ ?_ ?_ ?_
  case refine_2=>
   intro h1 h2 _
   have hd:∀ x ∈ Wc (c::r),48≤x∧x≤57:=by
    intro x hx;rw[firstD_tw]at hx;exact(Zcw x).1 (Zqa isD _ x hx)
   have hv:=Zcl _ hd;have hl:(Wc (c::r)).length≤2:=by rw[Zfh];exact h2
   have hp:(10:Int) ^ (Wc (c::r)).length≤100:=by
    generalize(Wc (c::r)).length=n at hl;match n,hl with
    |0,_=>decide
    |1,_=>decide
    |2,_=>decide
   show 0≤Zec 2 (c::r)∧Zec 2 (c::r)≤99;unfold Zec;rw[if_pos rfl];omega
  all_goals(intros;simp[Zec])
theorem Zlw(v:TokV)(L:List TokV)(i:Nat):Zx (v::L) (i+1)=Zx L i:=by unfold Zx;simp
theorem Zgw(v:TokV)(L:List TokV):Zx (v::L) 0=v:=by unfold Zx;simp
theorem Sh.ends{L:List TokV}(h:Sh L):Zog L:=by
 induction h with
 |fin v hk ht hn=>
  refine⟨by simp,fun i hi=>?_,fun i=>?_⟩
  ·obtain rfl:i=0:=by simp at hi;exact hi
   rw[Zgw];simp[hk]
  ·cases i with
   |zero=>rw[Zgw,hn];decide
   |succ i=>rw[Zlw];simp[Zx,zTok]
 |tok v L hg hL ih=>
  obtain⟨l,g1,g2,g3,g4,g5,g6,g7⟩:=hg;refine⟨by simp,fun i hi=>?_,fun i=>?_⟩
  ·cases i with
   |zero=>
    have:=ih.pos;rw[Zgw,List.length_cons];constructor
    ·intro h;omega
    ·intro h;omega
   |succ i=>
    rw[Zlw,List.length_cons];have:=ih.last i (by simpa using hi);rw[this];omega
  ·cases i with
   |zero=>rw[Zgw,g5];exact numOf_bd l
   |succ i=>rw[Zlw];exact ih.num i
theorem Tr.len{s:ByteArray}{a:Nat}{L:List TokV}(h:Tr s a L):L.length+a≤s.size+1:=by
 induction h with
 |fin a ha=>simp;omega
 |skip a b L hab _ ih=>omega
 |tok a L ha hk _ _ ih=>
  have:=Zcm s ha (by omega);rw[List.length_cons];omega
def onA(L:List TokV)(a:Nat):Nat:=if(Zx L a).k=0 then a else a+1
theorem Zog.on{L:List TokV}(h:Zog L){a:Nat}(ha:a<L.length):onA L a<L.length:=by
 unfold onA;split
 ·exact ha
 ·rename_i hk
  have:¬(a+1=L.length):=fun e=>hk ((h.last a ha).2 e)
  omega
theorem Zog.on'{L:List TokV}(h:Zog L){a:Nat}(ha:a<L.length):onA L a=if(a:Int)<(L.length:Int) - 1 then a+1 else a:=by
 unfold onA;have:=h.last a ha;split
 ·rw[if_neg (by omega)]
 ·rw[if_pos (by omega)]
def isT(v:TokV)(t:ByteArray):Bool:=(v.k == 1 || v.k == 4) && (v.t.toList == t.toList)
def wrF(v:TokV):Int×Nat×Nat:=if v.k=0 then(2,v.line,v.col)else(7,v.line,v.col)
def okF:Int×Nat×Nat:=(0,0,0)
def Znt:ByteArray:=⟨#[45]⟩
def Zck(L:List TokV)(a:Nat)(t:ByteArray):Nat:=if isT (Zx L a) t=true then onA L a else a
def wantF(L:List TokV)(a:Nat)(t:ByteArray):Int×Nat×Nat:=if isT (Zx L a) t=true then okF else wrF (Zx L a)
def Vz(L:List TokV)(a:Nat)(k:Int):Nat:=if(Zx L a).k=k then onA L a else a
def Wl(L:List TokV)(a:Nat)(k:Int):Int×Nat×Nat:=if(Zx L a).k=k then okF else wrF (Zx L a)
def Zkh(L:List TokV)(a:Nat):Int:=if(Zx L a).k=2 then(Zx L a).n else 0
def Zmd(L:List TokV)(a:Nat):ByteArray:=if(Zx L a).k=3 then(Zx L a).t else⟨#[]⟩
def Zem(L:List TokV)(a:Nat):Nat:=if isT (Zx L a) Znt=true then(if(Zx L (onA L a)).k=2 then onA L (onA L a)else a)else Vz L a 2
def Zkc(L:List TokV)(a:Nat):Int:=if isT (Zx L a) Znt=true then(if(Zx L (onA L a)).k=2 then - (Zx L (onA L a)).n else 0)else Zkh L a
def Zbp(L:List TokV)(a:Nat):Int×Nat×Nat:=if isT (Zx L a) Znt=true then Wl L (onA L a) 2 else Wl L a 2
def Zdd(d:Nat):Nat:=if d=8 then 8 else d+1
def Zab(L:List TokV)(a d:Nat):Int×Nat×Nat:=if d=8 then(8,(Zx L a).line,(Zx L a).col)else okF
theorem Zid(v:TokV):(wrF v).1≠0:=by unfold wrF;split<;>simp
structure Fl where
 kind:Int
 op:Int
 n:Int
 name:ByteArray
structure Se where
 kind:Int
 side:Int
 wh:Int
 lane:Int
 fs:List Fl
 pick:Int
def zSe:Se:=⟨0,0,0,0,[],0⟩
inductive Ex where
 |leaf (kind n:Int) (sel:Se) (side tk tl:Int)
 |bin (op:Int) (l r:Ex)
def zEx:Ex:=.leaf 0 0 zSe 0 0 0
structure AH where
 kind:Int
 line:Int
 col:Int
 sel:Se
 num:Ex
 side:Int
 tk:Int
 tl:Int
 how:Int
 name:ByteArray
 cop:Int
 cl:Ex
 cr:Ex
def AH.zero(k l c:Int):AH:=⟨k,l,c,zSe,zEx,0,0,0,0,⟨#[]⟩,0,zEx,zEx⟩
inductive Acs where
 |nil
 |cons (h:AH) (thn els rest:Acs)
def Acs.len:Acs→Nat
 |.nil=>0
 |.cons _ _ _ r=>r.len+1
def Acs.app:Acs→Acs→Acs
 |.nil,y=>y
 |.cons h t e r,y=>.cons h t e (r.app y)
structure Ru where
 when_:Int
 stratum:Int
 line:Int
 col:Int
 acts:Acs
structure Ca where
 name:ByteArray
 cost:Int
 power:Int
 line:Int
 col:Int
 rules:List Ru
structure Pl where
 name:ByteArray
 line:Int
 col:Int
 rules:List Ru
structure Fi where
 cards:List Ca
 places:List Pl
theorem Acs.app_nil:∀ x:Acs,x.app .nil=x
 |.nil=>rfl
 |.cons h t e r=>by rw[Acs.app,Acs.app_nil r]
theorem Acs.app_assoc(y z:Acs):∀ x:Acs,(x.app y).app z=x.app (y.app z)
 |.nil=>rfl
 |.cons h t e r=>by rw[Acs.app,Acs.app,Acs.app,Acs.app_assoc y z r]
theorem Acs.len_app(y:Acs):∀ x:Acs,(x.app y).len=x.len+y.len
 |.nil=>by rw[Acs.app,Acs.len];omega
 |.cons h t e r=>by rw[Acs.app,Acs.len,Acs.len,Acs.len_app y r];omega
def Yo:List ByteArray:=[⟨#[109,101]⟩,⟨#[105,116]⟩,⟨#[40]⟩]
def Zg:List ByteArray:=[⟨#[109,105,110,101]⟩,⟨#[116,104,101,105,114,115]⟩,⟨#[98,111,116,104]⟩]
def Zz:List ByteArray:=[⟨#[104,101,114,101]⟩,⟨#[97,119,97,121]⟩,⟨#[108,97,110,101]⟩,⟨#[97,110,121,119,104,101,114,101]⟩]
def Yg:List ByteArray:=[⟨#[99,111,115,116]⟩,⟨#[112,111,119,101,114]⟩,⟨#[110,97,109,101,100]⟩,⟨#[110,111,116]⟩]
def Vk:List ByteArray:=[⟨#[109,101]⟩,⟨#[105,116]⟩]
def Wo:List ByteArray:=[⟨#[97,108,108]⟩,⟨#[102,105,114,115,116]⟩,⟨#[108,97,115,116]⟩,⟨#[119,101,97,107,101,115,116]⟩,⟨#[115,116,114,111,110,103,101,115,116]⟩]
def wTo:List ByteArray:=[⟨#[104,101,114,101]⟩,⟨#[108,101,102,116]⟩,⟨#[114,105,103,104,116]⟩,⟨#[108,97,110,101]⟩]
def Zde:List ByteArray:=[⟨#[102,105,114,115,116]⟩,⟨#[108,97,115,116]⟩,⟨#[99,104,101,97,112,101,115,116]⟩,⟨#[99,111,115,116,108,105,101,115,116]⟩]
def wOp:List ByteArray:=[⟨#[60]⟩,⟨#[60,61]⟩,⟨#[61]⟩,⟨#[33,61]⟩,⟨#[62,61]⟩,⟨#[62]⟩]
def Zai:List ByteArray:=[⟨#[43]⟩,⟨#[45]⟩]
def Yy:List ByteArray:=[⟨#[99,111,117,110,116]⟩,⟨#[115,117,109]⟩,⟨#[114,111,117,110,100]⟩,⟨#[104,97,110,100]⟩,⟨#[102,114,101,101]⟩]
def Xr:List ByteArray:=[⟨#[112,111,119,101,114]⟩,⟨#[115,101,116]⟩,⟨#[100,101,115,116,114,111,121]⟩,⟨#[109,111,118,101]⟩,⟨#[114,101,116,117,114,110]⟩,⟨#[115,112,97,119,110]⟩,⟨#[100,114,97,119]⟩,⟨#[100,105,115,99,97,114,100]⟩,⟨#[101,110,101,114,103,121]⟩,⟨#[105,102]⟩,⟨#[101,97,99,104]⟩,⟨#[97,117,114,97]⟩,⟨#[100,111,117,98,108,101]⟩,⟨#[115,104,105,101,108,100]⟩,⟨#[98,97,114]⟩]
def Yx:List ByteArray:=[⟨#[114,101,118,101,97,108]⟩,⟨#[100,101,97,116,104]⟩,⟨#[109,111,118,101,100]⟩,⟨#[101,110,100]⟩,⟨#[97,108,119,97,121,115]⟩,⟨#[101,110,116,101,114]⟩]
def Xs:List ByteArray:=[⟨#[99,97,114,100]⟩,⟨#[112,108,97,99,101]⟩]
def Va:ByteArray:=⟨#[42]⟩
def Ws:ByteArray:=⟨#[40]⟩
def Vb:ByteArray:=⟨#[41]⟩
def Yv:ByteArray:=⟨#[123]⟩
def Xi:ByteArray:=⟨#[125]⟩
def Xj:ByteArray:=⟨#[59]⟩
def Jf:ByteArray:=⟨#[101,108,115,101]⟩
def Zcn:ByteArray:=⟨#[99,111,115,116]⟩
def Zcd:ByteArray:=⟨#[112,111,119,101,114]⟩
def sMe:ByteArray:=⟨#[109,101]⟩
def sIt:ByteArray:=⟨#[105,116]⟩
inductive St where
 |ok (a d:Nat)
 |bad (F:Int×Nat×Nat)
def St.good:St→Bool
 |.ok _ _=>true
 |.bad _=>false
def Jr(F:Int×Nat×Nat):St→St
 |.ok a d=>if F.1=0 then .ok a d else .bad F
 |.bad G=>.bad G
def Zar(v:TokV):List ByteArray→Nat
 |[]=>0
 |t::r=>if isT v t=true then 1 else if Zar v r=0 then 0 else Zar v r+1
section
variable (L:List TokV)
def St.tok:St→TokV
 |.ok a _=>Zx L a
 |.bad _=>zTok
def Zjb:St→St
 |.ok a d=>.bad (wrF (Zx L a))
 |.bad F=>.bad F
def isS(t:ByteArray):St→Bool
 |.ok a _=>isT (Zx L a) t
 |.bad _=>false
def Wf(t:ByteArray):St→St
 |.ok a d=>.ok (Zck L a t) d
 |.bad F=>.bad F
def Yb(t:ByteArray)(st:St):St:=if isS L t st=true then Wf L t st else Zjb L st
def Zfe:St→Int
 |.ok a _=>Zkh L a
 |.bad _=>0
def Zba:St→St
 |.ok a d=>Jr (Wl L a 2) (.ok (Vz L a 2) d)
 |.bad F=>.bad F
def Zdc:St→ByteArray
 |.ok a _=>Zmd L a
 |.bad _=>⟨#[]⟩
def Vf:St→St
 |.ok a d=>Jr (Wl L a 3) (.ok (Vz L a 3) d)
 |.bad F=>.bad F
def Zbe:St→Int
 |.ok a _=>Zkc L a
 |.bad _=>0
def Zae:St→St
 |.ok a d=>Jr (Zbp L a) (.ok (Zem L a) d)
 |.bad F=>.bad F
def Zh(ws:List ByteArray):St→Nat
 |.ok a _=>Zar (Zx L a) ws
 |.bad _=>0
def Yd(ws:List ByteArray):St→St
 |.ok a d=>if Zar (Zx L a) ws=0 then .ok a d else .ok (onA L a) d
 |.bad F=>.bad F
def Zp(ws:List ByteArray)(st:St):St:=if Zh L ws st=0 then Zjb L st else Yd L ws st
def Ziu(t:ByteArray):St→St
 |.ok a d=>if isT (Zx L a) t=true then Jr (Zab L a d) (.ok a (Zdd d))else .ok a d
 |.bad F=>.bad F
def upS:St→St
 |.ok a d=>.ok a (d - 1)
 |.bad F=>.bad F
def Vw(t:ByteArray)(st:St):St:=Yb L t (Ziu L t st)
def Zhe(t:ByteArray)(st:St):St:=upS (Yb L t st)
def Xp:St→St
 |.ok a d=>if(Zx L a).k=0 then .ok a d else .bad (wrF (Zx L a))
 |.bad F=>.bad F
def Zw:St→Nat
 |.ok a _=>L.length - a
 |.bad _=>0
end
section
variable (nk:Int) (L:List TokV)
def Vj(k:Nat)(s:St):Fl×St:=
 if k=1∨k=2 then(⟨k,Zh L wOp s,Zbe L (Zp L wOp s),⟨#[]⟩⟩,Zae L (Zp L wOp s))
 else if k=3 then(⟨3,0,0,Zdc L s⟩,Vf L s)
 else(⟨if Zh L Vk s=0 then nk else 3+(Zh L Vk s:Int),0,0,⟨#[]⟩⟩,Zp L Vk s)
def Yf:Nat→St→List Fl×St
 |0,st=>([],st)
 |n+1,st=>
  if Zh L Yg st=0 then([],st)
  else
   ((Vj nk L (Zh L Yg st) (Yd L Yg st)).1::(Yf n (Vj nk L (Zh L Yg st) (Yd L Yg st)).2).1,
     (Yf n (Vj nk L (Zh L Yg st) (Yd L Yg st)).2).2)
def Jo(st:St):Int×Int×Int:=(Zh L Zg st,Zh L Zz (Zp L Zg st),if Zh L Zz (Zp L Zg st)=3 then Zfe L (Zp L Zz (Zp L Zg st))else 0)
def Zcj(st:St):St:=if Zh L Zz (Zp L Zg st)=3 then Zba L (Zp L Zz (Zp L Zg st))else Zp L Zz (Zp L Zg st)
def Wa(n:Nat)(st:St):Se×St:=
 if Zh L Yo st=3 then
  (⟨3,(Jo L (Zp L Yo st)).1,(Jo L (Zp L Yo st)).2.1,(Jo L (Zp L Yo st)).2.2,(Yf nk L n (Zcj L (Zp L Yo st))).1,
     Zh L Wo (Yf nk L n (Zcj L (Zp L Yo st))).2⟩,
    Yb L Vb (Zp L Wo (Yf nk L n (Zcj L (Zp L Yo st))).2))
 else(⟨Zh L Yo st,0,0,0,[],0⟩,Zp L Yo st)
def toK(st:St):Int:=Zh L wTo st
def toL(st:St):Int:=if Zh L wTo st=4 then Zfe L (Zp L wTo st)else 0
def toS(st:St):St:=if Zh L wTo st=4 then Zba L (Zp L wTo st)else Zp L wTo st
mutual
def Yh:Nat→St→Ex×St
 |0,st=>(zEx,st)
 |n+1,st=>Jl n (Vl n st)
def Jl:Nat→Ex×St→Ex×St
 |0,x=>x
 |n+1,x=>
  if Zh L Zai x.2=0 then x
  else Jl n (.bin (Zh L Zai x.2) x.1 (Vl n (Yd L Zai x.2)).1,(Vl n (Yd L Zai x.2)).2)
def Vl:Nat→St→Ex×St
 |0,st=>(zEx,st)
 |n+1,st=>Jj n (Wp n st)
def Jj:Nat→Ex×St→Ex×St
 |0,x=>x
 |n+1,x=>
  if isS L Va x.2=true then Jj n (.bin 3 x.1 (Wp n (Wf L Va x.2)).1,(Wp n (Wf L Va x.2)).2)
  else x
def Wp:Nat→St→Ex×St
 |0,st=>(zEx,st)
 |n+1,st=>
  if isS L Ws st=true then((Yh n (Vw L Ws st)).1,Zhe L Vb (Yh n (Vw L Ws st)).2)
  else if Zh L Yy st=0 then(.leaf 1 (Zbe L st) zSe 0 0 0,Zae L st)
  else if Zh L Yy st=1∨Zh L Yy st=2 then(.leaf (Zh L Yy st+1) 0 (Wa nk L n (Yd L Yy st)).1 0 0 0,(Wa nk L n (Yd L Yy st)).2)
  else if Zh L Yy st=3 then(.leaf 4 0 zSe 0 0 0,Yd L Yy st)
  else if Zh L Yy st=4 then(.leaf 5 0 zSe (Zh L Zg (Yd L Yy st)) 0 0,Zp L Zg (Yd L Yy st))
  else(.leaf 6 0 zSe (Zh L Zg (Yd L Yy st)) (toK L (Zp L Zg (Yd L Yy st))) (toL L (Zp L Zg (Yd L Yy st))),toS L (Zp L Zg (Yd L Yy st)))
end
def Wq(n:Nat)(h:AH)(k:Nat)(st:St):AH×St:=
 if k=1∨k=2∨k=12 then({ h with sel:=(Wa nk L n st).1,num:=(Yh nk L n (Wa nk L n st).2).1 },(Yh nk L n (Wa nk L n st).2).2)
 else if k=3∨k=5∨k=14 then({ h with sel:=(Wa nk L n st).1 },(Wa nk L n st).2)
 else if k=4 then({ h with sel:=(Wa nk L n st).1,tk:=toK L (Wa nk L n st).2,tl:=toL L (Wa nk L n st).2 },toS L (Wa nk L n st).2)
 else if k=6 then
  ({ h with name:=Zdc L st,side:=Zh L Zg (Vf L st),tk:=toK L (Zp L Zg (Vf L st)),tl:=toL L (Zp L Zg (Vf L st)),num:=(Yh nk L n (toS L (Zp L Zg (Vf L st)))).1 },
    (Yh nk L n (toS L (Zp L Zg (Vf L st)))).2)
 else if k=7∨k=9 then({ h with side:=Zh L Zg st,num:=(Yh nk L n (Zp L Zg st)).1 },(Yh nk L n (Zp L Zg st)).2)
 else if k=8 then({ h with side:=Zh L Zg st,how:=Zh L Zde (Zp L Zg st) },Zp L Zde (Zp L Zg st))
 else if k=13∨k=15 then({ h with side:=Zh L Zg st,tk:=toK L (Zp L Zg st),tl:=toL L (Zp L Zg st) },toS L (Zp L Zg st))
 else(h,st)
def Jv(n:Nat)(h:AH)(st:St):AH×St:=
 ({ h with cl:=(Yh nk L n st).1,cop:=Zh L wOp (Yh nk L n st).2,cr:=(Yh nk L n (Zp L wOp (Yh nk L n st).2)).1 },(Yh nk L n (Zp L wOp (Yh nk L n st).2)).2)
structure AO where
 h:AH
 thn:Acs
 els:Acs
 st:St
mutual
def Ww:Nat→St→Acs×St
 |0,st=>(.nil,st)
 |n+1,st=>
  if Zh L Xr st=0 then(.nil,st)
  else
   (.cons (Zcg n (AH.zero (Zh L Xr st) (st.tok L).line (st.tok L).col) (Zh L Xr st) (Yd L Xr st)).h
      (Zcg n (AH.zero (Zh L Xr st) (st.tok L).line (st.tok L).col) (Zh L Xr st) (Yd L Xr st)).thn
      (Zcg n (AH.zero (Zh L Xr st) (st.tok L).line (st.tok L).col) (Zh L Xr st) (Yd L Xr st)).els
      (Ww n (Zcg n (AH.zero (Zh L Xr st) (st.tok L).line (st.tok L).col) (Zh L Xr st) (Yd L Xr st)).st).1,
     (Ww n (Zcg n (AH.zero (Zh L Xr st) (st.tok L).line (st.tok L).col) (Zh L Xr st) (Yd L Xr st)).st).2)
def Zcg:Nat→AH→Nat→St→AO
 |0,h,_,st=>⟨h,.nil,.nil,st⟩
 |n+1,h,k,st=>
  if k=10 then
   if isS L Jf (Yu n (Jv nk L n h st).2).2=true then
    ⟨(Jv nk L n h st).1,(Yu n (Jv nk L n h st).2).1,(Yu n (Wf L Jf (Yu n (Jv nk L n h st).2).2)).1,(Yu n (Wf L Jf (Yu n (Jv nk L n h st).2).2)).2⟩
   else⟨(Jv nk L n h st).1,(Yu n (Jv nk L n h st).2).1,.nil,(Yu n (Jv nk L n h st).2).2⟩
  else if k=11 then⟨{ h with sel:=(Wa nk L n st).1 },(Yu n (Wa nk L n st).2).1,.nil,(Yu n (Wa nk L n st).2).2⟩
  else⟨(Wq nk L n h k st).1,.nil,.nil,Yb L Xj (Wq nk L n h k st).2⟩
def Yu:Nat→St→Acs×St
 |0,st=>(.nil,st)
 |n+1,st=>((Ww n (Vw L Yv st)).1,Zhe L Xi (Ww n (Vw L Yv st)).2)
end
def Zoi(k:Nat)(s:St):Int:=if k=5 then Zfe L s else 0
def Zeh(k:Nat)(s:St):St:=if k=5 then Zba L s else s
def Vg:Nat→St→List Ru×St
 |0,st=>([],st)
 |n+1,st=>
  if Zh L Yx st=0 then([],st)
  else
   (⟨Zh L Yx st,Zoi L (Zh L Yx st) (Yd L Yx st),(st.tok L).line,(st.tok L).col,(Ww nk L n (Yb L Yv (Zeh L (Zh L Yx st) (Yd L Yx st)))).1⟩ ::
      (Vg n (Yb L Xi (Ww nk L n (Yb L Yv (Zeh L (Zh L Yx st) (Yd L Yx st)))).2)).1,
     (Vg n (Yb L Xi (Ww nk L n (Yb L Yv (Zeh L (Zh L Yx st) (Yd L Yx st)))).2)).2)
def Zhl(n:Nat)(st:St):List Ru×St:=((Vg nk L n (Yb L Yv st)).1,Yb L Xi (Vg nk L n (Yb L Yv st)).2)
def Zfg(n:Nat)(line col:Int)(st:St):Ca×St:=
 (⟨Zdc L st,Zfe L (Yb L Zcn (Vf L st)),Zbe L (Yb L Zcd (Zba L (Yb L Zcn (Vf L st)))),line,col,
    (Zhl nk L n (Zae L (Yb L Zcd (Zba L (Yb L Zcn (Vf L st)))))).1⟩,
   (Zhl nk L n (Zae L (Yb L Zcd (Zba L (Yb L Zcn (Vf L st)))))).2)
def Zce(n:Nat)(line col:Int)(st:St):Pl×St:=(⟨Zdc L st,line,col,(Zhl nk L n (Vf L st)).1⟩,(Zhl nk L n (Vf L st)).2)
def Vv:Nat→St→Fi×St
 |0,st=>(⟨[],[]⟩,st)
 |n+1,st=>
  if Zh L Xs st=0 then(⟨[],[]⟩,st)
  else if Zh L Xs st=1 then
   (⟨(Zfg nk L n (st.tok L).line (st.tok L).col (Yd L Xs st)).1::(Vv n (Zfg nk L n (st.tok L).line (st.tok L).col (Yd L Xs st)).2).1.cards,
         (Vv n (Zfg nk L n (st.tok L).line (st.tok L).col (Yd L Xs st)).2).1.places⟩,
     (Vv n (Zfg nk L n (st.tok L).line (st.tok L).col (Yd L Xs st)).2).2)
  else
   (⟨(Vv n (Zce nk L n (st.tok L).line (st.tok L).col (Yd L Xs st)).2).1.cards,
         (Zce nk L n (st.tok L).line (st.tok L).col (Yd L Xs st)).1::(Vv n (Zce nk L n (st.tok L).line (st.tok L).col (Yd L Xs st)).2).1.places⟩,
     (Vv n (Zce nk L n (st.tok L).line (st.tok L).col (Yd L Xs st)).2).2)
end
theorem isT_k{v:TokV}{t:ByteArray}(h:isT v t=true):v.k≠0:=by
 unfold isT at h;intro c;rw[c]at h;simp at h
theorem idxW_k{v:TokV}:∀{ws:List ByteArray},Zar v ws≠0→v.k≠0
 |[],h=>absurd rfl h
 |t::r,h=>by
  unfold Zar at h;by_cases ht:isT v t=true
  ·exact isT_k ht
  ·rw[if_neg ht]at h
   by_cases hr:Zar v r=0
   ·rw[if_pos hr]at h;exact absurd rfl h
   ·exact idxW_k hr
theorem Zds(v:TokV):∀ ws:List ByteArray,Zar v ws≤ws.length
 |[]=>Θ _
 |t::r=>by
  have:=Zds v r;unfold Zar;rw[List.length_cons];split
  ·omega
  ·split<;>omega
theorem curT_lt{L:List TokV}{a:Nat}(h:(Zx L a).k≠0):a<L.length:=by
 apply Nat.lt_of_not_le;intro c;unfold Zx at h;rw[List.getElem?_eq_none c]at h;exact h rfl
theorem onA_le(L:List TokV)(a:Nat):L.length - onA L a≤L.length - a:=by unfold onA;split<;>omega
theorem onA_lt{L:List TokV}{a:Nat}(h:(Zx L a).k≠0):L.length - onA L a+1≤L.length - a:=by
 have:=curT_lt h;unfold onA;rw[if_neg h];omega
section
variable (L:List TokV)
theorem Znj(F:Int×Nat×Nat)(st:St):Zw L (Jr F st)≤Zw L st:=by
 cases st with
 |ok a d=>
  by_cases h:F.1=0
  ·rw[show Jr F (.ok a d)=.ok a d from if_pos h];exact Θ _
  ·rw[show Jr F (.ok a d)=.bad F from if_neg h];exact Nat.zero_le _
 |bad G=>exact Θ _
theorem rem_wrong(st:St):Zw L (Zjb L st)≤Zw L st:=by cases st<;>exact Nat.zero_le _
theorem wantA_le(a:Nat)(t:ByteArray):L.length - Zck L a t≤L.length - a:=by
 unfold Zck;split
 ·exact onA_le L a
 ·exact Θ _
theorem kindA_le(a:Nat)(k:Int):L.length - Vz L a k≤L.length - a:=by
 unfold Vz;split
 ·exact onA_le L a
 ·exact Θ _
theorem signA_le(a:Nat):L.length - Zem L a≤L.length - a:=by
 unfold Zem;split
 ·split
  ·exact Ξ (onA_le L _) (onA_le L a)
  ·exact Θ _
 ·exact kindA_le L a 2
theorem Zni(t:ByteArray)(st:St):Zw L (Wf L t st)≤Zw L st:=by
 cases st with
 |ok a d=>exact wantA_le L a t
 |bad F=>exact Θ _
theorem Zfu{t:ByteArray}{st:St}(h:isS L t st=true):Zw L (Wf L t st)+1≤Zw L st:=by
 cases st with
 |ok a d=>
  have h':isT (Zx L a) t=true:=h;show L.length - Zck L a t+1≤L.length - a;unfold Zck;rw[if_pos h'];exact onA_lt (isT_k h')
 |bad F=>cases h
theorem We(t:ByteArray)(st:St):Zw L (Yb L t st)≤Zw L st:=by
 unfold Yb;split
 ·exact Zni L t st
 ·exact rem_wrong L st
theorem rem_wanted{t:ByteArray}{st:St}(h:isS L t st=true):Zw L (Yb L t st)+1≤Zw L st:=by
 unfold Yb;rw[if_pos h];exact Zfu L h
theorem Zhq(st:St):Zw L (Zba L st)≤Zw L st:=by
 cases st with
 |ok a d=>have h:=Znj L (Wl L a 2) (.ok (Vz L a 2) d);exact Ξ h (kindA_le L a 2)
 |bad F=>exact Θ _
theorem Zav(st:St):Zw L (Vf L st)≤Zw L st:=by
 cases st with
 |ok a d=>have h:=Znj L (Wl L a 3) (.ok (Vz L a 3) d);exact Ξ h (kindA_le L a 3)
 |bad F=>exact Θ _
theorem Zij(st:St):Zw L (Zae L st)≤Zw L st:=by
 cases st with
 |ok a d=>have h:=Znj L (Zbp L a) (.ok (Zem L a) d);exact Ξ h (signA_le L a)
 |bad F=>exact Θ _
theorem Zet(ws:List ByteArray)(st:St):Zw L (Yd L ws st)≤Zw L st:=by
 cases st with
 |ok a d=>
  by_cases h:Zar (Zx L a) ws=0
  ·rw[show Yd L ws (.ok a d)=.ok a d from if_pos h];exact Θ _
  ·rw[show Yd L ws (.ok a d)=.ok (onA L a) d from if_neg h];exact onA_le L a
 |bad F=>exact Θ _
theorem Vq{ws:List ByteArray}{st:St}(h:¬ Zh L ws st=0):Zw L (Yd L ws st)+1≤Zw L st:=by
 cases st with
 |ok a d=>
  have h':¬ Zar (Zx L a) ws=0:=h;rw[show Yd L ws (.ok a d)=.ok (onA L a) d from if_neg h'];exact onA_lt (idxW_k h')
 |bad F=>exact absurd rfl h
theorem Zah{ws:List ByteArray}{st:St}(h:Zh L ws st=0):Yd L ws st=st:=by
 cases st with
 |ok a d=>
  have h':Zar (Zx L a) ws=0:=h;exact if_pos h'
 |bad F=>rfl
theorem Xy(ws:List ByteArray)(st:St):Zw L (Zp L ws st)≤Zw L st:=by
 unfold Zp;split
 ·exact rem_wrong L st
 ·exact Zet L ws st
theorem rem_deep(t:ByteArray)(st:St):Zw L (Ziu L t st)≤Zw L st:=by
 cases st with
 |ok a d=>
  by_cases h:isT (Zx L a) t=true
  ·rw[show Ziu L t (.ok a d)=Jr (Zab L a d) (.ok a (Zdd d))from if_pos h];exact Znj L (Zab L a d) (.ok a (Zdd d))
  ·rw[show Ziu L t (.ok a d)=.ok a d from if_neg h];exact Θ _
 |bad F=>exact Θ _
theorem rem_up(st:St):Zw L (upS st)=Zw L st:=by cases st<;>rfl
theorem Zik(t:ByteArray)(st:St):Zw L (Vw L t st)≤Zw L st:=Ξ (We L t _) (rem_deep L t st)
theorem rem_rise(t:ByteArray)(st:St):Zw L (Zhe L t st)≤Zw L st:=by unfold Zhe;rw[rem_up];exact We L t st
theorem is_deep{t:ByteArray}{st:St}(h:isS L t st=true):(Ziu L t st).good=true→isS L t (Ziu L t st)=true:=by
 cases st with
 |ok a d=>
  have h':isT (Zx L a) t=true:=h;rw[show Ziu L t (.ok a d)=Jr (Zab L a d) (.ok a (Zdd d))from if_pos h'];by_cases hf:(Zab L a d).1=0
  ·rw[show Jr (Zab L a d) (.ok a (Zdd d))=.ok a (Zdd d)from if_pos hf];intro _;exact h'
  ·rw[show Jr (Zab L a d) (.ok a (Zdd d))=.bad (Zab L a d)from if_neg hf];intro c;cases c
 |bad F=>cases h
theorem Zjj{t:ByteArray}{st:St}(h:isS L t st=true):Zw L (Vw L t st)+1≤Zw L st:=by
 have h1:=is_deep L h;have h2:=rem_deep L t st;unfold Vw;cases hd:Ziu L t st with
 |ok a d=>
  rw[hd]at h1 h2;have:=rem_wanted L (h1 rfl);omega
 |bad F=>
  have h3:1≤Zw L st:=by have:=Zfu L h;omega
  have:Zw L (Yb L t (.bad F))≤0:=We L t (.bad F);omega
variable (nk:Int)
theorem Zmo(k:Nat)(s:St):Zw L (Vj nk L k s).2≤Zw L s:=by
 unfold Vj;split
 ·exact Ξ (Zij L _) (Xy L _ _)
 ·split
  ·exact Zav L s
  ·exact Xy L _ _
theorem Zpn:∀(n:Nat)(st:St),Zw L (Yf nk L n st).2≤Zw L st
 |0,st=>Θ _
 |n+1,st=>by
  unfold Yf;split
  ·exact Θ _
  ·exact Ξ (Zpn n _) (Ξ (Zmo L nk _ _) (Zet L _ _))
theorem rem_where(st:St):Zw L (Zcj L st)≤Zw L st:=by
 unfold Zcj;split
 ·exact Ξ (Zhq L _) (Ξ (Xy L _ _) (Xy L _ _))
 ·exact Ξ (Xy L _ _) (Xy L _ _)
theorem Zal(n:Nat)(st:St):Zw L (Wa nk L n st).2≤Zw L st:=by
 unfold Wa;split
 ·exact Ξ (We L _ _) (Ξ (Xy L _ _) (Ξ (Zpn L nk n _) (Ξ (rem_where L _) (Xy L _ _))))
 ·exact Xy L _ _
theorem Zig(st:St):Zw L (toS L st)≤Zw L st:=by
 unfold toS;split
 ·exact Ξ (Zhq L _) (Xy L _ _)
 ·exact Xy L _ _
theorem Zor:∀ n:Nat,(∀ st,Zw L (Yh nk L n st).2≤Zw L st)∧(∀ x,Zw L (Jl nk L n x).2≤Zw L x.2)∧(∀ st,Zw L (Vl nk L n st).2≤Zw L st) ∧
  (∀ x,Zw L (Jj nk L n x).2≤Zw L x.2)∧(∀ st,Zw L (Wp nk L n st).2≤Zw L st):=by
 intro n;induction n with
 |zero=>exact⟨fun _=>by simp[Yh],fun _=>by simp[Jl],fun _=>by simp[Vl],fun _=>by simp[Jj],fun _=>by simp[Wp]⟩
 |succ n ih=>
  obtain⟨h1,h2,h3,h4,h5⟩:=ih;refine⟨fun st=>?_,fun x=>?_,fun st=>?_,fun x=>?_,fun st=>?_⟩
  ·unfold Yh;exact Ξ (h2 _) (h3 _)
  ·unfold Jl
   split
   ·exact Θ _
   ·exact Ξ (h2 _) (Ξ (h3 _) (Zet L _ _))
  ·unfold Vl;exact Ξ (h4 _) (h5 _)
  ·unfold Jj
   split
   ·exact Ξ (h4 _) (Ξ (h5 _) (Zni L _ _))
   ·exact Θ _
  ·unfold Wp
   split
   ·exact Ξ (rem_rise L _ _) (Ξ (h1 _) (Zik L _ _))
   ·split
    ·exact Zij L _
    ·split
     ·exact Ξ (Zal L nk n _) (Zet L _ _)
     ·split
      ·exact Zet L _ _
      ·split
       ·exact Ξ (Xy L _ _) (Zet L _ _)
       ·exact Ξ (Zig L _) (Ξ (Xy L _ _) (Zet L _ _))
theorem Zcp(n:Nat)(st:St):Zw L (Yh nk L n st).2≤Zw L st:=(Zor L nk n).1 st
theorem Zfv(n:Nat)(st:St):Zw L (Vl nk L n st).2≤Zw L st:=(Zor L nk n).2.2.1 st
theorem Zfw(n:Nat)(st:St):Zw L (Wp nk L n st).2≤Zw L st:=(Zor L nk n).2.2.2.2 st
theorem rem_plain(n:Nat)(h:AH)(k:Nat)(st:St):Zw L (Wq nk L n h k st).2≤Zw L st:=by
 unfold Wq;split
 ·exact Ξ (Zcp L nk n _) (Zal L nk n _)
 ·split
  ·exact Zal L nk n _
  ·split
   ·exact Ξ (Zig L _) (Zal L nk n _)
   ·split
    ·exact Ξ (Zcp L nk n _) (Ξ (Zig L _) (Ξ (Xy L _ _) (Zav L _)))
    ·split
     ·exact Ξ (Zcp L nk n _) (Xy L _ _)
     ·split
      ·exact Ξ (Xy L _ _) (Xy L _ _)
      ·split
       ·exact Ξ (Zig L _) (Xy L _ _)
       ·exact Θ _
theorem Znk(n:Nat)(h:AH)(st:St):Zw L (Jv nk L n h st).2≤Zw L st:=
 Ξ (Zcp L nk n _) (Ξ (Xy L _ _) (Zcp L nk n _))
theorem Zos:∀ n:Nat,(∀ st,Zw L (Ww nk L n st).2≤Zw L st)∧(∀ h k st,Zw L (Zcg nk L n h k st).st≤Zw L st)∧(∀ st,Zw L (Yu nk L n st).2≤Zw L st):=by
 intro n;induction n with
 |zero=>exact⟨fun _=>by simp[Ww],fun _ _ _=>by simp[Zcg],fun _=>by simp[Yu]⟩
 |succ n ih=>
  obtain⟨h1,h2,h3⟩:=ih;refine⟨fun st=>?_,fun h k st=>?_,fun st=>?_⟩
  ·unfold Ww
   split
   ·exact Θ _
   ·exact Ξ (h1 _) (Ξ (h2 _ _ _) (Zet L _ _))
  ·unfold Zcg
   split
   ·split
    ·exact Ξ (h3 _) (Ξ (Zni L _ _) (Ξ (h3 _) (Znk L nk n h st)))
    ·exact Ξ (h3 _) (Znk L nk n h st)
   ·split
    ·exact Ξ (h3 _) (Zal L nk n _)
    ·exact Ξ (We L _ _) (rem_plain L nk n h k st)
  ·unfold Yu
   exact Ξ (rem_rise L _ _) (Ξ (h1 _) (Zik L _ _))
theorem Znl(n:Nat)(st:St):Zw L (Ww nk L n st).2≤Zw L st:=(Zos L nk n).1 st
theorem rem_act(n:Nat)(h:AH)(k:Nat)(st:St):Zw L (Zcg nk L n h k st).st≤Zw L st:=(Zos L nk n).2.1 h k st
theorem Zgt(n:Nat)(st:St):Zw L (Yu nk L n st).2≤Zw L st:=(Zos L nk n).2.2 st
theorem Zqe(k:Nat)(s:St):Zw L (Zeh L k s)≤Zw L s:=by
 unfold Zeh;split
 ·exact Zhq L s
 ·exact Θ _
theorem Zlo:∀(n:Nat)(st:St),Zw L (Vg nk L n st).2≤Zw L st
 |0,st=>Θ _
 |n+1,st=>by
  unfold Vg;split
  ·exact Θ _
  ·exact Ξ (Zlo n _) (Ξ (We L _ _) (Ξ (Znl L nk n _) (Ξ (We L _ _) (Ξ (Zqe L _ _) (Zet L _ _)))))
theorem rem_body(n:Nat)(st:St):Zw L (Zhl nk L n st).2≤Zw L st:=Ξ (We L _ _) (Ξ (Zlo L nk n _) (We L _ _))
theorem rem_card(n:Nat)(l c:Int)(st:St):Zw L (Zfg nk L n l c st).2≤Zw L st:=
 Ξ (rem_body L nk n _) (Ξ (Zij L _) (Ξ (We L _ _) (Ξ (Zhq L _) (Ξ (We L _ _) (Zav L _)))))
theorem rem_place(n:Nat)(l c:Int)(st:St):Zw L (Zce nk L n l c st).2≤Zw L st:=Ξ (rem_body L nk n _) (Zav L _)
end
def TokSim(pl:Bool)(u v:TokV):Prop:=u.k=v.k∧u.t=v.t∧u.n=v.n∧(pl=true→u.line=v.line∧u.col=v.col)
structure RowSim(pl:Bool)(L M:List TokV):Prop where
 len:L.length=M.length
 tok:∀ a,TokSim pl (Zx L a) (Zx M a)
def FltSim(pl:Bool)(F G:Int×Nat×Nat):Prop:=F.1=G.1∧(pl=true→F=G)
def StSim(pl:Bool):St→St→Prop
 |.ok a d,.ok b e=>a=b∧d=e
 |.bad F,.bad G=>FltSim pl F G
 |_,_=>False
theorem StSim.good{pl:Bool}:∀{s t:St},StSim pl s t→s.good=t.good
 |.ok _ _,.ok _ _,_=>rfl
 |.bad _,.bad _,_=>rfl
section
variable {pl:Bool} {L M:List TokV} (h:RowSim pl L M)
include h
end
theorem Jx{L:List TokV}{t:ByteArray}:∀{s:St},(Yb L t s).good=true→s.good=true
 |.ok a d,_=>rfl
 |.bad F,h=>h
theorem Zcr{L:List TokV}{ws:List ByteArray}:∀{s:St},(Zp L ws s).good=true→s.good=true
 |.ok a d,_=>rfl
 |.bad F,h=>h
theorem Zqp:∀{s:St},(upS s).good=true→s.good=true
 |.ok a d,_=>rfl
 |.bad F,h=>h
theorem filters_stop0(nk:Int)(L:List TokV)(n:Nat)(F:Int×Nat×Nat):Yf nk L (n+1) (.bad F)=([],.bad F):=by rw[Yf];exact if_pos rfl
theorem Zob{nk:Int}{L:List TokV}:∀{n:Nat}{s:St},(Yf nk L n s).2.good=true→s.good=true
 |_,.ok a d,_=>rfl
 |0,.bad F,h=>h
 |n+1,.bad F,h=>by rw[filters_stop0 nk L n F]at h;exact h
section
variable {pl:Bool} {L M:List TokV} (h:RowSim pl L M) (a b:Int)
include h
end
section
variable {nk:Int} {L:List TokV}
theorem Zlu:∀ n:Nat,(∀ F,(Yh nk L n (.bad F)).2=.bad F)∧(∀ e F,(Jl nk L n (e,.bad F)).2=.bad F)∧(∀ F,(Vl nk L n (.bad F)).2=.bad F)∧(∀ e F,(Jj nk L n (e,.bad F)).2=.bad F)∧(∀ F,(Wp nk L n (.bad F)).2=.bad F)
 |0=>⟨fun F=>rfl,fun e F=>rfl,fun F=>rfl,fun e F=>rfl,fun F=>rfl⟩
 |n+1=>by
  obtain⟨e1,e2,e3,e4,e5⟩:=Zlu n;refine⟨fun F=>?_,fun e F=>?_,fun F=>?_,fun e F=>?_,fun F=>?_⟩
  ·rw[Yh]
   have:Vl nk L n (.bad F)=((Vl nk L n (.bad F)).1,.bad F):=Prod.ext rfl (e3 F);rw[this];exact e2 _ F
  ·rw[Jl]
   show(if(0:Nat)=0 then(e,St.bad F)else _).2=_;rw[if_pos rfl]
  ·rw[Vl]
   have:Wp nk L n (.bad F)=((Wp nk L n (.bad F)).1,.bad F):=Prod.ext rfl (e5 F);rw[this];exact e4 _ F
  ·rw[Jj]
   show(if false=true then _ else(e,St.bad F)).2=_;rw[if_neg Bool.false_ne_true]
  ·rw[Wp]
   have h1:¬ isS L Ws (.bad F)=true:=Bool.false_ne_true;have h2:Zh L Yy (.bad F)=0:=rfl;rw[if_neg h1,if_pos h2];rfl
theorem Zir{n:Nat}:∀{s:St},(Yh nk L n s).2.good=true→s.good=true
 |.ok a d,_=>rfl
 |.bad F,h=>by rw[(Zlu n).1 F]at h;exact h
theorem Zqq:∀{s:St},(toS L s).good=true→s.good=true
 |.ok a d,_=>rfl
 |.bad F,h=>h
end
def AHSim(pl:Bool)(x y:AH):Prop:=x = { y with line:=x.line,col:=x.col }∧(pl=true→x.line=y.line∧x.col=y.col)
section
variable {pl:Bool} {L M:List TokV} (h:RowSim pl L M) (a b:Int)
include h
end
def AcsSim(pl:Bool):Acs→Acs→Prop
 |.nil,.nil=>True
 |.cons h t e r,.cons h' t' e' r'=>AHSim pl h h'∧AcsSim pl t t'∧AcsSim pl e e'∧AcsSim pl r r'
 |_,_=>False
theorem acts_bad{nk:Int}{L:List TokV}:∀(n:Nat)(F:Int×Nat×Nat),(Ww nk L n (.bad F)).2=.bad F
 |0,F=>rfl
 |n+1,F=>by
  have h2:Zh L Xr (.bad F)=0:=rfl;rw[Ww,if_pos h2]
theorem Zlt{nk:Int}{L:List TokV}{n:Nat}:∀{s:St},(Ww nk L n s).2.good=true→s.good=true
 |.ok a d,_=>rfl
 |.bad F,h=>by rw[acts_bad n F]at h;exact h
theorem Zjr{nk:Int}{L:List TokV}:∀{n:Nat}{s:St},(Yu nk L n s).2.good=true→s.good=true
 |_,.ok a d,_=>rfl
 |0,.bad F,h=>h
 |n+1,.bad F,h=>by
  rw[Yu]at h;have h1:=Zlt (Jx (Zqp h));exact h1
theorem good_take{L:List TokV}{t:ByteArray}:∀{s:St},(Wf L t s).good=true→s.good=true
 |.ok a d,_=>rfl
 |.bad F,h=>h
section
variable {pl:Bool} {L M:List TokV} (h:RowSim pl L M) (a b:Int)
include h
end
theorem Zmw{nk:Int}{L:List TokV}:∀{n:Nat}{s:St},(Vg nk L n s).2.good=true→s.good=true
 |_,.ok a d,_=>rfl
 |0,.bad F,h=>h
 |n+1,.bad F,h=>by
  have h2:Zh L Yx (.bad F)=0:=rfl;rw[Vg,if_pos h2]at h;exact h
theorem good_body{nk:Int}{L:List TokV}{n:Nat}{s:St}(h:(Zhl nk L n s).2.good=true):s.good=true:=Jx (Zmw (Jx h))
theorem good_file{nk:Int}{L:List TokV}:∀{n:Nat}{s:St},(Vv nk L n s).2.good=true→s.good=true
 |_,.ok a d,_=>rfl
 |0,.bad F,h=>h
 |n+1,.bad F,h=>by
  have h2:Zh L Xs (.bad F)=0:=rfl;rw[Vv,if_pos h2]at h;exact h
section
variable {pl:Bool} {L M:List TokV} (h:RowSim pl L M) (a b:Int)
include h
end
structure PT where
 k:Int
 t:ByteArray
 n:Int
def PT.v(p:PT):TokV:=⟨p.k,p.t,p.n,0,0,0⟩
def Fit(v:TokV)(p:PT):Prop:=v.k=p.k∧v.t=p.t∧v.n=p.n
theorem n1:(1:Int)≠0:=by decide
theorem n4:(4:Int)≠0:=by decide
def wd(ws:List ByteArray)(k:Int):ByteArray:=ws[k.toNat - 1]?.getD ⟨#[]⟩
def pw(ws:List ByteArray)(k:Int):PT:=⟨1,wd ws k,0⟩
section
variable {L:List TokV}
end
def Zjz(s:ByteArray):Prop:=Zdn s=true∧(∀ x ∈ bL s,0≤x∧x<256∧x≠34)
def VFl(f:Fl):Prop:=
 ((f.kind=1∨f.kind=2)∧(1≤f.op∧f.op≤6)∧(-99≤f.n∧f.n≤99)∧f.name=⟨#[]⟩)∨(f.kind=3∧f.op=0∧f.n=0∧Zjz f.name) ∨
   ((f.kind=4∨f.kind=5)∧f.op=0∧f.n=0∧f.name=⟨#[]⟩)
def VSe(s:Se):Prop:=
 ((s.kind=1∨s.kind=2)∧s.side=0∧s.wh=0∧s.lane=0∧s.fs=[]∧s.pick=0) ∨
   (s.kind=3∧(1≤s.side∧s.side≤3)∧(1≤s.wh∧s.wh≤4)∧(0≤s.lane∧s.lane≤99)∧(s.wh≠3→s.lane=0)∧(∀ f ∈ s.fs,VFl f)∧(1≤s.pick∧s.pick≤5))
section
variable {L:List TokV} {nk:Int}
def VTo(k l:Int):Prop:=((1≤k∧k≤3)∧l=0)∨(k=4∧0≤l∧l≤99)
end
theorem rest_next(t:ByteArray){q:Nat}{c:Int}{r:List Int}(h:Zl t q=c::r):q<t.size∧(gB t q:Int)=c∧Zl t (q+1)=r:=by
 have hlen:=congrArg List.length h;rw[Xt,List.length_cons]at hlen;have hq:q<t.size:=by omega
 have hc:=Xb t hq;rw[h]at hc;exact⟨hq,(List.cons.inj hc).1.symm,(List.cons.inj hc).2.symm⟩
def SimC(L M:List TokV):Prop:=L.length=M.length∧∀(i:Nat)(h:i<L.length)(h':i<M.length),(M[i]'h').k=(L[i]'h).k∧(M[i]'h').t=(L[i]'h).t∧(M[i]'h').n=(L[i]'h).n
theorem SimC.cons{u v:TokV}{L M:List TokV}(h:SimC L M)(h1:v.k=u.k)(h2:v.t=u.t)(h3:v.n=u.n):SimC (u::L) (v::M):=by
 refine⟨by simp[h.1],fun i hi hi'=>?_⟩;cases i with
 |zero=>exact⟨h1,h2,h3⟩
 |succ i=>exact h.2 i (by simpa using hi) (by simpa using hi')
def Like:List TokV→List PT→Prop
 |[],[]=>True
 |v::l,p::m=>Fit v p∧Like l m
 |_,_=>False
theorem Like.app:∀{A:List TokV}{S:List PT}{B:List TokV}{T:List PT},Like A S→Like B T→Like (A++B) (S++T)
 |[],[],_,_,_,h=>h
 |v::l,p::m,_,_,h,h'=>⟨h.1,Like.app h.2 h'⟩
theorem Like.len:∀{A:List TokV}{S:List PT},Like A S→A.length=S.length
 |[],[],_=>rfl
 |v::l,p::m,h=>by simp only[List.length_cons,Like.len h.2]
def SafeB(c:Int):Prop:=c=32∨c=10∨c=41∨c=59
def Safe:List Int→Prop
 |[]=>True
 |c::_=>SafeB c
def Byt(X:List Int):Prop:=∀ x ∈ X,0≤x∧x<256
def Scn(cl:Bool)(X:List Int)(T:List PT):Prop:=
 Byt X∧∀(t:ByteArray)(q:Nat)(R:List Int)(acc:List TokV),Zl t q=X++R→(cl=true∨Safe R)→∃ M,Zaa t q acc=Zaa t (q+X.length) (acc++M)∧Like M T
theorem rest_app{t:ByteArray}{q:Nat}{X R:List Int}(h:Zl t q=X++R):Zl t (q+X.length)=R:=by
 rw[←restL_drop,h,List.drop_append_of_le_length (Θ _),List.drop_of_length_le (Θ _),List.nil_append]
theorem Scn.nil:Scn true [] []:=⟨(fun x hx=>by cases hx),fun t q R acc hr _=>⟨[],by simp,trivial⟩⟩
theorem Scn.app{b c:Bool}{X Y:List Int}{S T:List PT}(h1:Scn b X S)(h2:Scn c Y T)(hs:b=true∨(∃ x r,Y=x::r∧SafeB x)):Scn c (X++Y) (S++T):=by
 refine⟨fun x hx=>(List.mem_append.1 hx).elim (h1.1 x) (h2.1 x),?_⟩;intro t q R acc hr hc;rw[List.append_assoc]at hr
 obtain⟨M,e1,l1⟩:=h1.2 t q (Y++R) acc hr (by
  rcases hs with h | ⟨x,r,hx,h⟩
  ·exact .inl h
  ·right;rw[hx];exact h)
 obtain⟨M',e2,l2⟩:=h2.2 t (q+X.length) R (acc++M) (rest_app hr) hc;refine⟨M++M',?_,l1.app l2⟩;rw[e1,e2,List.length_append,Nat.add_assoc,List.append_assoc]
theorem Scn.then{c:Bool}{X Y:List Int}{S T:List PT}(h1:Scn true X S)(h2:Scn c Y T):Scn c (X++Y) (S++T):=h1.app h2 (.inl rfl)
theorem Scn.blank{x:Int}(h:x=32∨x=10):Scn true [x] []:=by
 refine⟨fun y hy=>by rw[List.mem_singleton]at hy;omega,?_⟩;intro t q R acc hr _;obtain⟨h1,h2,_⟩:=rest_next t (show Zl t q=x::R from hr);refine⟨[],?_,trivial⟩;rw[Zdy t acc h1 (by rw[Zex];omega)];simp
def Zkd(t:ByteArray):List Int:=34::(bL t++[34])
def Ex.isBin:Ex→Bool
 |.leaf .. =>false
 |.bin .. =>true
def Ex.isSum:Ex→Bool
 |.leaf .. =>false
 |.bin o _ _=>decide (o<3)
def Zax(right:Bool)(op:Int)(x:Ex):Bool:=(decide (op=3) && x.isSum) || (right && x.isBin && (x.isSum || decide (op=3)))
theorem Zpc:∀{x:Ex},x.isSum=true→x.isBin=true
 |.leaf ..,h=>h
 |.bin ..,_=>rfl
theorem must_sum{op:Int}(h3:op≠3)(l r:Ex):Zax false op l=false∧Zax true op r=r.isSum:=by
 constructor
 ·unfold Zax;simp[h3]
 ·unfold Zax;simp[h3]
  exact Zpc
theorem must_times(l r:Ex):Zax false 3 l=l.isSum∧Zax true 3 r=r.isBin:=by
 constructor
 ·unfold Zax;simp
 ·unfold Zax;simp
  exact Zpc
def VLeaf(kind n:Int)(sel:Se)(side tk tl:Int):Prop:=
 (kind=1∧(-99≤n∧n≤99)∧sel=zSe∧side=0∧tk=0∧tl=0)∨((kind=2∨kind=3)∧n=0∧VSe sel∧side=0∧tk=0∧tl=0) ∨
   (kind=4∧n=0∧sel=zSe∧side=0∧tk=0∧tl=0)∨(kind=5∧n=0∧sel=zSe∧(1≤side∧side≤3)∧tk=0∧tl=0) ∨
   (kind=6∧n=0∧sel=zSe∧(1≤side∧side≤3)∧VTo tk tl)
def VEx:Ex→Prop
 |.leaf kind n sel side tk tl=>VLeaf kind n sel side tk tl
 |.bin op l r=>(1≤op∧op≤3)∧VEx l∧VEx r
def kD(b:Bool)(n:Nat):Nat:=if b=true then n+1 else n
def pD:Ex→Nat
 |.leaf .. =>0
 |.bin op l r=>max (kD (Zax false op l) (pD l)) (kD (Zax true op r) (pD r))
section
variable {L:List TokV} {nk:Int}
end
def Zgj(d:Nat)(h:AH):Prop:=
 ((h.kind=1∨h.kind=2∨h.kind=12)∧h = { AH.zero h.kind h.line h.col with sel:=h.sel,num:=h.num }∧VSe h.sel∧VEx h.num∧pD h.num+d≤8) ∨
 ((h.kind=3∨h.kind=5∨h.kind=14)∧h = { AH.zero h.kind h.line h.col with sel:=h.sel }∧VSe h.sel) ∨
 (h.kind=4∧h = { AH.zero h.kind h.line h.col with sel:=h.sel,tk:=h.tk,tl:=h.tl }∧VSe h.sel∧VTo h.tk h.tl) ∨
 (h.kind=6∧h = { AH.zero h.kind h.line h.col with name:=h.name,side:=h.side,tk:=h.tk,tl:=h.tl,num:=h.num }∧Zjz h.name∧(1≤h.side∧h.side≤3)∧VTo h.tk h.tl∧VEx h.num∧pD h.num+d≤8) ∨
 ((h.kind=7∨h.kind=9)∧h = { AH.zero h.kind h.line h.col with side:=h.side,num:=h.num }∧(1≤h.side∧h.side≤3)∧VEx h.num∧pD h.num+d≤8) ∨
 (h.kind=8∧h = { AH.zero h.kind h.line h.col with side:=h.side,how:=h.how }∧(1≤h.side∧h.side≤3)∧(1≤h.how∧h.how≤4)) ∨
 ((h.kind=13∨h.kind=15)∧h = { AH.zero h.kind h.line h.col with side:=h.side,tk:=h.tk,tl:=h.tl }∧(1≤h.side∧h.side≤3)∧VTo h.tk h.tl)
def Zpw(d:Nat)(h:AH):Prop:=h = { AH.zero 10 h.line h.col with cop:=h.cop,cl:=h.cl,cr:=h.cr }∧(1≤h.cop∧h.cop≤6)∧(VEx h.cl∧pD h.cl+d≤8)∧(VEx h.cr∧pD h.cr+d≤8)
def VEach(h:AH):Prop:=h = { AH.zero 11 h.line h.col with sel:=h.sel }∧VSe h.sel
def Zbb:Nat→Acs→Prop
 |_,.nil=>True
 |d,.cons h t e r=>((d<8∧Zpw d h∧Zbb (d+1) t∧Zbb (d+1) e)∨(d<8∧VEach h∧Zbb (d+1) t∧e=.nil)∨(Zgj d h∧t=.nil∧e=.nil))∧Zbb d r
def Acs.isNil:Acs→Bool
 |.nil=>true
 |.cons .. =>false
theorem Zpw.kind{d:Nat}{h:AH}(v:Zpw d h):h.kind=10:=(congrArg AH.kind v.1 :)
theorem VEach.kind{h:AH}(v:VEach h):h.kind=11:=(congrArg AH.kind v.1 :)
theorem Zgj.kind{d:Nat}{h:AH}(v:Zgj d h):1≤h.kind∧h.kind≤15∧h.kind≠10∧h.kind≠11:=by
 rcases v with⟨k,_⟩ | ⟨k,_⟩ | ⟨k,_⟩ | ⟨k,_⟩ | ⟨k,_⟩ | ⟨k,_⟩ | ⟨k,_⟩<;>omega
theorem acts_kind{d:Nat}{h:AH}{t e r:Acs}(v:Zbb d (.cons h t e r)):1≤h.kind∧h.kind≤15:=by
 rcases v.1 with⟨_,v,_⟩ | ⟨_,v,_⟩ | ⟨v,_⟩
 ·rw[v.kind];exact⟨by decide,by decide⟩
 ·rw[v.kind];exact⟨by decide,by decide⟩
 ·exact⟨v.kind.1,v.kind.2.1⟩
section
variable {L:List TokV} {nk:Int}
theorem AHSim.any(h:AH)(l c:Int):AHSim false h { h with line:=l,col:=c }:=⟨rfl,fun hh=>by cases hh⟩
theorem AcsSim.isNil{pl:Bool}{x y:Acs}(h:AcsSim pl x y):x.isNil=y.isNil:=by
 cases x with
 |nil=>cases y with
  |nil=>rfl
  |cons h' t' e' r'=>exact h.elim
 |cons h' t' e' r'=>cases y with
  |nil=>exact h.elim
  |cons h' t' e' r'=>rfl
end
def VRu(r:Ru):Prop:=(1≤r.when_∧r.when_≤6)∧(0≤r.stratum∧r.stratum≤99)∧(r.when_≠5→r.stratum=0)∧Zbb 0 r.acts
def VCa(c:Ca):Prop:=Zjz c.name∧(0≤c.cost∧c.cost≤99)∧(-99≤c.power∧c.power≤99)∧∀ r ∈ c.rules,VRu r
def VPl(p:Pl):Prop:=Zjz p.name∧∀ r ∈ p.rules,VRu r
def VFi(f:Fi):Prop:=(∀ c ∈ f.cards,VCa c)∧∀ p ∈ f.places,VPl p
section
variable {L:List TokV} {nk:Int}
end
structure Uw(L:List TokV):Prop where
 int:∀ a,(Zx L a).k=2→0≤(Zx L a).n∧(Zx L a).n≤99
 name:∀ a,(Zx L a).k=3→Zjz (Zx L a).t
def AtD(d:Nat)(st:St):Prop:=∃ a,st=.ok a d
theorem Zls{F:Int×Nat×Nat}{a d:Nat}(h:(Jr F (.ok a d)).good=true):F.1=0∧Jr F (.ok a d)=.ok a d:=by
 have e:Jr F (.ok a d)=if F.1=0 then .ok a d else .bad F:=rfl
 rw[e]at h ⊢;by_cases h0:F.1=0
 ·rw[if_pos h0];exact⟨h0,rfl⟩
 ·rw[if_neg h0]at h;cases h
section
variable {L:List TokV} {nk:Int}
theorem Zbk{ws:List ByteArray}{st:St}{d:Nat}(h:(Zp L ws st).good=true)(ha:AtD d st):AtD d (Zp L ws st)∧1≤(Zh L ws st:Int)∧(Zh L ws st:Int)≤ws.length:=by
 obtain⟨a,rfl⟩:=ha;unfold Zp at h ⊢;by_cases h0:Zh L ws (.ok a d)=0
 ·rw[if_pos h0]at h;cases h
 ·rw[if_neg h0]
  have h0':¬ Zar (Zx L a) ws=0:=h0;have hle:=Zds (Zx L a) ws;refine⟨⟨onA L a,?_⟩,?_,?_⟩
  ·show(if Zar (Zx L a) ws=0 then St.ok a d else .ok (onA L a) d)=_
   rw[if_neg h0']
  ·have:Zh L ws (.ok a d)=Zar (Zx L a) ws:=rfl
   omega
  ·have:Zh L ws (.ok a d)=Zar (Zx L a) ws:=rfl
   omega
theorem Zey{ws:List ByteArray}{st:St}{d:Nat}(ha:AtD d st):AtD d (Yd L ws st):=by
 obtain⟨a,rfl⟩:=ha;show AtD d (if Zar (Zx L a) ws=0 then St.ok a d else .ok (onA L a) d);split
 ·exact⟨_,rfl⟩
 ·exact⟨_,rfl⟩
theorem take_at{t:ByteArray}{st:St}{d:Nat}(ha:AtD d st):AtD d (Wf L t st):=by
 obtain⟨a,rfl⟩:=ha;exact⟨_,rfl⟩
theorem Zfp{t:ByteArray}{st:St}{d:Nat}(h:(Yb L t st).good=true)(ha:AtD d st):AtD d (Yb L t st):=by
 unfold Yb at h ⊢;split at h
 ·rename_i h0;rw[if_pos h0];exact take_at ha
 ·obtain⟨a,rfl⟩:=ha;cases h
theorem int_at(hR:Uw L){st:St}{d:Nat}(h:(Zba L st).good=true)(ha:AtD d st):AtD d (Zba L st)∧0≤Zfe L st∧Zfe L st≤99:=by
 obtain⟨a,rfl⟩:=ha;obtain⟨h0,e⟩:=Zls h
 have hk:(Zx L a).k=2:=by
  unfold Wl at h0;split at h0
  ·assumption
  ·exact absurd h0 (Zid _)
 refine⟨⟨_,e⟩,?_⟩;have e2:Zfe L (.ok a d)=(Zx L a).n:=by show Zkh L a=_;unfold Zkh;rw[if_pos hk]
 rw[e2];exact hR.int a hk
theorem Zqk(hR:Uw L){st:St}{d:Nat}(h:(Vf L st).good=true)(ha:AtD d st):AtD d (Vf L st)∧Zjz (Zdc L st):=by
 obtain⟨a,rfl⟩:=ha;obtain⟨h0,e⟩:=Zls h
 have hk:(Zx L a).k=3:=by
  unfold Wl at h0;split at h0
  ·assumption
  ·exact absurd h0 (Zid _)
 refine⟨⟨_,e⟩,?_⟩;have e2:Zdc L (.ok a d)=(Zx L a).t:=by show Zmd L a=_;unfold Zmd;rw[if_pos hk]
 rw[e2];exact hR.name a hk
theorem sign_at(hR:Uw L){st:St}{d:Nat}(h:(Zae L st).good=true)(ha:AtD d st):AtD d (Zae L st) ∧ -99≤Zbe L st∧Zbe L st≤99:=by
 obtain⟨a,rfl⟩:=ha;obtain⟨h0,e⟩:=Zls h;refine⟨⟨_,e⟩,?_⟩;show -99≤Zkc L a∧Zkc L a≤99;unfold Zbp Wl at h0;unfold Zkc Zkh;by_cases hm:isT (Zx L a) Znt=true
 ·rw[if_pos hm]at h0 ⊢
  by_cases hk:(Zx L (onA L a)).k=2
  ·rw[if_pos hk];have:=hR.int _ hk;omega
  ·rw[if_neg hk];omega
 ·rw[if_neg hm]at h0 ⊢
  by_cases hk:(Zx L a).k=2
  ·rw[if_pos hk];have:=hR.int _ hk;omega
  ·rw[if_neg hk];omega
theorem down_at{t:ByteArray}{st:St}{d:Nat}(h:(Vw L t st).good=true)(ha:AtD d st):AtD (d+1) (Vw L t st)∧d≠8:=by
 obtain⟨a,rfl⟩:=ha;unfold Vw at h ⊢;have hg:=Jx h;have hd:Ziu L t (.ok a d)=if isT (Zx L a) t=true then Jr (Zab L a d) (.ok a (Zdd d))else .ok a d:=rfl
 rw[hd]at h hg ⊢;by_cases ht:isT (Zx L a) t=true
 ·rw[if_pos ht]at h hg ⊢
  obtain⟨h0,e⟩:=Zls hg
  have h8:d≠8:=by
   intro h8;unfold Zab at h0;rw[if_pos h8]at h0;exact absurd h0 (by simp)
  rw[e]at h ⊢;have e1:Zdd d=d+1:=by unfold Zdd;rw[if_neg h8]
  rw[e1]at h ⊢;exact⟨Zfp h ⟨_,rfl⟩,h8⟩
 ·rw[if_neg ht]at h
  unfold Yb at h;have:¬ isS L t (.ok a d)=true:=ht;rw[if_neg this]at h;cases h
theorem rise_at{t:ByteArray}{st:St}{d:Nat}(h:(Zhe L t st).good=true)(ha:AtD (d+1) st):AtD d (Zhe L t st):=by
 unfold Zhe at h ⊢;obtain⟨b,e⟩:=Zfp (Zqp h) ha;rw[e];exact⟨b,rfl⟩
theorem good_sign:∀{s:St},(Zae L s).good=true→s.good=true
 |.ok a d,_=>rfl
 |.bad F,h=>h
theorem Zoa:∀{s:St},(Zba L s).good=true→s.good=true
 |.ok a d,_=>rfl
 |.bad F,h=>h
theorem filter_val(hR:Uw L){k:Nat}(hk:1≤k∧k≤4){st:St}{d:Nat}(h:(Vj nk L k st).2.good=true)(ha:AtD d st):AtD d (Vj nk L k st).2∧VFl (Vj nk L k st).1:=by
 unfold Vj at h ⊢;by_cases h12:k=1∨k=2
 ·rw[if_pos h12]at h ⊢
  have h':(Zae L (Zp L wOp st)).good=true:=h;obtain⟨a1,f1,f2⟩:=Zbk (good_sign h') ha;obtain⟨a2,f3,f4⟩:=sign_at hR h' a1;exact⟨a2,.inl ⟨(by show(k:Int)=1∨(k:Int)=2;omega),⟨f1,f2⟩,⟨f3,f4⟩,rfl⟩⟩
 ·rw[if_neg h12]at h ⊢
  by_cases h3:k=3
  ·rw[if_pos h3]at h ⊢
   obtain⟨a1,f1⟩:=Zqk hR h ha;exact⟨a1,.inr (.inl ⟨rfl,rfl,rfl,f1⟩)⟩
  ·rw[if_neg h3]at h ⊢
   have h':(Zp L Vk st).good=true:=h;obtain⟨a1,f1,f2⟩:=Zbk h' ha;have f2':(Zh L Vk st:Int)≤2:=f2;refine⟨a1,.inr (.inr ⟨?_,rfl,rfl,rfl⟩)⟩;dsimp only;rw[if_neg (by omega)];omega
theorem Zpr(hR:Uw L):∀(n:Nat)(st:St)(d:Nat),(Yf nk L n st).2.good=true→AtD d st→AtD d (Yf nk L n st).2∧∀ f ∈ (Yf nk L n st).1,VFl f
 |0,st,d,h,ha=>⟨ha,fun f hf=>by cases hf⟩
 |n+1,st,d,h,ha=>by
  rw[Yf]at h ⊢;by_cases h0:Zh L Yg st=0
  ·rw[if_pos h0];exact⟨ha,fun f hf=>by cases hf⟩
  ·rw[if_neg h0]at h ⊢
   dsimp only at h ⊢;have hle:Zh L Yg st≤4:=by obtain⟨a,rfl⟩:=ha;exact Zds (Zx L a) Yg
   have hg:=Zob h;obtain⟨a1,v1⟩:=filter_val hR ⟨by omega,hle⟩ hg (Zey ha);obtain⟨a2,v2⟩:=Zpr hR n _ d h a1;refine⟨a2,fun f hf=>?_⟩;rcases List.mem_cons.1 hf with rfl | hf
   ·exact v1
   ·exact v2 f hf
theorem where_val(hR:Uw L){st:St}{d:Nat}(h:(Zcj L st).good=true)(ha:AtD d st) :
  AtD d (Zcj L st)∧(1≤(Jo L st).1∧(Jo L st).1≤3)∧(1≤(Jo L st).2.1∧(Jo L st).2.1≤4)∧(0≤(Jo L st).2.2∧(Jo L st).2.2≤99)∧((Jo L st).2.1≠3→(Jo L st).2.2=0):=by
 unfold Zcj at h ⊢;unfold Jo;dsimp only;by_cases h3:Zh L Zz (Zp L Zg st)=3
 ·rw[if_pos h3]at h ⊢
  have g1:=Zoa h;obtain⟨a1,f1⟩:=Zbk (Zcr g1) ha;obtain⟨a2,f2⟩:=Zbk g1 a1;obtain⟨a3,f3⟩:=int_at hR h a2;rw[if_pos h3];exact⟨a3,f1,f2,f3,fun hh=>by omega⟩
 ·rw[if_neg h3]at h ⊢
  obtain⟨a1,f1⟩:=Zbk (Zcr h) ha;obtain⟨a2,f2⟩:=Zbk h a1;rw[if_neg h3];exact⟨a2,f1,f2,by omega,fun _=>rfl⟩
theorem Znf(hR:Uw L){n:Nat}{st:St}{d:Nat}(h:(Wa nk L n st).2.good=true)(ha:AtD d st):AtD d (Wa nk L n st).2∧VSe (Wa nk L n st).1:=by
 unfold Wa at h ⊢;by_cases h3:Zh L Yo st=3
 ·rw[if_pos h3]at h ⊢
  dsimp only at h ⊢;have g1:=Jx h;have g2:=Zob (Zcr g1)
  have g3:(Zp L Yo st).good=true:=by
   unfold Zcj at g2;split at g2
   ·exact Zcr (Zcr (Zoa g2))
   ·exact Zcr (Zcr g2)
  obtain⟨a1,_⟩:=Zbk g3 ha;obtain⟨a2,f2,f3,f4,f5⟩:=where_val hR g2 a1;obtain⟨a3,f6⟩:=Zpr hR n _ d (Zcr g1) a2;obtain⟨a4,f7⟩:=Zbk g1 a3;exact⟨Zfp h a4,.inr ⟨rfl,f2,f3,f4,f5,f6,f7⟩⟩
 ·rw[if_neg h3]at h ⊢
  obtain⟨a1,f1,f2⟩:=Zbk h ha;have f2':(Zh L Yo st:Int)≤3:=f2;refine⟨a1,.inl ⟨?_,rfl,rfl,rfl,rfl,rfl⟩⟩;dsimp only;omega
theorem to_val(hR:Uw L){st:St}{d:Nat}(h:(toS L st).good=true)(ha:AtD d st):AtD d (toS L st)∧VTo (toK L st) (toL L st):=by
 unfold toS at h ⊢;unfold toK toL;by_cases h4:Zh L wTo st=4
 ·rw[if_pos h4]at h ⊢
  obtain⟨a1,_⟩:=Zbk (Zoa h) ha;obtain⟨a2,f⟩:=int_at hR h a1;rw[if_pos h4];exact⟨a2,.inr ⟨by omega,f⟩⟩
 ·rw[if_neg h4]at h ⊢
  obtain⟨a1,f1,f2⟩:=Zbk h ha;have f2':(Zh L wTo st:Int)≤4:=f2;rw[if_neg h4];exact⟨a1,.inl ⟨by omega,rfl⟩⟩
def GE(d:Nat)(x:Ex):Prop:=VEx x∧pD x+d≤8
def GP(d:Nat)(x:Ex):Prop:=VEx x∧pD x+d≤8∧(x.isSum=true→pD x+1+d≤8)
def GF(d:Nat)(x:Ex):Prop:=VEx x∧pD x+d≤8∧(x.isBin=true→pD x+1+d≤8)
theorem GF.gp{d:Nat}{x:Ex}(h:GF d x):GP d x:=⟨h.1,h.2.1,fun hs=>h.2.2 (Zpc hs)⟩
theorem GP.ge{d:Nat}{x:Ex}(h:GP d x):GE d x:=⟨h.1,h.2.1⟩
theorem kd_bd{b:Bool}{n d:Nat}(h:n+d≤8)(h2:b=true→n+1+d≤8):kD b n+d≤8:=by
 unfold kD;split
 ·rename_i hb;have:=h2 hb;omega
 ·exact h
theorem ge_bin{d:Nat}{op:Int}{l r:Ex}(ho:1≤op∧op≤2)(hl:GE d l)(hr:GP d r):GE d (.bin op l r):=by
 obtain⟨m1,m2⟩:=must_sum (show op≠3 from by omega) l r;refine⟨⟨⟨ho.1,by omega⟩,hl.1,hr.1⟩,?_⟩;rw[pD,m1,m2];have:=kd_bd (b:=r.isSum) hr.2.1 hr.2.2;have h1:kD false (pD l)=pD l:=rfl;have:=hl.2;omega
theorem gp_bin{d:Nat}{l r:Ex}(hl:GP d l)(hr:GF d r):GP d (.bin 3 l r):=by
 obtain⟨m1,m2⟩:=must_times l r;refine⟨⟨by decide,hl.1,hr.1⟩,?_,fun h=>by cases h⟩;rw[pD,m1,m2];have:=kd_bd (b:=l.isSum) hl.2.1 hl.2.2;have:=kd_bd (b:=r.isBin) hr.2.1 hr.2.2;omega
theorem good_prodL{n:Nat}:∀{x:Ex×St},(Jj nk L n x).2.good=true→x.2.good=true
 |(e,.ok a d),_=>rfl
 |(e,.bad F),h=>by rw[(Zlu n).2.2.2.1 e F]at h;exact h
theorem good_exprL{n:Nat}:∀{x:Ex×St},(Jl nk L n x).2.good=true→x.2.good=true
 |(e,.ok a d),_=>rfl
 |(e,.bad F),h=>by rw[(Zlu n).2.1 e F]at h;exact h
theorem exprs_val(hR:Uw L):∀ n:Nat,
  (∀ st d,4*Zw L st+3≤n→d≤8→(Yh nk L n st).2.good=true→AtD d st→AtD d (Yh nk L n st).2∧GE d (Yh nk L n st).1) ∧
  (∀ x d,4*Zw L x.2≤n→d≤8→(Jl nk L n x).2.good=true→AtD d x.2→GE d x.1→AtD d (Jl nk L n x).2∧GE d (Jl nk L n x).1) ∧
  (∀ st d,4*Zw L st+2≤n→d≤8→(Vl nk L n st).2.good=true→AtD d st→AtD d (Vl nk L n st).2∧GP d (Vl nk L n st).1) ∧
  (∀ x d,4*Zw L x.2≤n→d≤8→(Jj nk L n x).2.good=true→AtD d x.2→GP d x.1→AtD d (Jj nk L n x).2∧GP d (Jj nk L n x).1) ∧
  (∀ st d,4*Zw L st+1≤n→d≤8→(Wp nk L n st).2.good=true→AtD d st→AtD d (Wp nk L n st).2∧GF d (Wp nk L n st).1)
 |0=>by
  refine⟨fun st d h=>by omega,fun x d _ _ _ ha hg=>⟨ha,hg⟩,fun st d h=>by omega,fun x d _ _ _ ha hg=>⟨ha,hg⟩,fun st d h=>by omega⟩
 |n+1=>by
  obtain⟨i1,i2,i3,i4,i5⟩:=exprs_val hR n;refine⟨fun st d hn hd h ha=>?_,fun x d hn hd h ha hg=>?_,fun st d hn hd h ha=>?_,fun x d hn hd h ha hg=>?_,fun st d hn hd h ha=>?_⟩
  ·rw[Yh]at h ⊢
   have r1:=Zfv L nk n st;obtain⟨a1,g1⟩:=i3 st d (by omega) hd (good_exprL h) ha;exact i2 _ d (by omega) hd h a1 g1.ge
  ·rw[Jl]at h ⊢
   by_cases h0:Zh L Zai x.2=0
   ·rw[if_pos h0];exact⟨ha,hg⟩
   ·rw[if_neg h0]at h ⊢
    have r1:=Vq L h0;have r2:=Zfv L nk n (Yd L Zai x.2);have hp:=good_exprL h;obtain⟨a1,g1⟩:=i3 _ d (by omega) hd hp (Zey ha);have hle:Zh L Zai x.2≤2:=by obtain⟨a,e⟩:=ha;rw[e];exact Zds (Zx L a) Zai
    exact i2 _ d (by dsimp only;omega) hd h a1 (ge_bin ⟨by omega,by omega⟩ hg g1)
  ·rw[Vl]at h ⊢
   have r1:=Zfw L nk n st;obtain⟨a1,g1⟩:=i5 st d (by omega) hd (good_prodL h) ha;exact i4 _ d (by omega) hd h a1 g1.gp
  ·rw[Jj]at h ⊢
   by_cases h0:isS L Va x.2=true
   ·rw[if_pos h0]at h ⊢
    have r1:=Zfu L h0;have r2:=Zfw L nk n (Wf L Va x.2);have hp:=good_prodL h;obtain⟨a1,g1⟩:=i5 _ d (by omega) hd hp (take_at ha);exact i4 _ d (by dsimp only;omega) hd h a1 (gp_bin hg g1)
   ·rw[if_neg h0];exact⟨ha,hg⟩
  ·rw[Wp]at h ⊢
   have leaf0:∀{kind n':Int}{sel:Se}{side tk tl:Int},VLeaf kind n' sel side tk tl→GF d (.leaf kind n' sel side tk tl):=fun hv=>⟨hv,by rw[pD];omega,fun hh=>by cases hh⟩
   by_cases ho:isS L Ws st=true
   ·rw[if_pos ho]at h ⊢
    dsimp only at h ⊢;have r1:=Zjj L ho;have g0:=Jx (Zqp h);obtain⟨a1,h8⟩:=down_at (Zir g0) ha;obtain⟨a2,g1⟩:=i1 _ (d+1) (by omega) (by omega) g0 a1;exact⟨rise_at h a2,g1.1,by have:=g1.2;omega,fun _=>by have:=g1.2;omega⟩
   ·rw[if_neg ho]at h ⊢
    by_cases h0:Zh L Yy st=0
    ·rw[if_pos h0]at h ⊢
     obtain⟨a1,f1⟩:=sign_at hR h ha;exact⟨a1,leaf0 (.inl ⟨rfl,f1,rfl,rfl,rfl,rfl⟩)⟩
    ·rw[if_neg h0]at h ⊢
     have hle:Zh L Yy st≤5:=by obtain⟨a,e⟩:=ha;rw[e];exact Zds (Zx L a) Yy
     by_cases h12:Zh L Yy st=1∨Zh L Yy st=2
     ·rw[if_pos h12]at h ⊢
      obtain⟨a1,f1⟩:=Znf hR h (Zey ha);exact⟨a1,leaf0 (.inr (.inl ⟨by omega,rfl,f1,rfl,rfl,rfl⟩))⟩
     ·rw[if_neg h12]at h ⊢
      by_cases h3:Zh L Yy st=3
      ·rw[if_pos h3];exact⟨Zey ha,leaf0 (.inr (.inr (.inl ⟨rfl,rfl,rfl,rfl,rfl,rfl⟩)))⟩
      · rw[if_neg h3]at h ⊢
        by_cases h4:Zh L Yy st=4
        ·rw[if_pos h4]at h ⊢
         obtain⟨a1,f1⟩:=Zbk h (Zey ha);exact⟨a1,leaf0 (.inr (.inr (.inr (.inl ⟨rfl,rfl,rfl,f1,rfl,rfl⟩))))⟩
        ·rw[if_neg h4]at h ⊢
         obtain⟨a1,f1⟩:=Zbk (Zqq h) (Zey ha);obtain⟨a2,f2⟩:=to_val hR h a1;exact⟨a2,leaf0 (.inr (.inr (.inr (.inr ⟨rfl,rfl,rfl,f1,f2⟩))))⟩
theorem Zlc(hR:Uw L){n:Nat}{st:St}{d:Nat}(hn:4*Zw L st+3≤n)(hd:d≤8)(h:(Yh nk L n st).2.good=true)(ha:AtD d st):AtD d (Yh nk L n st).2∧VEx (Yh nk L n st).1∧pD (Yh nk L n st).1+d≤8:=
 (exprs_val hR n).1 st d hn hd h ha
theorem plain_val(hR:Uw L){n k:Nat}{l c:Int}{st:St}{d:Nat}(hk:1≤k∧k≤15∧k≠10∧k≠11)(hn:4*Zw L st+3≤n)(hd:d≤8)(h:(Wq nk L n (AH.zero k l c) k st).2.good=true)(ha:AtD d st) :
  AtD d (Wq nk L n (AH.zero k l c) k st).2∧Zgj d (Wq nk L n (AH.zero k l c) k st).1:=by
 unfold Wq at h ⊢;unfold Zgj;by_cases c1:k=1∨k=2∨k=12
 ·rw[if_pos c1]at h ⊢
  dsimp only at h ⊢;have r:=Zal L nk n st;obtain⟨a1,f1⟩:=Znf hR (Zir h) ha;obtain⟨a2,f2⟩:=Zlc hR (by omega) hd h a1;exact⟨a2,.inl ⟨by show((k:Int)=1∨(k:Int)=2∨(k:Int)=12);omega,rfl,f1,f2⟩⟩
 ·rw[if_neg c1]at h ⊢
  by_cases c2:k=3∨k=5∨k=14
  ·rw[if_pos c2]at h ⊢
   dsimp only at h ⊢;obtain⟨a1,f1⟩:=Znf hR h ha;exact⟨a1,.inr (.inl ⟨by show((k:Int)=3∨(k:Int)=5∨(k:Int)=14);omega,rfl,f1⟩)⟩
  ·rw[if_neg c2]at h ⊢
   by_cases c3:k=4
   ·rw[if_pos c3]at h ⊢
    dsimp only at h ⊢;obtain⟨a1,f1⟩:=Znf hR (Zqq h) ha;obtain⟨a2,f2⟩:=to_val hR h a1;exact⟨a2,.inr (.inr (.inl ⟨by show(k:Int)=4;omega,rfl,f1,f2⟩))⟩
   ·rw[if_neg c3]at h ⊢
    by_cases c4:k=6
    ·rw[if_pos c4]at h ⊢
     dsimp only at h ⊢;have g1:=Zir h;have g2:=Zqq g1;have r1:=Zig L (Zp L Zg (Vf L st));have r2:=Xy L Zg (Vf L st);have r3:=Zav L st;obtain⟨a1,f1⟩:=Zqk hR (Zcr g2) ha;obtain⟨a2,f2⟩:=Zbk g2 a1;obtain⟨a3,f3⟩:=to_val hR g1 a2;obtain⟨a4,f4⟩:=Zlc hR (by omega) hd h a3;exact⟨a4,.inr (.inr (.inr (.inl ⟨by show(k:Int)=6;omega,rfl,f1,f2,f3,f4⟩)))⟩
    ·rw[if_neg c4]at h ⊢
     by_cases c5:k=7∨k=9
     ·rw[if_pos c5]at h ⊢
      dsimp only at h ⊢;have r2:=Xy L Zg st;obtain⟨a2,f2⟩:=Zbk (Zir h) ha;obtain⟨a4,f4⟩:=Zlc hR (by omega) hd h a2;exact⟨a4,.inr (.inr (.inr (.inr (.inl ⟨by show((k:Int)=7∨(k:Int)=9);omega,rfl,f2,f4⟩))))⟩
     ·rw[if_neg c5]at h ⊢
      by_cases c6:k=8
      ·rw[if_pos c6]at h ⊢
       dsimp only at h ⊢;obtain⟨a2,f2⟩:=Zbk (Zcr h) ha;obtain⟨a3,f3⟩:=Zbk h a2;exact⟨a3,.inr (.inr (.inr (.inr (.inr (.inl ⟨by show(k:Int)=8;omega,rfl,f2,f3⟩)))))⟩
      ·rw[if_neg c6]at h ⊢
       have c7:k=13∨k=15:=by omega
       rw[if_pos c7]at h ⊢;dsimp only at h ⊢;obtain⟨a2,f2⟩:=Zbk (Zqq h) ha;obtain⟨a3,f3⟩:=to_val hR h a2;exact⟨a3,.inr (.inr (.inr (.inr (.inr (.inr ⟨by show((k:Int)=13∨(k:Int)=15);omega,rfl,f2,f3⟩)))))⟩
theorem cond_val(hR:Uw L){n:Nat}{l c:Int}{st:St}{d:Nat}(hn:4*Zw L st+3≤n)(hd:d≤8)(h:(Jv nk L n (AH.zero 10 l c) st).2.good=true)(ha:AtD d st) :
  AtD d (Jv nk L n (AH.zero 10 l c) st).2∧Zpw d (Jv nk L n (AH.zero 10 l c) st).1:=by
 unfold Jv at h ⊢;dsimp only at h ⊢;have r1:=Zcp L nk n st;have r2:=Xy L wOp (Yh nk L n st).2;have g1:=Zir h;obtain⟨a1,f1⟩:=Zlc hR hn hd (Zcr g1) ha;obtain⟨a2,f2⟩:=Zbk g1 a1;obtain⟨a3,f3⟩:=Zlc hR (by omega) hd h a2;exact⟨a3,rfl,f2,f1,f3⟩
def VAO(d:Nat)(x:AO):Prop:=(d<8∧Zpw d x.h∧Zbb (d+1) x.thn∧Zbb (d+1) x.els)∨(d<8∧VEach x.h∧Zbb (d+1) x.thn∧x.els=.nil)∨(Zgj d x.h∧x.thn=.nil∧x.els=.nil)
theorem acts_val(hR:Uw L):∀ n:Nat,
  (∀ st d,4*Zw L st+1≤n→d≤8→(Ww nk L n st).2.good=true→AtD d st→AtD d (Ww nk L n st).2∧Zbb d (Ww nk L n st).1) ∧
  (∀(k:Nat)(l c:Int) st d,1≤k∧k≤15→4*Zw L st+4≤n→d≤8→(Zcg nk L n (AH.zero k l c) k st).st.good=true→AtD d st →
    AtD d (Zcg nk L n (AH.zero k l c) k st).st∧VAO d (Zcg nk L n (AH.zero k l c) k st)) ∧
  (∀ st d,4*Zw L st+3≤n→d≤8→(Yu nk L n st).2.good=true→AtD d st→AtD d (Yu nk L n st).2∧Zbb (d+1) (Yu nk L n st).1∧d<8)
 |0=>⟨fun st d h=>by omega,fun k l c st d _ h=>by omega,fun st d h=>by omega⟩
 |n+1=>by
  obtain⟨i1,i2,i3⟩:=acts_val hR n;refine⟨fun st d hn hd h ha=>?_,fun k l c st d hk hn hd h ha=>?_,fun st d hn hd h ha=>?_⟩
  · rw[Ww]at h ⊢
    by_cases h0:Zh L Xr st=0
    ·rw[if_pos h0];exact⟨ha,trivial⟩
    ·rw[if_neg h0]at h ⊢
     dsimp only at h ⊢;have r1:=Vq L h0;have r2:=rem_act L nk n (AH.zero (Zh L Xr st) (st.tok L).line (st.tok L).col) (Zh L Xr st) (Yd L Xr st);have hle:Zh L Xr st≤15:=by obtain⟨a,e⟩:=ha;rw[e];exact Zds (Zx L a) Xr
     obtain⟨a1,f1⟩:=i2 _ _ _ _ d ⟨by omega,hle⟩ (by omega) hd (Zlt h) (Zey ha);obtain⟨a2,f2⟩:=i1 _ d (by omega) hd h a1;exact⟨a2,f1,f2⟩
  · rw[Zcg]at h ⊢
    by_cases h10:k=10
    ·rw[if_pos h10]at h ⊢
     subst h10;have r1:=Znk L nk n (AH.zero (10:Nat) l c) st;have r2:=Zgt L nk n (Jv nk L n (AH.zero (10:Nat) l c) st).2;by_cases he:isS L Jf (Yu nk L n (Jv nk L n (AH.zero (10:Nat) l c) st).2).2=true
     ·rw[if_pos he]at h ⊢
      dsimp only at h ⊢;have r3:=Zfu L he;have g1:=good_take (Zjr h);obtain⟨a1,f1⟩:=cond_val hR (by omega) hd (Zjr g1) ha;obtain⟨a2,f2,f3⟩:=i3 _ d (by omega) hd g1 a1;obtain⟨a3,f4,_⟩:=i3 _ d (by omega) hd h (take_at a2);exact⟨a3,.inl ⟨f3,f1,f2,f4⟩⟩
     ·rw[if_neg he]at h ⊢
      dsimp only at h ⊢;obtain⟨a1,f1⟩:=cond_val hR (by omega) hd (Zjr h) ha;obtain⟨a2,f2,f3⟩:=i3 _ d (by omega) hd h a1;exact⟨a2,.inl ⟨f3,f1,f2,trivial⟩⟩
    ·rw[if_neg h10]at h ⊢
     by_cases h11:k=11
     ·rw[if_pos h11]at h ⊢
      subst h11;dsimp only at h ⊢;have r1:=Zal L nk n st;obtain⟨a1,f1⟩:=Znf hR (Zjr h) ha;obtain⟨a2,f2,f3⟩:=i3 _ d (by omega) hd h a1;exact⟨a2,.inr (.inl ⟨f3,⟨rfl,f1⟩,f2,rfl⟩)⟩
     ·rw[if_neg h11]at h ⊢
      dsimp only at h ⊢;obtain⟨a1,f1⟩:=plain_val hR ⟨hk.1,hk.2,h10,h11⟩ (by omega) hd (Jx h) ha;exact⟨Zfp h a1,.inr (.inr ⟨f1,rfl,rfl⟩)⟩
  · rw[Yu]at h ⊢
    dsimp only at h ⊢;have g1:=Jx (Zqp h);have r1:=Zik L Yv st;obtain⟨a1,h8⟩:=down_at (Zlt g1) ha;obtain⟨a2,f2⟩:=i1 _ (d+1) (by omega) (by omega) g1 a1;exact⟨rise_at h a2,f2,by omega⟩
theorem rules_val(hR:Uw L):∀(n:Nat)(st:St),4*Zw L st+2≤n→(Vg nk L n st).2.good=true→AtD 0 st→AtD 0 (Vg nk L n st).2∧∀ r ∈ (Vg nk L n st).1,VRu r
 |0,st,h,_,_=>by omega
 |n+1,st,hn,h,ha=>by
  rw[Vg]at h ⊢;by_cases h0:Zh L Yx st=0
  ·rw[if_pos h0];exact⟨ha,fun r hr=>by cases hr⟩
  ·rw[if_neg h0]at h ⊢
   dsimp only at h ⊢;have r1:=Vq L h0;have r2:=Zqe L (Zh L Yx st) (Yd L Yx st);have r3:=We L Yv (Zeh L (Zh L Yx st) (Yd L Yx st));have r4:=Znl L nk n (Yb L Yv (Zeh L (Zh L Yx st) (Yd L Yx st)));have r5:=We L Xi (Ww nk L n (Yb L Yv (Zeh L (Zh L Yx st) (Yd L Yx st)))).2;have g1:=Zmw h;have g2:=Jx g1;have g3:=Zlt g2;have g4:=Jx g3;have hle:Zh L Yx st≤6:=by obtain⟨a,e⟩:=ha;rw[e];exact Zds (Zx L a) Yx
   have hs:AtD 0 (Zeh L (Zh L Yx st) (Yd L Yx st))∧(0≤Zoi L (Zh L Yx st) (Yd L Yx st)∧Zoi L (Zh L Yx st) (Yd L Yx st)≤99)∧(Zh L Yx st≠5→Zoi L (Zh L Yx st) (Yd L Yx st)=0):=by
    unfold Zeh Zoi at *;by_cases h5:Zh L Yx st=5
    ·rw[if_pos h5]at g4 ⊢
     rw[if_pos h5];obtain⟨a1,f1⟩:=int_at hR g4 (Zey ha);exact⟨a1,f1,fun hh=>absurd h5 hh⟩
    ·rw[if_neg h5,if_neg h5]
     exact⟨Zey ha,by omega,fun _=>rfl⟩
   obtain⟨a1,f1,f2⟩:=hs;obtain⟨a2,f3⟩:=(acts_val hR n).1 _ 0 (by omega) (by omega) g2 (Zfp g3 a1);obtain⟨a3,f4⟩:=rules_val hR n _ (by omega) h (Zfp g1 a2);refine⟨a3,fun r hr=>?_⟩;rcases List.mem_cons.1 hr with rfl | hr
   ·exact⟨⟨by dsimp only;omega,by dsimp only;omega⟩,f1,fun hh=>f2 (fun h5=>hh (by dsimp only;omega)),f3⟩
   ·exact f4 r hr
theorem body_val(hR:Uw L){n:Nat}{st:St}(hn:4*Zw L st+2≤n)(h:(Zhl nk L n st).2.good=true)(ha:AtD 0 st):AtD 0 (Zhl nk L n st).2∧∀ r ∈ (Zhl nk L n st).1,VRu r:=by
 unfold Zhl at h ⊢;dsimp only at h ⊢;have r1:=We L Yv st;have g1:=Jx h;obtain⟨a1,f1⟩:=rules_val hR n _ (by omega) g1 (Zfp (Zmw g1) ha);exact⟨Zfp h a1,f1⟩
theorem card_val(hR:Uw L){n:Nat}{l c:Int}{st:St}(hn:4*Zw L st+2≤n)(h:(Zfg nk L n l c st).2.good=true)(ha:AtD 0 st):AtD 0 (Zfg nk L n l c st).2∧VCa (Zfg nk L n l c st).1:=by
 unfold Zfg at h ⊢;dsimp only at h ⊢;have r1:=Zav L st;have r2:=We L Zcn (Vf L st);have r3:=Zhq L (Yb L Zcn (Vf L st));have r4:=We L Zcd (Zba L (Yb L Zcn (Vf L st)));have r5:=Zij L (Yb L Zcd (Zba L (Yb L Zcn (Vf L st))));have g1:=good_body h;have g2:=good_sign g1;have g3:=Jx g2;have g4:=Zoa g3;have g5:=Jx g4;obtain⟨a1,f1⟩:=Zqk hR g5 ha;obtain⟨a2,f2⟩:=int_at hR g3 (Zfp g4 a1);obtain⟨a3,f3⟩:=sign_at hR g1 (Zfp g2 a2);obtain⟨a4,f4⟩:=body_val hR (by omega) h a3;exact⟨a4,f1,f2,f3,f4⟩
theorem place_val(hR:Uw L){n:Nat}{l c:Int}{st:St}(hn:4*Zw L st+2≤n)(h:(Zce nk L n l c st).2.good=true)(ha:AtD 0 st):AtD 0 (Zce nk L n l c st).2∧VPl (Zce nk L n l c st).1:=by
 unfold Zce at h ⊢;dsimp only at h ⊢;have r1:=Zav L st;obtain⟨a1,f1⟩:=Zqk hR (good_body h) ha;obtain⟨a4,f4⟩:=body_val hR (by omega) h a1;exact⟨a4,f1,f4⟩
theorem file_val(hR:Uw L):∀(n:Nat)(st:St),4*Zw L st+1≤n→(Vv nk L n st).2.good=true→AtD 0 st→AtD 0 (Vv nk L n st).2∧VFi (Vv nk L n st).1
 |0,st,h,_,_=>by omega
 |n+1,st,hn,h,ha=>by
  rw[Vv]at h ⊢;by_cases h0:Zh L Xs st=0
  ·rw[if_pos h0];exact⟨ha,(fun c hc=>by cases hc),fun p hp=>by cases hp⟩
  ·rw[if_neg h0]at h ⊢
   have r1:=Vq L h0;by_cases h1:Zh L Xs st=1
   ·rw[if_pos h1]at h ⊢
    dsimp only at h ⊢;have r2:=rem_card L nk n (st.tok L).line (st.tok L).col (Yd L Xs st);obtain⟨a1,f1⟩:=card_val hR (by omega) (good_file h) (Zey ha);obtain⟨a2,f2,f3⟩:=file_val hR n _ (by omega) h a1;refine⟨a2,fun c hc=>?_,f3⟩;rcases List.mem_cons.1 hc with rfl | hc
    ·exact f1
    ·exact f2 c hc
   ·rw[if_neg h1]at h ⊢
    dsimp only at h ⊢;have r2:=rem_place L nk n (st.tok L).line (st.tok L).col (Yd L Xs st);obtain⟨a1,f1⟩:=place_val hR (by omega) (good_file h) (Zey ha);obtain⟨a2,f2,f3⟩:=file_val hR n _ (by omega) h a1;refine⟨a2,f2,fun p hp=>?_⟩;rcases List.mem_cons.1 hp with rfl | hp
    ·exact f1
    ·exact f3 p hp
end
def lFl(f:Fl):List Int:=
 if f.kind=1∨f.kind=2 then bL (wd Yg f.kind)++32::(bL (wd wOp f.op)++32::Zhm f.n)else if f.kind=3 then bL (wd Yg 3)++32::Zkd f.name
 else bL (wd Yg 4)++32::bL (wd Vk (f.kind - 3))
def lFls(l:List Fl):List Int:=l.flatMap fun f=>32::lFl f
def lSel(s:Se):List Int:=
 if s.kind=1∨s.kind=2 then bL (wd Yo s.kind)
 else 40::(bL (wd Zg s.side)++32::(bL (wd Zz s.wh)++((if s.wh=3 then 32::Zhm s.lane else [])++(lFls s.fs++32::(bL (wd Wo s.pick)++[41])))))
def lTo(k l:Int):List Int:=if k=4 then bL (wd wTo 4)++32::Zhm l else bL (wd wTo k)
def lB(b:Bool)(X:List Int):List Int:=if b=true then 40::(X++[41])else X
def lLeaf(kind n:Int)(sel:Se)(side tk tl:Int):List Int:=
 if kind=1 then Zhm n else if kind=2∨kind=3 then bL (wd Yy (kind - 1))++32::lSel sel else if kind=4 then bL (wd Yy 3)
 else if kind=5 then bL (wd Yy 4)++32::bL (wd Zg side)else bL (wd Yy 5)++32::(bL (wd Zg side)++32::lTo tk tl)
def cOp(op:Int):Int:=if op=3 then 42 else if op=1 then 43 else 45
def lE:Ex→List Int
 |.leaf kind n sel side tk tl=>lLeaf kind n sel side tk tl
 |.bin op l r=>lB (Zax false op l) (lE l)++32::cOp op::32::lB (Zax true op r) (lE r)
theorem Scn.lead{c:Bool}{Y:List Int}{T:List PT}(h:Scn c Y T):Scn c (32::Y) T:=(Scn.blank (.inl rfl)).then h
def lArgs(h:AH):List Int:=
 if h.kind=1∨h.kind=2∨h.kind=12 then lSel h.sel++32::lE h.num
 else if h.kind=3∨h.kind=5∨h.kind=14 then lSel h.sel
 else if h.kind=4 then lSel h.sel++32::lTo h.tk h.tl
 else if h.kind=6 then Zkd h.name++32::(bL (wd Zg h.side)++32::(lTo h.tk h.tl++32::lE h.num))
 else if h.kind=7∨h.kind=9 then bL (wd Zg h.side)++32::lE h.num
 else if h.kind=8 then bL (wd Zg h.side)++32::bL (wd Zde h.how)
 else bL (wd Zg h.side)++32::lTo h.tk h.tl
def Zpb(X:List Int):List Int:=123::32::(X++[125])
def lElse(no:Bool)(e:List Int):List Int:=if no=true then []else 32::(bL Jf++32::Zpb e)
def lAct(h:AH)(t e:List Int)(no:Bool):List Int:=
 bL (wd Xr h.kind)++32::(if h.kind=10 then lE h.cl++32::(bL (wd wOp h.cop)++32::(lE h.cr++32::(Zpb t++lElse no e)))else if h.kind=11 then lSel h.sel++32::Zpb t else lArgs h++[59])
def Zip:Acs→List Int
 |.nil=>[]
 |.cons h t e r=>lAct h (Zip t) (Zip e) e.isNil++32::Zip r
def lRu(r:Ru):List Int:=bL (wd Yx r.when_)++((if r.when_=5 then 32::Zhm r.stratum else [])++32::Zpb (Zip r.acts))
def lRus(l:List Ru):List Int:=l.flatMap fun r=>lRu r++[32]
def lBody(l:List Ru):List Int:=123::32::(lRus l++[125])
def lCa(c:Ca):List Int:=bL (wd Xs 1)++32::(Zkd c.name++32::(bL Zcn++32::(Zhm c.cost++32::(bL Zcd++32::(Zhm c.power++32::lBody c.rules)))))
def lPl(p:Pl):List Int:=bL (wd Xs 2)++32::(Zkd p.name++32::lBody p.rules)
def lFi(f:Fi):List Int:=(f.cards.flatMap fun c=>lCa c++[10])++f.places.flatMap fun p=>lPl p++[10]
def Zon(k l:Int):ByteArray:=if k=4 then⟨#[108,97,110,101,32]⟩++Xf l else wd wTo k
def Znh(t:ByteArray)(f:Fl):ByteArray:=
 if f.kind=1 then t++⟨#[32,99,111,115,116,32]⟩++wd wOp f.op++⟨#[32]⟩++Xf f.n
 else if f.kind=2 then t++⟨#[32,112,111,119,101,114,32]⟩++wd wOp f.op++⟨#[32]⟩++Xf f.n
 else if f.kind=3 then t++⟨#[32,110,97,109,101,100,32,34]⟩++f.name++⟨#[34]⟩
 else if f.kind=4 then t++⟨#[32,110,111,116,32,109,101]⟩else t++⟨#[32,110,111,116,32,105,116]⟩
def rzSel0(s:Se):ByteArray:=
 if s.wh=3 then⟨#[40]⟩++wd Zg s.side++⟨#[32]⟩++wd Zz s.wh++⟨#[32]⟩++Xf s.lane else⟨#[40]⟩++wd Zg s.side++⟨#[32]⟩++wd Zz s.wh
def Zft(s:Se):ByteArray:=
 if s.kind=1 then⟨#[109,101]⟩else if s.kind=2 then⟨#[105,116]⟩
 else s.fs.foldl Znh (rzSel0 s)++⟨#[32]⟩++wd Wo s.pick++⟨#[41]⟩
def Zng(op:Int):ByteArray:=if op=1 then⟨#[32,43,32]⟩else if op=2 then⟨#[32,45,32]⟩else⟨#[32,42,32]⟩
def Zoo(kind n:Int)(sel:Se)(side tk tl:Int):ByteArray:=
 if kind=1 then Xf n else if kind=2 then⟨#[99,111,117,110,116,32]⟩++Zft sel else if kind=3 then⟨#[115,117,109,32]⟩++Zft sel
 else if kind=4 then⟨#[114,111,117,110,100]⟩else if kind=5 then⟨#[104,97,110,100,32]⟩++wd Zg side
 else⟨#[102,114,101,101,32]⟩++wd Zg side++⟨#[32]⟩++Zon tk tl
def rzBr(b:Bool)(x:ByteArray):ByteArray:=if b=true then⟨#[40]⟩++x++⟨#[41]⟩else x
def Zif:Ex→ByteArray
 |.leaf kind n sel side tk tl=>Zoo kind n sel side tk tl
 |.bin op l r=>rzBr (Zax false op l) (Zif l)++Zng op++rzBr (Zax true op r) (Zif r)
def Zcu(h:AH)(s:ByteArray):ByteArray:=if h.kind<6∨h.kind=11∨h.kind=12∨h.kind=14 then s++⟨#[32]⟩++Zft h.sel else s++⟨#[32]⟩++wd Zg h.side
def Zeq(h:AH)(s:ByteArray):ByteArray:=if h.kind=6 then s++⟨#[32,34]⟩++h.name++⟨#[34]⟩else s
def Zeo(h:AH)(s:ByteArray):ByteArray:=if h.kind=4∨h.kind=6∨h.kind=13∨h.kind=15 then s++⟨#[32]⟩++Zon h.tk h.tl else s
def Zer(h:AH)(s:ByteArray):ByteArray:=if h.kind=8 then s++⟨#[32]⟩++wd Zde h.how else s
def Zep(h:AH)(s:ByteArray):ByteArray:=if h.kind=1∨h.kind=2∨h.kind=6∨h.kind=7∨h.kind=9∨h.kind=12 then s++⟨#[32]⟩++Zif h.num else s
def Zdv(h:AH):ByteArray:=Zep h (Zer h (Zeo h (Zcu h (Zeq h (wd Xr h.kind)))))++⟨#[59]⟩
def rzCd(h:AH)(t:ByteArray):ByteArray:=wd Xr 10++⟨#[32]⟩++Zif h.cl++⟨#[32]⟩++wd wOp h.cop++⟨#[32]⟩++Zif h.cr++⟨#[32]⟩++t
def Zdz(h:AH)(t e:ByteArray)(no:Bool):ByteArray:=
 if h.kind=10 then(if no=true then rzCd h t else rzCd h t++⟨#[32,101,108,115,101,32]⟩++e)
 else if h.kind=11 then Zcu h (wd Xr h.kind)++⟨#[32]⟩++t else Zdv h
def Zes:Acs→ByteArray→ByteArray
 |.nil,s=>s
 |.cons h t e r,s=>Zes r (s++Zdz h (Zes t ⟨#[123,32]⟩++⟨#[125]⟩) (Zes e ⟨#[123,32]⟩++⟨#[125]⟩) e.isNil++⟨#[32]⟩)
def Jg(x:Acs):ByteArray:=Zes x ⟨#[123,32]⟩++⟨#[125]⟩
def Zkq(s:ByteArray)(r:Ru):ByteArray:=(if r.when_=5 then s++wd Yx r.when_++⟨#[32]⟩++Xf r.stratum else s++wd Yx r.when_)++⟨#[32]⟩++Jg r.acts++⟨#[32]⟩
def Zkp(l:List Ru):ByteArray:=l.foldl Zkq ⟨#[123,32]⟩++⟨#[125]⟩
def Zml(c:Ca):ByteArray:=⟨#[99,97,114,100,32,34]⟩++c.name++⟨#[34,32,99,111,115,116,32]⟩++Xf c.cost++⟨#[32,112,111,119,101,114,32]⟩++Xf c.power++⟨#[32]⟩++Zkp c.rules
def Zhc(p:Pl):ByteArray:=⟨#[112,108,97,99,101,32,34]⟩++p.name++⟨#[34,32]⟩++Zkp p.rules
def rzFi(f:Fi):ByteArray:=f.places.foldl (fun s p=>s++Zhc p++⟨#[10]⟩) (f.cards.foldl (fun s c=>s++Zml c++⟨#[10]⟩) ⟨#[]⟩)
theorem Wr(s t:ByteArray):bL (s++t)=bL s++bL t:=by
 have h1:=Zke s;have h2:=Zke t
 have e:strOfNums (bL s++bL t)=s++t:=by
  conv=>rhs;rw[←Zha s,←Zha t]
  unfold strOfNums;apply ByteArray.ext;simp[ByteArray.data_append]
 rw[←e];exact Zmx _ (by intro x hx;rcases List.mem_append.1 hx with hx | hx;exact h1 x hx;exact h2 x hx)
theorem Zhy(n:Int):bL (Xf n)=Zhm n:=Zmx _ (putL_by n)
theorem Zca:bL (⟨#[]⟩:ByteArray)=[]:=by decide +kernel
theorem Zbz:bL (⟨#[10]⟩:ByteArray)=[10]:=by decide +kernel
theorem Zby:bL (⟨#[32]⟩:ByteArray)=[32]:=by decide +kernel
theorem Zbx:bL (⟨#[34]⟩:ByteArray)=[34]:=by decide +kernel
theorem Zbw:bL (⟨#[40]⟩:ByteArray)=[40]:=by decide +kernel
theorem Zbv:bL (⟨#[41]⟩:ByteArray)=[41]:=by decide +kernel
theorem Zbu:bL (⟨#[59]⟩:ByteArray)=[59]:=by decide +kernel
theorem Zbt:bL (⟨#[125]⟩:ByteArray)=[125]:=by decide +kernel
theorem Zbs:bL (⟨#[32,34]⟩:ByteArray)=[32,34]:=by decide +kernel
theorem Zbr:bL (⟨#[34,32]⟩:ByteArray)=[34,32]:=by decide +kernel
theorem Uv:bL (⟨#[123,32]⟩:ByteArray)=[123,32]:=by decide +kernel
theorem Uu:bL (⟨#[105,116]⟩:ByteArray)=[105,116]:=by decide +kernel
theorem Ut:bL (⟨#[109,101]⟩:ByteArray)=[109,101]:=by decide +kernel
theorem Us:bL (⟨#[32,42,32]⟩:ByteArray)=[32,42,32]:=by decide +kernel
theorem Ur:bL (⟨#[32,43,32]⟩:ByteArray)=[32,43,32]:=by decide +kernel
theorem Uq:bL (⟨#[32,45,32]⟩:ByteArray)=[32,45,32]:=by decide +kernel
theorem Up:bL (⟨#[115,117,109,32]⟩:ByteArray)=[115,117,109,32]:=by decide +kernel
theorem Uo:bL (⟨#[104,97,110,100,32]⟩:ByteArray)=[104,97,110,100,32]:=by decide +kernel
theorem Un:bL (⟨#[108,97,110,101,32]⟩:ByteArray)=[108,97,110,101,32]:=by decide +kernel
theorem Um:bL (⟨#[102,114,101,101,32]⟩:ByteArray)=[102,114,101,101,32]:=by decide +kernel
theorem Ul:bL (⟨#[114,111,117,110,100]⟩:ByteArray)=[114,111,117,110,100]:=by decide +kernel
theorem Uk:bL (⟨#[99,97,114,100,32,34]⟩:ByteArray)=[99,97,114,100,32,34]:=by decide +kernel
theorem Uj:bL (⟨#[32,99,111,115,116,32]⟩:ByteArray)=[32,99,111,115,116,32]:=by decide +kernel
theorem Ui:bL (⟨#[32,101,108,115,101,32]⟩:ByteArray)=[32,101,108,115,101,32]:=by decide +kernel
theorem Uh:bL (⟨#[99,111,117,110,116,32]⟩:ByteArray)=[99,111,117,110,116,32]:=by decide +kernel
theorem Ug:bL (⟨#[112,108,97,99,101,32,34]⟩:ByteArray)=[112,108,97,99,101,32,34]:=by decide +kernel
theorem Uf:bL (⟨#[34,32,99,111,115,116,32]⟩:ByteArray)=[34,32,99,111,115,116,32]:=by decide +kernel
theorem Ue:bL (⟨#[32,110,111,116,32,105,116]⟩:ByteArray)=[32,110,111,116,32,105,116]:=by decide +kernel
theorem Ud:bL (⟨#[32,110,111,116,32,109,101]⟩:ByteArray)=[32,110,111,116,32,109,101]:=by decide +kernel
theorem Uc:bL (⟨#[32,112,111,119,101,114,32]⟩:ByteArray)=[32,112,111,119,101,114,32]:=by decide +kernel
theorem Ub:bL (⟨#[32,110,97,109,101,100,32,34]⟩:ByteArray)=[32,110,97,109,101,100,32,34]:=by decide +kernel
theorem bl_f1:bL (wd Yg 1)=[99,111,115,116]:=by decide +kernel
theorem bl_f2:bL (wd Yg 2)=[112,111,119,101,114]:=by decide +kernel
theorem bl_f3:bL (wd Yg 3)=[110,97,109,101,100]:=by decide +kernel
theorem bl_f4:bL (wd Yg 4)=[110,111,116]:=by decide +kernel
theorem bl_m1:bL (wd Vk 1)=[109,101]:=by decide +kernel
theorem bl_m2:bL (wd Vk 2)=[105,116]:=by decide +kernel
theorem bl_s1:bL (wd Yo 1)=[109,101]:=by decide +kernel
theorem bl_s2:bL (wd Yo 2)=[105,116]:=by decide +kernel
theorem bl_t4:bL (wd wTo 4)=[108,97,110,101]:=by decide +kernel
theorem bl_c1:bL (wd Yy 1)=[99,111,117,110,116]:=by decide +kernel
theorem bl_c2:bL (wd Yy 2)=[115,117,109]:=by decide +kernel
theorem bl_c3:bL (wd Yy 3)=[114,111,117,110,100]:=by decide +kernel
theorem bl_c4:bL (wd Yy 4)=[104,97,110,100]:=by decide +kernel
theorem bl_c5:bL (wd Yy 5)=[102,114,101,101]:=by decide +kernel
theorem bl_l1:bL (wd Xs 1)=[99,97,114,100]:=by decide +kernel
theorem bl_l2:bL (wd Xs 2)=[112,108,97,99,101]:=by decide +kernel
theorem bl_cost:bL Zcn=[99,111,115,116]:=by decide +kernel
theorem bl_power:bL Zcd=[112,111,119,101,114]:=by decide +kernel
theorem bl_else:bL Jf=[101,108,115,101]:=by decide +kernel
theorem Zqc{k l:Int}(hv:VTo k l):bL (Zon k l)=lTo k l:=by
 unfold Zon lTo;split
 ·simp[Wr,Zhy,bl_t4,Zca,Zbz,Zby,Zbx,Zbw,Zbv,Zbu,Zbt,Zbs,Zbr,Uv,Uu,Ut,Us,Ur,Uq,Up,Uo,Un,Um,Ul,Uk,Uj,Ui,Uh,Ug,Uf,Ue,Ud,Uc,Ub]
 ·rfl
theorem rzFl_is{f:Fl}(hv:VFl f)(t:ByteArray):bL (Znh t f)=bL t++32::lFl f:=by
 unfold Znh lFl;rcases hv with⟨hk,_⟩ | ⟨hk,_⟩ | ⟨hk,_⟩
 ·rcases hk with hk | hk
  ·simp[hk,Wr,Zhy,bl_f1,Zca,Zbz,Zby,Zbx,Zbw,Zbv,Zbu,Zbt,Zbs,Zbr,Uv,Uu,Ut,Us,Ur,Uq,Up,Uo,Un,Um,Ul,Uk,Uj,Ui,Uh,Ug,Uf,Ue,Ud,Uc,Ub]
  ·simp[hk,Wr,Zhy,bl_f2,Zca,Zbz,Zby,Zbx,Zbw,Zbv,Zbu,Zbt,Zbs,Zbr,Uv,Uu,Ut,Us,Ur,Uq,Up,Uo,Un,Um,Ul,Uk,Uj,Ui,Uh,Ug,Uf,Ue,Ud,Uc,Ub]
 ·simp[hk,Wr,bl_f3,Zkd,Zca,Zbz,Zby,Zbx,Zbw,Zbv,Zbu,Zbt,Zbs,Zbr,Uv,Uu,Ut,Us,Ur,Uq,Up,Uo,Un,Um,Ul,Uk,Uj,Ui,Uh,Ug,Uf,Ue,Ud,Uc,Ub]
 ·rcases(by omega:f.kind=4∨f.kind=5)with hk | hk
  ·simp[hk,Wr,bl_f4,bl_m1,Zca,Zbz,Zby,Zbx,Zbw,Zbv,Zbu,Zbt,Zbs,Zbr,Uv,Uu,Ut,Us,Ur,Uq,Up,Uo,Un,Um,Ul,Uk,Uj,Ui,Uh,Ug,Uf,Ue,Ud,Uc,Ub]
  ·simp[hk,Wr,bl_f4,bl_m2,Zca,Zbz,Zby,Zbx,Zbw,Zbv,Zbu,Zbt,Zbs,Zbr,Uv,Uu,Ut,Us,Ur,Uq,Up,Uo,Un,Um,Ul,Uk,Uj,Ui,Uh,Ug,Uf,Ue,Ud,Uc,Ub]
theorem rzFls_is:∀(l:List Fl)(t:ByteArray),(∀ f ∈ l,VFl f)→bL (l.foldl Znh t)=bL t++lFls l
 |[],t,_=>by simp[lFls]
 |f::l,t,h=>by
  rw[List.foldl_cons,rzFls_is l _ (fun g hg=>h g (by simp[hg])),rzFl_is (h f (by simp))];simp[lFls]
theorem Zii{s:Se}(hv:VSe s):bL (Zft s)=lSel s:=by
 unfold Zft lSel;rcases hv with⟨hk,_⟩ | ⟨hk,h1,h2,h3,h4,h5,h6⟩
 ·rcases hk with hk | hk
  ·simp[hk,bl_s1,Zca,Zbz,Zby,Zbx,Zbw,Zbv,Zbu,Zbt,Zbs,Zbr,Uv,Uu,Ut,Us,Ur,Uq,Up,Uo,Un,Um,Ul,Uk,Uj,Ui,Uh,Ug,Uf,Ue,Ud,Uc,Ub]
  ·simp[hk,bl_s2,Zca,Zbz,Zby,Zbx,Zbw,Zbv,Zbu,Zbt,Zbs,Zbr,Uv,Uu,Ut,Us,Ur,Uq,Up,Uo,Un,Um,Ul,Uk,Uj,Ui,Uh,Ug,Uf,Ue,Ud,Uc,Ub]
 ·have n1:¬ s.kind=1:=by omega
  have n2:¬ s.kind=2:=by omega
  rw[if_neg n1,if_neg n2,if_neg (by omega),Wr,Wr,Wr,rzFls_is _ _ h5];unfold rzSel0;by_cases hw:s.wh=3
  ·simp[hw,Wr,Zhy,Zca,Zbz,Zby,Zbx,Zbw,Zbv,Zbu,Zbt,Zbs,Zbr,Uv,Uu,Ut,Us,Ur,Uq,Up,Uo,Un,Um,Ul,Uk,Uj,Ui,Uh,Ug,Uf,Ue,Ud,Uc,Ub]
  ·simp[hw,Wr,Zhy,Zca,Zbz,Zby,Zbx,Zbw,Zbv,Zbu,Zbt,Zbs,Zbr,Uv,Uu,Ut,Us,Ur,Uq,Up,Uo,Un,Um,Ul,Uk,Uj,Ui,Uh,Ug,Uf,Ue,Ud,Uc,Ub]
theorem rzLeaf_is{kind n:Int}{sel:Se}{side tk tl:Int}(hv:VLeaf kind n sel side tk tl):bL (Zoo kind n sel side tk tl)=lLeaf kind n sel side tk tl:=by
 unfold Zoo lLeaf;rcases hv with⟨hk,hn,_⟩ | ⟨hk,_,hs,_⟩ | ⟨hk,_⟩ | ⟨hk,_,_,hs,_⟩ | ⟨hk,_,_,hs,ht⟩
 ·simp[hk,Zhy]
 ·rcases hk with hk | hk
  ·simp[hk,Wr,Zii hs,bl_c1,Zca,Zbz,Zby,Zbx,Zbw,Zbv,Zbu,Zbt,Zbs,Zbr,Uv,Uu,Ut,Us,Ur,Uq,Up,Uo,Un,Um,Ul,Uk,Uj,Ui,Uh,Ug,Uf,Ue,Ud,Uc,Ub]
  ·simp[hk,Wr,Zii hs,bl_c2,Zca,Zbz,Zby,Zbx,Zbw,Zbv,Zbu,Zbt,Zbs,Zbr,Uv,Uu,Ut,Us,Ur,Uq,Up,Uo,Un,Um,Ul,Uk,Uj,Ui,Uh,Ug,Uf,Ue,Ud,Uc,Ub]
 ·simp[hk,bl_c3,Zca,Zbz,Zby,Zbx,Zbw,Zbv,Zbu,Zbt,Zbs,Zbr,Uv,Uu,Ut,Us,Ur,Uq,Up,Uo,Un,Um,Ul,Uk,Uj,Ui,Uh,Ug,Uf,Ue,Ud,Uc,Ub]
 ·simp[hk,Wr,bl_c4,Zca,Zbz,Zby,Zbx,Zbw,Zbv,Zbu,Zbt,Zbs,Zbr,Uv,Uu,Ut,Us,Ur,Uq,Up,Uo,Un,Um,Ul,Uk,Uj,Ui,Uh,Ug,Uf,Ue,Ud,Uc,Ub]
 ·simp[hk,Wr,Zqc ht,bl_c5,Zca,Zbz,Zby,Zbx,Zbw,Zbv,Zbu,Zbt,Zbs,Zbr,Uv,Uu,Ut,Us,Ur,Uq,Up,Uo,Un,Um,Ul,Uk,Uj,Ui,Uh,Ug,Uf,Ue,Ud,Uc,Ub]
theorem rzBr_is{b:Bool}{x:ByteArray}{X:List Int}(h:bL x=X):bL (rzBr b x)=lB b X:=by
 unfold rzBr lB;split
 ·simp[Wr,h,Zca,Zbz,Zby,Zbx,Zbw,Zbv,Zbu,Zbt,Zbs,Zbr,Uv,Uu,Ut,Us,Ur,Uq,Up,Uo,Un,Um,Ul,Uk,Uj,Ui,Uh,Ug,Uf,Ue,Ud,Uc,Ub]
 ·exact h
theorem Zjh:∀ x:Ex,VEx x→bL (Zif x)=lE x
 |.leaf kind n sel side tk tl,hv=>rzLeaf_is hv
 |.bin op l r,hv=>by
  have h1:=rzBr_is (b:=Zax false op l) (Zjh l hv.2.1);have h2:=rzBr_is (b:=Zax true op r) (Zjh r hv.2.2)
  have h3:bL (Zng op)=[32,cOp op,32]:=by
   have h:op=1∨op=2∨op=3:=by have:=hv.1;omega
   rcases h with rfl | rfl | rfl<;>simp[Zng,cOp,Zca,Zbz,Zby,Zbx,Zbw,Zbv,Zbu,Zbt,Zbs,Zbr,Uv,Uu,Ut,Us,Ur,Uq,Up,Uo,Un,Um,Ul,Uk,Uj,Ui,Uh,Ug,Uf,Ue,Ud,Uc,Ub]
  unfold Zif lE;rw[Wr,Wr,h1,h2,h3];simp
theorem rzPl_is{h:AH}{d:Nat}(hv:Zgj d h):bL (Zdv h)=bL (wd Xr h.kind)++32::(lArgs h++[59]):=by
 unfold Zdv Zep Zer Zeo Zcu Zeq lArgs;rcases hv with⟨hk,_,hs,hn,_⟩ | ⟨hk,_,hs⟩ | ⟨hk,_,hs,ht⟩ | ⟨hk,_,_,_,ht,hn,_⟩ | ⟨hk,_,_,hn,_⟩ | ⟨hk,_⟩ | ⟨hk,_,_,ht⟩
 ·have e:=Zii hs
  have e2:=Zjh _ hn;rcases hk with hk | hk | hk<;>simp[hk,Wr,e,e2,Zca,Zbz,Zby,Zbx,Zbw,Zbv,Zbu,Zbt,Zbs,Zbr,Uv,Uu,Ut,Us,Ur,Uq,Up,Uo,Un,Um,Ul,Uk,Uj,Ui,Uh,Ug,Uf,Ue,Ud,Uc,Ub]
 ·have e:=Zii hs
  rcases hk with hk | hk | hk<;>simp[hk,Wr,e,Zca,Zbz,Zby,Zbx,Zbw,Zbv,Zbu,Zbt,Zbs,Zbr,Uv,Uu,Ut,Us,Ur,Uq,Up,Uo,Un,Um,Ul,Uk,Uj,Ui,Uh,Ug,Uf,Ue,Ud,Uc,Ub]
 ·have e:=Zii hs
  have e2:=Zqc ht;simp[hk,Wr,e,e2,Zca,Zbz,Zby,Zbx,Zbw,Zbv,Zbu,Zbt,Zbs,Zbr,Uv,Uu,Ut,Us,Ur,Uq,Up,Uo,Un,Um,Ul,Uk,Uj,Ui,Uh,Ug,Uf,Ue,Ud,Uc,Ub]
 ·have e:=Zjh _ hn
  have e2:=Zqc ht;simp[hk,Wr,e,e2,Zkd,Zca,Zbz,Zby,Zbx,Zbw,Zbv,Zbu,Zbt,Zbs,Zbr,Uv,Uu,Ut,Us,Ur,Uq,Up,Uo,Un,Um,Ul,Uk,Uj,Ui,Uh,Ug,Uf,Ue,Ud,Uc,Ub]
 ·have e2:=Zjh _ hn
  rcases hk with hk | hk<;>simp[hk,Wr,e2,Zca,Zbz,Zby,Zbx,Zbw,Zbv,Zbu,Zbt,Zbs,Zbr,Uv,Uu,Ut,Us,Ur,Uq,Up,Uo,Un,Um,Ul,Uk,Uj,Ui,Uh,Ug,Uf,Ue,Ud,Uc,Ub]
 ·simp[hk,Wr,Zca,Zbz,Zby,Zbx,Zbw,Zbv,Zbu,Zbt,Zbs,Zbr,Uv,Uu,Ut,Us,Ur,Uq,Up,Uo,Un,Um,Ul,Uk,Uj,Ui,Uh,Ug,Uf,Ue,Ud,Uc,Ub]
 ·have e2:=Zqc ht
  rcases hk with hk | hk<;>simp[hk,Wr,e2,Zca,Zbz,Zby,Zbx,Zbw,Zbv,Zbu,Zbt,Zbs,Zbr,Uv,Uu,Ut,Us,Ur,Uq,Up,Uo,Un,Um,Ul,Uk,Uj,Ui,Uh,Ug,Uf,Ue,Ud,Uc,Ub]
theorem rzAct_is{h:AH}{d:Nat}{t e:ByteArray}{T E:List Int}{no:Bool}(hv:Zpw d h∨VEach h∨Zgj d h)(ht:bL t=Zpb T)(he:bL e=Zpb E):bL (Zdz h t e no)=lAct h T E no:=by
 unfold Zdz lAct;rcases hv with hv | hv | hv
 ·have hk:=hv.kind
  obtain⟨_,_,⟨h1,_⟩,h2,_⟩:=hv;have e1:=Zjh _ h1;have e2:=Zjh _ h2;rw[if_pos hk,if_pos hk,hk];unfold rzCd lElse;split
  ·simp[Wr,e1,e2,ht,Zca,Zbz,Zby,Zbx,Zbw,Zbv,Zbu,Zbt,Zbs,Zbr,Uv,Uu,Ut,Us,Ur,Uq,Up,Uo,Un,Um,Ul,Uk,Uj,Ui,Uh,Ug,Uf,Ue,Ud,Uc,Ub]
  ·simp[Wr,e1,e2,ht,he,bl_else,Zca,Zbz,Zby,Zbx,Zbw,Zbv,Zbu,Zbt,Zbs,Zbr,Uv,Uu,Ut,Us,Ur,Uq,Up,Uo,Un,Um,Ul,Uk,Uj,Ui,Uh,Ug,Uf,Ue,Ud,Uc,Ub]
 ·have hk:=hv.kind
  have e1:=Zii hv.2;rw[if_neg (by omega),if_pos hk,if_neg (by omega),if_pos hk,hk];unfold Zcu;simp[hk,Wr,e1,ht,Zca,Zbz,Zby,Zbx,Zbw,Zbv,Zbu,Zbt,Zbs,Zbr,Uv,Uu,Ut,Us,Ur,Uq,Up,Uo,Un,Um,Ul,Uk,Uj,Ui,Uh,Ug,Uf,Ue,Ud,Uc,Ub]
 ·have hk:=hv.kind
  rw[if_neg (by omega),if_neg (by omega),if_neg (by omega),if_neg (by omega),rzPl_is hv]
theorem Zbb.parts{d:Nat}{h:AH}{t e r:Acs}(hv:Zbb d (.cons h t e r)):(Zpw d h∨VEach h∨Zgj d h)∧Zbb (d+1) t∧Zbb (d+1) e∧Zbb d r:=by
 obtain⟨hv,hr⟩:=hv;rcases hv with⟨_,a,b,c⟩ | ⟨_,a,b,c⟩ | ⟨a,b,c⟩
 ·exact⟨.inl a,b,c,hr⟩
 ·exact⟨.inr (.inl a),b,by rw[c];trivial,hr⟩
 ·exact⟨.inr (.inr a),by rw[b];trivial,by rw[c];trivial,hr⟩
theorem Zlm:∀(x:Acs)(d:Nat)(s:ByteArray),Zbb d x→bL (Zes x s)=bL s++Zip x
 |.nil,d,s,_=>by simp[Zes,Zip]
 |.cons h t e r,d,s,hv=>by
  obtain⟨h0,ht,he,hr⟩:=hv.parts;have e1:bL (Zes t ⟨#[123,32]⟩++⟨#[125]⟩)=Zpb (Zip t):=by rw[Wr,Zlm t _ _ ht];simp[Zpb,Zca,Zbz,Zby,Zbx,Zbw,Zbv,Zbu,Zbt,Zbs,Zbr,Uv,Uu,Ut,Us,Ur,Uq,Up,Uo,Un,Um,Ul,Uk,Uj,Ui,Uh,Ug,Uf,Ue,Ud,Uc,Ub]
  have e2:bL (Zes e ⟨#[123,32]⟩++⟨#[125]⟩)=Zpb (Zip e):=by rw[Wr,Zlm e _ _ he];simp[Zpb,Zca,Zbz,Zby,Zbx,Zbw,Zbv,Zbu,Zbt,Zbs,Zbr,Uv,Uu,Ut,Us,Ur,Uq,Up,Uo,Un,Um,Ul,Uk,Uj,Ui,Uh,Ug,Uf,Ue,Ud,Uc,Ub]
  unfold Zes Zip;rw[Zlm r _ _ hr,Wr,Wr,rzAct_is h0 e1 e2];simp[Zca,Zbz,Zby,Zbx,Zbw,Zbv,Zbu,Zbt,Zbs,Zbr,Uv,Uu,Ut,Us,Ur,Uq,Up,Uo,Un,Um,Ul,Uk,Uj,Ui,Uh,Ug,Uf,Ue,Ud,Uc,Ub]
theorem rzBlk_is{x:Acs}{d:Nat}(hv:Zbb d x):bL (Jg x)=Zpb (Zip x):=by
 unfold Jg;rw[Wr,Zlm x _ _ hv];simp[Zpb,Zca,Zbz,Zby,Zbx,Zbw,Zbv,Zbu,Zbt,Zbs,Zbr,Uv,Uu,Ut,Us,Ur,Uq,Up,Uo,Un,Um,Ul,Uk,Uj,Ui,Uh,Ug,Uf,Ue,Ud,Uc,Ub]
theorem rzRu_is{r:Ru}(hv:VRu r)(s:ByteArray):bL (Zkq s r)=bL s++(lRu r++[32]):=by
 have e:=rzBlk_is hv.2.2.2;unfold Zkq lRu;by_cases hw:r.when_=5
 ·simp[hw,Wr,Zhy,e,Zca,Zbz,Zby,Zbx,Zbw,Zbv,Zbu,Zbt,Zbs,Zbr,Uv,Uu,Ut,Us,Ur,Uq,Up,Uo,Un,Um,Ul,Uk,Uj,Ui,Uh,Ug,Uf,Ue,Ud,Uc,Ub]
 ·simp[hw,Wr,e,Zca,Zbz,Zby,Zbx,Zbw,Zbv,Zbu,Zbt,Zbs,Zbr,Uv,Uu,Ut,Us,Ur,Uq,Up,Uo,Un,Um,Ul,Uk,Uj,Ui,Uh,Ug,Uf,Ue,Ud,Uc,Ub]
theorem rzRus_fold:∀(l:List Ru)(s:ByteArray),(∀ r ∈ l,VRu r)→bL (l.foldl Zkq s)=bL s++lRus l
 |[],s,_=>by simp[lRus]
 |r::l,s,h=>by
  rw[List.foldl_cons,rzRus_fold l _ (fun g hg=>h g (by simp[hg])),rzRu_is (h r (by simp))];simp[lRus]
theorem rzRus_is{l:List Ru}(hv:∀ r ∈ l,VRu r):bL (Zkp l)=lBody l:=by
 unfold Zkp lBody;rw[Wr,rzRus_fold l _ hv];simp[Zca,Zbz,Zby,Zbx,Zbw,Zbv,Zbu,Zbt,Zbs,Zbr,Uv,Uu,Ut,Us,Ur,Uq,Up,Uo,Un,Um,Ul,Uk,Uj,Ui,Uh,Ug,Uf,Ue,Ud,Uc,Ub]
theorem rzCa_is{c:Ca}(hv:VCa c):bL (Zml c)=lCa c:=by
 have e:=rzRus_is hv.2.2.2;unfold Zml lCa;simp[Wr,Zhy,e,Zkd,bl_l1,bl_cost,bl_power,Zca,Zbz,Zby,Zbx,Zbw,Zbv,Zbu,Zbt,Zbs,Zbr,Uv,Uu,Ut,Us,Ur,Uq,Up,Uo,Un,Um,Ul,Uk,Uj,Ui,Uh,Ug,Uf,Ue,Ud,Uc,Ub]
theorem rzPla_is{p:Pl}(hv:VPl p):bL (Zhc p)=lPl p:=by
 have e:=rzRus_is hv.2;unfold Zhc lPl;simp[Wr,e,Zkd,bl_l2,Zca,Zbz,Zby,Zbx,Zbw,Zbv,Zbu,Zbt,Zbs,Zbr,Uv,Uu,Ut,Us,Ur,Uq,Up,Uo,Un,Um,Ul,Uk,Uj,Ui,Uh,Ug,Uf,Ue,Ud,Uc,Ub]
theorem fold_is{α:Type}(f:α→ByteArray)(g:α→List Int):∀(l:List α)(s:ByteArray),(∀ x ∈ l,bL (f x)=g x)→bL (l.foldl (fun s x=>s++f x++⟨#[10]⟩) s)=bL s++l.flatMap fun x=>g x++[10]
 |[],s,_=>by simp
 |x::l,s,h=>by
  rw[List.foldl_cons,fold_is f g l _ (fun y hy=>h y (by simp[hy])),Wr,Wr,h x (by simp)];simp[Zca,Zbz,Zby,Zbx,Zbw,Zbv,Zbu,Zbt,Zbs,Zbr,Uv,Uu,Ut,Us,Ur,Uq,Up,Uo,Un,Um,Ul,Uk,Uj,Ui,Uh,Ug,Uf,Ue,Ud,Uc,Ub]
theorem rzFi_is{f:Fi}(hv:VFi f):bL (rzFi f)=lFi f:=by
 unfold rzFi lFi;rw[fold_is Zhc lPl _ _ (fun p hp=>rzPla_is (hv.2 p hp)),fold_is Zml lCa _ _ (fun c hc=>rzCa_is (hv.1 c hc))];simp[Zca,Zbz,Zby,Zbx,Zbw,Zbv,Zbu,Zbt,Zbs,Zbr,Uv,Uu,Ut,Us,Ur,Uq,Up,Uo,Un,Um,Ul,Uk,Uj,Ui,Uh,Ug,Uf,Ue,Ud,Uc,Ub]
theorem str_of{s:ByteArray}{X:List Int}(h:bL s=X):s=strOfNums X:=by rw[←h,Zha]
theorem size_of{s:ByteArray}{X:List Int}(h:bL s=X):s.size=X.length:=by rw[←h,Vs]
open Go.ChangeShapes Go.WideShapes Go.ChangeAt Go.RowKit
def Vt(v:TokV):Value:=.agg #[I J v.k,Ψ v.t,I J v.n,I J (v.line:Int),I J (v.col:Int)]
theorem Zgr(a n l c:Int)(b:ByteArray)(w:World):(Instr.field 69 (.agg #[I J a,Ψ b,I J n,I J l,I J c]) 0).run Φ w=.ok (I J a) w:=by kernel_rfl
structure At(w:World)(p:Nat)(v:TokV)(d:Int)(r o n c:Nat):Prop where
 c0:w.cell? ⟨p,0,none⟩=some (Λ (some ⟨r,o,none⟩) n c)
 c1:w.cell? ⟨p,1,none⟩=some (I J d)
 t0:w.cell? ⟨r,o,none⟩=some (I J v.k)
 t1:w.cell? ⟨r,o+1,none⟩=some (Ψ v.t)
 t2:w.cell? ⟨r,o+2,none⟩=some (I J v.n)
 t3:w.cell? ⟨r,o+3,none⟩=some (I J (v.line:Int))
 t4:w.cell? ⟨r,o+4,none⟩=some (I J (v.col:Int))
 pin:p<w.heap.size
 rin:r<w.heap.size
 n0:0<n
 n1:(n:Int)≤9223372036854775807
theorem At.below{w w':World}{p:Nat}{v:TokV}{d:Int}{r o n c:Nat}(h:At w p v d r o n c)(hb:Below w.heap.size w w'):At w' p v d r o n c:=by
 have hp:=h.pin;have hr:=h.rin;have key:∀ b j,b<w.heap.size→w'.cell? ⟨b,j,none⟩=w.cell? ⟨b,j,none⟩:=fun b j hj=>hb.cell (p:=⟨b,j,none⟩) hj
 exact⟨(key _ _ hp).trans h.c0,(key _ _ hp).trans h.c1,(key _ _ hr).trans h.t0,(key _ _ hr).trans h.t1,(key _ _ hr).trans h.t2,(key _ _ hr).trans h.t3,(key _ _ hr).trans h.t4,Nat.lt_of_lt_of_le hp hb.size,Nat.lt_of_lt_of_le hr hb.size,h.n0,h.n1⟩
theorem Zqv(w:World)(p:Nat)(v:TokV)(d:Int)(r o n c:Nat)(h:At w p v d r o n c) :
  Calls Φ 96 #[Ω (some ⟨p,0,none⟩)] w fun e w'=>e=η (.bool true)∧w=w':=by
 obtain⟨c0,c1,t0,t1,t2,t3,t4,pin,rin,n0,n1⟩:=h;go_enter Tryz.func96,Tryz.ntmps96;go_wp2
 go_ret;exact⟨rfl,rfl⟩
theorem Zof(w:World)(p:Nat)(v:TokV)(d:Int)(r o n c:Nat)(h:At w p v d r o n c) :
  Calls Φ 71 #[Ω (some ⟨p,0,none⟩)] w fun e w'=>e=η (Vt v)∧Below w.heap.size w w':=by
 have h1:=h.below ((Below.refl _ _).alloc (Θ _) (.cells #[I J 0,Ψ ⟨#[]⟩,I J 0,I J 0,I J 0] 69));have H1:=Hh h1;obtain⟨c0,c1,t0,t1,t2,t3,t4,pin,rin,n0,n1⟩:=h1;have rin':=h.rin;have pin':=h.pin;clear h;unfold Vt;go_enter Tryz.func71,Tryz.ntmps71;go_wp2_with(go_at_call 96;refine(Zqv _ _ v d r o n c H1.out).mono ?_;rintro e w1 ⟨rfl,rfl⟩)
 refine bodyPost_ret (v:=.agg #[I J v.k,Ψ v.t,I J v.n,I J (v.line:Int),I J (v.col:Int)]) (by simp[results,Tryz.results71,go_sem]) rfl ⟨rfl,?_⟩;exact(Below.refl _ _).alloc (Θ _) _
theorem Ze.set3{w:World}{g:Nat}{t:TypeId}{a b c:Value}(h:Ze w g t #[a,b,c])(x0 x1 x2:Value) :
 Ze (((w.setCell ⟨g,0,none⟩ x0).setCell ⟨g,1,none⟩ x1).setCell ⟨g,2,none⟩ x2) g t #[x0,x1,x2]:=((h.write 0 x0).write 1 x1).write 2 x2
theorem Below.set3{B g:Nat}{w0 w:World}(h:Below B w0 w)(hg:B≤g)(x0 x1 x2:Value) :
 Below B w0 (((w.setCell ⟨g,0,none⟩ x0).setCell ⟨g,1,none⟩ x1).setCell ⟨g,2,none⟩ x2):=((h.setCell hg x0).setCell hg x1).setCell hg x2
theorem cHere(w:World)(p:Nat)(v:TokV)(d:Int)(r o n c:Nat)(E:Int)(h:At w p v d r o n c) :
  Calls Φ 97 #[Ω (some ⟨p,0,none⟩),I J E] w fun e w'=>e=η (Zq (E,v.line,v.col))∧Below w.heap.size w w':=by
 have h1:=h.below ((Below.refl _ _).alloc (Θ _) (.cells #[I J 0,I J 0,I J 0] 29));have H1:=Hh h1;have F0:=Ze.made w 29 #[I J 0,I J 0,I J 0];clear h h1;unfold Zq;go_enter Tryz.func97,Tryz.ntmps97;go_wp2_with(first
 |(go_at_call 96;refine(Zqv _ _ v d r o n c H1.out).mono ?_;rintro e w1 ⟨rfl,rfl⟩)
 |(go_at_call 71;refine(Zof _ _ v d r o n c H1.out).mono ?_;rintro e w2 ⟨rfl,b2⟩;have W2:=Hh (F0.below b2 (by simp));obtain⟨k0,k1,k2,f0,f1,f2⟩:=Yc W2.out;have hz:=W2.out.inside;have B2:=Hh b2;clear b2;simp only[Vt]))
 have hF:=Yc ((Ze.set3 W2.out (I J E) (I J (v.line:Int)) (I J (v.col:Int))).alloc (.cells #[I J v.k,Ψ v.t,I J v.n,I J (v.line:Int),I J (v.col:Int)] 69));refine bodyPost_ret (v:=.agg #[I J E,I J (v.line:Int),I J (v.col:Int)]) (by simp[results,Tryz.results97,go_sem,hF]) rfl ⟨rfl,?_⟩;exact(Below.set3 (((Below.refl _ _).alloc (Θ _) _).trans (B2.out.mono (by simp))) (Θ _) _ _ _).alloc (by simp;omega) _
theorem cIs(w:World)(p:Nat)(v:TokV)(d:Int)(r o n c:Nat)(t:ByteArray)(h:At w p v d r o n c) :
  Calls Φ 128 #[Ω (some ⟨p,0,none⟩),Ψ t] w fun e w'=>e=η (.bool (isT v t))∧Below w.heap.size w w':=by
 have H1:=Hh h;have HT:Hid (isT v t=((v.k == 1 || v.k == 4) && (v.t.toList == t.toList))):=Hh rfl;clear h;cases h1:(v.k == 1)<;>cases h4:(v.k == 4)<;>cases ht:(v.t.toList == t.toList)
 all_goals
  have HH:=Hh (ζ h1 (ζ h4 ht));go_enter Tryz.func128,Tryz.ntmps128;go_wp2_with(go_at_call 71;refine(Zof _ _ v d r o n c H1.out).mono ?_;rintro e w2 ⟨rfl,b2⟩;have B2:=Hh b2;clear b2;simp only[Vt])
  go_ret;exact⟨by rw[HT.out,HH.out.1,HH.out.2.1,HH.out.2.2];rfl,B2.out.alloc B2.out.size _⟩
theorem cWrong(w:World)(p:Nat)(v:TokV)(d:Int)(r o n c:Nat)(h:At w p v d r o n c) :
  Calls Φ 73 #[Ω (some ⟨p,0,none⟩)] w fun e w'=>e=η (Zq (wrF v))∧Below w.heap.size w w':=by
 have h1:=h.below ((Below.refl _ _).alloc (Θ _) (.cells #[I J 0,I J 0,I J 0] 29));have H1:=Hh h1;have F0:=Ze.made w 29 #[I J 0,I J 0,I J 0];have hfd:=fun w=>Zgr v.k v.n (v.line:Int) (v.col:Int) v.t w
 clear h h1;unfold Zq wrF;by_cases hk:v.k=0
 ·have q0:(v.k == 0)=true:=by rw[hk];rfl
  rw[if_pos hk];clear hk;go_enter Tryz.func73,Tryz.ntmps73;go_wp2_with(first
 |(go_at_call 71;refine(Zof _ _ v d r o n c H1.out).mono ?_;rintro e w2 ⟨rfl,b2⟩;have H2:=Hh (H1.out.below b2);have W2:=Hh (F0.below b2 (by simp));have B2:=Hh b2;clear b2;simp only[Vt])
 |(go_at_call 97;refine(cHere _ _ v d r o n c _ H2.out).mono ?_;rintro e w3 ⟨rfl,b3⟩;have W3:=Hh (W2.out.below b3 W2.out.inside);obtain⟨k0,k1,k2,f0,f1,f2⟩:=Yc W3.out;have hz:=W3.out.inside;have B3:=Hh (Jm B2.out b3);clear b3;simp only[Zq]))
  have hF:=Yc (Ze.set3 W3.out (I J 2) (I J (v.line:Int)) (I J (v.col:Int)));refine bodyPost_ret (v:=.agg #[I J 2,I J (v.line:Int),I J (v.col:Int)]) (by simp[results,Tryz.results73,go_sem,hF]) rfl ⟨rfl,?_⟩;exact Below.set3 (((Below.refl _ _).alloc (Θ _) _).trans (B3.out.mono (by simp))) (Θ _) _ _ _
 ·have q0:(v.k == 0)=false:=by rw[beq_eq_false_iff_ne];exact hk
  rw[if_neg hk];clear hk;go_enter Tryz.func73,Tryz.ntmps73;go_wp2_with(first
 |(go_at_call 71;refine(Zof _ _ v d r o n c H1.out).mono ?_;rintro e w2 ⟨rfl,b2⟩;have H2:=Hh (H1.out.below b2);have W2:=Hh (F0.below b2 (by simp));have B2:=Hh b2;clear b2;simp only[Vt])
 |(go_at_call 97;refine(cHere _ _ v d r o n c _ H2.out).mono ?_;rintro e w3 ⟨rfl,b3⟩;have W3:=Hh (W2.out.below b3 W2.out.inside);obtain⟨k0,k1,k2,f0,f1,f2⟩:=Yc W3.out;have hz:=W3.out.inside;have B3:=Hh (Jm B2.out b3);clear b3;simp only[Zq]))
  have hF:=Yc (Ze.set3 W3.out (I J 7) (I J (v.line:Int)) (I J (v.col:Int)));refine bodyPost_ret (v:=.agg #[I J 7,I J (v.line:Int),I J (v.col:Int)]) (by simp[results,Tryz.results73,go_sem,hF]) rfl ⟨rfl,?_⟩;exact Below.set3 (((Below.refl _ _).alloc (Θ _) _).trans (B3.out.mono (by simp))) (Θ _) _ _ _
theorem rtMarks(w:World):Calls Φ 173 #[] w (MarksPost w):=by
 have hE:=Hh mkCs_eq;go_enter Tryz.func173,Tryz.ntmps173;go_wp2
 go_ret;refine⟨w.heap.size,rfl,Θ _,?_,(Below.refl _ _).alloc (Θ _) _⟩;rw[hE.out];exact Ze.made _ _ _
theorem Zln(c:Int)(w:World):Calls Φ 138 #[.int .u8 c] w fun e w'=>e=η (.bool (Zbl c))∧w=w':=by
 go_enter Tryz.func138,Tryz.ntmps138;go_wp2
 all_goals
  go_ret;refine⟨Uy ?_,rfl⟩;rw[Bool.eq_iff_iff,Zgb];simp;try omega
theorem Zhp(c:Int)(w:World):Calls Φ 139 #[.int .u8 c] w fun e w'=>e=η (.bool (isD c))∧w=w':=by
 go_enter Tryz.func139,Tryz.ntmps139;go_wp2
 all_goals
  go_ret;refine⟨Uy ?_,rfl⟩;rw[Bool.eq_iff_iff,Zcw];simp;try omega
theorem rtUntil(s:ByteArray)(a:Nat)(c:Int)(w:World)(hs:s.size≤140737488355328)(ha:a≤s.size) :
  Calls Φ 140 #[Ψ s,I J (a:Int),.int .u8 c] w fun e w'=>e=η (I J ((a+tw (Xn c) (Zl s a):Nat):Int))∧w=w':=by
 obtain⟨G,hG⟩:∃ G,a+tw (Xn c) (Zl s a)=G:=⟨_,rfl⟩
 rw[hG];have HG:=Hh hG;clear hG;go_enter Tryz.func140,Tryz.ntmps140;go_wp2
 go_loop [1] (fun i=>∃ k:Nat,i=I J (k:Int)∧k≤s.size∧k+tw (Xn c) (Zl s k)=G) (fun i=>s.size - (intOf i).toNat)
 case atStart=>exact⟨a,rfl,ha,HG.out⟩
 case round=>
  obtain⟨k,rfl,hk,he⟩:=hrel;by_cases h:k<s.size
  ·have g:=Jk s k h
   rw[Xb s h,g]at he;have l1:(k:Int)<(s.size:Int):=by omega
   cases hc:Xn c ((s[k]'h).toNat:Int)with
   |true=>
    rw[Jd _ hc]at he;have hq:(((s[k]'h).toNat:Int) != c)=true:=by simpa using(Zcq _ _).1 hc
    have HE:=Hh he;clear he hc g;go_wp2
    go_round
    case rel=>exact⟨k+1,by go_num,by omega,by have:=HE.out;omega⟩
    case measure=>simp[intOf];omega
   |false=>
    rw[Zdq _ hc]at he
    have hq:(((s[k]'h).toNat:Int) != c)=false:=by
     rw[bne_eq_false_iff_eq];rcases Decidable.em (((s[k]'h).toNat:Int)=c)with e | e
     ·exact e
     ·rw[(Zcq c _).2 e]at hc;cases hc
    have HE:=Hh he;clear he hc g;go_wp2
    go_ret;exact⟨rI (by have:=HE.out;omega),rfl⟩
  ·rw[Zcb s (by omega),Zkm]at he
   have HE:=Hh he;clear he;go_wp2
   go_ret;exact⟨rI (by have:=HE.out;omega),rfl⟩
theorem prefix_test(s:ByteArray)(a:Nat)(m:List Int)(hm:∀ x ∈ m,0≤x∧x<256)(h:a+m.length≤s.size):((s.extract a (a+m.length)).toList == (strOfNums m).toList)=m.isPrefixOf (Zl s a):=by
 rw[Zhx s a m.length h,Zmi _ _ (fun x hx=>Zke s x (List.mem_of_mem_drop (List.mem_of_mem_take hx))) hm,Bool.eq_iff_iff,decide_eq_true_iff,List.isPrefixOf_iff_prefix,List.prefix_iff_eq_take];exact⟨fun e=>e.symm,fun e=>e.symm⟩
theorem prefix_long(s:ByteArray)(a:Nat)(m:List Int)(h:s.size<a+m.length)(h0:0<m.length):m.isPrefixOf (Zl s a)=false:=by
 rw[←Bool.not_eq_true,List.isPrefixOf_iff_prefix];intro hp;have:=hp.length_le;rw[Xt]at this;omega
theorem rtMark(s:ByteArray)(a:Nat)(w:World)(hs:s.size≤140737488355328)(ha:a<s.size) :
  Calls Φ 142 #[Ψ s,I J (a:Int)] w fun e w'=>e=η (I J (Zay (Zl s a):Nat))∧Below w.heap.size w w':=by
 go_enter Tryz.func142,Tryz.ntmps142;go_wp2_with(go_at_call 173;refine(rtMarks _).mono ?_;rintro e w1 ⟨g,rfl,hg1,hW1,b1⟩)
 have HW:=Hh hW1;have HB:=Hh b1;clear hW1 b1;go_loopw [5,7] (fun n i wr=>∃ k q:Nat,k≤14∧i=I J (k:Int)∧n=I J (((mkL.take k).foldl (Vy (Zl s a)) 0:Nat):Int)∧wr=w1.drewN q) (fun _ i _=>14 - (intOf i).toNat)
 case atStart=>exact⟨0,0,by omega,rfl,rfl,rfl⟩
 case round=>
  obtain⟨k,q,hk,rfl,rfl,rfl⟩:=hrel;have hbd:=mk_bd (Zl s a) k;by_cases hkl:k<14
  ·have hst:=mk_next (Zl s a) k hkl
   have hce:w1.cell? ⟨g,k,none⟩=some (Ψ (strOfNums (mkL[k]'hkl))):=by
    rw[HW.out.read k];have:=mkCs_at k hkl;rw[←this];simp
   have hby:=mk_by k hkl;have hml:=mk_len k hkl;generalize mkL[k]'hkl=m at *;generalize hn:(mkL.take k).foldl (Vy (Zl s a)) 0=n at *;have hpt:=prefix_test s a m hby;have hpl:=prefix_long s a m;have hsz:(strOfNums m).size=m.length:=strOfNums_size m;have HST:=Hh hst;have HNN:=Hh hn;rw[←hsz]at hpt hpl hml;have HSZ:=Hh hsz;generalize strOfNums m=ms at *;obtain⟨s1,s2⟩:=hml;have lk:(k:Int)<14:=by omega
   have lk0:decide ((k:Int)<0)=false:=by simp
   clear hst hsz hn hby hkl;by_cases hfit:a+ms.size≤s.size
   ·have hsl:=fun w=>slice_nn (P:=Φ) 9 (by kernel_rfl) s a ms.size hfit w
    have hfi:decide ((a:Int)+(ms.size:Int)≤(s.size:Int))=true:=by simp;omega
    cases hp:m.isPrefixOf (Zl s a)with
    |true=>
     have heq:=(hpt hfit).trans hp;clear hpt hpl;by_cases hlt:(n:Int)<(ms.size:Int)
     ·have hv:Vy (Zl s a) n m=ms.size:=by unfold Vy;rw[if_pos ⟨by have:=HSZ.out;omega,hp⟩,HSZ.out]
      have hw0:IntKind.i64.wrap ((a:Int)+(ms.size:Int))=(a:Int)+(ms.size:Int):=IntWalk.i64_in _ (by omega);have HV:=Hh hv;clear hv hp;go_wp2
      go_quiet (fail)
      go_wp2
      go_roundw
      case rel=>exact⟨k+1,_,by omega,by go_num,by rw[HST.out,HV.out],rfl⟩
      case measure=>simp[intOf];omega
     ·have hv:Vy (Zl s a) n m=n:=by unfold Vy;rw[if_neg (by have:=HSZ.out;omega)]
      have hw0:IntKind.i64.wrap ((a:Int)+(ms.size:Int))=(a:Int)+(ms.size:Int):=IntWalk.i64_in _ (by omega);have HV:=Hh hv;clear hv hp;go_wp2
      go_quiet (fail)
      go_wp2
      go_roundw
      case rel=>exact⟨k+1,_,by omega,by go_num,by rw[HST.out,HV.out],rfl⟩
      case measure=>simp[intOf];omega
    |false=>
     have heq:=(hpt hfit).trans hp;have hv:Vy (Zl s a) n m=n:=by unfold Vy;rw[if_neg (by rw[hp];simp)]
     have hw0:IntKind.i64.wrap ((a:Int)+(ms.size:Int))=(a:Int)+(ms.size:Int):=IntWalk.i64_in _ (by omega);clear hpt hpl;have HV:=Hh hv;clear hv hp;go_wp2
     go_quiet (fail)
     go_wp2
     go_roundw
     case rel=>exact⟨k+1,_,by omega,by go_num,by rw[HST.out,HV.out],rfl⟩
     case measure=>simp[intOf];omega
   ·have hfi:decide ((a:Int)+(ms.size:Int)≤(s.size:Int))=false:=by simp;omega
    have hp:=hpl (by omega) (by omega);have hv:Vy (Zl s a) n m=n:=by unfold Vy;rw[if_neg (by rw[hp];simp)]
    have hw0:IntKind.i64.wrap ((a:Int)+(ms.size:Int))=(a:Int)+(ms.size:Int):=IntWalk.i64_in _ (by omega);clear hpt hpl;have HV:=Hh hv;clear hv hp;go_wp2
    go_quiet (fail)
    go_wp2
    go_roundw
    case rel=>exact⟨k+1,_,by omega,by go_num,by rw[HST.out,HV.out],rfl⟩
    case measure=>simp[intOf];omega
  ·obtain rfl:k=14:=by omega
   have hfold:(mkL.take 14).foldl (Vy (Zl s a)) 0=Zay (Zl s a):=by rw[←mk_fold];rfl
   have HF:=Hh hfold;clear hfold hkl;go_wp2
   go_ret;exact⟨rI (by rw[HF.out]),Zpu HB.out q⟩
end Go.Proofs.YtdngkgickbaboaaGreat
