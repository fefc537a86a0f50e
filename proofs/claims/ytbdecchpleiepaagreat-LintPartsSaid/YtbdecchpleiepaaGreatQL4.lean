/- Parts of the proof. No conditions but those that each names. -/
import Derived.Deep.QuietTactic
import Derived.BigQuiet
import Derived.Test.YtbdecchpleiepaaGreatQL2
import Derived.Test.YtbdecchpleiepaaGreatQL3
set_option maxRecDepth 20000
set_option maxHeartbeats 99000000
set_option linter.unusedVariables false
set_option linter.unusedSimpArgs false
namespace Go.Proofs.YtbdecchpleiepaaGreat
open Go.Value renaming int→I,slice→Λ,pointer→Ω,string→Ψ
open Go.IntKind renaming i64→J
open _root_.Go.Proofs.Tryz renaming prog→Φ
open Nat renaming le_refl→Θ
open Nat renaming le_trans→Ξ
open And renaming intro→ζ
open Go.Ending renaming returned→η
open Go
inductive Tr (s:ByteArray):Nat→List TokV→Prop
 |fin:∀ a,a=s.size→Tr s a [Zoe s a]
 |skip:∀ a b L,a<b→Tr s b L→Tr s a L
 |tok:∀ a L,a<s.size→0<(Yh (Zl s a)).1→Bd s a→Tr s (a+(Yh (Zl s a)).2.2.2) L→Tr s a (Zgh s a::L)
theorem Zji(s:ByteArray):∀(b a:Nat)(acc L:List TokV)(E:Int)(p:Nat),s.size≤a+b→a≤s.size→Bd s a→Jp s a acc=(L,E,p) →
  (E=0→∃ L',L=acc++L'∧Tr s a L')∧(E≠0→L=[]∧Bd s p)
 |0,a,acc,L,E,p,h,h1,hB,hs=>by
  rw[Zms s acc (by omega)]at hs;injection hs with e1 e2;injection e2 with e2 e3;exact⟨fun _=>⟨_,e1.symm,Tr.fin a (by omega)⟩,fun c=>absurd e2.symm c⟩
 |b+1,a,acc,L,E,p,h,h1,hB,hs=>by
  by_cases ha:a<s.size
  ·cases hbl:Zgq (gB s a:Int)with
   |true=>
    rw[Zei s acc ha hbl]at hs;obtain⟨i1,i2⟩:=Zji s b (a+1) acc L E p (by omega) (by omega) (Bd.behind ha (by rw[Zem]at hbl;omega)) hs;refine⟨fun e=>?_,i2⟩;obtain⟨L',hL,ht⟩:=i1 e;exact⟨L',hL,Tr.skip a (a+1) L' (by omega) ht⟩
   |false=>
    by_cases hk:(Yh (Zl s a)).1 < -1
    ·rw[Zmr s acc ha hbl hk]at hs
     injection hs with e1 e2;injection e2 with e2 e3;refine⟨fun c=>?_,fun _=>⟨e1.symm,e3 ▸ hB⟩⟩;have:=errE_is (Yh (Zl s a)).1;omega
    ·have hadv:=Zca s ha (by omega)
     by_cases hr:(Yh (Zl s a)).1 = -1
     ·rw[Zmq s acc ha hbl hr]at hs
      obtain⟨i1,i2⟩:=Zji s b _ acc L E p (by omega) hadv.2 (rem_bd s ha hr) hs;refine⟨fun e=>?_,i2⟩;obtain⟨L',hL,ht⟩:=i1 e;exact⟨L',hL,Tr.skip a _ L' (by omega) ht⟩
     ·have hpos:0<(Yh (Zl s a)).1:=by
            have:=(Zhd (Zl s a) (Zfl s ha)).2.2.2.2.1;omega
      rw[Zmp s acc ha hbl hpos]at hs;obtain⟨i1,i2⟩:=Zji s b _ (acc++[Zgh s a]) L E p (by omega) hadv.2 (tok_bd s ha hpos) hs;refine⟨fun e=>?_,i2⟩;obtain⟨L',hL,ht⟩:=i1 e;exact⟨Zgh s a::L',by rw[hL];simp,Tr.tok a L' ha hpos hB ht⟩
  ·exact Zji s 0 a acc L E p (by omega) h1 hB hs
theorem Tr.up{s:ByteArray}{a:Nat}{L:List TokV}(h:Tr s a L) :
  (∀ v ∈ L,a≤v.p∧Bd s v.p∧v.line=(Zt s (v.p:Int)).1∧v.col=(Zt s (v.p:Int)).2)∧L.Pairwise (fun u v=>u.p<v.p):=by
 induction h with
 |fin a ha=>
  subst ha;refine⟨fun v hv=>?_,by simp⟩;simp at hv;subst hv;exact⟨Θ _,Bd.end_ s,rfl,rfl⟩
 |skip a b L hab _ ih=>exact⟨fun v hv=>⟨by have:=(ih.1 v hv).1;omega,(ih.1 v hv).2⟩,ih.2⟩
 |tok a L ha hk hB _ ih=>
  have hadv:=Zca s ha (by omega);refine⟨fun v hv=>?_,?_⟩
  ·rcases List.mem_cons.1 hv with rfl | hv
   ·exact⟨Θ _,hB,rfl,rfl⟩
   ·exact⟨by have:=(ih.1 v hv).1;omega,(ih.1 v hv).2⟩
  ·rw[List.pairwise_cons]
   refine⟨fun v hv=>?_,ih.2⟩;have:=(ih.1 v hv).1;show a<v.p;omega
theorem Tr.before{s:ByteArray}{a:Nat}{L:List TokV}(h:Tr s a L){m:Nat}(hm:m+1<L.length) :
  (L[m]'(by omega)).line<(L[m+1]'hm).line∨(L[m]'(by omega)).line=(L[m+1]'hm).line∧(L[m]'(by omega)).col<(L[m+1]'hm).col:=by
 obtain⟨h1,h2⟩:=h.up;have hp:=List.pairwise_iff_getElem.1 h2 m (m+1) (by omega) hm (by omega);have u:=h1 _ (List.getElem_mem (show m<L.length by omega));have v:=h1 _ (List.getElem_mem hm);have:=place_lt u.2.1 v.2.1 hp;rw[u.2.2.1,u.2.2.2,v.2.2.1,v.2.2.2];exact this
def txt(v:TokV):List Int:=if v.k=3 then 34::(bL v.t++[34])else bL v.t
def wrL(L:List TokV):List Int:=L.flatMap fun v=>txt v++[32]
theorem wrL_cons(v:TokV)(L:List TokV):wrL (v::L)=txt v++32::wrL L:=by unfold wrL;simp
theorem name_no10(X:List Int)(hX:∀ x ∈ X,0≤x∧x<256)(h:Zce (strOfNums X)=true):∀ x ∈ X,x≠10:=by
 intro x hx h10;subst h10;obtain⟨i,hi,he⟩:=List.mem_iff_getElem.1 hx;have hz:(strOfNums X).size=X.length:=strOfNums_size X;have hb:bL (strOfNums X)=X:=bL_str X hX;have hg:=Zje (strOfNums X) i (by omega);rw[hb,List.getElem?_eq_getElem hi,he]at hg
 have hg10:gB (strOfNums X) i=10:=by
  have:=Option.some.inj hg;omega
 have hm:=ascii_rune (strOfNums X) i (by omega) (by omega);rw[hg10]at hm;unfold Zce at h;simp only[Bool.and_eq_true]at h;have hin:=List.all_eq_true.1 h.1.1.2 _ hm;simp[Zbb,Zga]at hin
def GoodT(v:TokV):Prop:=∃ l:List Int,0<(Yh l).1∧v.k=(Yh l).1∧txt v=l.take (Yh l).2.2.2∧v.t=strOfNums ((l.take (Yh l).2.2.1).drop (Yh l).2.1)∧v.n=Zcs (Yh l).1 l∧(∀ x ∈ txt v,0≤x∧x<256∧x≠10)∧(txt v).length=(Yh l).2.2.2
theorem tok_parts(l:List Int)(h:0<(Yh l).1)(hl:∀ x ∈ l,0≤x∧x<256):(if(Yh l).1=3 then 34::((l.take (Yh l).2.2.1).drop (Yh l).2.1++[34])else(l.take (Yh l).2.2.1).drop (Yh l).2.1)=l.take (Yh l).2.2.2∧∀ x ∈ l.take (Yh l).2.2.2,x≠10:=by
 cases l with
 |nil=>simp[Yh]at h
 |cons c m=>
  revert h
  refine Zaj c m (fun x=>0<x.1→(if x.1=3 then 34::(((c::m).take x.2.2.1).drop x.2.1++[34])else((c::m).take x.2.2.1).drop x.2.1)=(c::m).take x.2.2.2∧∀ y ∈ (c::m).take x.2.2.2,y≠10) ?_ ?_ ?_ ?_ ?_ ?_ ?_ ?_
  ·intro hs _
   refine⟨by rw[if_neg (by simp)];rfl,fun y hy=>?_⟩;have:=Zoh Zaq (c::m) y hy;rw[Zel]at this;omega
  ·intro hs h2 h3 _
   refine⟨by rw[if_neg (by simp)];rfl,fun y hy=>?_⟩;have:=Zoh isD (c::m) y hy;rw[Zbs]at this;omega
  ·intro _ _ h;simp at h
  ·intro _ h;simp at h
  ·intro hc hlt hnm _
   subst hc;dsimp only;rcases tw_end (Xh 34) m with he | ⟨x,hx,hxp⟩
   ·omega
   ·have hx34:x=34:=by
     rcases Decidable.em (x=34)with e | e
     ·exact e
     ·rw[(Zbk 34 x).2 e]at hxp;cases hxp
    subst hx34;have hn10:=name_no10 _ (fun y hy=>hl y (List.mem_cons_of_mem _ (List.mem_of_mem_take hy))) hnm;generalize tw (Xh 34) m=n at *;have hm1:m.take (n+1)=m.take n++[34]:=by rw[List.take_add_one,hx];rfl
    refine⟨?_,?_⟩
    ·rw[if_pos rfl,List.take_succ_cons,List.take_succ_cons,List.drop_succ_cons,List.drop_zero,hm1]
    ·intro y hy
     rw[List.take_succ_cons,hm1]at hy;rcases List.mem_cons.1 hy with rfl | hy
     ·decide
     ·rcases List.mem_append.1 hy with hy | hy
      ·exact hn10 y hy
      ·simp at hy;omega
  ·intro _ _ h;simp at h
  ·intro h1 h2 h3 h4 h5 _
   refine⟨by rw[if_neg (by simp)];rfl,fun y hy=>?_⟩;dsimp only at hy
   have hc:c≠10:=by
    rintro rfl;rw[Zfo,if_neg (by simp),if_neg (by decide)]at h5;exact h5 rfl
   rw[Zfo]at hy;split at hy
   ·rename_i e1
    cases m with
    |nil=>simp at e1
    |cons d m'=>
     have hd:d=61:=by simpa using e1.2
     rcases List.mem_cons.1 hy with rfl | hy
     ·exact hc
     ·simp at hy;omega
   ·split at hy
    ·simp at hy;omega
    ·simp at hy
  ·intro _ _ _ _ _ h;simp at h
theorem good_tok(s:ByteArray){a:Nat}(ha:a<s.size)(hk:0<(Yh (Zl s a)).1):GoodT (Zgh s a):=by
 have hb:=Zhd (Zl s a) (Zfl s ha);rw[Xo]at hb;have hrange:∀ x ∈ Zl s a,0≤x∧x<256:=fun x hx=>bL_bd s x (List.mem_of_mem_drop hx)
 obtain⟨p1,p2⟩:=tok_parts (Zl s a) hk hrange
 have ht:(Zgh s a).t=strOfNums (((Zl s a).take (Yh (Zl s a)).2.2.1).drop (Yh (Zl s a)).2.1):=by
  have e:=Zgd s (a+(Yh (Zl s a)).2.1) ((Yh (Zl s a)).2.2.1 - (Yh (Zl s a)).2.1) (by omega);rw[show a+(Yh (Zl s a)).2.1+((Yh (Zl s a)).2.2.1 - (Yh (Zl s a)).2.1)=a+(Yh (Zl s a)).2.2.1 from by omega]at e;show s.extract _ _=_;rw[e,List.drop_take];unfold Zl;rw[List.drop_drop]
 have hx:txt (Zgh s a)=(Zl s a).take (Yh (Zl s a)).2.2.2:=by
  have hbl:bL (Zgh s a).t=((Zl s a).take (Yh (Zl s a)).2.2.1).drop (Yh (Zl s a)).2.1:=by
   rw[ht,bL_str _ (fun x hx=>hrange x (List.mem_of_mem_take (List.mem_of_mem_drop hx)))]
  unfold txt;rw[hbl,←p1];rfl
 refine⟨Zl s a,hk,rfl,hx,ht,rfl,fun x hxx=>?_,?_⟩
 ·rw[hx]at hxx
  have:=hrange x (List.mem_of_mem_take hxx);exact⟨this.1,this.2,p2 x hxx⟩
 ·rw[hx,List.length_take,Xo];omega
inductive Sh:List TokV→Prop
 |fin:∀ v:TokV,v.k=0→v.t=⟨#[]⟩→v.n=0→Sh [v]
 |tok:∀ v L,GoodT v→Sh L→Sh (v::L)
theorem Tr.sh{s:ByteArray}{a:Nat}{L:List TokV}(h:Tr s a L):Sh L:=by
 induction h with
 |fin a ha=>exact Sh.fin _ rfl rfl rfl
 |skip _ _ _ _ _ ih=>exact ih
 |tok a L ha hk _ _ ih=>exact Sh.tok _ _ (good_tok s ha hk) ih
theorem Tr.size{s:ByteArray}{a:Nat}{L:List TokV}(h:Tr s a L):(wrL L).length+2*a≤2*s.size+1:=by
 induction h with
 |fin a ha=>
  subst ha
  have:wrL [Zoe s s.size]=[32]:=by
   unfold wrL txt Zoe;rfl
  rw[this];simp;omega
 |skip a b L hab _ ih=>omega
 |tok a L ha hk _ _ ih=>
  have hadv:=Zca s ha (by omega)
  have hlen:(txt (Zgh s a)).length=(Yh (Zl s a)).2.2.2:=by
   obtain⟨l,g1,g2,g3,g4,g5,g6,g7⟩:=good_tok s ha hk;have hrange:∀ x ∈ Zl s a,0≤x∧x<256:=fun x hx=>bL_bd s x (List.mem_of_mem_drop hx)
   obtain⟨p1,_⟩:=tok_parts (Zl s a) hk hrange;have hb:=Zhd (Zl s a) (Zfl s ha);rw[Xo]at hb;have e:=congrArg List.length p1;rw[List.length_take,Xo,Nat.min_eq_left (by omega)]at e
   have hbl:(bL (Zgh s a).t).length=(Yh (Zl s a)).2.2.1 - (Yh (Zl s a)).2.1:=by
    rw[Us];show(s.extract _ _).size=_;rw[size_extract _ _ _ (by omega)];omega
   rw[←e];unfold txt;show(if(Yh (Zl s a)).1=3 then _ else _:List Int).length=_;split
   ·simp[hbl,Xo];omega
   ·simp[hbl,Xo];omega
  rw[wrL_cons,List.length_append,List.length_cons,hlen];omega
def SimT(L M:List TokV):Prop:=L.length=M.length∧∀(i:Nat)(h:i<L.length)(h':i<M.length),(M[i]'h').k=(L[i]'h).k∧(M[i]'h').t=(L[i]'h).t∧(M[i]'h').n=(L[i]'h).n∧(M[i]'h').line=1
theorem SimT.cons{u v:TokV}{L M:List TokV}(h:SimT L M)(h1:v.k=u.k)(h2:v.t=u.t)(h3:v.n=u.n)(h4:v.line=1):SimT (u::L) (v::M):=by
 refine⟨by simp[h.1],fun i hi hi'=>?_⟩;cases i with
 |zero=>exact⟨h1,h2,h3,h4⟩
 |succ i=>exact h.2 i (by simpa using hi) (by simpa using hi')
def Zhz:TokV:=⟨0,⟨#[]⟩,0,0,0,0⟩
def Yb(L:List TokV)(a:Nat):TokV:=L[a]?.getD Zhz
theorem curT_get(L:List TokV)(a:Nat)(h:a<L.length):Yb L a=L[a]'h:=by unfold Yb;rw[List.getElem?_eq_getElem h];rfl
structure Zml(L:List TokV):Prop where
 pos:0<L.length
 last:∀ i,i<L.length→((Yb L i).k=0↔i+1=L.length)
 num:∀ i,0≤(Yb L i).n∧(Yb L i).n≤99
theorem numOf_bd(l:List Int):0≤Zcs (Yh l).1 l∧Zcs (Yh l).1 l≤99:=by
 cases l with
 |nil=>simp[Yh,Zcs]
 |cons c r=>
  refine Zaj c r (fun x=>0≤Zcs x.1 (c::r)∧Zcs x.1 (c::r)≤99) ?_ ?_ ?_ ?_ ?_ ?_ ?_ ?_
  case refine_2=>
   intro h1 h2 _
   have hd:∀ x ∈ Xr (c::r),48≤x∧x≤57:=by
    intro x hx;rw[firstD_tw]at hx;exact(Zbs x).1 (Zoh isD _ x hx)
   have hv:=Zbd _ hd;have hl:(Xr (c::r)).length≤2:=by rw[Zdt];exact h2
   have hp:(10:Int) ^ (Xr (c::r)).length≤100:=by
    generalize(Xr (c::r)).length=n at hl;match n,hl with
    |0,_=>decide
    |1,_=>decide
    |2,_=>decide
   show 0≤Zcs 2 (c::r)∧Zcs 2 (c::r)≤99;unfold Zcs;rw[if_pos rfl];omega
  all_goals(intros;simp[Zcs])
theorem Zju(v:TokV)(L:List TokV)(i:Nat):Yb (v::L) (i+1)=Yb L i:=by unfold Yb;simp
theorem Zfg(v:TokV)(L:List TokV):Yb (v::L) 0=v:=by unfold Yb;simp
theorem Sh.ends{L:List TokV}(h:Sh L):Zml L:=by
 induction h with
 |fin v hk ht hn=>
  refine⟨by simp,fun i hi=>?_,fun i=>?_⟩
  ·obtain rfl:i=0:=by simp at hi;exact hi
   rw[Zfg];simp[hk]
  ·cases i with
   |zero=>rw[Zfg,hn];decide
   |succ i=>rw[Zju];simp[Yb,Zhz]
 |tok v L hg hL ih=>
  obtain⟨l,g1,g2,g3,g4,g5,g6,g7⟩:=hg;refine⟨by simp,fun i hi=>?_,fun i=>?_⟩
  ·cases i with
   |zero=>
    have:=ih.pos;rw[Zfg,List.length_cons];constructor
    ·intro h;omega
    ·intro h;omega
   |succ i=>
    rw[Zju,List.length_cons];have:=ih.last i (by simpa using hi);rw[this];omega
  ·cases i with
   |zero=>rw[Zfg,g5];exact numOf_bd l
   |succ i=>rw[Zju];exact ih.num i
theorem Tr.len{s:ByteArray}{a:Nat}{L:List TokV}(h:Tr s a L):L.length+a≤s.size+1:=by
 induction h with
 |fin a ha=>simp;omega
 |skip a b L hab _ ih=>omega
 |tok a L ha hk _ _ ih=>
  have:=Zca s ha (by omega);rw[List.length_cons];omega
def onA(L:List TokV)(a:Nat):Nat:=if(Yb L a).k=0 then a else a+1
theorem Zml.on{L:List TokV}(h:Zml L){a:Nat}(ha:a<L.length):onA L a<L.length:=by
 unfold onA;split
 ·exact ha
 ·rename_i hk
  have:¬(a+1=L.length):=fun e=>hk ((h.last a ha).2 e)
  omega
theorem Zml.on'{L:List TokV}(h:Zml L){a:Nat}(ha:a<L.length):onA L a=if(a:Int)<(L.length:Int) - 1 then a+1 else a:=by
 unfold onA;have:=h.last a ha;split
 ·rw[if_neg (by omega)]
 ·rw[if_pos (by omega)]
def isT(v:TokV)(t:ByteArray):Bool:=(v.k == 1 || v.k == 4) && (v.t.toList == t.toList)
def wrF(v:TokV):Int×Nat×Nat:=if v.k=0 then(2,v.line,v.col)else(7,v.line,v.col)
def okF:Int×Nat×Nat:=(0,0,0)
def Zno:ByteArray:=⟨#[45]⟩
def Zbz(L:List TokV)(a:Nat)(t:ByteArray):Nat:=if isT (Yb L a) t=true then onA L a else a
def wantF(L:List TokV)(a:Nat)(t:ByteArray):Int×Nat×Nat:=if isT (Yb L a) t=true then okF else wrF (Yb L a)
def Up(L:List TokV)(a:Nat)(k:Int):Nat:=if(Yb L a).k=k then onA L a else a
def Wd(L:List TokV)(a:Nat)(k:Int):Int×Nat×Nat:=if(Yb L a).k=k then okF else wrF (Yb L a)
def Zkx(L:List TokV)(a:Nat):Int:=if(Yb L a).k=2 then(Yb L a).n else 0
def Znn(L:List TokV)(a:Nat):ByteArray:=if(Yb L a).k=3 then(Yb L a).t else⟨#[]⟩
def Zfj(L:List TokV)(a:Nat):Nat:=if isT (Yb L a) Zno=true then(if(Yb L (onA L a)).k=2 then onA L (onA L a)else a)else Up L a 2
def Znj(L:List TokV)(a:Nat):Int:=if isT (Yb L a) Zno=true then(if(Yb L (onA L a)).k=2 then - (Yb L (onA L a)).n else 0)else Zkx L a
def Zbf(L:List TokV)(a:Nat):Int×Nat×Nat:=if isT (Yb L a) Zno=true then Wd L (onA L a) 2 else Wd L a 2
def Zdg(d:Nat):Nat:=if d=8 then 8 else d+1
def Jq(L:List TokV)(a d:Nat):Int×Nat×Nat:=if d=8 then(8,(Yb L a).line,(Yb L a).col)else okF
theorem Zhb(v:TokV):(wrF v).1≠0:=by unfold wrF;split<;>simp
structure Fl where
 kind:Int
 op:Int
 n:Int
 name:ByteArray
structure Se where
 kind:Int
 side:Int
 wh:Int
 lane:Int
 fs:List Fl
 pick:Int
def zSe:Se:=⟨0,0,0,0,[],0⟩
inductive Ex where
 |leaf (kind n:Int) (sel:Se) (side tk tl:Int)
 |bin (op:Int) (l r:Ex)
def zEx:Ex:=.leaf 0 0 zSe 0 0 0
structure AH where
 kind:Int
 line:Int
 col:Int
 sel:Se
 num:Ex
 side:Int
 tk:Int
 tl:Int
 how:Int
 name:ByteArray
 cop:Int
 cl:Ex
 cr:Ex
def AH.zero(k l c:Int):AH:=⟨k,l,c,zSe,zEx,0,0,0,0,⟨#[]⟩,0,zEx,zEx⟩
inductive Acs where
 |nil
 |cons (h:AH) (thn els rest:Acs)
def Acs.len:Acs→Nat
 |.nil=>0
 |.cons _ _ _ r=>r.len+1
def Acs.app:Acs→Acs→Acs
 |.nil,y=>y
 |.cons h t e r,y=>.cons h t e (r.app y)
structure Ru where
 when_:Int
 stratum:Int
 line:Int
 col:Int
 acts:Acs
structure Ca where
 name:ByteArray
 cost:Int
 power:Int
 line:Int
 col:Int
 rules:List Ru
structure Pl where
 name:ByteArray
 line:Int
 col:Int
 rules:List Ru
structure Fi where
 cards:List Ca
 places:List Pl
theorem Acs.app_nil:∀ x:Acs,x.app .nil=x
 |.nil=>rfl
 |.cons h t e r=>by rw[Acs.app,Acs.app_nil r]
theorem Acs.app_assoc(y z:Acs):∀ x:Acs,(x.app y).app z=x.app (y.app z)
 |.nil=>rfl
 |.cons h t e r=>by rw[Acs.app,Acs.app,Acs.app,Acs.app_assoc y z r]
theorem Acs.len_app(y:Acs):∀ x:Acs,(x.app y).len=x.len+y.len
 |.nil=>by rw[Acs.app,Acs.len];omega
 |.cons h t e r=>by rw[Acs.app,Acs.len,Acs.len,Acs.len_app y r];omega
def Yr:List ByteArray:=[⟨#[109,101]⟩,⟨#[105,116]⟩,⟨#[40]⟩]
def Zq:List ByteArray:=[⟨#[109,105,110,101]⟩,⟨#[116,104,101,105,114,115]⟩,⟨#[98,111,116,104]⟩]
def Yq:List ByteArray:=[⟨#[104,101,114,101]⟩,⟨#[97,119,97,121]⟩,⟨#[108,97,110,101]⟩,⟨#[97,110,121,119,104,101,114,101]⟩]
def Wt:List ByteArray:=[⟨#[99,111,115,116]⟩,⟨#[112,111,119,101,114]⟩,⟨#[110,97,109,101,100]⟩,⟨#[110,111,116]⟩]
def Zeu:List ByteArray:=[⟨#[109,101]⟩,⟨#[105,116]⟩]
def Zdo:List ByteArray:=[⟨#[97,108,108]⟩,⟨#[102,105,114,115,116]⟩,⟨#[108,97,115,116]⟩,⟨#[119,101,97,107,101,115,116]⟩,⟨#[115,116,114,111,110,103,101,115,116]⟩]
def wTo:List ByteArray:=[⟨#[104,101,114,101]⟩,⟨#[108,101,102,116]⟩,⟨#[114,105,103,104,116]⟩,⟨#[108,97,110,101]⟩]
def wHow:List ByteArray:=[⟨#[102,105,114,115,116]⟩,⟨#[108,97,115,116]⟩,⟨#[99,104,101,97,112,101,115,116]⟩,⟨#[99,111,115,116,108,105,101,115,116]⟩]
def wOp:List ByteArray:=[⟨#[60]⟩,⟨#[60,61]⟩,⟨#[61]⟩,⟨#[33,61]⟩,⟨#[62,61]⟩,⟨#[62]⟩]
def Zcz:List ByteArray:=[⟨#[43]⟩,⟨#[45]⟩]
def Wa:List ByteArray:=[⟨#[99,111,117,110,116]⟩,⟨#[115,117,109]⟩,⟨#[114,111,117,110,100]⟩,⟨#[104,97,110,100]⟩,⟨#[102,114,101,101]⟩]
def Wj:List ByteArray:=[⟨#[112,111,119,101,114]⟩,⟨#[115,101,116]⟩,⟨#[100,101,115,116,114,111,121]⟩,⟨#[109,111,118,101]⟩,⟨#[114,101,116,117,114,110]⟩,⟨#[115,112,97,119,110]⟩,⟨#[100,114,97,119]⟩,⟨#[100,105,115,99,97,114,100]⟩,⟨#[101,110,101,114,103,121]⟩,⟨#[105,102]⟩,⟨#[101,97,99,104]⟩,⟨#[97,117,114,97]⟩,⟨#[100,111,117,98,108,101]⟩,⟨#[115,104,105,101,108,100]⟩,⟨#[98,97,114]⟩]
def Xf:List ByteArray:=[⟨#[114,101,118,101,97,108]⟩,⟨#[100,101,97,116,104]⟩,⟨#[109,111,118,101,100]⟩,⟨#[101,110,100]⟩,⟨#[97,108,119,97,121,115]⟩,⟨#[101,110,116,101,114]⟩]
def Xp:List ByteArray:=[⟨#[99,97,114,100]⟩,⟨#[112,108,97,99,101]⟩]
def Vs:ByteArray:=⟨#[42]⟩
def Zab:ByteArray:=⟨#[40]⟩
def Zeq:ByteArray:=⟨#[41]⟩
def Yu:ByteArray:=⟨#[123]⟩
def Xl:ByteArray:=⟨#[125]⟩
def Xg:ByteArray:=⟨#[59]⟩
def Zbg:ByteArray:=⟨#[101,108,115,101]⟩
def Zhx:ByteArray:=⟨#[99,111,115,116]⟩
def Zhf:ByteArray:=⟨#[112,111,119,101,114]⟩
inductive St where
 |ok (a d:Nat)
 |bad (F:Int×Nat×Nat)
def St.good:St→Bool
 |.ok _ _=>true
 |.bad _=>false
def Ji(F:Int×Nat×Nat):St→St
 |.ok a d=>if F.1=0 then .ok a d else .bad F
 |.bad G=>.bad G
def Zaz(v:TokV):List ByteArray→Nat
 |[]=>0
 |t::r=>if isT v t=true then 1 else if Zaz v r=0 then 0 else Zaz v r+1
section
variable (L:List TokV)
def St.tok:St→TokV
 |.ok a _=>Yb L a
 |.bad _=>Zhz
def Zid:St→St
 |.ok a d=>.bad (wrF (Yb L a))
 |.bad F=>.bad F
def isS(t:ByteArray):St→Bool
 |.ok a _=>isT (Yb L a) t
 |.bad _=>false
def Vu(t:ByteArray):St→St
 |.ok a d=>.ok (Zbz L a t) d
 |.bad F=>.bad F
def Zz(t:ByteArray)(st:St):St:=if isS L t st=true then Vu L t st else Zid L st
def Zgr:St→Int
 |.ok a _=>Zkx L a
 |.bad _=>0
def Zbt:St→St
 |.ok a d=>Ji (Wd L a 2) (.ok (Up L a 2) d)
 |.bad F=>.bad F
def Zct:St→ByteArray
 |.ok a _=>Znn L a
 |.bad _=>⟨#[]⟩
def Wp:St→St
 |.ok a d=>Ji (Wd L a 3) (.ok (Up L a 3) d)
 |.bad F=>.bad F
def Zeh:St→Int
 |.ok a _=>Znj L a
 |.bad _=>0
def Zbe:St→St
 |.ok a d=>Ji (Zbf L a) (.ok (Zfj L a) d)
 |.bad F=>.bad F
def Zk(ws:List ByteArray):St→Nat
 |.ok a _=>Zaz (Yb L a) ws
 |.bad _=>0
def Ye(ws:List ByteArray):St→St
 |.ok a d=>if Zaz (Yb L a) ws=0 then .ok a d else .ok (onA L a) d
 |.bad F=>.bad F
def Zn(ws:List ByteArray)(st:St):St:=if Zk L ws st=0 then Zid L st else Ye L ws st
def Zjc(t:ByteArray):St→St
 |.ok a d=>if isT (Yb L a) t=true then Ji (Jq L a d) (.ok a (Zdg d))else .ok a d
 |.bad F=>.bad F
def upS:St→St
 |.ok a d=>.ok a (d - 1)
 |.bad F=>.bad F
def Zaa(t:ByteArray)(st:St):St:=Zz L t (Zjc L t st)
def Znl(t:ByteArray)(st:St):St:=upS (Zz L t st)
def Xq:St→St
 |.ok a d=>if(Yb L a).k=0 then .ok a d else .bad (wrF (Yb L a))
 |.bad F=>.bad F
def Zx:St→Nat
 |.ok a _=>L.length - a
 |.bad _=>0
end
section
variable (nk:Int) (L:List TokV)
def Js(k:Nat)(s:St):Fl×St:=
 if k=1∨k=2 then(⟨k,Zk L wOp s,Zeh L (Zn L wOp s),⟨#[]⟩⟩,Zbe L (Zn L wOp s))
 else if k=3 then(⟨3,0,0,Zct L s⟩,Wp L s)
 else(⟨if Zk L Zeu s=0 then nk else 3+(Zk L Zeu s:Int),0,0,⟨#[]⟩⟩,Zn L Zeu s)
def Yk:Nat→St→List Fl×St
 |0,st=>([],st)
 |n+1,st=>
  if Zk L Wt st=0 then([],st)
  else
   ((Js nk L (Zk L Wt st) (Ye L Wt st)).1::(Yk n (Js nk L (Zk L Wt st) (Ye L Wt st)).2).1,
     (Yk n (Js nk L (Zk L Wt st) (Ye L Wt st)).2).2)
def Zai(st:St):Int×Int×Int:=(Zk L Zq st,Zk L Yq (Zn L Zq st),if Zk L Yq (Zn L Zq st)=3 then Zgr L (Zn L Yq (Zn L Zq st))else 0)
def Zcy(st:St):St:=if Zk L Yq (Zn L Zq st)=3 then Zbt L (Zn L Yq (Zn L Zq st))else Zn L Yq (Zn L Zq st)
def Xz(n:Nat)(st:St):Se×St:=
 if Zk L Yr st=3 then
  (⟨3,(Zai L (Zn L Yr st)).1,(Zai L (Zn L Yr st)).2.1,(Zai L (Zn L Yr st)).2.2,(Yk nk L n (Zcy L (Zn L Yr st))).1,
     Zk L Zdo (Yk nk L n (Zcy L (Zn L Yr st))).2⟩,
    Zz L Zeq (Zn L Zdo (Yk nk L n (Zcy L (Zn L Yr st))).2))
 else(⟨Zk L Yr st,0,0,0,[],0⟩,Zn L Yr st)
def toK(st:St):Int:=Zk L wTo st
def toL(st:St):Int:=if Zk L wTo st=4 then Zgr L (Zn L wTo st)else 0
def toS(st:St):St:=if Zk L wTo st=4 then Zbt L (Zn L wTo st)else Zn L wTo st
mutual
def Yj:Nat→St→Ex×St
 |0,st=>(zEx,st)
 |n+1,st=>Jz n (Vp n st)
def Jz:Nat→Ex×St→Ex×St
 |0,x=>x
 |n+1,x=>
  if Zk L Zcz x.2=0 then x
  else Jz n (.bin (Zk L Zcz x.2) x.1 (Vp n (Ye L Zcz x.2)).1,(Vp n (Ye L Zcz x.2)).2)
def Vp:Nat→St→Ex×St
 |0,st=>(zEx,st)
 |n+1,st=>Jv n (Ww n st)
def Jv:Nat→Ex×St→Ex×St
 |0,x=>x
 |n+1,x=>
  if isS L Vs x.2=true then Jv n (.bin 3 x.1 (Ww n (Vu L Vs x.2)).1,(Ww n (Vu L Vs x.2)).2)
  else x
def Ww:Nat→St→Ex×St
 |0,st=>(zEx,st)
 |n+1,st=>
  if isS L Zab st=true then((Yj n (Zaa L Zab st)).1,Znl L Zeq (Yj n (Zaa L Zab st)).2)
  else if Zk L Wa st=0 then(.leaf 1 (Zeh L st) zSe 0 0 0,Zbe L st)
  else if Zk L Wa st=1∨Zk L Wa st=2 then(.leaf (Zk L Wa st+1) 0 (Xz nk L n (Ye L Wa st)).1 0 0 0,(Xz nk L n (Ye L Wa st)).2)
  else if Zk L Wa st=3 then(.leaf 4 0 zSe 0 0 0,Ye L Wa st)
  else if Zk L Wa st=4 then(.leaf 5 0 zSe (Zk L Zq (Ye L Wa st)) 0 0,Zn L Zq (Ye L Wa st))
  else(.leaf 6 0 zSe (Zk L Zq (Ye L Wa st)) (toK L (Zn L Zq (Ye L Wa st))) (toL L (Zn L Zq (Ye L Wa st))),toS L (Zn L Zq (Ye L Wa st)))
end
def Xi(n:Nat)(h:AH)(k:Nat)(st:St):AH×St:=
 if k=1∨k=2∨k=12 then({ h with sel:=(Xz nk L n st).1,num:=(Yj nk L n (Xz nk L n st).2).1 },(Yj nk L n (Xz nk L n st).2).2)
 else if k=3∨k=5∨k=14 then({ h with sel:=(Xz nk L n st).1 },(Xz nk L n st).2)
 else if k=4 then({ h with sel:=(Xz nk L n st).1,tk:=toK L (Xz nk L n st).2,tl:=toL L (Xz nk L n st).2 },toS L (Xz nk L n st).2)
 else if k=6 then
  ({ h with name:=Zct L st,side:=Zk L Zq (Wp L st),tk:=toK L (Zn L Zq (Wp L st)),tl:=toL L (Zn L Zq (Wp L st)),num:=(Yj nk L n (toS L (Zn L Zq (Wp L st)))).1 },
    (Yj nk L n (toS L (Zn L Zq (Wp L st)))).2)
 else if k=7∨k=9 then({ h with side:=Zk L Zq st,num:=(Yj nk L n (Zn L Zq st)).1 },(Yj nk L n (Zn L Zq st)).2)
 else if k=8 then({ h with side:=Zk L Zq st,how:=Zk L wHow (Zn L Zq st) },Zn L wHow (Zn L Zq st))
 else if k=13∨k=15 then({ h with side:=Zk L Zq st,tk:=toK L (Zn L Zq st),tl:=toL L (Zn L Zq st) },toS L (Zn L Zq st))
 else(h,st)
def Jm(n:Nat)(h:AH)(st:St):AH×St:=
 ({ h with cl:=(Yj nk L n st).1,cop:=Zk L wOp (Yj nk L n st).2,cr:=(Yj nk L n (Zn L wOp (Yj nk L n st).2)).1 },(Yj nk L n (Zn L wOp (Yj nk L n st).2)).2)
structure AO where
 h:AH
 thn:Acs
 els:Acs
 st:St
mutual
def Xm:Nat→St→Acs×St
 |0,st=>(.nil,st)
 |n+1,st=>
  if Zk L Wj st=0 then(.nil,st)
  else
   (.cons (Ud n (AH.zero (Zk L Wj st) (st.tok L).line (st.tok L).col) (Zk L Wj st) (Ye L Wj st)).h
      (Ud n (AH.zero (Zk L Wj st) (st.tok L).line (st.tok L).col) (Zk L Wj st) (Ye L Wj st)).thn
      (Ud n (AH.zero (Zk L Wj st) (st.tok L).line (st.tok L).col) (Zk L Wj st) (Ye L Wj st)).els
      (Xm n (Ud n (AH.zero (Zk L Wj st) (st.tok L).line (st.tok L).col) (Zk L Wj st) (Ye L Wj st)).st).1,
     (Xm n (Ud n (AH.zero (Zk L Wj st) (st.tok L).line (st.tok L).col) (Zk L Wj st) (Ye L Wj st)).st).2)
def Ud:Nat→AH→Nat→St→AO
 |0,h,_,st=>⟨h,.nil,.nil,st⟩
 |n+1,h,k,st=>
  if k=10 then
   if isS L Zbg (Yt n (Jm nk L n h st).2).2=true then
    ⟨(Jm nk L n h st).1,(Yt n (Jm nk L n h st).2).1,(Yt n (Vu L Zbg (Yt n (Jm nk L n h st).2).2)).1,(Yt n (Vu L Zbg (Yt n (Jm nk L n h st).2).2)).2⟩
   else⟨(Jm nk L n h st).1,(Yt n (Jm nk L n h st).2).1,.nil,(Yt n (Jm nk L n h st).2).2⟩
  else if k=11 then⟨{ h with sel:=(Xz nk L n st).1 },(Yt n (Xz nk L n st).2).1,.nil,(Yt n (Xz nk L n st).2).2⟩
  else⟨(Xi nk L n h k st).1,.nil,.nil,Zz L Xg (Xi nk L n h k st).2⟩
def Yt:Nat→St→Acs×St
 |0,st=>(.nil,st)
 |n+1,st=>((Xm n (Zaa L Yu st)).1,Znl L Xl (Xm n (Zaa L Yu st)).2)
end
def strN(k:Nat)(s:St):Int:=if k=5 then Zgr L s else 0
def Zbc(k:Nat)(s:St):St:=if k=5 then Zbt L s else s
def Wi:Nat→St→List Ru×St
 |0,st=>([],st)
 |n+1,st=>
  if Zk L Xf st=0 then([],st)
  else
   (⟨Zk L Xf st,strN L (Zk L Xf st) (Ye L Xf st),(st.tok L).line,(st.tok L).col,(Xm nk L n (Zz L Yu (Zbc L (Zk L Xf st) (Ye L Xf st)))).1⟩ ::
      (Wi n (Zz L Xl (Xm nk L n (Zz L Yu (Zbc L (Zk L Xf st) (Ye L Xf st)))).2)).1,
     (Wi n (Zz L Xl (Xm nk L n (Zz L Yu (Zbc L (Zk L Xf st) (Ye L Xf st)))).2)).2)
def Zbn(n:Nat)(st:St):List Ru×St:=((Wi nk L n (Zz L Yu st)).1,Zz L Xl (Wi nk L n (Zz L Yu st)).2)
def Zft(n:Nat)(line col:Int)(st:St):Ca×St:=
 (⟨Zct L st,Zgr L (Zz L Zhx (Wp L st)),Zeh L (Zz L Zhf (Zbt L (Zz L Zhx (Wp L st)))),line,col,
    (Zbn nk L n (Zbe L (Zz L Zhf (Zbt L (Zz L Zhx (Wp L st)))))).1⟩,
   (Zbn nk L n (Zbe L (Zz L Zhf (Zbt L (Zz L Zhx (Wp L st)))))).2)
def Vj(n:Nat)(line col:Int)(st:St):Pl×St:=(⟨Zct L st,line,col,(Zbn nk L n (Wp L st)).1⟩,(Zbn nk L n (Wp L st)).2)
def Wk:Nat→St→Fi×St
 |0,st=>(⟨[],[]⟩,st)
 |n+1,st=>
  if Zk L Xp st=0 then(⟨[],[]⟩,st)
  else if Zk L Xp st=1 then
   (⟨(Zft nk L n (st.tok L).line (st.tok L).col (Ye L Xp st)).1::(Wk n (Zft nk L n (st.tok L).line (st.tok L).col (Ye L Xp st)).2).1.cards,
         (Wk n (Zft nk L n (st.tok L).line (st.tok L).col (Ye L Xp st)).2).1.places⟩,
     (Wk n (Zft nk L n (st.tok L).line (st.tok L).col (Ye L Xp st)).2).2)
  else
   (⟨(Wk n (Vj nk L n (st.tok L).line (st.tok L).col (Ye L Xp st)).2).1.cards,
         (Vj nk L n (st.tok L).line (st.tok L).col (Ye L Xp st)).1::(Wk n (Vj nk L n (st.tok L).line (st.tok L).col (Ye L Xp st)).2).1.places⟩,
     (Wk n (Vj nk L n (st.tok L).line (st.tok L).col (Ye L Xp st)).2).2)
end
theorem isT_k{v:TokV}{t:ByteArray}(h:isT v t=true):v.k≠0:=by
 unfold isT at h;intro c;rw[c]at h;simp at h
theorem idxW_k{v:TokV}:∀{ws:List ByteArray},Zaz v ws≠0→v.k≠0
 |[],h=>absurd rfl h
 |t::r,h=>by
  unfold Zaz at h;by_cases ht:isT v t=true
  ·exact isT_k ht
  ·rw[if_neg ht]at h
   by_cases hr:Zaz v r=0
   ·rw[if_pos hr]at h;exact absurd rfl h
   ·exact idxW_k hr
theorem Zey(v:TokV):∀ ws:List ByteArray,Zaz v ws≤ws.length
 |[]=>Θ _
 |t::r=>by
  have:=Zey v r;unfold Zaz;rw[List.length_cons];split
  ·omega
  ·split<;>omega
theorem curT_lt{L:List TokV}{a:Nat}(h:(Yb L a).k≠0):a<L.length:=by
 apply Nat.lt_of_not_le;intro c;unfold Yb at h;rw[List.getElem?_eq_none c]at h;exact h rfl
theorem onA_le(L:List TokV)(a:Nat):L.length - onA L a≤L.length - a:=by unfold onA;split<;>omega
theorem onA_lt{L:List TokV}{a:Nat}(h:(Yb L a).k≠0):L.length - onA L a+1≤L.length - a:=by
 have:=curT_lt h;unfold onA;rw[if_neg h];omega
section
variable (L:List TokV)
theorem Zlm(F:Int×Nat×Nat)(st:St):Zx L (Ji F st)≤Zx L st:=by
 cases st with
 |ok a d=>
  by_cases h:F.1=0
  ·rw[show Ji F (.ok a d)=.ok a d from if_pos h];exact Θ _
  ·rw[show Ji F (.ok a d)=.bad F from if_neg h];exact Nat.zero_le _
 |bad G=>exact Θ _
theorem rem_wrong(st:St):Zx L (Zid L st)≤Zx L st:=by cases st<;>exact Nat.zero_le _
theorem wantA_le(a:Nat)(t:ByteArray):L.length - Zbz L a t≤L.length - a:=by
 unfold Zbz;split
 ·exact onA_le L a
 ·exact Θ _
theorem kindA_le(a:Nat)(k:Int):L.length - Up L a k≤L.length - a:=by
 unfold Up;split
 ·exact onA_le L a
 ·exact Θ _
theorem signA_le(a:Nat):L.length - Zfj L a≤L.length - a:=by
 unfold Zfj;split
 ·split
  ·exact Ξ (onA_le L _) (onA_le L a)
  ·exact Θ _
 ·exact kindA_le L a 2
theorem Zll(t:ByteArray)(st:St):Zx L (Vu L t st)≤Zx L st:=by
 cases st with
 |ok a d=>exact wantA_le L a t
 |bad F=>exact Θ _
theorem Zin{t:ByteArray}{st:St}(h:isS L t st=true):Zx L (Vu L t st)+1≤Zx L st:=by
 cases st with
 |ok a d=>
  have h':isT (Yb L a) t=true:=h;show L.length - Zbz L a t+1≤L.length - a;unfold Zbz;rw[if_pos h'];exact onA_lt (isT_k h')
 |bad F=>cases h
theorem Xx(t:ByteArray)(st:St):Zx L (Zz L t st)≤Zx L st:=by
 unfold Zz;split
 ·exact Zll L t st
 ·exact rem_wrong L st
theorem rem_wanted{t:ByteArray}{st:St}(h:isS L t st=true):Zx L (Zz L t st)+1≤Zx L st:=by
 unfold Zz;rw[if_pos h];exact Zin L h
theorem Zjm(st:St):Zx L (Zbt L st)≤Zx L st:=by
 cases st with
 |ok a d=>have h:=Zlm L (Wd L a 2) (.ok (Up L a 2) d);exact Ξ h (kindA_le L a 2)
 |bad F=>exact Θ _
theorem Zbi(st:St):Zx L (Wp L st)≤Zx L st:=by
 cases st with
 |ok a d=>have h:=Zlm L (Wd L a 3) (.ok (Up L a 3) d);exact Ξ h (kindA_le L a 3)
 |bad F=>exact Θ _
theorem Zio(st:St):Zx L (Zbe L st)≤Zx L st:=by
 cases st with
 |ok a d=>have h:=Zlm L (Zbf L a) (.ok (Zfj L a) d);exact Ξ h (signA_le L a)
 |bad F=>exact Θ _
theorem Zdd(ws:List ByteArray)(st:St):Zx L (Ye L ws st)≤Zx L st:=by
 cases st with
 |ok a d=>
  by_cases h:Zaz (Yb L a) ws=0
  ·rw[show Ye L ws (.ok a d)=.ok a d from if_pos h];exact Θ _
  ·rw[show Ye L ws (.ok a d)=.ok (onA L a) d from if_neg h];exact onA_le L a
 |bad F=>exact Θ _
theorem Vt{ws:List ByteArray}{st:St}(h:¬ Zk L ws st=0):Zx L (Ye L ws st)+1≤Zx L st:=by
 cases st with
 |ok a d=>
  have h':¬ Zaz (Yb L a) ws=0:=h;rw[show Ye L ws (.ok a d)=.ok (onA L a) d from if_neg h'];exact onA_lt (idxW_k h')
 |bad F=>exact absurd rfl h
theorem Uh{ws:List ByteArray}{st:St}(h:Zk L ws st=0):Ye L ws st=st:=by
 cases st with
 |ok a d=>
  have h':Zaz (Yb L a) ws=0:=h;exact if_pos h'
 |bad F=>rfl
theorem Xy(ws:List ByteArray)(st:St):Zx L (Zn L ws st)≤Zx L st:=by
 unfold Zn;split
 ·exact rem_wrong L st
 ·exact Zdd L ws st
theorem rem_deep(t:ByteArray)(st:St):Zx L (Zjc L t st)≤Zx L st:=by
 cases st with
 |ok a d=>
  by_cases h:isT (Yb L a) t=true
  ·rw[show Zjc L t (.ok a d)=Ji (Jq L a d) (.ok a (Zdg d))from if_pos h];exact Zlm L (Jq L a d) (.ok a (Zdg d))
  ·rw[show Zjc L t (.ok a d)=.ok a d from if_neg h];exact Θ _
 |bad F=>exact Θ _
theorem rem_up(st:St):Zx L (upS st)=Zx L st:=by cases st<;>rfl
theorem Zln(t:ByteArray)(st:St):Zx L (Zaa L t st)≤Zx L st:=Ξ (Xx L t _) (rem_deep L t st)
theorem rem_rise(t:ByteArray)(st:St):Zx L (Znl L t st)≤Zx L st:=by unfold Znl;rw[rem_up];exact Xx L t st
theorem is_deep{t:ByteArray}{st:St}(h:isS L t st=true):(Zjc L t st).good=true→isS L t (Zjc L t st)=true:=by
 cases st with
 |ok a d=>
  have h':isT (Yb L a) t=true:=h;rw[show Zjc L t (.ok a d)=Ji (Jq L a d) (.ok a (Zdg d))from if_pos h'];by_cases hf:(Jq L a d).1=0
  ·rw[show Ji (Jq L a d) (.ok a (Zdg d))=.ok a (Zdg d)from if_pos hf];intro _;exact h'
  ·rw[show Ji (Jq L a d) (.ok a (Zdg d))=.bad (Jq L a d)from if_neg hf];intro c;cases c
 |bad F=>cases h
theorem rem_downed{t:ByteArray}{st:St}(h:isS L t st=true):Zx L (Zaa L t st)+1≤Zx L st:=by
 have h1:=is_deep L h;have h2:=rem_deep L t st;unfold Zaa;cases hd:Zjc L t st with
 |ok a d=>
  rw[hd]at h1 h2;have:=rem_wanted L (h1 rfl);omega
 |bad F=>
  have h3:1≤Zx L st:=by have:=Zin L h;omega
  have:Zx L (Zz L t (.bad F))≤0:=Xx L t (.bad F);omega
variable (nk:Int)
theorem rem_filter(k:Nat)(s:St):Zx L (Js nk L k s).2≤Zx L s:=by
 unfold Js;split
 ·exact Ξ (Zio L _) (Xy L _ _)
 ·split
  ·exact Zbi L s
  ·exact Xy L _ _
theorem Znm:∀(n:Nat)(st:St),Zx L (Yk nk L n st).2≤Zx L st
 |0,st=>Θ _
 |n+1,st=>by
  unfold Yk;split
  ·exact Θ _
  ·exact Ξ (Znm n _) (Ξ (rem_filter L nk _ _) (Zdd L _ _))
theorem rem_where(st:St):Zx L (Zcy L st)≤Zx L st:=by
 unfold Zcy;split
 ·exact Ξ (Zjm L _) (Ξ (Xy L _ _) (Xy L _ _))
 ·exact Ξ (Xy L _ _) (Xy L _ _)
theorem Zal(n:Nat)(st:St):Zx L (Xz nk L n st).2≤Zx L st:=by
 unfold Xz;split
 ·exact Ξ (Xx L _ _) (Ξ (Xy L _ _) (Ξ (Znm L nk n _) (Ξ (rem_where L _) (Xy L _ _))))
 ·exact Xy L _ _
theorem Zhh(st:St):Zx L (toS L st)≤Zx L st:=by
 unfold toS;split
 ·exact Ξ (Zjm L _) (Xy L _ _)
 ·exact Xy L _ _
theorem Zmv:∀ n:Nat,(∀ st,Zx L (Yj nk L n st).2≤Zx L st)∧(∀ x,Zx L (Jz nk L n x).2≤Zx L x.2)∧(∀ st,Zx L (Vp nk L n st).2≤Zx L st) ∧
  (∀ x,Zx L (Jv nk L n x).2≤Zx L x.2)∧(∀ st,Zx L (Ww nk L n st).2≤Zx L st):=by
 intro n;induction n with
 |zero=>exact⟨fun _=>by simp[Yj],fun _=>by simp[Jz],fun _=>by simp[Vp],fun _=>by simp[Jv],fun _=>by simp[Ww]⟩
 |succ n ih=>
  obtain⟨h1,h2,h3,h4,h5⟩:=ih;refine⟨fun st=>?_,fun x=>?_,fun st=>?_,fun x=>?_,fun st=>?_⟩
  ·unfold Yj;exact Ξ (h2 _) (h3 _)
  ·unfold Jz
   split
   ·exact Θ _
   ·exact Ξ (h2 _) (Ξ (h3 _) (Zdd L _ _))
  ·unfold Vp;exact Ξ (h4 _) (h5 _)
  ·unfold Jv
   split
   ·exact Ξ (h4 _) (Ξ (h5 _) (Zll L _ _))
   ·exact Θ _
  ·unfold Ww
   split
   ·exact Ξ (rem_rise L _ _) (Ξ (h1 _) (Zln L _ _))
   ·split
    ·exact Zio L _
    ·split
     ·exact Ξ (Zal L nk n _) (Zdd L _ _)
     ·split
      ·exact Zdd L _ _
      ·split
       ·exact Ξ (Xy L _ _) (Zdd L _ _)
       ·exact Ξ (Zhh L _) (Ξ (Xy L _ _) (Zdd L _ _))
theorem Zcd(n:Nat)(st:St):Zx L (Yj nk L n st).2≤Zx L st:=(Zmv L nk n).1 st
theorem Zip(n:Nat)(st:St):Zx L (Vp nk L n st).2≤Zx L st:=(Zmv L nk n).2.2.1 st
theorem Ziq(n:Nat)(st:St):Zx L (Ww nk L n st).2≤Zx L st:=(Zmv L nk n).2.2.2.2 st
theorem rem_plain(n:Nat)(h:AH)(k:Nat)(st:St):Zx L (Xi nk L n h k st).2≤Zx L st:=by
 unfold Xi;split
 ·exact Ξ (Zcd L nk n _) (Zal L nk n _)
 ·split
  ·exact Zal L nk n _
  ·split
   ·exact Ξ (Zhh L _) (Zal L nk n _)
   ·split
    ·exact Ξ (Zcd L nk n _) (Ξ (Zhh L _) (Ξ (Xy L _ _) (Zbi L _)))
    ·split
     ·exact Ξ (Zcd L nk n _) (Xy L _ _)
     ·split
      ·exact Ξ (Xy L _ _) (Xy L _ _)
      ·split
       ·exact Ξ (Zhh L _) (Xy L _ _)
       ·exact Θ _
theorem rem_cond(n:Nat)(h:AH)(st:St):Zx L (Jm nk L n h st).2≤Zx L st:=
 Ξ (Zcd L nk n _) (Ξ (Xy L _ _) (Zcd L nk n _))
theorem Zmw:∀ n:Nat,(∀ st,Zx L (Xm nk L n st).2≤Zx L st)∧(∀ h k st,Zx L (Ud nk L n h k st).st≤Zx L st)∧(∀ st,Zx L (Yt nk L n st).2≤Zx L st):=by
 intro n;induction n with
 |zero=>exact⟨fun _=>by simp[Xm],fun _ _ _=>by simp[Ud],fun _=>by simp[Yt]⟩
 |succ n ih=>
  obtain⟨h1,h2,h3⟩:=ih;refine⟨fun st=>?_,fun h k st=>?_,fun st=>?_⟩
  ·unfold Xm
   split
   ·exact Θ _
   ·exact Ξ (h1 _) (Ξ (h2 _ _ _) (Zdd L _ _))
  ·unfold Ud
   split
   ·split
    ·exact Ξ (h3 _) (Ξ (Zll L _ _) (Ξ (h3 _) (rem_cond L nk n h st)))
    ·exact Ξ (h3 _) (rem_cond L nk n h st)
   ·split
    ·exact Ξ (h3 _) (Zal L nk n _)
    ·exact Ξ (Xx L _ _) (rem_plain L nk n h k st)
  ·unfold Yt
   exact Ξ (rem_rise L _ _) (Ξ (h1 _) (Zln L _ _))
theorem Zlo(n:Nat)(st:St):Zx L (Xm nk L n st).2≤Zx L st:=(Zmw L nk n).1 st
theorem rem_act(n:Nat)(h:AH)(k:Nat)(st:St):Zx L (Ud nk L n h k st).st≤Zx L st:=(Zmw L nk n).2.1 h k st
theorem Zgj(n:Nat)(st:St):Zx L (Yt nk L n st).2≤Zx L st:=(Zmw L nk n).2.2 st
theorem Zok(k:Nat)(s:St):Zx L (Zbc L k s)≤Zx L s:=by
 unfold Zbc;split
 ·exact Zjm L s
 ·exact Θ _
theorem Zjl:∀(n:Nat)(st:St),Zx L (Wi nk L n st).2≤Zx L st
 |0,st=>Θ _
 |n+1,st=>by
  unfold Wi;split
  ·exact Θ _
  ·exact Ξ (Zjl n _) (Ξ (Xx L _ _) (Ξ (Zlo L nk n _) (Ξ (Xx L _ _) (Ξ (Zok L _ _) (Zdd L _ _)))))
theorem rem_body(n:Nat)(st:St):Zx L (Zbn nk L n st).2≤Zx L st:=Ξ (Xx L _ _) (Ξ (Zjl L nk n _) (Xx L _ _))
theorem rem_card(n:Nat)(l c:Int)(st:St):Zx L (Zft nk L n l c st).2≤Zx L st:=
 Ξ (rem_body L nk n _) (Ξ (Zio L _) (Ξ (Xx L _ _) (Ξ (Zjm L _) (Ξ (Xx L _ _) (Zbi L _)))))
theorem Zmu(n:Nat)(l c:Int)(st:St):Zx L (Vj nk L n l c st).2≤Zx L st:=Ξ (rem_body L nk n _) (Zbi L _)
end
open Go.ChangeShapes Go.WideShapes Go.ChangeAt Go.RowKit
def Wz(v:TokV):Value:=.agg #[I J v.k,Ψ v.t,I J v.n,I J (v.line:Int),I J (v.col:Int)]
theorem Zfb(a n l c:Int)(b:ByteArray)(w:World):(Instr.field 54 (.agg #[I J a,Ψ b,I J n,I J l,I J c]) 0).run Φ w=.ok (I J a) w:=by kernel_rfl
structure At(w:World)(p:Nat)(v:TokV)(d:Int)(r o n c:Nat):Prop where
 c0:w.cell? ⟨p,0,none⟩=some (Λ (some ⟨r,o,none⟩) n c)
 c1:w.cell? ⟨p,1,none⟩=some (I J d)
 t0:w.cell? ⟨r,o,none⟩=some (I J v.k)
 t1:w.cell? ⟨r,o+1,none⟩=some (Ψ v.t)
 t2:w.cell? ⟨r,o+2,none⟩=some (I J v.n)
 t3:w.cell? ⟨r,o+3,none⟩=some (I J (v.line:Int))
 t4:w.cell? ⟨r,o+4,none⟩=some (I J (v.col:Int))
 pin:p<w.heap.size
 rin:r<w.heap.size
 n0:0<n
 n1:(n:Int)≤9223372036854775807
theorem At.below{w w':World}{p:Nat}{v:TokV}{d:Int}{r o n c:Nat}(h:At w p v d r o n c)(hb:Below w.heap.size w w'):At w' p v d r o n c:=by
 have hp:=h.pin;have hr:=h.rin;have key:∀ b j,b<w.heap.size→w'.cell? ⟨b,j,none⟩=w.cell? ⟨b,j,none⟩:=fun b j hj=>hb.cell (p:=⟨b,j,none⟩) hj
 exact⟨(key _ _ hp).trans h.c0,(key _ _ hp).trans h.c1,(key _ _ hr).trans h.t0,(key _ _ hr).trans h.t1,(key _ _ hr).trans h.t2,(key _ _ hr).trans h.t3,(key _ _ hr).trans h.t4,Nat.lt_of_lt_of_le hp hb.size,Nat.lt_of_lt_of_le hr hb.size,h.n0,h.n1⟩
theorem cStands(w:World)(p:Nat)(v:TokV)(d:Int)(r o n c:Nat)(h:At w p v d r o n c) :
  Calls Φ 76 #[Ω (some ⟨p,0,none⟩)] w fun e w'=>e=η (.bool true)∧w=w':=by
 obtain⟨c0,c1,t0,t1,t2,t3,t4,pin,rin,n0,n1⟩:=h;go_enter Tryz.func76,Tryz.ntmps76;go_wp2
 go_ret;exact⟨rfl,rfl⟩
theorem Zmg(w:World)(p:Nat)(v:TokV)(d:Int)(r o n c:Nat)(h:At w p v d r o n c) :
  Calls Φ 55 #[Ω (some ⟨p,0,none⟩)] w fun e w'=>e=η (Wz v)∧Below w.heap.size w w':=by
 have h1:=h.below ((Below.refl _ _).alloc (Θ _) (.cells #[I J 0,Ψ ⟨#[]⟩,I J 0,I J 0,I J 0] 54));have H1:=Hh h1;obtain⟨c0,c1,t0,t1,t2,t3,t4,pin,rin,n0,n1⟩:=h1;have rin':=h.rin;have pin':=h.pin;clear h;unfold Wz;go_enter Tryz.func55,Tryz.ntmps55;go_wp2_with(go_at_call 76;refine(cStands _ _ v d r o n c H1.out).mono ?_;rintro e w1 ⟨rfl,rfl⟩)
 refine bodyPost_ret (v:=.agg #[I J v.k,Ψ v.t,I J v.n,I J (v.line:Int),I J (v.col:Int)]) (by simp[results,Tryz.results55,go_sem]) rfl ⟨rfl,?_⟩;exact(Below.refl _ _).alloc (Θ _) _
theorem Zi.set3{w:World}{g:Nat}{t:TypeId}{a b c:Value}(h:Zi w g t #[a,b,c])(x0 x1 x2:Value) :
 Zi (((w.setCell ⟨g,0,none⟩ x0).setCell ⟨g,1,none⟩ x1).setCell ⟨g,2,none⟩ x2) g t #[x0,x1,x2]:=((h.write 0 x0).write 1 x1).write 2 x2
theorem Below.set3{B g:Nat}{w0 w:World}(h:Below B w0 w)(hg:B≤g)(x0 x1 x2:Value) :
 Below B w0 (((w.setCell ⟨g,0,none⟩ x0).setCell ⟨g,1,none⟩ x1).setCell ⟨g,2,none⟩ x2):=((h.setCell hg x0).setCell hg x1).setCell hg x2
theorem cHere(w:World)(p:Nat)(v:TokV)(d:Int)(r o n c:Nat)(E:Int)(h:At w p v d r o n c) :
  Calls Φ 77 #[Ω (some ⟨p,0,none⟩),I J E] w fun e w'=>e=η (Zr (E,v.line,v.col))∧Below w.heap.size w w':=by
 have h1:=h.below ((Below.refl _ _).alloc (Θ _) (.cells #[I J 0,I J 0,I J 0] 29));have H1:=Hh h1;have F0:=Zi.made w 29 #[I J 0,I J 0,I J 0];clear h h1;unfold Zr;go_enter Tryz.func77,Tryz.ntmps77;go_wp2_with(first
 |(go_at_call 76;refine(cStands _ _ v d r o n c H1.out).mono ?_;rintro e w1 ⟨rfl,rfl⟩)
 |(go_at_call 55;refine(Zmg _ _ v d r o n c H1.out).mono ?_;rintro e w2 ⟨rfl,b2⟩;have W2:=Hh (F0.below b2 (by simp));obtain⟨k0,k1,k2,f0,f1,f2⟩:=Zo W2.out;have hz:=W2.out.inside;have B2:=Hh b2;clear b2;simp only[Wz]))
 have hF:=Zo ((Zi.set3 W2.out (I J E) (I J (v.line:Int)) (I J (v.col:Int))).alloc (.cells #[I J v.k,Ψ v.t,I J v.n,I J (v.line:Int),I J (v.col:Int)] 54));refine bodyPost_ret (v:=.agg #[I J E,I J (v.line:Int),I J (v.col:Int)]) (by simp[results,Tryz.results77,go_sem,hF]) rfl ⟨rfl,?_⟩;exact(Below.set3 (((Below.refl _ _).alloc (Θ _) _).trans (B2.out.mono (by simp))) (Θ _) _ _ _).alloc (by simp;omega) _
theorem cIs(w:World)(p:Nat)(v:TokV)(d:Int)(r o n c:Nat)(t:ByteArray)(h:At w p v d r o n c) :
  Calls Φ 78 #[Ω (some ⟨p,0,none⟩),Ψ t] w fun e w'=>e=η (.bool (isT v t))∧Below w.heap.size w w':=by
 have H1:=Hh h;have HT:Hid (isT v t=((v.k == 1 || v.k == 4) && (v.t.toList == t.toList))):=Hh rfl;clear h;cases h1:(v.k == 1)<;>cases h4:(v.k == 4)<;>cases ht:(v.t.toList == t.toList)
 all_goals
  have HH:=Hh (ζ h1 (ζ h4 ht));go_enter Tryz.func78,Tryz.ntmps78;go_wp2_with(go_at_call 55;refine(Zmg _ _ v d r o n c H1.out).mono ?_;rintro e w2 ⟨rfl,b2⟩;have B2:=Hh b2;clear b2;simp only[Wz])
  go_ret;exact⟨by rw[HT.out,HH.out.1,HH.out.2.1,HH.out.2.2];rfl,B2.out.alloc B2.out.size _⟩
theorem cWrong(w:World)(p:Nat)(v:TokV)(d:Int)(r o n c:Nat)(h:At w p v d r o n c) :
  Calls Φ 57 #[Ω (some ⟨p,0,none⟩)] w fun e w'=>e=η (Zr (wrF v))∧Below w.heap.size w w':=by
 have h1:=h.below ((Below.refl _ _).alloc (Θ _) (.cells #[I J 0,I J 0,I J 0] 29));have H1:=Hh h1;have F0:=Zi.made w 29 #[I J 0,I J 0,I J 0];have hfd:=fun w=>Zfb v.k v.n (v.line:Int) (v.col:Int) v.t w
 clear h h1;unfold Zr wrF;by_cases hk:v.k=0
 ·have q0:(v.k == 0)=true:=by rw[hk];rfl
  rw[if_pos hk];clear hk;go_enter Tryz.func57,Tryz.ntmps57;go_wp2_with(first
 |(go_at_call 55;refine(Zmg _ _ v d r o n c H1.out).mono ?_;rintro e w2 ⟨rfl,b2⟩;have H2:=Hh (H1.out.below b2);have W2:=Hh (F0.below b2 (by simp));have B2:=Hh b2;clear b2;simp only[Wz])
 |(go_at_call 77;refine(cHere _ _ v d r o n c _ H2.out).mono ?_;rintro e w3 ⟨rfl,b3⟩;have W3:=Hh (W2.out.below b3 W2.out.inside);obtain⟨k0,k1,k2,f0,f1,f2⟩:=Zo W3.out;have hz:=W3.out.inside;have B3:=Hh (Wg B2.out b3);clear b3;simp only[Zr]))
  have hF:=Zo (Zi.set3 W3.out (I J 2) (I J (v.line:Int)) (I J (v.col:Int)));refine bodyPost_ret (v:=.agg #[I J 2,I J (v.line:Int),I J (v.col:Int)]) (by simp[results,Tryz.results57,go_sem,hF]) rfl ⟨rfl,?_⟩;exact Below.set3 (((Below.refl _ _).alloc (Θ _) _).trans (B3.out.mono (by simp))) (Θ _) _ _ _
 ·have q0:(v.k == 0)=false:=by rw[beq_eq_false_iff_ne];exact hk
  rw[if_neg hk];clear hk;go_enter Tryz.func57,Tryz.ntmps57;go_wp2_with(first
 |(go_at_call 55;refine(Zmg _ _ v d r o n c H1.out).mono ?_;rintro e w2 ⟨rfl,b2⟩;have H2:=Hh (H1.out.below b2);have W2:=Hh (F0.below b2 (by simp));have B2:=Hh b2;clear b2;simp only[Wz])
 |(go_at_call 77;refine(cHere _ _ v d r o n c _ H2.out).mono ?_;rintro e w3 ⟨rfl,b3⟩;have W3:=Hh (W2.out.below b3 W2.out.inside);obtain⟨k0,k1,k2,f0,f1,f2⟩:=Zo W3.out;have hz:=W3.out.inside;have B3:=Hh (Wg B2.out b3);clear b3;simp only[Zr]))
  have hF:=Zo (Zi.set3 W3.out (I J 7) (I J (v.line:Int)) (I J (v.col:Int)));refine bodyPost_ret (v:=.agg #[I J 7,I J (v.line:Int),I J (v.col:Int)]) (by simp[results,Tryz.results57,go_sem,hF]) rfl ⟨rfl,?_⟩;exact Below.set3 (((Below.refl _ _).alloc (Θ _) _).trans (B3.out.mono (by simp))) (Θ _) _ _ _
theorem rtMarks(w:World):Calls Φ 145 #[] w (MarksPost w):=by
 have hE:=Hh mkCs_eq;go_enter Tryz.func145,Tryz.ntmps145;go_wp2
 go_ret;refine⟨w.heap.size,rfl,Θ _,?_,(Below.refl _ _).alloc (Θ _) _⟩;rw[hE.out];exact Zi.made _ _ _
theorem Zjj(c:Int)(w:World):Calls Φ 111 #[.int .u8 c] w fun e w'=>e=η (.bool (Zaq c))∧w=w':=by
 go_enter Tryz.func111,Tryz.ntmps111;go_wp2
 all_goals
  go_ret;refine⟨Vo ?_,rfl⟩;rw[Bool.eq_iff_iff,Zel];simp;try omega
theorem Zfy(c:Int)(w:World):Calls Φ 112 #[.int .u8 c] w fun e w'=>e=η (.bool (isD c))∧w=w':=by
 go_enter Tryz.func112,Tryz.ntmps112;go_wp2
 all_goals
  go_ret;refine⟨Vo ?_,rfl⟩;rw[Bool.eq_iff_iff,Zbs];simp;try omega
theorem rtUntil(s:ByteArray)(a:Nat)(c:Int)(w:World)(hs:s.size≤140737488355328)(ha:a≤s.size) :
  Calls Φ 113 #[Ψ s,I J (a:Int),.int .u8 c] w fun e w'=>e=η (I J ((a+tw (Xh c) (Zl s a):Nat):Int))∧w=w':=by
 obtain⟨G,hG⟩:∃ G,a+tw (Xh c) (Zl s a)=G:=⟨_,rfl⟩
 rw[hG];have HG:=Hh hG;clear hG;go_enter Tryz.func113,Tryz.ntmps113;go_wp2
 go_loop [1] (fun i=>∃ k:Nat,i=I J (k:Int)∧k≤s.size∧k+tw (Xh c) (Zl s k)=G) (fun i=>s.size - (intOf i).toNat)
 case atStart=>exact⟨a,rfl,ha,HG.out⟩
 case round=>
  obtain⟨k,rfl,hk,he⟩:=hrel;by_cases h:k<s.size
  ·have g:=Ug s k h
   rw[Yz s h,g]at he;have l1:(k:Int)<(s.size:Int):=by omega
   cases hc:Xh c ((s[k]'h).toNat:Int)with
   |true=>
    rw[Vw _ hc]at he;have hq:(((s[k]'h).toNat:Int) != c)=true:=by simpa using(Zbk _ _).1 hc
    have HE:=Hh he;clear he hc g;go_wp2
    go_round
    case rel=>exact⟨k+1,by go_num,by omega,by have:=HE.out;omega⟩
    case measure=>simp[intOf];omega
   |false=>
    rw[Zci _ hc]at he
    have hq:(((s[k]'h).toNat:Int) != c)=false:=by
     rw[bne_eq_false_iff_eq];rcases Decidable.em (((s[k]'h).toNat:Int)=c)with e | e
     ·exact e
     ·rw[(Zbk c _).2 e]at hc;cases hc
    have HE:=Hh he;clear he hc g;go_wp2
    go_ret;exact⟨rI (by have:=HE.out;omega),rfl⟩
  ·rw[Zav s (by omega),Zii]at he
   have HE:=Hh he;clear he;go_wp2
   go_ret;exact⟨rI (by have:=HE.out;omega),rfl⟩
theorem prefix_test(s:ByteArray)(a:Nat)(m:List Int)(hm:∀ x ∈ m,0≤x∧x<256)(h:a+m.length≤s.size):((s.extract a (a+m.length)).toList == (strOfNums m).toList)=m.isPrefixOf (Zl s a):=by
 rw[Zgd s a m.length h,str_eq_iff _ _ (fun x hx=>bL_bd s x (List.mem_of_mem_drop (List.mem_of_mem_take hx))) hm,Bool.eq_iff_iff,decide_eq_true_iff,List.isPrefixOf_iff_prefix,List.prefix_iff_eq_take];exact⟨fun e=>e.symm,fun e=>e.symm⟩
theorem prefix_long(s:ByteArray)(a:Nat)(m:List Int)(h:s.size<a+m.length)(h0:0<m.length):m.isPrefixOf (Zl s a)=false:=by
 rw[←Bool.not_eq_true,List.isPrefixOf_iff_prefix];intro hp;have:=hp.length_le;rw[Xo]at this;omega
theorem rtMark(s:ByteArray)(a:Nat)(w:World)(hs:s.size≤140737488355328)(ha:a<s.size) :
  Calls Φ 115 #[Ψ s,I J (a:Int)] w fun e w'=>e=η (I J (Jx (Zl s a):Nat))∧Below w.heap.size w w':=by
 go_enter Tryz.func115,Tryz.ntmps115;go_wp2_with(go_at_call 145;refine(rtMarks _).mono ?_;rintro e w1 ⟨g,rfl,hg1,hW1,b1⟩)
 have HW:=Hh hW1;have HB:=Hh b1;clear hW1 b1;go_loopw [5,7] (fun n i wr=>∃ k q:Nat,k≤14∧i=I J (k:Int)∧n=I J (((mkL.take k).foldl (Vk (Zl s a)) 0:Nat):Int)∧wr=w1.drewN q) (fun _ i _=>14 - (intOf i).toNat)
 case atStart=>exact⟨0,0,by omega,rfl,rfl,rfl⟩
 case round=>
  obtain⟨k,q,hk,rfl,rfl,rfl⟩:=hrel;have hbd:=mk_bd (Zl s a) k;by_cases hkl:k<14
  ·have hst:=mk_next (Zl s a) k hkl
   have hce:w1.cell? ⟨g,k,none⟩=some (Ψ (strOfNums (mkL[k]'hkl))):=by
    rw[HW.out.read k];have:=mkCs_at k hkl;rw[←this];simp
   have hby:=mk_by k hkl;have hml:=mk_len k hkl;generalize mkL[k]'hkl=m at *;generalize hn:(mkL.take k).foldl (Vk (Zl s a)) 0=n at *;have hpt:=prefix_test s a m hby;have hpl:=prefix_long s a m;have hsz:(strOfNums m).size=m.length:=strOfNums_size m;have HST:=Hh hst;have HNN:=Hh hn;rw[←hsz]at hpt hpl hml;have HSZ:=Hh hsz;generalize strOfNums m=ms at *;obtain⟨s1,s2⟩:=hml;have lk:(k:Int)<14:=by omega
   have lk0:decide ((k:Int)<0)=false:=by simp
   clear hst hsz hn hby hkl;by_cases hfit:a+ms.size≤s.size
   ·have hsl:=fun w=>slice_nn (P:=Φ) 9 (by kernel_rfl) s a ms.size hfit w
    have hfi:decide ((a:Int)+(ms.size:Int)≤(s.size:Int))=true:=by simp;omega
    cases hp:m.isPrefixOf (Zl s a)with
    |true=>
     have heq:=(hpt hfit).trans hp;clear hpt hpl;by_cases hlt:(n:Int)<(ms.size:Int)
     ·have hv:Vk (Zl s a) n m=ms.size:=by unfold Vk;rw[if_pos ⟨by have:=HSZ.out;omega,hp⟩,HSZ.out]
      have hw0:IntKind.i64.wrap ((a:Int)+(ms.size:Int))=(a:Int)+(ms.size:Int):=IntWalk.i64_in _ (by omega);have HV:=Hh hv;clear hv hp;go_wp2
      go_quiet (fail)
      go_wp2
      go_roundw
      case rel=>exact⟨k+1,_,by omega,by go_num,by rw[HST.out,HV.out],rfl⟩
      case measure=>simp[intOf];omega
     ·have hv:Vk (Zl s a) n m=n:=by unfold Vk;rw[if_neg (by have:=HSZ.out;omega)]
      have hw0:IntKind.i64.wrap ((a:Int)+(ms.size:Int))=(a:Int)+(ms.size:Int):=IntWalk.i64_in _ (by omega);have HV:=Hh hv;clear hv hp;go_wp2
      go_quiet (fail)
      go_wp2
      go_roundw
      case rel=>exact⟨k+1,_,by omega,by go_num,by rw[HST.out,HV.out],rfl⟩
      case measure=>simp[intOf];omega
    |false=>
     have heq:=(hpt hfit).trans hp;have hv:Vk (Zl s a) n m=n:=by unfold Vk;rw[if_neg (by rw[hp];simp)]
     have hw0:IntKind.i64.wrap ((a:Int)+(ms.size:Int))=(a:Int)+(ms.size:Int):=IntWalk.i64_in _ (by omega);clear hpt hpl;have HV:=Hh hv;clear hv hp;go_wp2
     go_quiet (fail)
     go_wp2
     go_roundw
     case rel=>exact⟨k+1,_,by omega,by go_num,by rw[HST.out,HV.out],rfl⟩
     case measure=>simp[intOf];omega
   ·have hfi:decide ((a:Int)+(ms.size:Int)≤(s.size:Int))=false:=by simp;omega
    have hp:=hpl (by omega) (by omega);have hv:Vk (Zl s a) n m=n:=by unfold Vk;rw[if_neg (by rw[hp];simp)]
    have hw0:IntKind.i64.wrap ((a:Int)+(ms.size:Int))=(a:Int)+(ms.size:Int):=IntWalk.i64_in _ (by omega);clear hpt hpl;have HV:=Hh hv;clear hv hp;go_wp2
    go_quiet (fail)
    go_wp2
    go_roundw
    case rel=>exact⟨k+1,_,by omega,by go_num,by rw[HST.out,HV.out],rfl⟩
    case measure=>simp[intOf];omega
  ·obtain rfl:k=14:=by omega
   have hfold:(mkL.take 14).foldl (Vk (Zl s a)) 0=Jx (Zl s a):=by rw[←mk_fold];rfl
   have HF:=Hh hfold;clear hfold hkl;go_wp2
   go_ret;exact⟨rI (by rw[HF.out]),Zeo HB.out q⟩
end Go.Proofs.YtbdecchpleiepaaGreat
