/-
  No conditions but those that each theorem names.
-/
import Derived.Deep.QuietTactic
import Derived.BigQuiet
import Derived.Test.YtdngkgickbaboaaGreatQS2
import Derived.Test.YtdngkgickbaboaaGreatQS3
set_option maxRecDepth 20000
set_option maxHeartbeats 12800000
namespace Go.Proofs.YtdngkgickbaboaaGreat
open Go
inductive Tr (s:ByteArray):Nat→List TokV→Prop
 |fin:∀ a,a=s.size→Tr s a [Zlv s a]
 |skip:∀ a b L,a<b→Tr s b L→Tr s a L
 |tok:∀ a L,a<s.size→0<(Yf (Zk s a)).1→Bd s a→Tr s (a+(Yf (Zk s a)).2.2.2) L→Tr s a (Zep s a::L)
theorem Zgl(s:ByteArray):∀(b a:Nat)(acc L:List TokV)(E:Int)(p:Nat),s.size≤a+b→a≤s.size→Bd s a→Uq s a acc=(L,E,p) →
  (E=0→∃ L',L=acc++L'∧Tr s a L')∧(E≠0→L=[]∧Bd s p)
 |0,a,acc,L,E,p,h,h1,hB,hs=>by
  rw[Zli s acc (by omega)]at hs;injection hs with e1 e2;injection e2 with e2 e3;exact⟨fun _=>⟨_,e1.symm,Tr.fin a (by omega)⟩,fun c=>absurd e2.symm c⟩
 |b+1,a,acc,L,E,p,h,h1,hB,hs=>by
  by_cases ha:a<s.size
  ·cases hbl:Zfx (gB s a:Int)with
   |true=>
    rw[Zbz s acc ha hbl]at hs;obtain⟨i1,i2⟩:=Zgl s b (a+1) acc L E p (by omega) (by omega) (Bd.behind ha (by rw[Zco]at hbl;omega)) hs;refine⟨fun e=>?_,i2⟩;obtain⟨L',hL,ht⟩:=i1 e;exact⟨L',hL,Tr.skip a (a+1) L' (by omega) ht⟩
   |false=>
    by_cases hk:(Yf (Zk s a)).1 < -1
    ·rw[Zlh s acc ha hbl hk]at hs
     injection hs with e1 e2;injection e2 with e2 e3;refine⟨fun c=>?_,fun _=>⟨e1.symm,e3 ▸ hB⟩⟩;have:=errE_is (Yf (Zk s a)).1;omega
    ·have hadv:=Zax s ha (by omega)
     by_cases hr:(Yf (Zk s a)).1 = -1
     ·rw[Zlg s acc ha hbl hr]at hs
      obtain⟨i1,i2⟩:=Zgl s b _ acc L E p (by omega) hadv.2 (rem_bd s ha hr) hs;refine⟨fun e=>?_,i2⟩;obtain⟨L',hL,ht⟩:=i1 e;exact⟨L',hL,Tr.skip a _ L' (by omega) ht⟩
     ·have hpos:0<(Yf (Zk s a)).1:=by
            have:=(Zgi (Zk s a) (Zet s ha)).2.2.2.2.1;omega
      rw[Zlf s acc ha hbl hpos]at hs;obtain⟨i1,i2⟩:=Zgl s b _ (acc++[Zep s a]) L E p (by omega) hadv.2 (tok_bd s ha hpos) hs;refine⟨fun e=>?_,i2⟩;obtain⟨L',hL,ht⟩:=i1 e;exact⟨Zep s a::L',by rw[hL];simp,Tr.tok a L' ha hpos hB ht⟩
  ·exact Zgl s 0 a acc L E p (by omega) h1 hB hs
theorem Tr.up{s:ByteArray}{a:Nat}{L:List TokV}(h:Tr s a L) :
  (∀ v ∈ L,a≤v.p∧Bd s v.p∧v.line=(Zs s (v.p:Int)).1∧v.col=(Zs s (v.p:Int)).2)∧L.Pairwise (fun u v=>u.p<v.p):=by
 induction h with
 |fin a ha=>
  subst ha;refine⟨fun v hv=>?_,by simp⟩;simp at hv;subst hv;exact⟨Nat.le_refl _,Bd.end_ s,rfl,rfl⟩
 |skip a b L hab _ ih=>exact⟨fun v hv=>⟨by have:=(ih.1 v hv).1;omega,(ih.1 v hv).2⟩,ih.2⟩
 |tok a L ha hk hB _ ih=>
  have hadv:=Zax s ha (by omega);refine⟨fun v hv=>?_,?_⟩
  ·rcases List.mem_cons.1 hv with rfl | hv
   ·exact⟨Nat.le_refl _,hB,rfl,rfl⟩
   ·exact⟨by have:=(ih.1 v hv).1;omega,(ih.1 v hv).2⟩
  ·rw[List.pairwise_cons]
   refine⟨fun v hv=>?_,ih.2⟩;have:=(ih.1 v hv).1;show a<v.p;omega
theorem Tr.before{s:ByteArray}{a:Nat}{L:List TokV}(h:Tr s a L){m:Nat}(hm:m+1<L.length) :
  (L[m]'(by omega)).line<(L[m+1]'hm).line∨(L[m]'(by omega)).line=(L[m+1]'hm).line∧(L[m]'(by omega)).col<(L[m+1]'hm).col:=by
 obtain⟨h1,h2⟩:=h.up;have hp:=List.pairwise_iff_getElem.1 h2 m (m+1) (by omega) hm (by omega);have u:=h1 _ (List.getElem_mem (show m<L.length by omega));have v:=h1 _ (List.getElem_mem hm);have:=place_lt u.2.1 v.2.1 hp;rw[u.2.2.1,u.2.2.2,v.2.2.1,v.2.2.2];exact this
def txt(v:TokV):List Int:=if v.k=3 then 34::(bL v.t++[34])else bL v.t
def wrL(L:List TokV):List Int:=L.flatMap fun v=>txt v++[32]
theorem wrL_cons(v:TokV)(L:List TokV):wrL (v::L)=txt v++32::wrL L:=by unfold wrL;simp
theorem name_no10(X:List Int)(hX:∀ x ∈ X,0≤x∧x<256)(h:Zbt (strOfNums X)=true):∀ x ∈ X,x≠10:=by
 intro x hx h10;subst h10;obtain⟨i,hi,he⟩:=List.mem_iff_getElem.1 hx;have hz:(strOfNums X).size=X.length:=strOfNums_size X;have hb:bL (strOfNums X)=X:=bL_str X hX;have hg:=Zhy (strOfNums X) i (by omega);rw[hb,List.getElem?_eq_getElem hi,he]at hg
 have hg10:gB (strOfNums X) i=10:=by
  have:=Option.some.inj hg;omega
 have hm:=ascii_rune (strOfNums X) i (by omega) (by omega);rw[hg10]at hm;unfold Zbt at h;simp only[Bool.and_eq_true]at h;have hin:=List.all_eq_true.1 h.1.1.2 _ hm;simp[Zat,Zfh]at hin
def GoodT(v:TokV):Prop:=∃ l:List Int,0<(Yf l).1∧v.k=(Yf l).1∧txt v=l.take (Yf l).2.2.2∧v.t=strOfNums ((l.take (Yf l).2.2.1).drop (Yf l).2.1)∧v.n=Zcb (Yf l).1 l∧(∀ x ∈ txt v,0≤x∧x<256∧x≠10)∧(txt v).length=(Yf l).2.2.2
theorem tok_parts(l:List Int)(h:0<(Yf l).1)(hl:∀ x ∈ l,0≤x∧x<256):(if(Yf l).1=3 then 34::((l.take (Yf l).2.2.1).drop (Yf l).2.1++[34])else(l.take (Yf l).2.2.1).drop (Yf l).2.1)=l.take (Yf l).2.2.2∧∀ x ∈ l.take (Yf l).2.2.2,x≠10:=by
 cases l with
 |nil=>simp[Yf]at h
 |cons c m=>
  revert h
  refine Jj c m (fun x=>0<x.1→(if x.1=3 then 34::(((c::m).take x.2.2.1).drop x.2.1++[34])else((c::m).take x.2.2.1).drop x.2.1)=(c::m).take x.2.2.2∧∀ y ∈ (c::m).take x.2.2.2,y≠10) ?_ ?_ ?_ ?_ ?_ ?_ ?_ ?_
  ·intro hs _
   refine⟨by rw[if_neg (by simp)];rfl,fun y hy=>?_⟩;have:=Zms Zag (c::m) y hy;rw[Zds]at this;omega
  ·intro hs h2 h3 _
   refine⟨by rw[if_neg (by simp)];rfl,fun y hy=>?_⟩;have:=Zms isD (c::m) y hy;rw[Zbf]at this;omega
  ·intro _ _ h;simp at h
  ·intro _ h;simp at h
  ·intro hc hlt hnm _
   subst hc;dsimp only;rcases tw_end (Xe 34) m with he | ⟨x,hx,hxp⟩
   ·omega
   ·have hx34:x=34:=by
     rcases Decidable.em (x=34)with e | e
     ·exact e
     ·rw[(Zba 34 x).2 e]at hxp;cases hxp
    subst hx34;have hn10:=name_no10 _ (fun y hy=>hl y (List.mem_cons_of_mem _ (List.mem_of_mem_take hy))) hnm;generalize tw (Xe 34) m=n at *;have hm1:m.take (n+1)=m.take n++[34]:=by rw[List.take_add_one,hx];rfl
    refine⟨?_,?_⟩
    ·rw[if_pos rfl,List.take_succ_cons,List.take_succ_cons,List.drop_succ_cons,List.drop_zero,hm1]
    ·intro y hy
     rw[List.take_succ_cons,hm1]at hy;rcases List.mem_cons.1 hy with rfl | hy
     ·decide
     ·rcases List.mem_append.1 hy with hy | hy
      ·exact hn10 y hy
      ·simp at hy;omega
  ·intro _ _ h;simp at h
  ·intro h1 h2 h3 h4 h5 _
   refine⟨by rw[if_neg (by simp)];rfl,fun y hy=>?_⟩;dsimp only at hy
   have hc:c≠10:=by
    rintro rfl;rw[Zeu,if_neg (by simp),if_neg (by decide)]at h5;exact h5 rfl
   rw[Zeu]at hy;split at hy
   ·rename_i e1
    cases m with
    |nil=>simp at e1
    |cons d m'=>
     have hd:d=61:=by simpa using e1.2
     rcases List.mem_cons.1 hy with rfl | hy
     ·exact hc
     ·simp at hy;omega
   ·split at hy
    ·simp at hy;omega
    ·simp at hy
  ·intro _ _ _ _ _ h;simp at h
theorem good_tok(s:ByteArray){a:Nat}(ha:a<s.size)(hk:0<(Yf (Zk s a)).1):GoodT (Zep s a):=by
 have hb:=Zgi (Zk s a) (Zet s ha);rw[Xk]at hb;have hrange:∀ x ∈ Zk s a,0≤x∧x<256:=fun x hx=>Zmm s x (List.mem_of_mem_drop hx)
 obtain⟨p1,p2⟩:=tok_parts (Zk s a) hk hrange
 have ht:(Zep s a).t=strOfNums (((Zk s a).take (Yf (Zk s a)).2.2.1).drop (Yf (Zk s a)).2.1):=by
  have e:=Zfj s (a+(Yf (Zk s a)).2.1) ((Yf (Zk s a)).2.2.1 - (Yf (Zk s a)).2.1) (by omega);rw[show a+(Yf (Zk s a)).2.1+((Yf (Zk s a)).2.2.1 - (Yf (Zk s a)).2.1)=a+(Yf (Zk s a)).2.2.1 from by omega]at e;show s.extract _ _=_;rw[e,List.drop_take];unfold Zk;rw[List.drop_drop]
 have hx:txt (Zep s a)=(Zk s a).take (Yf (Zk s a)).2.2.2:=by
  have hbl:bL (Zep s a).t=((Zk s a).take (Yf (Zk s a)).2.2.1).drop (Yf (Zk s a)).2.1:=by
   rw[ht,bL_str _ (fun x hx=>hrange x (List.mem_of_mem_take (List.mem_of_mem_drop hx)))]
  unfold txt;rw[hbl,←p1];rfl
 refine⟨Zk s a,hk,rfl,hx,ht,rfl,fun x hxx=>?_,?_⟩
 ·rw[hx]at hxx
  have:=hrange x (List.mem_of_mem_take hxx);exact⟨this.1,this.2,p2 x hxx⟩
 ·rw[hx,List.length_take,Xk];omega
inductive Sh:List TokV→Prop
 |fin:∀ v:TokV,v.k=0→v.t=⟨#[]⟩→v.n=0→Sh [v]
 |tok:∀ v L,GoodT v→Sh L→Sh (v::L)
theorem Tr.sh{s:ByteArray}{a:Nat}{L:List TokV}(h:Tr s a L):Sh L:=by
 induction h with
 |fin a ha=>exact Sh.fin _ rfl rfl rfl
 |skip _ _ _ _ _ ih=>exact ih
 |tok a L ha hk _ _ ih=>exact Sh.tok _ _ (good_tok s ha hk) ih
theorem Tr.size{s:ByteArray}{a:Nat}{L:List TokV}(h:Tr s a L):(wrL L).length+2*a≤2*s.size+1:=by
 induction h with
 |fin a ha=>
  subst ha
  have:wrL [Zlv s s.size]=[32]:=by
   unfold wrL txt Zlv;rfl
  rw[this];simp;omega
 |skip a b L hab _ ih=>omega
 |tok a L ha hk _ _ ih=>
  have hadv:=Zax s ha (by omega)
  have hlen:(txt (Zep s a)).length=(Yf (Zk s a)).2.2.2:=by
   obtain⟨l,g1,g2,g3,g4,g5,g6,g7⟩:=good_tok s ha hk;have hrange:∀ x ∈ Zk s a,0≤x∧x<256:=fun x hx=>Zmm s x (List.mem_of_mem_drop hx)
   obtain⟨p1,_⟩:=tok_parts (Zk s a) hk hrange;have hb:=Zgi (Zk s a) (Zet s ha);rw[Xk]at hb;have e:=congrArg List.length p1;rw[List.length_take,Xk,Nat.min_eq_left (by omega)]at e
   have hbl:(bL (Zep s a).t).length=(Yf (Zk s a)).2.2.1 - (Yf (Zk s a)).2.1:=by
    rw[Vr];show(s.extract _ _).size=_;rw[size_extract _ _ _ (by omega)];omega
   rw[←e];unfold txt;show(if(Yf (Zk s a)).1=3 then _ else _:List Int).length=_;split
   ·simp[hbl,Xk];omega
   ·simp[hbl,Xk];omega
  rw[wrL_cons,List.length_append,List.length_cons,hlen];omega
def SimT(L M:List TokV):Prop:=L.length=M.length∧∀(i:Nat)(h:i<L.length)(h':i<M.length),(M[i]'h').k=(L[i]'h).k∧(M[i]'h').t=(L[i]'h).t∧(M[i]'h').n=(L[i]'h).n∧(M[i]'h').line=1
theorem SimT.cons{u v:TokV}{L M:List TokV}(h:SimT L M)(h1:v.k=u.k)(h2:v.t=u.t)(h3:v.n=u.n)(h4:v.line=1):SimT (u::L) (v::M):=by
 refine⟨by simp[h.1],fun i hi hi'=>?_⟩;cases i with
 |zero=>exact⟨h1,h2,h3,h4⟩
 |succ i=>exact h.2 i (by simpa using hi) (by simpa using hi')
def zTok:TokV:=⟨0,⟨#[]⟩,0,0,0,0⟩
def Zv(L:List TokV)(a:Nat):TokV:=L[a]?.getD zTok
theorem curT_get(L:List TokV)(a:Nat)(h:a<L.length):Zv L a=L[a]'h:=by unfold Zv;rw[List.getElem?_eq_getElem h];rfl
structure Zla(L:List TokV):Prop where
 pos:0<L.length
 last:∀ i,i<L.length→((Zv L i).k=0↔i+1=L.length)
 num:∀ i,0≤(Zv L i).n∧(Zv L i).n≤99
theorem numOf_bd(l:List Int):0≤Zcb (Yf l).1 l∧Zcb (Yf l).1 l≤99:=by
 cases l with
 |nil=>simp[Yf,Zcb]
 |cons c r=>
  refine Jj c r (fun x=>0≤Zcb x.1 (c::r)∧Zcb x.1 (c::r)≤99) ?_ ?_ ?_ ?_ ?_ ?_ ?_ ?_
  case refine_2=>
   intro h1 h2 _
   have hd:∀ x ∈ Xr (c::r),48≤x∧x≤57:=by
    intro x hx;rw[firstD_tw]at hx;exact(Zbf x).1 (Zms isD _ x hx)
   have hv:=Zaw _ hd;have hl:(Xr (c::r)).length≤2:=by rw[Zcx];exact h2
   have hp:(10:Int) ^ (Xr (c::r)).length≤100:=by
    generalize(Xr (c::r)).length=n at hl;match n,hl with
    |0,_=>decide
    |1,_=>decide
    |2,_=>decide
   show 0≤Zcb 2 (c::r)∧Zcb 2 (c::r)≤99;unfold Zcb;rw[if_pos rfl];omega
  all_goals(intros;simp[Zcb])
theorem Zip(v:TokV)(L:List TokV)(i:Nat):Zv (v::L) (i+1)=Zv L i:=by unfold Zv;simp
theorem Zel(v:TokV)(L:List TokV):Zv (v::L) 0=v:=by unfold Zv;simp
theorem Sh.ends{L:List TokV}(h:Sh L):Zla L:=by
 induction h with
 |fin v hk ht hn=>
  refine⟨by simp,fun i hi=>?_,fun i=>?_⟩
  ·obtain rfl:i=0:=by simp at hi;exact hi
   rw[Zel];simp[hk]
  ·cases i with
   |zero=>rw[Zel,hn];decide
   |succ i=>rw[Zip];simp[Zv,zTok]
 |tok v L hg hL ih=>
  obtain⟨l,g1,g2,g3,g4,g5,g6,g7⟩:=hg;refine⟨by simp,fun i hi=>?_,fun i=>?_⟩
  ·cases i with
   |zero=>
    have:=ih.pos;rw[Zel,List.length_cons];constructor
    ·intro h;omega
    ·intro h;omega
   |succ i=>
    rw[Zip,List.length_cons];have:=ih.last i (by simpa using hi);rw[this];omega
  ·cases i with
   |zero=>rw[Zel,g5];exact numOf_bd l
   |succ i=>rw[Zip];exact ih.num i
theorem Tr.len{s:ByteArray}{a:Nat}{L:List TokV}(h:Tr s a L):L.length+a≤s.size+1:=by
 induction h with
 |fin a ha=>simp;omega
 |skip a b L hab _ ih=>omega
 |tok a L ha hk _ _ ih=>
  have:=Zax s ha (by omega);rw[List.length_cons];omega
def onA(L:List TokV)(a:Nat):Nat:=if(Zv L a).k=0 then a else a+1
theorem Zla.on{L:List TokV}(h:Zla L){a:Nat}(ha:a<L.length):onA L a<L.length:=by
 unfold onA;split
 ·exact ha
 ·rename_i hk
  have:¬(a+1=L.length):=fun e=>hk ((h.last a ha).2 e)
  omega
theorem Zla.on'{L:List TokV}(h:Zla L){a:Nat}(ha:a<L.length):onA L a=if(a:Int)<(L.length:Int) - 1 then a+1 else a:=by
 unfold onA;have:=h.last a ha;split
 ·rw[if_neg (by omega)]
 ·rw[if_pos (by omega)]
def isT(v:TokV)(t:ByteArray):Bool:=(v.k == 1 || v.k == 4) && (v.t.toList == t.toList)
def wrF(v:TokV):Int×Nat×Nat:=if v.k=0 then(2,v.line,v.col)else(7,v.line,v.col)
def okF:Int×Nat×Nat:=(0,0,0)
def Zko:ByteArray:=⟨#[45]⟩
def Zav(L:List TokV)(a:Nat)(t:ByteArray):Nat:=if isT (Zv L a) t=true then onA L a else a
def wantF(L:List TokV)(a:Nat)(t:ByteArray):Int×Nat×Nat:=if isT (Zv L a) t=true then okF else wrF (Zv L a)
def Vj(L:List TokV)(a:Nat)(k:Int):Nat:=if(Zv L a).k=k then onA L a else a
def Xz(L:List TokV)(a:Nat)(k:Int):Int×Nat×Nat:=if(Zv L a).k=k then okF else wrF (Zv L a)
def Zhf(L:List TokV)(a:Nat):Int:=if(Zv L a).k=2 then(Zv L a).n else 0
def Ziz(L:List TokV)(a:Nat):ByteArray:=if(Zv L a).k=3 then(Zv L a).t else⟨#[]⟩
def Zch(L:List TokV)(a:Nat):Nat:=if isT (Zv L a) Zko=true then(if(Zv L (onA L a)).k=2 then onA L (onA L a)else a)else Vj L a 2
def Zhc(L:List TokV)(a:Nat):Int:=if isT (Zv L a) Zko=true then(if(Zv L (onA L a)).k=2 then - (Zv L (onA L a)).n else 0)else Zhf L a
def Zak(L:List TokV)(a:Nat):Int×Nat×Nat:=if isT (Zv L a) Zko=true then Xz L (onA L a) 2 else Xz L a 2
def Zbm(d:Nat):Nat:=if d=8 then 8 else d+1
def Us(L:List TokV)(a d:Nat):Int×Nat×Nat:=if d=8 then(8,(Zv L a).line,(Zv L a).col)else okF
theorem Zfn(v:TokV):(wrF v).1≠0:=by unfold wrF;split<;>simp
set_option linter.unusedSimpArgs false
set_option linter.unusedVariables false
structure Fl where
 kind:Int
 op:Int
 n:Int
 name:ByteArray
structure Se where
 kind:Int
 side:Int
 wh:Int
 lane:Int
 fs:List Fl
 pick:Int
def zSe:Se:=⟨0,0,0,0,[],0⟩
inductive Ex where
 |leaf (kind n:Int) (sel:Se) (side tk tl:Int)
 |bin (op:Int) (l r:Ex)
def zEx:Ex:=.leaf 0 0 zSe 0 0 0
structure AH where
 kind:Int
 line:Int
 col:Int
 sel:Se
 num:Ex
 side:Int
 tk:Int
 tl:Int
 how:Int
 name:ByteArray
 cop:Int
 cl:Ex
 cr:Ex
def AH.zero(k l c:Int):AH:=⟨k,l,c,zSe,zEx,0,0,0,0,⟨#[]⟩,0,zEx,zEx⟩
inductive Acs where
 |nil
 |cons (h:AH) (thn els rest:Acs)
def Acs.len:Acs→Nat
 |.nil=>0
 |.cons _ _ _ r=>r.len+1
def Acs.app:Acs→Acs→Acs
 |.nil,y=>y
 |.cons h t e r,y=>.cons h t e (r.app y)
structure Ru where
 when_:Int
 stratum:Int
 line:Int
 col:Int
 acts:Acs
structure Ca where
 name:ByteArray
 cost:Int
 power:Int
 line:Int
 col:Int
 rules:List Ru
structure Pl where
 name:ByteArray
 line:Int
 col:Int
 rules:List Ru
structure Fi where
 cards:List Ca
 places:List Pl
theorem Acs.app_nil:∀ x:Acs,x.app .nil=x
 |.nil=>rfl
 |.cons h t e r=>by rw[Acs.app,Acs.app_nil r]
theorem Acs.app_assoc(y z:Acs):∀ x:Acs,(x.app y).app z=x.app (y.app z)
 |.nil=>rfl
 |.cons h t e r=>by rw[Acs.app,Acs.app,Acs.app,Acs.app_assoc y z r]
theorem Acs.len_app(y:Acs):∀ x:Acs,(x.app y).len=x.len+y.len
 |.nil=>by rw[Acs.app,Acs.len];omega
 |.cons h t e r=>by rw[Acs.app,Acs.len,Acs.len,Acs.len_app y r];omega
def Ym:List ByteArray:=[⟨#[109,101]⟩,⟨#[105,116]⟩,⟨#[40]⟩]
def Zp:List ByteArray:=[⟨#[109,105,110,101]⟩,⟨#[116,104,101,105,114,115]⟩,⟨#[98,111,116,104]⟩]
def Ye:List ByteArray:=[⟨#[104,101,114,101]⟩,⟨#[97,119,97,121]⟩,⟨#[108,97,110,101]⟩,⟨#[97,110,121,119,104,101,114,101]⟩]
def Yh:List ByteArray:=[⟨#[99,111,115,116]⟩,⟨#[112,111,119,101,114]⟩,⟨#[110,97,109,101,100]⟩,⟨#[110,111,116]⟩]
def Vh:List ByteArray:=[⟨#[109,101]⟩,⟨#[105,116]⟩]
def Vz:List ByteArray:=[⟨#[97,108,108]⟩,⟨#[102,105,114,115,116]⟩,⟨#[108,97,115,116]⟩,⟨#[119,101,97,107,101,115,116]⟩,⟨#[115,116,114,111,110,103,101,115,116]⟩]
def wTo:List ByteArray:=[⟨#[104,101,114,101]⟩,⟨#[108,101,102,116]⟩,⟨#[114,105,103,104,116]⟩,⟨#[108,97,110,101]⟩]
def Zmq:List ByteArray:=[⟨#[102,105,114,115,116]⟩,⟨#[108,97,115,116]⟩,⟨#[99,104,101,97,112,101,115,116]⟩,⟨#[99,111,115,116,108,105,101,115,116]⟩]
def wOp:List ByteArray:=[⟨#[60]⟩,⟨#[60,61]⟩,⟨#[61]⟩,⟨#[33,61]⟩,⟨#[62,61]⟩,⟨#[62]⟩]
def Ja:List ByteArray:=[⟨#[43]⟩,⟨#[45]⟩]
def Yz:List ByteArray:=[⟨#[99,111,117,110,116]⟩,⟨#[115,117,109]⟩,⟨#[114,111,117,110,100]⟩,⟨#[104,97,110,100]⟩,⟨#[102,114,101,101]⟩]
def Vk:List ByteArray:=[⟨#[112,111,119,101,114]⟩,⟨#[115,101,116]⟩,⟨#[100,101,115,116,114,111,121]⟩,⟨#[109,111,118,101]⟩,⟨#[114,101,116,117,114,110]⟩,⟨#[115,112,97,119,110]⟩,⟨#[100,114,97,119]⟩,⟨#[100,105,115,99,97,114,100]⟩,⟨#[101,110,101,114,103,121]⟩,⟨#[105,102]⟩,⟨#[101,97,99,104]⟩,⟨#[97,117,114,97]⟩,⟨#[100,111,117,98,108,101]⟩,⟨#[115,104,105,101,108,100]⟩,⟨#[98,97,114]⟩]
def Xg:List ByteArray:=[⟨#[114,101,118,101,97,108]⟩,⟨#[100,101,97,116,104]⟩,⟨#[109,111,118,101,100]⟩,⟨#[101,110,100]⟩,⟨#[97,108,119,97,121,115]⟩,⟨#[101,110,116,101,114]⟩]
def Xy:List ByteArray:=[⟨#[99,97,114,100]⟩,⟨#[112,108,97,99,101]⟩]
def Wl:ByteArray:=⟨#[42]⟩
def Wn:ByteArray:=⟨#[40]⟩
def Va:ByteArray:=⟨#[41]⟩
def Ys:ByteArray:=⟨#[123]⟩
def Xi:ByteArray:=⟨#[125]⟩
def Xc:ByteArray:=⟨#[59]⟩
def Jm:ByteArray:=⟨#[101,108,115,101]⟩
def Zcj:ByteArray:=⟨#[99,111,115,116]⟩
def Zci:ByteArray:=⟨#[112,111,119,101,114]⟩
def sMe:ByteArray:=⟨#[109,101]⟩
def sIt:ByteArray:=⟨#[105,116]⟩
inductive St where
 |ok (a d:Nat)
 |bad (F:Int×Nat×Nat)
def St.good:St→Bool
 |.ok _ _=>true
 |.bad _=>false
def Ui(F:Int×Nat×Nat):St→St
 |.ok a d=>if F.1=0 then .ok a d else .bad F
 |.bad G=>.bad G
def Jl(v:TokV):List ByteArray→Nat
 |[]=>0
 |t::r=>if isT v t=true then 1 else if Jl v r=0 then 0 else Jl v r+1
section
variable (L:List TokV)
def St.tok:St→TokV
 |.ok a _=>Zv L a
 |.bad _=>zTok
def Zgf:St→St
 |.ok a d=>.bad (wrF (Zv L a))
 |.bad F=>.bad F
def isS(t:ByteArray):St→Bool
 |.ok a _=>isT (Zv L a) t
 |.bad _=>false
def Xw(t:ByteArray):St→St
 |.ok a d=>.ok (Zav L a t) d
 |.bad F=>.bad F
def Zx(t:ByteArray)(st:St):St:=if isS L t st=true then Xw L t st else Zgf L st
def Zct:St→Int
 |.ok a _=>Zhf L a
 |.bad _=>0
def Js:St→St
 |.ok a d=>Ui (Xz L a 2) (.ok (Vj L a 2) d)
 |.bad F=>.bad F
def Zbl:St→ByteArray
 |.ok a _=>Ziz L a
 |.bad _=>⟨#[]⟩
def Wo:St→St
 |.ok a d=>Ui (Xz L a 3) (.ok (Vj L a 3) d)
 |.bad F=>.bad F
def Jv:St→Int
 |.ok a _=>Zhc L a
 |.bad _=>0
def Uv:St→St
 |.ok a d=>Ui (Zak L a) (.ok (Zch L a) d)
 |.bad F=>.bad F
def Zh(ws:List ByteArray):St→Nat
 |.ok a _=>Jl (Zv L a) ws
 |.bad _=>0
def Zz(ws:List ByteArray):St→St
 |.ok a d=>if Jl (Zv L a) ws=0 then .ok a d else .ok (onA L a) d
 |.bad F=>.bad F
def Zm(ws:List ByteArray)(st:St):St:=if Zh L ws st=0 then Zgf L st else Zz L ws st
def Zga(t:ByteArray):St→St
 |.ok a d=>if isT (Zv L a) t=true then Ui (Us L a d) (.ok a (Zbm d))else .ok a d
 |.bad F=>.bad F
def upS:St→St
 |.ok a d=>.ok a (d - 1)
 |.bad F=>.bad F
def Vf(t:ByteArray)(st:St):St:=Zx L t (Zga L t st)
def Zes(t:ByteArray)(st:St):St:=upS (Zx L t st)
def Xh:St→St
 |.ok a d=>if(Zv L a).k=0 then .ok a d else .bad (wrF (Zv L a))
 |.bad F=>.bad F
def Zu:St→Nat
 |.ok a _=>L.length - a
 |.bad _=>0
end
section
variable (nk:Int) (L:List TokV)
def Wt(k:Nat)(s:St):Fl×St:=
 if k=1∨k=2 then(⟨k,Zh L wOp s,Jv L (Zm L wOp s),⟨#[]⟩⟩,Uv L (Zm L wOp s))
 else if k=3 then(⟨3,0,0,Zbl L s⟩,Wo L s)
 else(⟨if Zh L Vh s=0 then nk else 3+(Zh L Vh s:Int),0,0,⟨#[]⟩⟩,Zm L Vh s)
def Yc:Nat→St→List Fl×St
 |0,st=>([],st)
 |n+1,st=>
  if Zh L Yh st=0 then([],st)
  else
   ((Wt nk L (Zh L Yh st) (Zz L Yh st)).1::(Yc n (Wt nk L (Zh L Yh st) (Zz L Yh st)).2).1,
     (Yc n (Wt nk L (Zh L Yh st) (Zz L Yh st)).2).2)
def Ug(st:St):Int×Int×Int:=(Zh L Zp st,Zh L Ye (Zm L Zp st),if Zh L Ye (Zm L Zp st)=3 then Zct L (Zm L Ye (Zm L Zp st))else 0)
def Zau(st:St):St:=if Zh L Ye (Zm L Zp st)=3 then Js L (Zm L Ye (Zm L Zp st))else Zm L Ye (Zm L Zp st)
def Xp(n:Nat)(st:St):Se×St:=
 if Zh L Ym st=3 then
  (⟨3,(Ug L (Zm L Ym st)).1,(Ug L (Zm L Ym st)).2.1,(Ug L (Zm L Ym st)).2.2,(Yc nk L n (Zau L (Zm L Ym st))).1,
     Zh L Vz (Yc nk L n (Zau L (Zm L Ym st))).2⟩,
    Zx L Va (Zm L Vz (Yc nk L n (Zau L (Zm L Ym st))).2))
 else(⟨Zh L Ym st,0,0,0,[],0⟩,Zm L Ym st)
def toK(st:St):Int:=Zh L wTo st
def toL(st:St):Int:=if Zh L wTo st=4 then Zct L (Zm L wTo st)else 0
def toS(st:St):St:=if Zh L wTo st=4 then Js L (Zm L wTo st)else Zm L wTo st
mutual
def Yd:Nat→St→Ex×St
 |0,st=>(zEx,st)
 |n+1,st=>Ud n (Wv n st)
def Ud:Nat→Ex×St→Ex×St
 |0,x=>x
 |n+1,x=>
  if Zh L Ja x.2=0 then x
  else Ud n (.bin (Zh L Ja x.2) x.1 (Wv n (Zz L Ja x.2)).1,(Wv n (Zz L Ja x.2)).2)
def Wv:Nat→St→Ex×St
 |0,st=>(zEx,st)
 |n+1,st=>Ub n (Wd n st)
def Ub:Nat→Ex×St→Ex×St
 |0,x=>x
 |n+1,x=>
  if isS L Wl x.2=true then Ub n (.bin 3 x.1 (Wd n (Xw L Wl x.2)).1,(Wd n (Xw L Wl x.2)).2)
  else x
def Wd:Nat→St→Ex×St
 |0,st=>(zEx,st)
 |n+1,st=>
  if isS L Wn st=true then((Yd n (Vf L Wn st)).1,Zes L Va (Yd n (Vf L Wn st)).2)
  else if Zh L Yz st=0 then(.leaf 1 (Jv L st) zSe 0 0 0,Uv L st)
  else if Zh L Yz st=1∨Zh L Yz st=2 then(.leaf (Zh L Yz st+1) 0 (Xp nk L n (Zz L Yz st)).1 0 0 0,(Xp nk L n (Zz L Yz st)).2)
  else if Zh L Yz st=3 then(.leaf 4 0 zSe 0 0 0,Zz L Yz st)
  else if Zh L Yz st=4 then(.leaf 5 0 zSe (Zh L Zp (Zz L Yz st)) 0 0,Zm L Zp (Zz L Yz st))
  else(.leaf 6 0 zSe (Zh L Zp (Zz L Yz st)) (toK L (Zm L Zp (Zz L Yz st))) (toL L (Zm L Zp (Zz L Yz st))),toS L (Zm L Zp (Zz L Yz st)))
end
def We(n:Nat)(h:AH)(k:Nat)(st:St):AH×St:=
 if k=1∨k=2∨k=12 then({ h with sel:=(Xp nk L n st).1,num:=(Yd nk L n (Xp nk L n st).2).1 },(Yd nk L n (Xp nk L n st).2).2)
 else if k=3∨k=5∨k=14 then({ h with sel:=(Xp nk L n st).1 },(Xp nk L n st).2)
 else if k=4 then({ h with sel:=(Xp nk L n st).1,tk:=toK L (Xp nk L n st).2,tl:=toL L (Xp nk L n st).2 },toS L (Xp nk L n st).2)
 else if k=6 then
  ({ h with name:=Zbl L st,side:=Zh L Zp (Wo L st),tk:=toK L (Zm L Zp (Wo L st)),tl:=toL L (Zm L Zp (Wo L st)),num:=(Yd nk L n (toS L (Zm L Zp (Wo L st)))).1 },
    (Yd nk L n (toS L (Zm L Zp (Wo L st)))).2)
 else if k=7∨k=9 then({ h with side:=Zh L Zp st,num:=(Yd nk L n (Zm L Zp st)).1 },(Yd nk L n (Zm L Zp st)).2)
 else if k=8 then({ h with side:=Zh L Zp st,how:=Zh L Zmq (Zm L Zp st) },Zm L Zmq (Zm L Zp st))
 else if k=13∨k=15 then({ h with side:=Zh L Zp st,tk:=toK L (Zm L Zp st),tl:=toL L (Zm L Zp st) },toS L (Zm L Zp st))
 else(h,st)
def Ul(n:Nat)(h:AH)(st:St):AH×St:=
 ({ h with cl:=(Yd nk L n st).1,cop:=Zh L wOp (Yd nk L n st).2,cr:=(Yd nk L n (Zm L wOp (Yd nk L n st).2)).1 },(Yd nk L n (Zm L wOp (Yd nk L n st).2)).2)
structure AO where
 h:AH
 thn:Acs
 els:Acs
 st:St
mutual
def Wj:Nat→St→Acs×St
 |0,st=>(.nil,st)
 |n+1,st=>
  if Zh L Vk st=0 then(.nil,st)
  else
   (.cons (Zaq n (AH.zero (Zh L Vk st) (st.tok L).line (st.tok L).col) (Zh L Vk st) (Zz L Vk st)).h
      (Zaq n (AH.zero (Zh L Vk st) (st.tok L).line (st.tok L).col) (Zh L Vk st) (Zz L Vk st)).thn
      (Zaq n (AH.zero (Zh L Vk st) (st.tok L).line (st.tok L).col) (Zh L Vk st) (Zz L Vk st)).els
      (Wj n (Zaq n (AH.zero (Zh L Vk st) (st.tok L).line (st.tok L).col) (Zh L Vk st) (Zz L Vk st)).st).1,
     (Wj n (Zaq n (AH.zero (Zh L Vk st) (st.tok L).line (st.tok L).col) (Zh L Vk st) (Zz L Vk st)).st).2)
def Zaq:Nat→AH→Nat→St→AO
 |0,h,_,st=>⟨h,.nil,.nil,st⟩
 |n+1,h,k,st=>
  if k=10 then
   if isS L Jm (Yp n (Ul nk L n h st).2).2=true then
    ⟨(Ul nk L n h st).1,(Yp n (Ul nk L n h st).2).1,(Yp n (Xw L Jm (Yp n (Ul nk L n h st).2).2)).1,(Yp n (Xw L Jm (Yp n (Ul nk L n h st).2).2)).2⟩
   else⟨(Ul nk L n h st).1,(Yp n (Ul nk L n h st).2).1,.nil,(Yp n (Ul nk L n h st).2).2⟩
  else if k=11 then⟨{ h with sel:=(Xp nk L n st).1 },(Yp n (Xp nk L n st).2).1,.nil,(Yp n (Xp nk L n st).2).2⟩
  else⟨(We nk L n h k st).1,.nil,.nil,Zx L Xc (We nk L n h k st).2⟩
def Yp:Nat→St→Acs×St
 |0,st=>(.nil,st)
 |n+1,st=>((Wj n (Vf L Ys st)).1,Zes L Xi (Wj n (Vf L Ys st)).2)
end
def Zld(k:Nat)(s:St):Int:=if k=5 then Zct L s else 0
def Zcd(k:Nat)(s:St):St:=if k=5 then Js L s else s
def Wp:Nat→St→List Ru×St
 |0,st=>([],st)
 |n+1,st=>
  if Zh L Xg st=0 then([],st)
  else
   (⟨Zh L Xg st,Zld L (Zh L Xg st) (Zz L Xg st),(st.tok L).line,(st.tok L).col,(Wj nk L n (Zx L Ys (Zcd L (Zh L Xg st) (Zz L Xg st)))).1⟩ ::
      (Wp n (Zx L Xi (Wj nk L n (Zx L Ys (Zcd L (Zh L Xg st) (Zz L Xg st)))).2)).1,
     (Wp n (Zx L Xi (Wj nk L n (Zx L Ys (Zcd L (Zh L Xg st) (Zz L Xg st)))).2)).2)
def Zex(n:Nat)(st:St):List Ru×St:=((Wp nk L n (Zx L Ys st)).1,Zx L Xi (Wp nk L n (Zx L Ys st)).2)
def Zcw(n:Nat)(line col:Int)(st:St):Ca×St:=
 (⟨Zbl L st,Zct L (Zx L Zcj (Wo L st)),Jv L (Zx L Zci (Js L (Zx L Zcj (Wo L st)))),line,col,
    (Zex nk L n (Uv L (Zx L Zci (Js L (Zx L Zcj (Wo L st)))))).1⟩,
   (Zex nk L n (Uv L (Zx L Zci (Js L (Zx L Zcj (Wo L st)))))).2)
def Zao(n:Nat)(line col:Int)(st:St):Pl×St:=(⟨Zbl L st,line,col,(Zex nk L n (Wo L st)).1⟩,(Zex nk L n (Wo L st)).2)
def Ve:Nat→St→Fi×St
 |0,st=>(⟨[],[]⟩,st)
 |n+1,st=>
  if Zh L Xy st=0 then(⟨[],[]⟩,st)
  else if Zh L Xy st=1 then
   (⟨(Zcw nk L n (st.tok L).line (st.tok L).col (Zz L Xy st)).1::(Ve n (Zcw nk L n (st.tok L).line (st.tok L).col (Zz L Xy st)).2).1.cards,
         (Ve n (Zcw nk L n (st.tok L).line (st.tok L).col (Zz L Xy st)).2).1.places⟩,
     (Ve n (Zcw nk L n (st.tok L).line (st.tok L).col (Zz L Xy st)).2).2)
  else
   (⟨(Ve n (Zao nk L n (st.tok L).line (st.tok L).col (Zz L Xy st)).2).1.cards,
         (Zao nk L n (st.tok L).line (st.tok L).col (Zz L Xy st)).1::(Ve n (Zao nk L n (st.tok L).line (st.tok L).col (Zz L Xy st)).2).1.places⟩,
     (Ve n (Zao nk L n (st.tok L).line (st.tok L).col (Zz L Xy st)).2).2)
end
theorem isT_k{v:TokV}{t:ByteArray}(h:isT v t=true):v.k≠0:=by
 unfold isT at h;intro c;rw[c]at h;simp at h
theorem idxW_k{v:TokV}:∀{ws:List ByteArray},Jl v ws≠0→v.k≠0
 |[],h=>absurd rfl h
 |t::r,h=>by
  unfold Jl at h;by_cases ht:isT v t=true
  ·exact isT_k ht
  ·rw[if_neg ht]at h
   by_cases hr:Jl v r=0
   ·rw[if_pos hr]at h;exact absurd rfl h
   ·exact idxW_k hr
theorem Zbw(v:TokV):∀ ws:List ByteArray,Jl v ws≤ws.length
 |[]=>Nat.le_refl _
 |t::r=>by
  have:=Zbw v r;unfold Jl;rw[List.length_cons];split
  ·omega
  ·split<;>omega
theorem curT_lt{L:List TokV}{a:Nat}(h:(Zv L a).k≠0):a<L.length:=by
 apply Nat.lt_of_not_le;intro c;unfold Zv at h;rw[List.getElem?_eq_none c]at h;exact h rfl
theorem onA_le(L:List TokV)(a:Nat):L.length - onA L a≤L.length - a:=by unfold onA;split<;>omega
theorem onA_lt{L:List TokV}{a:Nat}(h:(Zv L a).k≠0):L.length - onA L a+1≤L.length - a:=by
 have:=curT_lt h;unfold onA;rw[if_neg h];omega
section
variable (L:List TokV)
theorem Zke(F:Int×Nat×Nat)(st:St):Zu L (Ui F st)≤Zu L st:=by
 cases st with
 |ok a d=>
  by_cases h:F.1=0
  ·rw[show Ui F (.ok a d)=.ok a d from if_pos h];exact Nat.le_refl _
  ·rw[show Ui F (.ok a d)=.bad F from if_neg h];exact Nat.zero_le _
 |bad G=>exact Nat.le_refl _
theorem rem_wrong(st:St):Zu L (Zgf L st)≤Zu L st:=by cases st<;>exact Nat.zero_le _
theorem wantA_le(a:Nat)(t:ByteArray):L.length - Zav L a t≤L.length - a:=by
 unfold Zav;split
 ·exact onA_le L a
 ·exact Nat.le_refl _
theorem kindA_le(a:Nat)(k:Int):L.length - Vj L a k≤L.length - a:=by
 unfold Vj;split
 ·exact onA_le L a
 ·exact Nat.le_refl _
theorem signA_le(a:Nat):L.length - Zch L a≤L.length - a:=by
 unfold Zch;split
 ·split
  ·exact Nat.le_trans (onA_le L _) (onA_le L a)
  ·exact Nat.le_refl _
 ·exact kindA_le L a 2
theorem Zkd(t:ByteArray)(st:St):Zu L (Xw L t st)≤Zu L st:=by
 cases st with
 |ok a d=>exact wantA_le L a t
 |bad F=>exact Nat.le_refl _
theorem Zdl{t:ByteArray}{st:St}(h:isS L t st=true):Zu L (Xw L t st)+1≤Zu L st:=by
 cases st with
 |ok a d=>
  have h':isT (Zv L a) t=true:=h;show L.length - Zav L a t+1≤L.length - a;unfold Zav;rw[if_pos h'];exact onA_lt (isT_k h')
 |bad F=>cases h
theorem Xv(t:ByteArray)(st:St):Zu L (Zx L t st)≤Zu L st:=by
 unfold Zx;split
 ·exact Zkd L t st
 ·exact rem_wrong L st
theorem rem_wanted{t:ByteArray}{st:St}(h:isS L t st=true):Zu L (Zx L t st)+1≤Zu L st:=by
 unfold Zx;rw[if_pos h];exact Zdl L h
theorem Zff(st:St):Zu L (Js L st)≤Zu L st:=by
 cases st with
 |ok a d=>have h:=Zke L (Xz L a 2) (.ok (Vj L a 2) d);exact Nat.le_trans h (kindA_le L a 2)
 |bad F=>exact Nat.le_refl _
theorem Jq(st:St):Zu L (Wo L st)≤Zu L st:=by
 cases st with
 |ok a d=>have h:=Zke L (Xz L a 3) (.ok (Vj L a 3) d);exact Nat.le_trans h (kindA_le L a 3)
 |bad F=>exact Nat.le_refl _
theorem Zfs(st:St):Zu L (Uv L st)≤Zu L st:=by
 cases st with
 |ok a d=>have h:=Zke L (Zak L a) (.ok (Zch L a) d);exact Nat.le_trans h (signA_le L a)
 |bad F=>exact Nat.le_refl _
theorem Zck(ws:List ByteArray)(st:St):Zu L (Zz L ws st)≤Zu L st:=by
 cases st with
 |ok a d=>
  by_cases h:Jl (Zv L a) ws=0
  ·rw[show Zz L ws (.ok a d)=.ok a d from if_pos h];exact Nat.le_refl _
  ·rw[show Zz L ws (.ok a d)=.ok (onA L a) d from if_neg h];exact onA_le L a
 |bad F=>exact Nat.le_refl _
theorem Vc{ws:List ByteArray}{st:St}(h:¬ Zh L ws st=0):Zu L (Zz L ws st)+1≤Zu L st:=by
 cases st with
 |ok a d=>
  have h':¬ Jl (Zv L a) ws=0:=h;rw[show Zz L ws (.ok a d)=.ok (onA L a) d from if_neg h'];exact onA_lt (idxW_k h')
 |bad F=>exact absurd rfl h
theorem Uz{ws:List ByteArray}{st:St}(h:Zh L ws st=0):Zz L ws st=st:=by
 cases st with
 |ok a d=>
  have h':Jl (Zv L a) ws=0:=h;exact if_pos h'
 |bad F=>rfl
theorem Xo(ws:List ByteArray)(st:St):Zu L (Zm L ws st)≤Zu L st:=by
 unfold Zm;split
 ·exact rem_wrong L st
 ·exact Zck L ws st
theorem rem_deep(t:ByteArray)(st:St):Zu L (Zga L t st)≤Zu L st:=by
 cases st with
 |ok a d=>
  by_cases h:isT (Zv L a) t=true
  ·rw[show Zga L t (.ok a d)=Ui (Us L a d) (.ok a (Zbm d))from if_pos h];exact Zke L (Us L a d) (.ok a (Zbm d))
  ·rw[show Zga L t (.ok a d)=.ok a d from if_neg h];exact Nat.le_refl _
 |bad F=>exact Nat.le_refl _
theorem rem_up(st:St):Zu L (upS st)=Zu L st:=by cases st<;>rfl
theorem Zft(t:ByteArray)(st:St):Zu L (Vf L t st)≤Zu L st:=Nat.le_trans (Xv L t _) (rem_deep L t st)
theorem rem_rise(t:ByteArray)(st:St):Zu L (Zes L t st)≤Zu L st:=by unfold Zes;rw[rem_up];exact Xv L t st
theorem is_deep{t:ByteArray}{st:St}(h:isS L t st=true):(Zga L t st).good=true→isS L t (Zga L t st)=true:=by
 cases st with
 |ok a d=>
  have h':isT (Zv L a) t=true:=h;rw[show Zga L t (.ok a d)=Ui (Us L a d) (.ok a (Zbm d))from if_pos h'];by_cases hf:(Us L a d).1=0
  ·rw[show Ui (Us L a d) (.ok a (Zbm d))=.ok a (Zbm d)from if_pos hf];intro _;exact h'
  ·rw[show Ui (Us L a d) (.ok a (Zbm d))=.bad (Us L a d)from if_neg hf];intro c;cases c
 |bad F=>cases h
theorem Zgn{t:ByteArray}{st:St}(h:isS L t st=true):Zu L (Vf L t st)+1≤Zu L st:=by
 have h1:=is_deep L h;have h2:=rem_deep L t st;unfold Vf;cases hd:Zga L t st with
 |ok a d=>
  rw[hd]at h1 h2;have:=rem_wanted L (h1 rfl);omega
 |bad F=>
  have h3:1≤Zu L st:=by have:=Zdl L h;omega
  have:Zu L (Zx L t (.bad F))≤0:=Xv L t (.bad F);omega
variable (nk:Int)
theorem Zjj(k:Nat)(s:St):Zu L (Wt nk L k s).2≤Zu L s:=by
 unfold Wt;split
 ·exact Nat.le_trans (Zfs L _) (Xo L _ _)
 ·split
  ·exact Jq L s
  ·exact Xo L _ _
theorem Zme:∀(n:Nat)(st:St),Zu L (Yc nk L n st).2≤Zu L st
 |0,st=>Nat.le_refl _
 |n+1,st=>by
  unfold Yc;split
  ·exact Nat.le_refl _
  ·exact Nat.le_trans (Zme n _) (Nat.le_trans (Zjj L nk _ _) (Zck L _ _))
theorem rem_where(st:St):Zu L (Zau L st)≤Zu L st:=by
 unfold Zau;split
 ·exact Nat.le_trans (Zff L _) (Nat.le_trans (Xo L _ _) (Xo L _ _))
 ·exact Nat.le_trans (Xo L _ _) (Xo L _ _)
theorem Jd(n:Nat)(st:St):Zu L (Xp nk L n st).2≤Zu L st:=by
 unfold Xp;split
 ·exact Nat.le_trans (Xv L _ _) (Nat.le_trans (Xo L _ _) (Nat.le_trans (Zme L nk n _) (Nat.le_trans (rem_where L _) (Xo L _ _))))
 ·exact Xo L _ _
theorem Zfo(st:St):Zu L (toS L st)≤Zu L st:=by
 unfold toS;split
 ·exact Nat.le_trans (Zff L _) (Xo L _ _)
 ·exact Xo L _ _
theorem Zln:∀ n:Nat,(∀ st,Zu L (Yd nk L n st).2≤Zu L st)∧(∀ x,Zu L (Ud nk L n x).2≤Zu L x.2)∧(∀ st,Zu L (Wv nk L n st).2≤Zu L st) ∧
  (∀ x,Zu L (Ub nk L n x).2≤Zu L x.2)∧(∀ st,Zu L (Wd nk L n st).2≤Zu L st):=by
 intro n;induction n with
 |zero=>exact⟨fun _=>by simp[Yd],fun _=>by simp[Ud],fun _=>by simp[Wv],fun _=>by simp[Ub],fun _=>by simp[Wd]⟩
 |succ n ih=>
  obtain⟨h1,h2,h3,h4,h5⟩:=ih;refine⟨fun st=>?_,fun x=>?_,fun st=>?_,fun x=>?_,fun st=>?_⟩
  ·unfold Yd;exact Nat.le_trans (h2 _) (h3 _)
  ·unfold Ud
   split
   ·exact Nat.le_refl _
   ·exact Nat.le_trans (h2 _) (Nat.le_trans (h3 _) (Zck L _ _))
  ·unfold Wv;exact Nat.le_trans (h4 _) (h5 _)
  ·unfold Ub
   split
   ·exact Nat.le_trans (h4 _) (Nat.le_trans (h5 _) (Zkd L _ _))
   ·exact Nat.le_refl _
  ·unfold Wd
   split
   ·exact Nat.le_trans (rem_rise L _ _) (Nat.le_trans (h1 _) (Zft L _ _))
   ·split
    ·exact Zfs L _
    ·split
     ·exact Nat.le_trans (Jd L nk n _) (Zck L _ _)
     ·split
      ·exact Zck L _ _
      ·split
       ·exact Nat.le_trans (Xo L _ _) (Zck L _ _)
       ·exact Nat.le_trans (Zfo L _) (Nat.le_trans (Xo L _ _) (Zck L _ _))
theorem Zaz(n:Nat)(st:St):Zu L (Yd nk L n st).2≤Zu L st:=(Zln L nk n).1 st
theorem Zdm(n:Nat)(st:St):Zu L (Wv nk L n st).2≤Zu L st:=(Zln L nk n).2.2.1 st
theorem Zdn(n:Nat)(st:St):Zu L (Wd nk L n st).2≤Zu L st:=(Zln L nk n).2.2.2.2 st
theorem rem_plain(n:Nat)(h:AH)(k:Nat)(st:St):Zu L (We nk L n h k st).2≤Zu L st:=by
 unfold We;split
 ·exact Nat.le_trans (Zaz L nk n _) (Jd L nk n _)
 ·split
  ·exact Jd L nk n _
  ·split
   ·exact Nat.le_trans (Zfo L _) (Jd L nk n _)
   ·split
    ·exact Nat.le_trans (Zaz L nk n _) (Nat.le_trans (Zfo L _) (Nat.le_trans (Xo L _ _) (Jq L _)))
    ·split
     ·exact Nat.le_trans (Zaz L nk n _) (Xo L _ _)
     ·split
      ·exact Nat.le_trans (Xo L _ _) (Xo L _ _)
      ·split
       ·exact Nat.le_trans (Zfo L _) (Xo L _ _)
       ·exact Nat.le_refl _
theorem Zkf(n:Nat)(h:AH)(st:St):Zu L (Ul nk L n h st).2≤Zu L st:=
 Nat.le_trans (Zaz L nk n _) (Nat.le_trans (Xo L _ _) (Zaz L nk n _))
theorem Zlo:∀ n:Nat,(∀ st,Zu L (Wj nk L n st).2≤Zu L st)∧(∀ h k st,Zu L (Zaq nk L n h k st).st≤Zu L st)∧(∀ st,Zu L (Yp nk L n st).2≤Zu L st):=by
 intro n;induction n with
 |zero=>exact⟨fun _=>by simp[Wj],fun _ _ _=>by simp[Zaq],fun _=>by simp[Yp]⟩
 |succ n ih=>
  obtain⟨h1,h2,h3⟩:=ih;refine⟨fun st=>?_,fun h k st=>?_,fun st=>?_⟩
  ·unfold Wj
   split
   ·exact Nat.le_refl _
   ·exact Nat.le_trans (h1 _) (Nat.le_trans (h2 _ _ _) (Zck L _ _))
  ·unfold Zaq
   split
   ·split
    ·exact Nat.le_trans (h3 _) (Nat.le_trans (Zkd L _ _) (Nat.le_trans (h3 _) (Zkf L nk n h st)))
    ·exact Nat.le_trans (h3 _) (Zkf L nk n h st)
   ·split
    ·exact Nat.le_trans (h3 _) (Jd L nk n _)
    ·exact Nat.le_trans (Xv L _ _) (rem_plain L nk n h k st)
  ·unfold Yp
   exact Nat.le_trans (rem_rise L _ _) (Nat.le_trans (h1 _) (Zft L _ _))
theorem Zkg(n:Nat)(st:St):Zu L (Wj nk L n st).2≤Zu L st:=(Zlo L nk n).1 st
theorem rem_act(n:Nat)(h:AH)(k:Nat)(st:St):Zu L (Zaq nk L n h k st).st≤Zu L st:=(Zlo L nk n).2.1 h k st
theorem Zeh(n:Nat)(st:St):Zu L (Yp nk L n st).2≤Zu L st:=(Zlo L nk n).2.2 st
theorem Zmv(k:Nat)(s:St):Zu L (Zcd L k s)≤Zu L s:=by
 unfold Zcd;split
 ·exact Zff L s
 ·exact Nat.le_refl _
theorem Zii:∀(n:Nat)(st:St),Zu L (Wp nk L n st).2≤Zu L st
 |0,st=>Nat.le_refl _
 |n+1,st=>by
  unfold Wp;split
  ·exact Nat.le_refl _
  ·exact Nat.le_trans (Zii n _) (Nat.le_trans (Xv L _ _) (Nat.le_trans (Zkg L nk n _) (Nat.le_trans (Xv L _ _) (Nat.le_trans (Zmv L _ _) (Zck L _ _)))))
theorem rem_body(n:Nat)(st:St):Zu L (Zex nk L n st).2≤Zu L st:=Nat.le_trans (Xv L _ _) (Nat.le_trans (Zii L nk n _) (Xv L _ _))
theorem rem_card(n:Nat)(l c:Int)(st:St):Zu L (Zcw nk L n l c st).2≤Zu L st:=
 Nat.le_trans (rem_body L nk n _) (Nat.le_trans (Zfs L _) (Nat.le_trans (Xv L _ _) (Nat.le_trans (Zff L _) (Nat.le_trans (Xv L _ _) (Jq L _)))))
theorem rem_place(n:Nat)(l c:Int)(st:St):Zu L (Zao nk L n l c st).2≤Zu L st:=Nat.le_trans (rem_body L nk n _) (Jq L _)
end
def TokSim(pl:Bool)(u v:TokV):Prop:=u.k=v.k∧u.t=v.t∧u.n=v.n∧(pl=true→u.line=v.line∧u.col=v.col)
structure RowSim(pl:Bool)(L M:List TokV):Prop where
 len:L.length=M.length
 tok:∀ a,TokSim pl (Zv L a) (Zv M a)
def FltSim(pl:Bool)(F G:Int×Nat×Nat):Prop:=F.1=G.1∧(pl=true→F=G)
def StSim(pl:Bool):St→St→Prop
 |.ok a d,.ok b e=>a=b∧d=e
 |.bad F,.bad G=>FltSim pl F G
 |_,_=>False
theorem StSim.good{pl:Bool}:∀{s t:St},StSim pl s t→s.good=t.good
 |.ok _ _,.ok _ _,_=>rfl
 |.bad _,.bad _,_=>rfl
section
variable {pl:Bool} {L M:List TokV} (h:RowSim pl L M)
include h
end
theorem Uo{L:List TokV}{t:ByteArray}:∀{s:St},(Zx L t s).good=true→s.good=true
 |.ok a d,_=>rfl
 |.bad F,h=>h
theorem Zbb{L:List TokV}{ws:List ByteArray}:∀{s:St},(Zm L ws s).good=true→s.good=true
 |.ok a d,_=>rfl
 |.bad F,h=>h
theorem Znc:∀{s:St},(upS s).good=true→s.good=true
 |.ok a d,_=>rfl
 |.bad F,h=>h
theorem filters_stop0(nk:Int)(L:List TokV)(n:Nat)(F:Int×Nat×Nat):Yc nk L (n+1) (.bad F)=([],.bad F):=by rw[Yc];exact if_pos rfl
theorem Zku{nk:Int}{L:List TokV}:∀{n:Nat}{s:St},(Yc nk L n s).2.good=true→s.good=true
 |_,.ok a d,_=>rfl
 |0,.bad F,h=>h
 |n+1,.bad F,h=>by rw[filters_stop0 nk L n F]at h;exact h
section
variable {pl:Bool} {L M:List TokV} (h:RowSim pl L M) (a b:Int)
include h
end
section
variable {nk:Int} {L:List TokV}
theorem Zin:∀ n:Nat,(∀ F,(Yd nk L n (.bad F)).2=.bad F)∧(∀ e F,(Ud nk L n (e,.bad F)).2=.bad F)∧(∀ F,(Wv nk L n (.bad F)).2=.bad F)∧(∀ e F,(Ub nk L n (e,.bad F)).2=.bad F)∧(∀ F,(Wd nk L n (.bad F)).2=.bad F)
 |0=>⟨fun F=>rfl,fun e F=>rfl,fun F=>rfl,fun e F=>rfl,fun F=>rfl⟩
 |n+1=>by
  obtain⟨e1,e2,e3,e4,e5⟩:=Zin n;refine⟨fun F=>?_,fun e F=>?_,fun F=>?_,fun e F=>?_,fun F=>?_⟩
  ·rw[Yd]
   have:Wv nk L n (.bad F)=((Wv nk L n (.bad F)).1,.bad F):=Prod.ext rfl (e3 F);rw[this];exact e2 _ F
  ·rw[Ud]
   show(if(0:Nat)=0 then(e,St.bad F)else _).2=_;rw[if_pos rfl]
  ·rw[Wv]
   have:Wd nk L n (.bad F)=((Wd nk L n (.bad F)).1,.bad F):=Prod.ext rfl (e5 F);rw[this];exact e4 _ F
  ·rw[Ub]
   show(if false=true then _ else(e,St.bad F)).2=_;rw[if_neg Bool.false_ne_true]
  ·rw[Wd]
   have h1:¬ isS L Wn (.bad F)=true:=Bool.false_ne_true;have h2:Zh L Yz (.bad F)=0:=rfl;rw[if_neg h1,if_pos h2];rfl
theorem Zfy{n:Nat}:∀{s:St},(Yd nk L n s).2.good=true→s.good=true
 |.ok a d,_=>rfl
 |.bad F,h=>by rw[(Zin n).1 F]at h;exact h
theorem Znd:∀{s:St},(toS L s).good=true→s.good=true
 |.ok a d,_=>rfl
 |.bad F,h=>h
end
def AHSim(pl:Bool)(x y:AH):Prop:=x = { y with line:=x.line,col:=x.col }∧(pl=true→x.line=y.line∧x.col=y.col)
section
variable {pl:Bool} {L M:List TokV} (h:RowSim pl L M) (a b:Int)
include h
end
def Zbc(pl:Bool):Acs→Acs→Prop
 |.nil,.nil=>True
 |.cons h t e r,.cons h' t' e' r'=>AHSim pl h h'∧Zbc pl t t'∧Zbc pl e e'∧Zbc pl r r'
 |_,_=>False
theorem acts_bad{nk:Int}{L:List TokV}:∀(n:Nat)(F:Int×Nat×Nat),(Wj nk L n (.bad F)).2=.bad F
 |0,F=>rfl
 |n+1,F=>by
  have h2:Zh L Vk (.bad F)=0:=rfl;rw[Wj,if_pos h2]
theorem Zim{nk:Int}{L:List TokV}{n:Nat}:∀{s:St},(Wj nk L n s).2.good=true→s.good=true
 |.ok a d,_=>rfl
 |.bad F,h=>by rw[acts_bad n F]at h;exact h
theorem Zgs{nk:Int}{L:List TokV}:∀{n:Nat}{s:St},(Yp nk L n s).2.good=true→s.good=true
 |_,.ok a d,_=>rfl
 |0,.bad F,h=>h
 |n+1,.bad F,h=>by
  rw[Yp]at h;have h1:=Zim (Uo (Znc h));exact h1
theorem good_take{L:List TokV}{t:ByteArray}:∀{s:St},(Xw L t s).good=true→s.good=true
 |.ok a d,_=>rfl
 |.bad F,h=>h
section
variable {pl:Bool} {L M:List TokV} (h:RowSim pl L M) (a b:Int)
include h
end
def RuSim(pl:Bool)(x y:Ru):Prop:=x.when_=y.when_∧x.stratum=y.stratum∧(pl=true→x.line=y.line∧x.col=y.col)∧Zbc pl x.acts y.acts
def Zdh(pl:Bool):List Ru→List Ru→Prop
 |[],[]=>True
 |x::l,y::m=>RuSim pl x y∧Zdh pl l m
 |_,_=>False
def CaSim(pl:Bool)(x y:Ca):Prop:=x.name=y.name∧x.cost=y.cost∧x.power=y.power∧(pl=true→x.line=y.line∧x.col=y.col)∧Zdh pl x.rules y.rules
def PlSim(pl:Bool)(x y:Pl):Prop:=x.name=y.name∧(pl=true→x.line=y.line∧x.col=y.col)∧Zdh pl x.rules y.rules
def Zez(pl:Bool):List Ca→List Ca→Prop
 |[],[]=>True
 |x::l,y::m=>CaSim pl x y∧Zez pl l m
 |_,_=>False
def Zey(pl:Bool):List Pl→List Pl→Prop
 |[],[]=>True
 |x::l,y::m=>PlSim pl x y∧Zey pl l m
 |_,_=>False
def FiSim(pl:Bool)(x y:Fi):Prop:=Zez pl x.cards y.cards∧Zey pl x.places y.places
theorem Zjq{nk:Int}{L:List TokV}:∀{n:Nat}{s:St},(Wp nk L n s).2.good=true→s.good=true
 |_,.ok a d,_=>rfl
 |0,.bad F,h=>h
 |n+1,.bad F,h=>by
  have h2:Zh L Xg (.bad F)=0:=rfl;rw[Wp,if_pos h2]at h;exact h
theorem good_body{nk:Int}{L:List TokV}{n:Nat}{s:St}(h:(Zex nk L n s).2.good=true):s.good=true:=Uo (Zjq (Uo h))
theorem good_file{nk:Int}{L:List TokV}:∀{n:Nat}{s:St},(Ve nk L n s).2.good=true→s.good=true
 |_,.ok a d,_=>rfl
 |0,.bad F,h=>h
 |n+1,.bad F,h=>by
  have h2:Zh L Xy (.bad F)=0:=rfl;rw[Ve,if_pos h2]at h;exact h
section
variable {pl:Bool} {L M:List TokV} (h:RowSim pl L M) (a b:Int)
include h
end
structure PT where
 k:Int
 t:ByteArray
 n:Int
def PT.v(p:PT):TokV:=⟨p.k,p.t,p.n,0,0,0⟩
def Fit(v:TokV)(p:PT):Prop:=v.k=p.k∧v.t=p.t∧v.n=p.n
theorem n1:(1:Int)≠0:=by decide
theorem n4:(4:Int)≠0:=by decide
def wd(ws:List ByteArray)(k:Int):ByteArray:=ws[k.toNat - 1]?.getD ⟨#[]⟩
def pw(ws:List ByteArray)(k:Int):PT:=⟨1,wd ws k,0⟩
section
variable {L:List TokV}
end
def Zgz(s:ByteArray):Prop:=Zbt s=true∧(∀ x ∈ bL s,0≤x∧x<256∧x≠34)
def VFl(f:Fl):Prop:=
 ((f.kind=1∨f.kind=2)∧(1≤f.op∧f.op≤6)∧(-99≤f.n∧f.n≤99)∧f.name=⟨#[]⟩)∨(f.kind=3∧f.op=0∧f.n=0∧Zgz f.name) ∨
   ((f.kind=4∨f.kind=5)∧f.op=0∧f.n=0∧f.name=⟨#[]⟩)
def VSe(s:Se):Prop:=
 ((s.kind=1∨s.kind=2)∧s.side=0∧s.wh=0∧s.lane=0∧s.fs=[]∧s.pick=0) ∨
   (s.kind=3∧(1≤s.side∧s.side≤3)∧(1≤s.wh∧s.wh≤4)∧(0≤s.lane∧s.lane≤99)∧(s.wh≠3→s.lane=0)∧(∀ f ∈ s.fs,VFl f)∧(1≤s.pick∧s.pick≤5))
section
variable {L:List TokV} {nk:Int}
def VTo(k l:Int):Prop:=((1≤k∧k≤3)∧l=0)∨(k=4∧0≤l∧l≤99)
end
def Ex.isBin:Ex→Bool
 |.leaf .. =>false
 |.bin .. =>true
def Ex.isSum:Ex→Bool
 |.leaf .. =>false
 |.bin o _ _=>decide (o<3)
def Zcs(right:Bool)(op:Int)(x:Ex):Bool:=(decide (op=3) && x.isSum) || (right && x.isBin && (x.isSum || decide (op=3)))
theorem Zlt:∀{x:Ex},x.isSum=true→x.isBin=true
 |.leaf ..,h=>h
 |.bin ..,_=>rfl
theorem must_sum{op:Int}(h3:op≠3)(l r:Ex):Zcs false op l=false∧Zcs true op r=r.isSum:=by
 constructor
 ·unfold Zcs;simp[h3]
 ·unfold Zcs;simp[h3]
  exact Zlt
theorem must_times(l r:Ex):Zcs false 3 l=l.isSum∧Zcs true 3 r=r.isBin:=by
 constructor
 ·unfold Zcs;simp
 ·unfold Zcs;simp
  exact Zlt
def VLeaf(kind n:Int)(sel:Se)(side tk tl:Int):Prop:=
 (kind=1∧(-99≤n∧n≤99)∧sel=zSe∧side=0∧tk=0∧tl=0)∨((kind=2∨kind=3)∧n=0∧VSe sel∧side=0∧tk=0∧tl=0) ∨
   (kind=4∧n=0∧sel=zSe∧side=0∧tk=0∧tl=0)∨(kind=5∧n=0∧sel=zSe∧(1≤side∧side≤3)∧tk=0∧tl=0) ∨
   (kind=6∧n=0∧sel=zSe∧(1≤side∧side≤3)∧VTo tk tl)
def VEx:Ex→Prop
 |.leaf kind n sel side tk tl=>VLeaf kind n sel side tk tl
 |.bin op l r=>(1≤op∧op≤3)∧VEx l∧VEx r
def kD(b:Bool)(n:Nat):Nat:=if b=true then n+1 else n
def pD:Ex→Nat
 |.leaf .. =>0
 |.bin op l r=>max (kD (Zcs false op l) (pD l)) (kD (Zcs true op r) (pD r))
section
variable {L:List TokV} {nk:Int}
end
def Zjt(d:Nat)(h:AH):Prop:=
 ((h.kind=1∨h.kind=2∨h.kind=12)∧h = { AH.zero h.kind h.line h.col with sel:=h.sel,num:=h.num }∧VSe h.sel∧VEx h.num∧pD h.num+d≤8) ∨
 ((h.kind=3∨h.kind=5∨h.kind=14)∧h = { AH.zero h.kind h.line h.col with sel:=h.sel }∧VSe h.sel) ∨
 (h.kind=4∧h = { AH.zero h.kind h.line h.col with sel:=h.sel,tk:=h.tk,tl:=h.tl }∧VSe h.sel∧VTo h.tk h.tl) ∨
 (h.kind=6∧h = { AH.zero h.kind h.line h.col with name:=h.name,side:=h.side,tk:=h.tk,tl:=h.tl,num:=h.num }∧Zgz h.name∧(1≤h.side∧h.side≤3)∧VTo h.tk h.tl∧VEx h.num∧pD h.num+d≤8) ∨
 ((h.kind=7∨h.kind=9)∧h = { AH.zero h.kind h.line h.col with side:=h.side,num:=h.num }∧(1≤h.side∧h.side≤3)∧VEx h.num∧pD h.num+d≤8) ∨
 (h.kind=8∧h = { AH.zero h.kind h.line h.col with side:=h.side,how:=h.how }∧(1≤h.side∧h.side≤3)∧(1≤h.how∧h.how≤4)) ∨
 ((h.kind=13∨h.kind=15)∧h = { AH.zero h.kind h.line h.col with side:=h.side,tk:=h.tk,tl:=h.tl }∧(1≤h.side∧h.side≤3)∧VTo h.tk h.tl)
def VCond(d:Nat)(h:AH):Prop:=h = { AH.zero 10 h.line h.col with cop:=h.cop,cl:=h.cl,cr:=h.cr }∧(1≤h.cop∧h.cop≤6)∧(VEx h.cl∧pD h.cl+d≤8)∧(VEx h.cr∧pD h.cr+d≤8)
def VEach(h:AH):Prop:=h = { AH.zero 11 h.line h.col with sel:=h.sel }∧VSe h.sel
def Zhz:Nat→Acs→Prop
 |_,.nil=>True
 |d,.cons h t e r=>((d<8∧VCond d h∧Zhz (d+1) t∧Zhz (d+1) e)∨(d<8∧VEach h∧Zhz (d+1) t∧e=.nil)∨(Zjt d h∧t=.nil∧e=.nil))∧Zhz d r
def Acs.isNil:Acs→Bool
 |.nil=>true
 |.cons .. =>false
theorem VCond.kind{d:Nat}{h:AH}(v:VCond d h):h.kind=10:=(congrArg AH.kind v.1 :)
theorem VEach.kind{h:AH}(v:VEach h):h.kind=11:=(congrArg AH.kind v.1 :)
theorem Zjt.kind{d:Nat}{h:AH}(v:Zjt d h):1≤h.kind∧h.kind≤15∧h.kind≠10∧h.kind≠11:=by
 rcases v with⟨k,_⟩ | ⟨k,_⟩ | ⟨k,_⟩ | ⟨k,_⟩ | ⟨k,_⟩ | ⟨k,_⟩ | ⟨k,_⟩<;>omega
section
variable {L:List TokV} {nk:Int}
theorem AHSim.any(h:AH)(l c:Int):AHSim false h { h with line:=l,col:=c }:=⟨rfl,fun hh=>by cases hh⟩
theorem Zbc.isNil{pl:Bool}{x y:Acs}(h:Zbc pl x y):x.isNil=y.isNil:=by
 cases x with
 |nil=>cases y with
  |nil=>rfl
  |cons h' t' e' r'=>exact h.elim
 |cons h' t' e' r'=>cases y with
  |nil=>exact h.elim
  |cons h' t' e' r'=>rfl
end
def VRu(r:Ru):Prop:=(1≤r.when_∧r.when_≤6)∧(0≤r.stratum∧r.stratum≤99)∧(r.when_≠5→r.stratum=0)∧Zhz 0 r.acts
def VCa(c:Ca):Prop:=Zgz c.name∧(0≤c.cost∧c.cost≤99)∧(-99≤c.power∧c.power≤99)∧∀ r ∈ c.rules,VRu r
def VPl(p:Pl):Prop:=Zgz p.name∧∀ r ∈ p.rules,VRu r
def VFi(f:Fi):Prop:=(∀ c ∈ f.cards,VCa c)∧∀ p ∈ f.places,VPl p
section
variable {L:List TokV} {nk:Int}
end
structure Vm(L:List TokV):Prop where
 int:∀ a,(Zv L a).k=2→0≤(Zv L a).n∧(Zv L a).n≤99
 name:∀ a,(Zv L a).k=3→Zgz (Zv L a).t
def AtD(d:Nat)(st:St):Prop:=∃ a,st=.ok a d
theorem Zik{F:Int×Nat×Nat}{a d:Nat}(h:(Ui F (.ok a d)).good=true):F.1=0∧Ui F (.ok a d)=.ok a d:=by
 have e:Ui F (.ok a d)=if F.1=0 then .ok a d else .bad F:=rfl
 rw[e]at h ⊢;by_cases h0:F.1=0
 ·rw[if_pos h0];exact⟨h0,rfl⟩
 ·rw[if_neg h0]at h;cases h
section
variable {L:List TokV} {nk:Int}
theorem Zaf{ws:List ByteArray}{st:St}{d:Nat}(h:(Zm L ws st).good=true)(ha:AtD d st):AtD d (Zm L ws st)∧1≤(Zh L ws st:Int)∧(Zh L ws st:Int)≤ws.length:=by
 obtain⟨a,rfl⟩:=ha;unfold Zm at h ⊢;by_cases h0:Zh L ws (.ok a d)=0
 ·rw[if_pos h0]at h;cases h
 ·rw[if_neg h0]
  have h0':¬ Jl (Zv L a) ws=0:=h0;have hle:=Zbw (Zv L a) ws;refine⟨⟨onA L a,?_⟩,?_,?_⟩
  ·show(if Jl (Zv L a) ws=0 then St.ok a d else .ok (onA L a) d)=_
   rw[if_neg h0']
  ·have:Zh L ws (.ok a d)=Jl (Zv L a) ws:=rfl
   omega
  ·have:Zh L ws (.ok a d)=Jl (Zv L a) ws:=rfl
   omega
theorem Zcp{ws:List ByteArray}{st:St}{d:Nat}(ha:AtD d st):AtD d (Zz L ws st):=by
 obtain⟨a,rfl⟩:=ha;show AtD d (if Jl (Zv L a) ws=0 then St.ok a d else .ok (onA L a) d);split
 ·exact⟨_,rfl⟩
 ·exact⟨_,rfl⟩
theorem take_at{t:ByteArray}{st:St}{d:Nat}(ha:AtD d st):AtD d (Xw L t st):=by
 obtain⟨a,rfl⟩:=ha;exact⟨_,rfl⟩
theorem Zdi{t:ByteArray}{st:St}{d:Nat}(h:(Zx L t st).good=true)(ha:AtD d st):AtD d (Zx L t st):=by
 unfold Zx at h ⊢;split at h
 ·rename_i h0;rw[if_pos h0];exact take_at ha
 ·obtain⟨a,rfl⟩:=ha;cases h
theorem int_at(hR:Vm L){st:St}{d:Nat}(h:(Js L st).good=true)(ha:AtD d st):AtD d (Js L st)∧0≤Zct L st∧Zct L st≤99:=by
 obtain⟨a,rfl⟩:=ha;obtain⟨h0,e⟩:=Zik h
 have hk:(Zv L a).k=2:=by
  unfold Xz at h0;split at h0
  ·assumption
  ·exact absurd h0 (Zfn _)
 refine⟨⟨_,e⟩,?_⟩;have e2:Zct L (.ok a d)=(Zv L a).n:=by show Zhf L a=_;unfold Zhf;rw[if_pos hk]
 rw[e2];exact hR.int a hk
theorem Zmy(hR:Vm L){st:St}{d:Nat}(h:(Wo L st).good=true)(ha:AtD d st):AtD d (Wo L st)∧Zgz (Zbl L st):=by
 obtain⟨a,rfl⟩:=ha;obtain⟨h0,e⟩:=Zik h
 have hk:(Zv L a).k=3:=by
  unfold Xz at h0;split at h0
  ·assumption
  ·exact absurd h0 (Zfn _)
 refine⟨⟨_,e⟩,?_⟩;have e2:Zbl L (.ok a d)=(Zv L a).t:=by show Ziz L a=_;unfold Ziz;rw[if_pos hk]
 rw[e2];exact hR.name a hk
theorem sign_at(hR:Vm L){st:St}{d:Nat}(h:(Uv L st).good=true)(ha:AtD d st):AtD d (Uv L st) ∧ -99≤Jv L st∧Jv L st≤99:=by
 obtain⟨a,rfl⟩:=ha;obtain⟨h0,e⟩:=Zik h;refine⟨⟨_,e⟩,?_⟩;show -99≤Zhc L a∧Zhc L a≤99;unfold Zak Xz at h0;unfold Zhc Zhf;by_cases hm:isT (Zv L a) Zko=true
 ·rw[if_pos hm]at h0 ⊢
  by_cases hk:(Zv L (onA L a)).k=2
  ·rw[if_pos hk];have:=hR.int _ hk;omega
  ·rw[if_neg hk];omega
 ·rw[if_neg hm]at h0 ⊢
  by_cases hk:(Zv L a).k=2
  ·rw[if_pos hk];have:=hR.int _ hk;omega
  ·rw[if_neg hk];omega
theorem down_at{t:ByteArray}{st:St}{d:Nat}(h:(Vf L t st).good=true)(ha:AtD d st):AtD (d+1) (Vf L t st)∧d≠8:=by
 obtain⟨a,rfl⟩:=ha;unfold Vf at h ⊢;have hg:=Uo h;have hd:Zga L t (.ok a d)=if isT (Zv L a) t=true then Ui (Us L a d) (.ok a (Zbm d))else .ok a d:=rfl
 rw[hd]at h hg ⊢;by_cases ht:isT (Zv L a) t=true
 ·rw[if_pos ht]at h hg ⊢
  obtain⟨h0,e⟩:=Zik hg
  have h8:d≠8:=by
   intro h8;unfold Us at h0;rw[if_pos h8]at h0;exact absurd h0 (by simp)
  rw[e]at h ⊢;have e1:Zbm d=d+1:=by unfold Zbm;rw[if_neg h8]
  rw[e1]at h ⊢;exact⟨Zdi h ⟨_,rfl⟩,h8⟩
 ·rw[if_neg ht]at h
  unfold Zx at h;have:¬ isS L t (.ok a d)=true:=ht;rw[if_neg this]at h;cases h
theorem rise_at{t:ByteArray}{st:St}{d:Nat}(h:(Zes L t st).good=true)(ha:AtD (d+1) st):AtD d (Zes L t st):=by
 unfold Zes at h ⊢;obtain⟨b,e⟩:=Zdi (Znc h) ha;rw[e];exact⟨b,rfl⟩
theorem good_sign:∀{s:St},(Uv L s).good=true→s.good=true
 |.ok a d,_=>rfl
 |.bad F,h=>h
theorem Zkt:∀{s:St},(Js L s).good=true→s.good=true
 |.ok a d,_=>rfl
 |.bad F,h=>h
theorem filter_val(hR:Vm L){k:Nat}(hk:1≤k∧k≤4){st:St}{d:Nat}(h:(Wt nk L k st).2.good=true)(ha:AtD d st):AtD d (Wt nk L k st).2∧VFl (Wt nk L k st).1:=by
 unfold Wt at h ⊢;by_cases h12:k=1∨k=2
 ·rw[if_pos h12]at h ⊢
  have h':(Uv L (Zm L wOp st)).good=true:=h;obtain⟨a1,f1,f2⟩:=Zaf (good_sign h') ha;obtain⟨a2,f3,f4⟩:=sign_at hR h' a1;exact⟨a2,.inl ⟨(by show(k:Int)=1∨(k:Int)=2;omega),⟨f1,f2⟩,⟨f3,f4⟩,rfl⟩⟩
 ·rw[if_neg h12]at h ⊢
  by_cases h3:k=3
  ·rw[if_pos h3]at h ⊢
   obtain⟨a1,f1⟩:=Zmy hR h ha;exact⟨a1,.inr (.inl ⟨rfl,rfl,rfl,f1⟩)⟩
  ·rw[if_neg h3]at h ⊢
   have h':(Zm L Vh st).good=true:=h;obtain⟨a1,f1,f2⟩:=Zaf h' ha;have f2':(Zh L Vh st:Int)≤2:=f2;refine⟨a1,.inr (.inr ⟨?_,rfl,rfl,rfl⟩)⟩;dsimp only;rw[if_neg (by omega)];omega
theorem Zmj(hR:Vm L):∀(n:Nat)(st:St)(d:Nat),(Yc nk L n st).2.good=true→AtD d st→AtD d (Yc nk L n st).2∧∀ f ∈ (Yc nk L n st).1,VFl f
 |0,st,d,h,ha=>⟨ha,fun f hf=>by cases hf⟩
 |n+1,st,d,h,ha=>by
  rw[Yc]at h ⊢;by_cases h0:Zh L Yh st=0
  ·rw[if_pos h0];exact⟨ha,fun f hf=>by cases hf⟩
  ·rw[if_neg h0]at h ⊢
   dsimp only at h ⊢;have hle:Zh L Yh st≤4:=by obtain⟨a,rfl⟩:=ha;exact Zbw (Zv L a) Yh
   have hg:=Zku h;obtain⟨a1,v1⟩:=filter_val hR ⟨by omega,hle⟩ hg (Zcp ha);obtain⟨a2,v2⟩:=Zmj hR n _ d h a1;refine⟨a2,fun f hf=>?_⟩;rcases List.mem_cons.1 hf with rfl | hf
   ·exact v1
   ·exact v2 f hf
theorem where_val(hR:Vm L){st:St}{d:Nat}(h:(Zau L st).good=true)(ha:AtD d st) :
  AtD d (Zau L st)∧(1≤(Ug L st).1∧(Ug L st).1≤3)∧(1≤(Ug L st).2.1∧(Ug L st).2.1≤4)∧(0≤(Ug L st).2.2∧(Ug L st).2.2≤99)∧((Ug L st).2.1≠3→(Ug L st).2.2=0):=by
 unfold Zau at h ⊢;unfold Ug;dsimp only;by_cases h3:Zh L Ye (Zm L Zp st)=3
 ·rw[if_pos h3]at h ⊢
  have g1:=Zkt h;obtain⟨a1,f1⟩:=Zaf (Zbb g1) ha;obtain⟨a2,f2⟩:=Zaf g1 a1;obtain⟨a3,f3⟩:=int_at hR h a2;rw[if_pos h3];exact⟨a3,f1,f2,f3,fun hh=>by omega⟩
 ·rw[if_neg h3]at h ⊢
  obtain⟨a1,f1⟩:=Zaf (Zbb h) ha;obtain⟨a2,f2⟩:=Zaf h a1;rw[if_neg h3];exact⟨a2,f1,f2,by omega,fun _=>rfl⟩
theorem Zkc(hR:Vm L){n:Nat}{st:St}{d:Nat}(h:(Xp nk L n st).2.good=true)(ha:AtD d st):AtD d (Xp nk L n st).2∧VSe (Xp nk L n st).1:=by
 unfold Xp at h ⊢;by_cases h3:Zh L Ym st=3
 ·rw[if_pos h3]at h ⊢
  dsimp only at h ⊢;have g1:=Uo h;have g2:=Zku (Zbb g1)
  have g3:(Zm L Ym st).good=true:=by
   unfold Zau at g2;split at g2
   ·exact Zbb (Zbb (Zkt g2))
   ·exact Zbb (Zbb g2)
  obtain⟨a1,_⟩:=Zaf g3 ha;obtain⟨a2,f2,f3,f4,f5⟩:=where_val hR g2 a1;obtain⟨a3,f6⟩:=Zmj hR n _ d (Zbb g1) a2;obtain⟨a4,f7⟩:=Zaf g1 a3;exact⟨Zdi h a4,.inr ⟨rfl,f2,f3,f4,f5,f6,f7⟩⟩
 ·rw[if_neg h3]at h ⊢
  obtain⟨a1,f1,f2⟩:=Zaf h ha;have f2':(Zh L Ym st:Int)≤3:=f2;refine⟨a1,.inl ⟨?_,rfl,rfl,rfl,rfl,rfl⟩⟩;dsimp only;omega
theorem to_val(hR:Vm L){st:St}{d:Nat}(h:(toS L st).good=true)(ha:AtD d st):AtD d (toS L st)∧VTo (toK L st) (toL L st):=by
 unfold toS at h ⊢;unfold toK toL;by_cases h4:Zh L wTo st=4
 ·rw[if_pos h4]at h ⊢
  obtain⟨a1,_⟩:=Zaf (Zkt h) ha;obtain⟨a2,f⟩:=int_at hR h a1;rw[if_pos h4];exact⟨a2,.inr ⟨by omega,f⟩⟩
 ·rw[if_neg h4]at h ⊢
  obtain⟨a1,f1,f2⟩:=Zaf h ha;have f2':(Zh L wTo st:Int)≤4:=f2;rw[if_neg h4];exact⟨a1,.inl ⟨by omega,rfl⟩⟩
def GE(d:Nat)(x:Ex):Prop:=VEx x∧pD x+d≤8
def GP(d:Nat)(x:Ex):Prop:=VEx x∧pD x+d≤8∧(x.isSum=true→pD x+1+d≤8)
def GF(d:Nat)(x:Ex):Prop:=VEx x∧pD x+d≤8∧(x.isBin=true→pD x+1+d≤8)
theorem GF.gp{d:Nat}{x:Ex}(h:GF d x):GP d x:=⟨h.1,h.2.1,fun hs=>h.2.2 (Zlt hs)⟩
theorem GP.ge{d:Nat}{x:Ex}(h:GP d x):GE d x:=⟨h.1,h.2.1⟩
theorem kd_bd{b:Bool}{n d:Nat}(h:n+d≤8)(h2:b=true→n+1+d≤8):kD b n+d≤8:=by
 unfold kD;split
 ·rename_i hb;have:=h2 hb;omega
 ·exact h
theorem ge_bin{d:Nat}{op:Int}{l r:Ex}(ho:1≤op∧op≤2)(hl:GE d l)(hr:GP d r):GE d (.bin op l r):=by
 obtain⟨m1,m2⟩:=must_sum (show op≠3 from by omega) l r;refine⟨⟨⟨ho.1,by omega⟩,hl.1,hr.1⟩,?_⟩;rw[pD,m1,m2];have:=kd_bd (b:=r.isSum) hr.2.1 hr.2.2;have h1:kD false (pD l)=pD l:=rfl;have:=hl.2;omega
theorem gp_bin{d:Nat}{l r:Ex}(hl:GP d l)(hr:GF d r):GP d (.bin 3 l r):=by
 obtain⟨m1,m2⟩:=must_times l r;refine⟨⟨by decide,hl.1,hr.1⟩,?_,fun h=>by cases h⟩;rw[pD,m1,m2];have:=kd_bd (b:=l.isSum) hl.2.1 hl.2.2;have:=kd_bd (b:=r.isBin) hr.2.1 hr.2.2;omega
theorem good_prodL{n:Nat}:∀{x:Ex×St},(Ub nk L n x).2.good=true→x.2.good=true
 |(e,.ok a d),_=>rfl
 |(e,.bad F),h=>by rw[(Zin n).2.2.2.1 e F]at h;exact h
theorem good_exprL{n:Nat}:∀{x:Ex×St},(Ud nk L n x).2.good=true→x.2.good=true
 |(e,.ok a d),_=>rfl
 |(e,.bad F),h=>by rw[(Zin n).2.1 e F]at h;exact h
theorem exprs_val(hR:Vm L):∀ n:Nat,
  (∀ st d,4*Zu L st+3≤n→d≤8→(Yd nk L n st).2.good=true→AtD d st→AtD d (Yd nk L n st).2∧GE d (Yd nk L n st).1) ∧
  (∀ x d,4*Zu L x.2≤n→d≤8→(Ud nk L n x).2.good=true→AtD d x.2→GE d x.1→AtD d (Ud nk L n x).2∧GE d (Ud nk L n x).1) ∧
  (∀ st d,4*Zu L st+2≤n→d≤8→(Wv nk L n st).2.good=true→AtD d st→AtD d (Wv nk L n st).2∧GP d (Wv nk L n st).1) ∧
  (∀ x d,4*Zu L x.2≤n→d≤8→(Ub nk L n x).2.good=true→AtD d x.2→GP d x.1→AtD d (Ub nk L n x).2∧GP d (Ub nk L n x).1) ∧
  (∀ st d,4*Zu L st+1≤n→d≤8→(Wd nk L n st).2.good=true→AtD d st→AtD d (Wd nk L n st).2∧GF d (Wd nk L n st).1)
 |0=>by
  refine⟨fun st d h=>by omega,fun x d _ _ _ ha hg=>⟨ha,hg⟩,fun st d h=>by omega,fun x d _ _ _ ha hg=>⟨ha,hg⟩,fun st d h=>by omega⟩
 |n+1=>by
  obtain⟨i1,i2,i3,i4,i5⟩:=exprs_val hR n;refine⟨fun st d hn hd h ha=>?_,fun x d hn hd h ha hg=>?_,fun st d hn hd h ha=>?_,fun x d hn hd h ha hg=>?_,fun st d hn hd h ha=>?_⟩
  ·rw[Yd]at h ⊢
   have r1:=Zdm L nk n st;obtain⟨a1,g1⟩:=i3 st d (by omega) hd (good_exprL h) ha;exact i2 _ d (by omega) hd h a1 g1.ge
  ·rw[Ud]at h ⊢
   by_cases h0:Zh L Ja x.2=0
   ·rw[if_pos h0];exact⟨ha,hg⟩
   ·rw[if_neg h0]at h ⊢
    have r1:=Vc L h0;have r2:=Zdm L nk n (Zz L Ja x.2);have hp:=good_exprL h;obtain⟨a1,g1⟩:=i3 _ d (by omega) hd hp (Zcp ha);have hle:Zh L Ja x.2≤2:=by obtain⟨a,e⟩:=ha;rw[e];exact Zbw (Zv L a) Ja
    exact i2 _ d (by dsimp only;omega) hd h a1 (ge_bin ⟨by omega,by omega⟩ hg g1)
  ·rw[Wv]at h ⊢
   have r1:=Zdn L nk n st;obtain⟨a1,g1⟩:=i5 st d (by omega) hd (good_prodL h) ha;exact i4 _ d (by omega) hd h a1 g1.gp
  ·rw[Ub]at h ⊢
   by_cases h0:isS L Wl x.2=true
   ·rw[if_pos h0]at h ⊢
    have r1:=Zdl L h0;have r2:=Zdn L nk n (Xw L Wl x.2);have hp:=good_prodL h;obtain⟨a1,g1⟩:=i5 _ d (by omega) hd hp (take_at ha);exact i4 _ d (by dsimp only;omega) hd h a1 (gp_bin hg g1)
   ·rw[if_neg h0];exact⟨ha,hg⟩
  ·rw[Wd]at h ⊢
   have leaf0:∀{kind n':Int}{sel:Se}{side tk tl:Int},VLeaf kind n' sel side tk tl→GF d (.leaf kind n' sel side tk tl):=fun hv=>⟨hv,by rw[pD];omega,fun hh=>by cases hh⟩
   by_cases ho:isS L Wn st=true
   ·rw[if_pos ho]at h ⊢
    dsimp only at h ⊢;have r1:=Zgn L ho;have g0:=Uo (Znc h);obtain⟨a1,h8⟩:=down_at (Zfy g0) ha;obtain⟨a2,g1⟩:=i1 _ (d+1) (by omega) (by omega) g0 a1;exact⟨rise_at h a2,g1.1,by have:=g1.2;omega,fun _=>by have:=g1.2;omega⟩
   ·rw[if_neg ho]at h ⊢
    by_cases h0:Zh L Yz st=0
    ·rw[if_pos h0]at h ⊢
     obtain⟨a1,f1⟩:=sign_at hR h ha;exact⟨a1,leaf0 (.inl ⟨rfl,f1,rfl,rfl,rfl,rfl⟩)⟩
    ·rw[if_neg h0]at h ⊢
     have hle:Zh L Yz st≤5:=by obtain⟨a,e⟩:=ha;rw[e];exact Zbw (Zv L a) Yz
     by_cases h12:Zh L Yz st=1∨Zh L Yz st=2
     ·rw[if_pos h12]at h ⊢
      obtain⟨a1,f1⟩:=Zkc hR h (Zcp ha);exact⟨a1,leaf0 (.inr (.inl ⟨by omega,rfl,f1,rfl,rfl,rfl⟩))⟩
     ·rw[if_neg h12]at h ⊢
      by_cases h3:Zh L Yz st=3
      ·rw[if_pos h3];exact⟨Zcp ha,leaf0 (.inr (.inr (.inl ⟨rfl,rfl,rfl,rfl,rfl,rfl⟩)))⟩
      · rw[if_neg h3]at h ⊢
        by_cases h4:Zh L Yz st=4
        ·rw[if_pos h4]at h ⊢
         obtain⟨a1,f1⟩:=Zaf h (Zcp ha);exact⟨a1,leaf0 (.inr (.inr (.inr (.inl ⟨rfl,rfl,rfl,f1,rfl,rfl⟩))))⟩
        ·rw[if_neg h4]at h ⊢
         obtain⟨a1,f1⟩:=Zaf (Znd h) (Zcp ha);obtain⟨a2,f2⟩:=to_val hR h a1;exact⟨a2,leaf0 (.inr (.inr (.inr (.inr ⟨rfl,rfl,rfl,f1,f2⟩))))⟩
theorem Zhv(hR:Vm L){n:Nat}{st:St}{d:Nat}(hn:4*Zu L st+3≤n)(hd:d≤8)(h:(Yd nk L n st).2.good=true)(ha:AtD d st):AtD d (Yd nk L n st).2∧VEx (Yd nk L n st).1∧pD (Yd nk L n st).1+d≤8:=
 (exprs_val hR n).1 st d hn hd h ha
theorem plain_val(hR:Vm L){n k:Nat}{l c:Int}{st:St}{d:Nat}(hk:1≤k∧k≤15∧k≠10∧k≠11)(hn:4*Zu L st+3≤n)(hd:d≤8)(h:(We nk L n (AH.zero k l c) k st).2.good=true)(ha:AtD d st) :
  AtD d (We nk L n (AH.zero k l c) k st).2∧Zjt d (We nk L n (AH.zero k l c) k st).1:=by
 unfold We at h ⊢;unfold Zjt;by_cases c1:k=1∨k=2∨k=12
 ·rw[if_pos c1]at h ⊢
  dsimp only at h ⊢;have r:=Jd L nk n st;obtain⟨a1,f1⟩:=Zkc hR (Zfy h) ha;obtain⟨a2,f2⟩:=Zhv hR (by omega) hd h a1;exact⟨a2,.inl ⟨by show((k:Int)=1∨(k:Int)=2∨(k:Int)=12);omega,rfl,f1,f2⟩⟩
 ·rw[if_neg c1]at h ⊢
  by_cases c2:k=3∨k=5∨k=14
  ·rw[if_pos c2]at h ⊢
   dsimp only at h ⊢;obtain⟨a1,f1⟩:=Zkc hR h ha;exact⟨a1,.inr (.inl ⟨by show((k:Int)=3∨(k:Int)=5∨(k:Int)=14);omega,rfl,f1⟩)⟩
  ·rw[if_neg c2]at h ⊢
   by_cases c3:k=4
   ·rw[if_pos c3]at h ⊢
    dsimp only at h ⊢;obtain⟨a1,f1⟩:=Zkc hR (Znd h) ha;obtain⟨a2,f2⟩:=to_val hR h a1;exact⟨a2,.inr (.inr (.inl ⟨by show(k:Int)=4;omega,rfl,f1,f2⟩))⟩
   ·rw[if_neg c3]at h ⊢
    by_cases c4:k=6
    ·rw[if_pos c4]at h ⊢
     dsimp only at h ⊢;have g1:=Zfy h;have g2:=Znd g1;have r1:=Zfo L (Zm L Zp (Wo L st));have r2:=Xo L Zp (Wo L st);have r3:=Jq L st;obtain⟨a1,f1⟩:=Zmy hR (Zbb g2) ha;obtain⟨a2,f2⟩:=Zaf g2 a1;obtain⟨a3,f3⟩:=to_val hR g1 a2;obtain⟨a4,f4⟩:=Zhv hR (by omega) hd h a3;exact⟨a4,.inr (.inr (.inr (.inl ⟨by show(k:Int)=6;omega,rfl,f1,f2,f3,f4⟩)))⟩
    ·rw[if_neg c4]at h ⊢
     by_cases c5:k=7∨k=9
     ·rw[if_pos c5]at h ⊢
      dsimp only at h ⊢;have r2:=Xo L Zp st;obtain⟨a2,f2⟩:=Zaf (Zfy h) ha;obtain⟨a4,f4⟩:=Zhv hR (by omega) hd h a2;exact⟨a4,.inr (.inr (.inr (.inr (.inl ⟨by show((k:Int)=7∨(k:Int)=9);omega,rfl,f2,f4⟩))))⟩
     ·rw[if_neg c5]at h ⊢
      by_cases c6:k=8
      ·rw[if_pos c6]at h ⊢
       dsimp only at h ⊢;obtain⟨a2,f2⟩:=Zaf (Zbb h) ha;obtain⟨a3,f3⟩:=Zaf h a2;exact⟨a3,.inr (.inr (.inr (.inr (.inr (.inl ⟨by show(k:Int)=8;omega,rfl,f2,f3⟩)))))⟩
      ·rw[if_neg c6]at h ⊢
       have c7:k=13∨k=15:=by omega
       rw[if_pos c7]at h ⊢;dsimp only at h ⊢;obtain⟨a2,f2⟩:=Zaf (Znd h) ha;obtain⟨a3,f3⟩:=to_val hR h a2;exact⟨a3,.inr (.inr (.inr (.inr (.inr (.inr ⟨by show((k:Int)=13∨(k:Int)=15);omega,rfl,f2,f3⟩)))))⟩
theorem cond_val(hR:Vm L){n:Nat}{l c:Int}{st:St}{d:Nat}(hn:4*Zu L st+3≤n)(hd:d≤8)(h:(Ul nk L n (AH.zero 10 l c) st).2.good=true)(ha:AtD d st) :
  AtD d (Ul nk L n (AH.zero 10 l c) st).2∧VCond d (Ul nk L n (AH.zero 10 l c) st).1:=by
 unfold Ul at h ⊢;dsimp only at h ⊢;have r1:=Zaz L nk n st;have r2:=Xo L wOp (Yd nk L n st).2;have g1:=Zfy h;obtain⟨a1,f1⟩:=Zhv hR hn hd (Zbb g1) ha;obtain⟨a2,f2⟩:=Zaf g1 a1;obtain⟨a3,f3⟩:=Zhv hR (by omega) hd h a2;exact⟨a3,rfl,f2,f1,f3⟩
def VAO(d:Nat)(x:AO):Prop:=(d<8∧VCond d x.h∧Zhz (d+1) x.thn∧Zhz (d+1) x.els)∨(d<8∧VEach x.h∧Zhz (d+1) x.thn∧x.els=.nil)∨(Zjt d x.h∧x.thn=.nil∧x.els=.nil)
theorem acts_val(hR:Vm L):∀ n:Nat,
  (∀ st d,4*Zu L st+1≤n→d≤8→(Wj nk L n st).2.good=true→AtD d st→AtD d (Wj nk L n st).2∧Zhz d (Wj nk L n st).1) ∧
  (∀(k:Nat)(l c:Int) st d,1≤k∧k≤15→4*Zu L st+4≤n→d≤8→(Zaq nk L n (AH.zero k l c) k st).st.good=true→AtD d st →
    AtD d (Zaq nk L n (AH.zero k l c) k st).st∧VAO d (Zaq nk L n (AH.zero k l c) k st)) ∧
  (∀ st d,4*Zu L st+3≤n→d≤8→(Yp nk L n st).2.good=true→AtD d st→AtD d (Yp nk L n st).2∧Zhz (d+1) (Yp nk L n st).1∧d<8)
 |0=>⟨fun st d h=>by omega,fun k l c st d _ h=>by omega,fun st d h=>by omega⟩
 |n+1=>by
  obtain⟨i1,i2,i3⟩:=acts_val hR n;refine⟨fun st d hn hd h ha=>?_,fun k l c st d hk hn hd h ha=>?_,fun st d hn hd h ha=>?_⟩
  · rw[Wj]at h ⊢
    by_cases h0:Zh L Vk st=0
    ·rw[if_pos h0];exact⟨ha,trivial⟩
    ·rw[if_neg h0]at h ⊢
     dsimp only at h ⊢;have r1:=Vc L h0;have r2:=rem_act L nk n (AH.zero (Zh L Vk st) (st.tok L).line (st.tok L).col) (Zh L Vk st) (Zz L Vk st);have hle:Zh L Vk st≤15:=by obtain⟨a,e⟩:=ha;rw[e];exact Zbw (Zv L a) Vk
     obtain⟨a1,f1⟩:=i2 _ _ _ _ d ⟨by omega,hle⟩ (by omega) hd (Zim h) (Zcp ha);obtain⟨a2,f2⟩:=i1 _ d (by omega) hd h a1;exact⟨a2,f1,f2⟩
  · rw[Zaq]at h ⊢
    by_cases h10:k=10
    ·rw[if_pos h10]at h ⊢
     subst h10;have r1:=Zkf L nk n (AH.zero (10:Nat) l c) st;have r2:=Zeh L nk n (Ul nk L n (AH.zero (10:Nat) l c) st).2;by_cases he:isS L Jm (Yp nk L n (Ul nk L n (AH.zero (10:Nat) l c) st).2).2=true
     ·rw[if_pos he]at h ⊢
      dsimp only at h ⊢;have r3:=Zdl L he;have g1:=good_take (Zgs h);obtain⟨a1,f1⟩:=cond_val hR (by omega) hd (Zgs g1) ha;obtain⟨a2,f2,f3⟩:=i3 _ d (by omega) hd g1 a1;obtain⟨a3,f4,_⟩:=i3 _ d (by omega) hd h (take_at a2);exact⟨a3,.inl ⟨f3,f1,f2,f4⟩⟩
     ·rw[if_neg he]at h ⊢
      dsimp only at h ⊢;obtain⟨a1,f1⟩:=cond_val hR (by omega) hd (Zgs h) ha;obtain⟨a2,f2,f3⟩:=i3 _ d (by omega) hd h a1;exact⟨a2,.inl ⟨f3,f1,f2,trivial⟩⟩
    ·rw[if_neg h10]at h ⊢
     by_cases h11:k=11
     ·rw[if_pos h11]at h ⊢
      subst h11;dsimp only at h ⊢;have r1:=Jd L nk n st;obtain⟨a1,f1⟩:=Zkc hR (Zgs h) ha;obtain⟨a2,f2,f3⟩:=i3 _ d (by omega) hd h a1;exact⟨a2,.inr (.inl ⟨f3,⟨rfl,f1⟩,f2,rfl⟩)⟩
     ·rw[if_neg h11]at h ⊢
      dsimp only at h ⊢;obtain⟨a1,f1⟩:=plain_val hR ⟨hk.1,hk.2,h10,h11⟩ (by omega) hd (Uo h) ha;exact⟨Zdi h a1,.inr (.inr ⟨f1,rfl,rfl⟩)⟩
  · rw[Yp]at h ⊢
    dsimp only at h ⊢;have g1:=Uo (Znc h);have r1:=Zft L Ys st;obtain⟨a1,h8⟩:=down_at (Zim g1) ha;obtain⟨a2,f2⟩:=i1 _ (d+1) (by omega) (by omega) g1 a1;exact⟨rise_at h a2,f2,by omega⟩
theorem rules_val(hR:Vm L):∀(n:Nat)(st:St),4*Zu L st+2≤n→(Wp nk L n st).2.good=true→AtD 0 st→AtD 0 (Wp nk L n st).2∧∀ r ∈ (Wp nk L n st).1,VRu r
 |0,st,h,_,_=>by omega
 |n+1,st,hn,h,ha=>by
  rw[Wp]at h ⊢;by_cases h0:Zh L Xg st=0
  ·rw[if_pos h0];exact⟨ha,fun r hr=>by cases hr⟩
  ·rw[if_neg h0]at h ⊢
   dsimp only at h ⊢;have r1:=Vc L h0;have r2:=Zmv L (Zh L Xg st) (Zz L Xg st);have r3:=Xv L Ys (Zcd L (Zh L Xg st) (Zz L Xg st));have r4:=Zkg L nk n (Zx L Ys (Zcd L (Zh L Xg st) (Zz L Xg st)));have r5:=Xv L Xi (Wj nk L n (Zx L Ys (Zcd L (Zh L Xg st) (Zz L Xg st)))).2;have g1:=Zjq h;have g2:=Uo g1;have g3:=Zim g2;have g4:=Uo g3;have hle:Zh L Xg st≤6:=by obtain⟨a,e⟩:=ha;rw[e];exact Zbw (Zv L a) Xg
   have hs:AtD 0 (Zcd L (Zh L Xg st) (Zz L Xg st))∧(0≤Zld L (Zh L Xg st) (Zz L Xg st)∧Zld L (Zh L Xg st) (Zz L Xg st)≤99)∧(Zh L Xg st≠5→Zld L (Zh L Xg st) (Zz L Xg st)=0):=by
    unfold Zcd Zld at *;by_cases h5:Zh L Xg st=5
    ·rw[if_pos h5]at g4 ⊢
     rw[if_pos h5];obtain⟨a1,f1⟩:=int_at hR g4 (Zcp ha);exact⟨a1,f1,fun hh=>absurd h5 hh⟩
    ·rw[if_neg h5,if_neg h5]
     exact⟨Zcp ha,by omega,fun _=>rfl⟩
   obtain⟨a1,f1,f2⟩:=hs;obtain⟨a2,f3⟩:=(acts_val hR n).1 _ 0 (by omega) (by omega) g2 (Zdi g3 a1);obtain⟨a3,f4⟩:=rules_val hR n _ (by omega) h (Zdi g1 a2);refine⟨a3,fun r hr=>?_⟩;rcases List.mem_cons.1 hr with rfl | hr
   ·exact⟨⟨by dsimp only;omega,by dsimp only;omega⟩,f1,fun hh=>f2 (fun h5=>hh (by dsimp only;omega)),f3⟩
   ·exact f4 r hr
theorem body_val(hR:Vm L){n:Nat}{st:St}(hn:4*Zu L st+2≤n)(h:(Zex nk L n st).2.good=true)(ha:AtD 0 st):AtD 0 (Zex nk L n st).2∧∀ r ∈ (Zex nk L n st).1,VRu r:=by
 unfold Zex at h ⊢;dsimp only at h ⊢;have r1:=Xv L Ys st;have g1:=Uo h;obtain⟨a1,f1⟩:=rules_val hR n _ (by omega) g1 (Zdi (Zjq g1) ha);exact⟨Zdi h a1,f1⟩
theorem card_val(hR:Vm L){n:Nat}{l c:Int}{st:St}(hn:4*Zu L st+2≤n)(h:(Zcw nk L n l c st).2.good=true)(ha:AtD 0 st):AtD 0 (Zcw nk L n l c st).2∧VCa (Zcw nk L n l c st).1:=by
 unfold Zcw at h ⊢;dsimp only at h ⊢;have r1:=Jq L st;have r2:=Xv L Zcj (Wo L st);have r3:=Zff L (Zx L Zcj (Wo L st));have r4:=Xv L Zci (Js L (Zx L Zcj (Wo L st)));have r5:=Zfs L (Zx L Zci (Js L (Zx L Zcj (Wo L st))));have g1:=good_body h;have g2:=good_sign g1;have g3:=Uo g2;have g4:=Zkt g3;have g5:=Uo g4;obtain⟨a1,f1⟩:=Zmy hR g5 ha;obtain⟨a2,f2⟩:=int_at hR g3 (Zdi g4 a1);obtain⟨a3,f3⟩:=sign_at hR g1 (Zdi g2 a2);obtain⟨a4,f4⟩:=body_val hR (by omega) h a3;exact⟨a4,f1,f2,f3,f4⟩
theorem place_val(hR:Vm L){n:Nat}{l c:Int}{st:St}(hn:4*Zu L st+2≤n)(h:(Zao nk L n l c st).2.good=true)(ha:AtD 0 st):AtD 0 (Zao nk L n l c st).2∧VPl (Zao nk L n l c st).1:=by
 unfold Zao at h ⊢;dsimp only at h ⊢;have r1:=Jq L st;obtain⟨a1,f1⟩:=Zmy hR (good_body h) ha;obtain⟨a4,f4⟩:=body_val hR (by omega) h a1;exact⟨a4,f1,f4⟩
theorem file_val(hR:Vm L):∀(n:Nat)(st:St),4*Zu L st+1≤n→(Ve nk L n st).2.good=true→AtD 0 st→AtD 0 (Ve nk L n st).2∧VFi (Ve nk L n st).1
 |0,st,h,_,_=>by omega
 |n+1,st,hn,h,ha=>by
  rw[Ve]at h ⊢;by_cases h0:Zh L Xy st=0
  ·rw[if_pos h0];exact⟨ha,(fun c hc=>by cases hc),fun p hp=>by cases hp⟩
  ·rw[if_neg h0]at h ⊢
   have r1:=Vc L h0;by_cases h1:Zh L Xy st=1
   ·rw[if_pos h1]at h ⊢
    dsimp only at h ⊢;have r2:=rem_card L nk n (st.tok L).line (st.tok L).col (Zz L Xy st);obtain⟨a1,f1⟩:=card_val hR (by omega) (good_file h) (Zcp ha);obtain⟨a2,f2,f3⟩:=file_val hR n _ (by omega) h a1;refine⟨a2,fun c hc=>?_,f3⟩;rcases List.mem_cons.1 hc with rfl | hc
    ·exact f1
    ·exact f2 c hc
   ·rw[if_neg h1]at h ⊢
    dsimp only at h ⊢;have r2:=rem_place L nk n (st.tok L).line (st.tok L).col (Zz L Xy st);obtain⟨a1,f1⟩:=place_val hR (by omega) (good_file h) (Zcp ha);obtain⟨a2,f2,f3⟩:=file_val hR n _ (by omega) h a1;refine⟨a2,f2,fun p hp=>?_⟩;rcases List.mem_cons.1 hp with rfl | hp
    ·exact f1
    ·exact f3 p hp
end
open Go.ChangeShapes Go.WideShapes Go.ChangeAt Go.RowKit
def Vd(v:TokV):Value:=.agg #[.int .i64 v.k,.string v.t,.int .i64 v.n,.int .i64 (v.line:Int),.int .i64 (v.col:Int)]
theorem Zee(a n l c:Int)(b:ByteArray)(w:World):(Instr.field 69 (.agg #[.int .i64 a,.string b,.int .i64 n,.int .i64 l,.int .i64 c]) 0).run Tryz.prog w=.ok (.int .i64 a) w:=by kernel_rfl
structure At(w:World)(p:Nat)(v:TokV)(d:Int)(r o n c:Nat):Prop where
 c0:w.cell? ⟨p,0,none⟩=some (.slice (some ⟨r,o,none⟩) n c)
 c1:w.cell? ⟨p,1,none⟩=some (.int .i64 d)
 t0:w.cell? ⟨r,o,none⟩=some (.int .i64 v.k)
 t1:w.cell? ⟨r,o+1,none⟩=some (.string v.t)
 t2:w.cell? ⟨r,o+2,none⟩=some (.int .i64 v.n)
 t3:w.cell? ⟨r,o+3,none⟩=some (.int .i64 (v.line:Int))
 t4:w.cell? ⟨r,o+4,none⟩=some (.int .i64 (v.col:Int))
 pin:p<w.heap.size
 rin:r<w.heap.size
 n0:0<n
 n1:(n:Int)≤9223372036854775807
theorem At.below{w w':World}{p:Nat}{v:TokV}{d:Int}{r o n c:Nat}(h:At w p v d r o n c)(hb:Below w.heap.size w w'):At w' p v d r o n c:=by
 have hp:=h.pin;have hr:=h.rin;have key:∀ b j,b<w.heap.size→w'.cell? ⟨b,j,none⟩=w.cell? ⟨b,j,none⟩:=fun b j hj=>hb.cell (p:=⟨b,j,none⟩) hj
 exact⟨(key _ _ hp).trans h.c0,(key _ _ hp).trans h.c1,(key _ _ hr).trans h.t0,(key _ _ hr).trans h.t1,(key _ _ hr).trans h.t2,(key _ _ hr).trans h.t3,(key _ _ hr).trans h.t4,Nat.lt_of_lt_of_le hp hb.size,Nat.lt_of_lt_of_le hr hb.size,h.n0,h.n1⟩
theorem Zni(w:World)(p:Nat)(v:TokV)(d:Int)(r o n c:Nat)(h:At w p v d r o n c) :
  Calls Tryz.prog 96 #[.pointer (some ⟨p,0,none⟩)] w fun e w'=>e=.returned (.bool true)∧w=w':=by
 obtain⟨c0,c1,t0,t1,t2,t3,t4,pin,rin,n0,n1⟩:=h;go_enter Tryz.func96,Tryz.ntmps96;go_wp2
 go_ret;exact⟨rfl,rfl⟩
theorem Zkx(w:World)(p:Nat)(v:TokV)(d:Int)(r o n c:Nat)(h:At w p v d r o n c) :
  Calls Tryz.prog 71 #[.pointer (some ⟨p,0,none⟩)] w fun e w'=>e=.returned (Vd v)∧Below w.heap.size w w':=by
 have h1:=h.below ((Below.refl _ _).alloc (Nat.le_refl _) (.cells #[.int .i64 0,.string ⟨#[]⟩,.int .i64 0,.int .i64 0,.int .i64 0] 69));have H1:=Hh h1;obtain⟨c0,c1,t0,t1,t2,t3,t4,pin,rin,n0,n1⟩:=h1;have rin':=h.rin;have pin':=h.pin;clear h;unfold Vd;go_enter Tryz.func71,Tryz.ntmps71;go_wp2_with(go_at_call 96;refine(Zni _ _ v d r o n c H1.out).mono ?_;rintro e w1 ⟨rfl,rfl⟩)
 refine bodyPost_ret (v:=.agg #[.int .i64 v.k,.string v.t,.int .i64 v.n,.int .i64 (v.line:Int),.int .i64 (v.col:Int)]) (by simp[results,Tryz.results71,go_sem]) rfl ⟨rfl,?_⟩;exact(Below.refl _ _).alloc (Nat.le_refl _) _
theorem Zf.set3{w:World}{g:Nat}{t:TypeId}{a b c:Value}(h:Zf w g t #[a,b,c])(x0 x1 x2:Value) :
 Zf (((w.setCell ⟨g,0,none⟩ x0).setCell ⟨g,1,none⟩ x1).setCell ⟨g,2,none⟩ x2) g t #[x0,x1,x2]:=((h.write 0 x0).write 1 x1).write 2 x2
theorem Below.set3{B g:Nat}{w0 w:World}(h:Below B w0 w)(hg:B≤g)(x0 x1 x2:Value) :
 Below B w0 (((w.setCell ⟨g,0,none⟩ x0).setCell ⟨g,1,none⟩ x1).setCell ⟨g,2,none⟩ x2):=((h.setCell hg x0).setCell hg x1).setCell hg x2
theorem cHere(w:World)(p:Nat)(v:TokV)(d:Int)(r o n c:Nat)(E:Int)(h:At w p v d r o n c) :
  Calls Tryz.prog 97 #[.pointer (some ⟨p,0,none⟩),.int .i64 E] w fun e w'=>e=.returned (Zr (E,v.line,v.col))∧Below w.heap.size w w':=by
 have h1:=h.below ((Below.refl _ _).alloc (Nat.le_refl _) (.cells #[.int .i64 0,.int .i64 0,.int .i64 0] 29));have H1:=Hh h1;have F0:=Zf.made w 29 #[.int .i64 0,.int .i64 0,.int .i64 0];clear h h1;unfold Zr;go_enter Tryz.func97,Tryz.ntmps97;go_wp2_with(first
 |(go_at_call 96;refine(Zni _ _ v d r o n c H1.out).mono ?_;rintro e w1 ⟨rfl,rfl⟩)
 |(go_at_call 71;refine(Zkx _ _ v d r o n c H1.out).mono ?_;rintro e w2 ⟨rfl,b2⟩;have W2:=Hh (F0.below b2 (by simp));obtain⟨k0,k1,k2,f0,f1,f2⟩:=Zy W2.out;have hz:=W2.out.inside;have B2:=Hh b2;clear b2;simp only[Vd]))
 have hF:=Zy ((Zf.set3 W2.out (.int .i64 E) (.int .i64 (v.line:Int)) (.int .i64 (v.col:Int))).alloc (.cells #[.int .i64 v.k,.string v.t,.int .i64 v.n,.int .i64 (v.line:Int),.int .i64 (v.col:Int)] 69));refine bodyPost_ret (v:=.agg #[.int .i64 E,.int .i64 (v.line:Int),.int .i64 (v.col:Int)]) (by simp[results,Tryz.results97,go_sem,hF]) rfl ⟨rfl,?_⟩;exact(Below.set3 (((Below.refl _ _).alloc (Nat.le_refl _) _).trans (B2.out.mono (by simp))) (Nat.le_refl _) _ _ _).alloc (by simp;omega) _
theorem cIs(w:World)(p:Nat)(v:TokV)(d:Int)(r o n c:Nat)(t:ByteArray)(h:At w p v d r o n c) :
  Calls Tryz.prog 128 #[.pointer (some ⟨p,0,none⟩),.string t] w fun e w'=>e=.returned (.bool (isT v t))∧Below w.heap.size w w':=by
 have H1:=Hh h;have HT:Hid (isT v t=((v.k == 1 || v.k == 4) && (v.t.toList == t.toList))):=Hh rfl;clear h;cases h1:(v.k == 1)<;>cases h4:(v.k == 4)<;>cases ht:(v.t.toList == t.toList)
 all_goals
  have HH:=Hh (And.intro h1 (And.intro h4 ht));go_enter Tryz.func128,Tryz.ntmps128;go_wp2_with(go_at_call 71;refine(Zkx _ _ v d r o n c H1.out).mono ?_;rintro e w2 ⟨rfl,b2⟩;have B2:=Hh b2;clear b2;simp only[Vd])
  go_ret;exact⟨by rw[HT.out,HH.out.1,HH.out.2.1,HH.out.2.2];rfl,B2.out.alloc B2.out.size _⟩
theorem cWrong(w:World)(p:Nat)(v:TokV)(d:Int)(r o n c:Nat)(h:At w p v d r o n c) :
  Calls Tryz.prog 73 #[.pointer (some ⟨p,0,none⟩)] w fun e w'=>e=.returned (Zr (wrF v))∧Below w.heap.size w w':=by
 have h1:=h.below ((Below.refl _ _).alloc (Nat.le_refl _) (.cells #[.int .i64 0,.int .i64 0,.int .i64 0] 29));have H1:=Hh h1;have F0:=Zf.made w 29 #[.int .i64 0,.int .i64 0,.int .i64 0];have hfd:=fun w=>Zee v.k v.n (v.line:Int) (v.col:Int) v.t w
 clear h h1;unfold Zr wrF;by_cases hk:v.k=0
 ·have q0:(v.k == 0)=true:=by rw[hk];rfl
  rw[if_pos hk];clear hk;go_enter Tryz.func73,Tryz.ntmps73;go_wp2_with(first
 |(go_at_call 71;refine(Zkx _ _ v d r o n c H1.out).mono ?_;rintro e w2 ⟨rfl,b2⟩;have H2:=Hh (H1.out.below b2);have W2:=Hh (F0.below b2 (by simp));have B2:=Hh b2;clear b2;simp only[Vd])
 |(go_at_call 97;refine(cHere _ _ v d r o n c _ H2.out).mono ?_;rintro e w3 ⟨rfl,b3⟩;have W3:=Hh (W2.out.below b3 W2.out.inside);obtain⟨k0,k1,k2,f0,f1,f2⟩:=Zy W3.out;have hz:=W3.out.inside;have B3:=Hh (Ue B2.out b3);clear b3;simp only[Zr]))
  have hF:=Zy (Zf.set3 W3.out (.int .i64 2) (.int .i64 (v.line:Int)) (.int .i64 (v.col:Int)));refine bodyPost_ret (v:=.agg #[.int .i64 2,.int .i64 (v.line:Int),.int .i64 (v.col:Int)]) (by simp[results,Tryz.results73,go_sem,hF]) rfl ⟨rfl,?_⟩;exact Below.set3 (((Below.refl _ _).alloc (Nat.le_refl _) _).trans (B3.out.mono (by simp))) (Nat.le_refl _) _ _ _
 ·have q0:(v.k == 0)=false:=by rw[beq_eq_false_iff_ne];exact hk
  rw[if_neg hk];clear hk;go_enter Tryz.func73,Tryz.ntmps73;go_wp2_with(first
 |(go_at_call 71;refine(Zkx _ _ v d r o n c H1.out).mono ?_;rintro e w2 ⟨rfl,b2⟩;have H2:=Hh (H1.out.below b2);have W2:=Hh (F0.below b2 (by simp));have B2:=Hh b2;clear b2;simp only[Vd])
 |(go_at_call 97;refine(cHere _ _ v d r o n c _ H2.out).mono ?_;rintro e w3 ⟨rfl,b3⟩;have W3:=Hh (W2.out.below b3 W2.out.inside);obtain⟨k0,k1,k2,f0,f1,f2⟩:=Zy W3.out;have hz:=W3.out.inside;have B3:=Hh (Ue B2.out b3);clear b3;simp only[Zr]))
  have hF:=Zy (Zf.set3 W3.out (.int .i64 7) (.int .i64 (v.line:Int)) (.int .i64 (v.col:Int)));refine bodyPost_ret (v:=.agg #[.int .i64 7,.int .i64 (v.line:Int),.int .i64 (v.col:Int)]) (by simp[results,Tryz.results73,go_sem,hF]) rfl ⟨rfl,?_⟩;exact Below.set3 (((Below.refl _ _).alloc (Nat.le_refl _) _).trans (B3.out.mono (by simp))) (Nat.le_refl _) _ _ _
theorem rtMarks(w:World):Calls Tryz.prog 173 #[] w (MarksPost w):=by
 have hE:=Hh mkCs_eq;go_enter Tryz.func173,Tryz.ntmps173;go_wp2
 go_ret;refine⟨w.heap.size,rfl,Nat.le_refl _,?_,(Below.refl _ _).alloc (Nat.le_refl _) _⟩;rw[hE.out];exact Zf.made _ _ _
theorem Zih(c:Int)(w:World):Calls Tryz.prog 138 #[.int .u8 c] w fun e w'=>e=.returned (.bool (Zag c))∧w=w':=by
 go_enter Tryz.func138,Tryz.ntmps138;go_wp2
 all_goals
  go_ret;refine⟨Vo ?_,rfl⟩;rw[Bool.eq_iff_iff,Zds];simp;try omega
theorem Zfe(c:Int)(w:World):Calls Tryz.prog 139 #[.int .u8 c] w fun e w'=>e=.returned (.bool (isD c))∧w=w':=by
 go_enter Tryz.func139,Tryz.ntmps139;go_wp2
 all_goals
  go_ret;refine⟨Vo ?_,rfl⟩;rw[Bool.eq_iff_iff,Zbf];simp;try omega
theorem rtUntil(s:ByteArray)(a:Nat)(c:Int)(w:World)(hs:s.size≤140737488355328)(ha:a≤s.size) :
  Calls Tryz.prog 140 #[.string s,.int .i64 (a:Int),.int .u8 c] w fun e w'=>e=.returned (.int .i64 ((a+tw (Xe c) (Zk s a):Nat):Int))∧w=w':=by
 obtain⟨G,hG⟩:∃ G,a+tw (Xe c) (Zk s a)=G:=⟨_,rfl⟩
 rw[hG];have HG:=Hh hG;clear hG;go_enter Tryz.func140,Tryz.ntmps140;go_wp2
 go_loop [1] (fun i=>∃ k:Nat,i=.int .i64 (k:Int)∧k≤s.size∧k+tw (Xe c) (Zk s k)=G) (fun i=>s.size - (intOf i).toNat)
 case atStart=>exact⟨a,rfl,ha,HG.out⟩
 case round=>
  obtain⟨k,rfl,hk,he⟩:=hrel;by_cases h:k<s.size
  ·have g:=Uc s k h
   rw[Yt s h,g]at he;have l1:(k:Int)<(s.size:Int):=by omega
   cases hc:Xe c ((s[k]'h).toNat:Int)with
   |true=>
    rw[Vt _ hc]at he;have hq:(((s[k]'h).toNat:Int) != c)=true:=by simpa using(Zba _ _).1 hc
    have HE:=Hh he;clear he hc g;go_wp2
    go_round
    case rel=>exact⟨k+1,by go_num,by omega,by have:=HE.out;omega⟩
    case measure=>simp[intOf];omega
   |false=>
    rw[Zbv _ hc]at he
    have hq:(((s[k]'h).toNat:Int) != c)=false:=by
     rw[bne_eq_false_iff_eq];rcases Decidable.em (((s[k]'h).toNat:Int)=c)with e | e
     ·exact e
     ·rw[(Zba c _).2 e]at hc;cases hc
    have HE:=Hh he;clear he hc g;go_wp2
    go_ret;exact⟨rI (by have:=HE.out;omega),rfl⟩
  ·rw[Zam s (by omega),Zhk]at he
   have HE:=Hh he;clear he;go_wp2
   go_ret;exact⟨rI (by have:=HE.out;omega),rfl⟩
theorem prefix_test(s:ByteArray)(a:Nat)(m:List Int)(hm:∀ x ∈ m,0≤x∧x<256)(h:a+m.length≤s.size):((s.extract a (a+m.length)).toList == (strOfNums m).toList)=m.isPrefixOf (Zk s a):=by
 rw[Zfj s a m.length h,Zjf _ _ (fun x hx=>Zmm s x (List.mem_of_mem_drop (List.mem_of_mem_take hx))) hm,Bool.eq_iff_iff,decide_eq_true_iff,List.isPrefixOf_iff_prefix,List.prefix_iff_eq_take];exact⟨fun e=>e.symm,fun e=>e.symm⟩
theorem prefix_long(s:ByteArray)(a:Nat)(m:List Int)(h:s.size<a+m.length)(h0:0<m.length):m.isPrefixOf (Zk s a)=false:=by
 rw[←Bool.not_eq_true,List.isPrefixOf_iff_prefix];intro hp;have:=hp.length_le;rw[Xk]at this;omega
theorem rtMark(s:ByteArray)(a:Nat)(w:World)(hs:s.size≤140737488355328)(ha:a<s.size) :
  Calls Tryz.prog 142 #[.string s,.int .i64 (a:Int)] w fun e w'=>e=.returned (.int .i64 (Jr (Zk s a):Nat))∧Below w.heap.size w w':=by
 go_enter Tryz.func142,Tryz.ntmps142;go_wp2_with(go_at_call 173;refine(rtMarks _).mono ?_;rintro e w1 ⟨g,rfl,hg1,hW1,b1⟩)
 have HW:=Hh hW1;have HB:=Hh b1;clear hW1 b1;go_loopw [5,7] (fun n i wr=>∃ k q:Nat,k≤14∧i=.int .i64 (k:Int)∧n=.int .i64 (((mkL.take k).foldl (Vi (Zk s a)) 0:Nat):Int)∧wr=w1.drewN q) (fun _ i _=>14 - (intOf i).toNat)
 case atStart=>exact⟨0,0,by omega,rfl,rfl,rfl⟩
 case round=>
  obtain⟨k,q,hk,rfl,rfl,rfl⟩:=hrel;have hbd:=mk_bd (Zk s a) k;by_cases hkl:k<14
  ·have hst:=mk_next (Zk s a) k hkl
   have hce:w1.cell? ⟨g,k,none⟩=some (.string (strOfNums (mkL[k]'hkl))):=by
    rw[HW.out.read k];have:=mkCs_at k hkl;rw[←this];simp
   have hby:=mk_by k hkl;have hml:=mk_len k hkl;generalize mkL[k]'hkl=m at *;generalize hn:(mkL.take k).foldl (Vi (Zk s a)) 0=n at *;have hpt:=prefix_test s a m hby;have hpl:=prefix_long s a m;have hsz:(strOfNums m).size=m.length:=strOfNums_size m;have HST:=Hh hst;have HNN:=Hh hn;rw[←hsz]at hpt hpl hml;have HSZ:=Hh hsz;generalize strOfNums m=ms at *;obtain⟨s1,s2⟩:=hml;have lk:(k:Int)<14:=by omega
   have lk0:decide ((k:Int)<0)=false:=by simp
   clear hst hsz hn hby hkl;by_cases hfit:a+ms.size≤s.size
   ·have hsl:=fun w=>slice_nn (P:=Tryz.prog) 9 (by kernel_rfl) s a ms.size hfit w
    have hfi:decide ((a:Int)+(ms.size:Int)≤(s.size:Int))=true:=by simp;omega
    cases hp:m.isPrefixOf (Zk s a)with
    |true=>
     have heq:=(hpt hfit).trans hp;clear hpt hpl;by_cases hlt:(n:Int)<(ms.size:Int)
     ·have hv:Vi (Zk s a) n m=ms.size:=by unfold Vi;rw[if_pos ⟨by have:=HSZ.out;omega,hp⟩,HSZ.out]
      have hw0:IntKind.i64.wrap ((a:Int)+(ms.size:Int))=(a:Int)+(ms.size:Int):=IntWalk.i64_in _ (by omega);have HV:=Hh hv;clear hv hp;go_wp2
      go_quiet (fail)
      go_wp2
      go_roundw
      case rel=>exact⟨k+1,_,by omega,by go_num,by rw[HST.out,HV.out],rfl⟩
      case measure=>simp[intOf];omega
     ·have hv:Vi (Zk s a) n m=n:=by unfold Vi;rw[if_neg (by have:=HSZ.out;omega)]
      have hw0:IntKind.i64.wrap ((a:Int)+(ms.size:Int))=(a:Int)+(ms.size:Int):=IntWalk.i64_in _ (by omega);have HV:=Hh hv;clear hv hp;go_wp2
      go_quiet (fail)
      go_wp2
      go_roundw
      case rel=>exact⟨k+1,_,by omega,by go_num,by rw[HST.out,HV.out],rfl⟩
      case measure=>simp[intOf];omega
    |false=>
     have heq:=(hpt hfit).trans hp;have hv:Vi (Zk s a) n m=n:=by unfold Vi;rw[if_neg (by rw[hp];simp)]
     have hw0:IntKind.i64.wrap ((a:Int)+(ms.size:Int))=(a:Int)+(ms.size:Int):=IntWalk.i64_in _ (by omega);clear hpt hpl;have HV:=Hh hv;clear hv hp;go_wp2
     go_quiet (fail)
     go_wp2
     go_roundw
     case rel=>exact⟨k+1,_,by omega,by go_num,by rw[HST.out,HV.out],rfl⟩
     case measure=>simp[intOf];omega
   ·have hfi:decide ((a:Int)+(ms.size:Int)≤(s.size:Int))=false:=by simp;omega
    have hp:=hpl (by omega) (by omega);have hv:Vi (Zk s a) n m=n:=by unfold Vi;rw[if_neg (by rw[hp];simp)]
    have hw0:IntKind.i64.wrap ((a:Int)+(ms.size:Int))=(a:Int)+(ms.size:Int):=IntWalk.i64_in _ (by omega);clear hpt hpl;have HV:=Hh hv;clear hv hp;go_wp2
    go_quiet (fail)
    go_wp2
    go_roundw
    case rel=>exact⟨k+1,_,by omega,by go_num,by rw[HST.out,HV.out],rfl⟩
    case measure=>simp[intOf];omega
  ·obtain rfl:k=14:=by omega
   have hfold:(mkL.take 14).foldl (Vi (Zk s a)) 0=Jr (Zk s a):=by rw[←mk_fold];rfl
   have HF:=Hh hfold;clear hfold hkl;go_wp2
   go_ret;exact⟨rI (by rw[HF.out]),Zhx HB.out q⟩
end Go.Proofs.YtdngkgickbaboaaGreat
