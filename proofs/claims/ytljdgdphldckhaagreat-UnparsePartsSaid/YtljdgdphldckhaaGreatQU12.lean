/-
  No conditions but those that each theorem names.
-/
import Derived.Test.YtljdgdphldckhaaGreatQU7
import Derived.Test.YtljdgdphldckhaaGreatQU11
set_option maxRecDepth 20000
set_option maxHeartbeats 12800000
namespace Go.Proofs.YtljdgdphldckhaaGreat
open Go
inductive Tr (s:ByteArray):Nat→List TokV→Prop
 |fin:∀ a,a=s.size→Tr s a [Znj s a]
 |skip:∀ a b L,a<b→Tr s b L→Tr s a L
 |tok:∀ a L,a<s.size→0<(Yh (Zl s a)).1→Bd s a→Tr s (a+(Yh (Zl s a)).2.2.2) L→Tr s a (Zgk s a::L)
theorem Zif(s:ByteArray):∀(b a:Nat)(acc L:List TokV)(E:Int)(p:Nat),s.size≤a+b→a≤s.size→Bd s a→Js s a acc=(L,E,p) →
  (E=0→∃ L',L=acc++L'∧Tr s a L')∧(E≠0→L=[]∧Bd s p)
 |0,a,acc,L,E,p,h,h1,hB,hs=>by
  rw[Zms s acc (by omega)]at hs;injection hs with e1 e2;injection e2 with e2 e3;exact⟨fun _=>⟨_,e1.symm,Tr.fin a (by omega)⟩,fun c=>absurd e2.symm c⟩
 |b+1,a,acc,L,E,p,h,h1,hB,hs=>by
  by_cases ha:a<s.size
  ·cases hbl:Zhq (gB s a:Int)with
   |true=>
    rw[Zdl s acc ha hbl]at hs;obtain⟨i1,i2⟩:=Zif s b (a+1) acc L E p (by omega) (by omega) (Bd.behind ha (by rw[Zef]at hbl;omega)) hs;refine⟨fun e=>?_,i2⟩;obtain⟨L',hL,ht⟩:=i1 e;exact⟨L',hL,Tr.skip a (a+1) L' (by omega) ht⟩
   |false=>
    by_cases hk:(Yh (Zl s a)).1 < -1
    ·rw[Zmr s acc ha hbl hk]at hs
     injection hs with e1 e2;injection e2 with e2 e3;refine⟨fun c=>?_,fun _=>⟨e1.symm,e3 ▸ hB⟩⟩;have:=errE_is (Yh (Zl s a)).1;omega
    ·have hadv:=Zbs s ha (by omega)
     by_cases hr:(Yh (Zl s a)).1 = -1
     ·rw[Zmq s acc ha hbl hr]at hs
      obtain⟨i1,i2⟩:=Zif s b _ acc L E p (by omega) hadv.2 (rem_bd s ha hr) hs;refine⟨fun e=>?_,i2⟩;obtain⟨L',hL,ht⟩:=i1 e;exact⟨L',hL,Tr.skip a _ L' (by omega) ht⟩
     ·have hpos:0<(Yh (Zl s a)).1:=by
            have:=(Zid (Zl s a) (Zgo s ha)).2.2.2.2.1;omega
      rw[Zmp s acc ha hbl hpos]at hs;obtain⟨i1,i2⟩:=Zif s b _ (acc++[Zgk s a]) L E p (by omega) hadv.2 (tok_bd s ha hpos) hs;refine⟨fun e=>?_,i2⟩;obtain⟨L',hL,ht⟩:=i1 e;exact⟨Zgk s a::L',by rw[hL];simp,Tr.tok a L' ha hpos hB ht⟩
  ·exact Zif s 0 a acc L E p (by omega) h1 hB hs
theorem Tr.up{s:ByteArray}{a:Nat}{L:List TokV}(h:Tr s a L) :
  (∀ v ∈ L,a≤v.p∧Bd s v.p∧v.line=(Zs s (v.p:Int)).1∧v.col=(Zs s (v.p:Int)).2)∧L.Pairwise (fun u v=>u.p<v.p):=by
 induction h with
 |fin a ha=>
  subst ha;refine⟨fun v hv=>?_,by simp⟩;simp at hv;subst hv;exact⟨Nat.le_refl _,Bd.end_ s,rfl,rfl⟩
 |skip a b L hab _ ih=>exact⟨fun v hv=>⟨by have:=(ih.1 v hv).1;omega,(ih.1 v hv).2⟩,ih.2⟩
 |tok a L ha hk hB _ ih=>
  have hadv:=Zbs s ha (by omega);refine⟨fun v hv=>?_,?_⟩
  ·rcases List.mem_cons.1 hv with rfl | hv
   ·exact⟨Nat.le_refl _,hB,rfl,rfl⟩
   ·exact⟨by have:=(ih.1 v hv).1;omega,(ih.1 v hv).2⟩
  ·rw[List.pairwise_cons]
   refine⟨fun v hv=>?_,ih.2⟩;have:=(ih.1 v hv).1;show a<v.p;omega
theorem Tr.before{s:ByteArray}{a:Nat}{L:List TokV}(h:Tr s a L){m:Nat}(hm:m+1<L.length) :
  (L[m]'(by omega)).line<(L[m+1]'hm).line∨(L[m]'(by omega)).line=(L[m+1]'hm).line∧(L[m]'(by omega)).col<(L[m+1]'hm).col:=by
 obtain⟨h1,h2⟩:=h.up;have hp:=List.pairwise_iff_getElem.1 h2 m (m+1) (by omega) hm (by omega);have u:=h1 _ (List.getElem_mem (show m<L.length by omega));have v:=h1 _ (List.getElem_mem hm);have:=place_lt u.2.1 v.2.1 hp;rw[u.2.2.1,u.2.2.2,v.2.2.1,v.2.2.2];exact this
def txt(v:TokV):List Int:=if v.k=3 then 34::(bL v.t++[34])else bL v.t
def wrL(L:List TokV):List Int:=L.flatMap fun v=>txt v++[32]
theorem wrL_cons(v:TokV)(L:List TokV):wrL (v::L)=txt v++32::wrL L:=by unfold wrL;simp
theorem name_no10(X:List Int)(hX:∀ x ∈ X,0≤x∧x<256)(h:Zct (strOfNums X)=true):∀ x ∈ X,x≠10:=by
 intro x hx h10;subst h10;obtain⟨i,hi,he⟩:=List.mem_iff_getElem.1 hx;have hz:(strOfNums X).size=X.length:=strOfNums_size X;have hb:bL (strOfNums X)=X:=Zll X hX;have hg:=Zkd (strOfNums X) i (by omega);rw[hb,List.getElem?_eq_getElem hi,he]at hg
 have hg10:gB (strOfNums X) i=10:=by
  have:=Option.some.inj hg;omega
 have hm:=ascii_rune (strOfNums X) i (by omega) (by omega);rw[hg10]at hm;unfold Zct at h;simp only[Bool.and_eq_true]at h;have hin:=List.all_eq_true.1 h.1.1.2 _ hm;simp[Zbp,Zha]at hin
def GoodT(v:TokV):Prop:=∃ l:List Int,0<(Yh l).1∧v.k=(Yh l).1∧txt v=l.take (Yh l).2.2.2∧v.t=strOfNums ((l.take (Yh l).2.2.1).drop (Yh l).2.1)∧v.n=Zdo (Yh l).1 l∧(∀ x ∈ txt v,0≤x∧x<256∧x≠10)∧(txt v).length=(Yh l).2.2.2
theorem tok_parts(l:List Int)(h:0<(Yh l).1)(hl:∀ x ∈ l,0≤x∧x<256):(if(Yh l).1=3 then 34::((l.take (Yh l).2.2.1).drop (Yh l).2.1++[34])else(l.take (Yh l).2.2.1).drop (Yh l).2.1)=l.take (Yh l).2.2.2∧∀ x ∈ l.take (Yh l).2.2.2,x≠10:=by
 cases l with
 |nil=>simp[Yh]at h
 |cons c m=>
  revert h
  refine Zag c m (fun x=>0<x.1→(if x.1=3 then 34::(((c::m).take x.2.2.1).drop x.2.1++[34])else((c::m).take x.2.2.1).drop x.2.1)=(c::m).take x.2.2.2∧∀ y ∈ (c::m).take x.2.2.2,y≠10) ?_ ?_ ?_ ?_ ?_ ?_ ?_ ?_
  ·intro hs _
   refine⟨by rw[if_neg (by simp)];rfl,fun y hy=>?_⟩;have:=Zoj Zba (c::m) y hy;rw[Zfj]at this;omega
  ·intro hs h2 h3 _
   refine⟨by rw[if_neg (by simp)];rfl,fun y hy=>?_⟩;have:=Zoj isD (c::m) y hy;rw[Zce]at this;omega
  ·intro _ _ h;simp at h
  ·intro _ h;simp at h
  ·intro hc hlt hnm _
   subst hc;dsimp only;rcases tw_end (Xl 34) m with he | ⟨x,hx,hxp⟩
   ·omega
   ·have hx34:x=34:=by
     rcases Decidable.em (x=34)with e | e
     ·exact e
     ·rw[(Zbw 34 x).2 e]at hxp;cases hxp
    subst hx34;have hn10:=name_no10 _ (fun y hy=>hl y (List.mem_cons_of_mem _ (List.mem_of_mem_take hy))) hnm;generalize tw (Xl 34) m=n at *;have hm1:m.take (n+1)=m.take n++[34]:=by rw[List.take_add_one,hx];rfl
    refine⟨?_,?_⟩
    ·rw[if_pos rfl,List.take_succ_cons,List.take_succ_cons,List.drop_succ_cons,List.drop_zero,hm1]
    ·intro y hy
     rw[List.take_succ_cons,hm1]at hy;rcases List.mem_cons.1 hy with rfl | hy
     ·decide
     ·rcases List.mem_append.1 hy with hy | hy
      ·exact hn10 y hy
      ·simp at hy;omega
  ·intro _ _ h;simp at h
  ·intro h1 h2 h3 h4 h5 _
   refine⟨by rw[if_neg (by simp)];rfl,fun y hy=>?_⟩;dsimp only at hy
   have hc:c≠10:=by
    rintro rfl;rw[Zgr,if_neg (by simp),if_neg (by decide)]at h5;exact h5 rfl
   rw[Zgr]at hy;split at hy
   ·rename_i e1
    cases m with
    |nil=>simp at e1
    |cons d m'=>
     have hd:d=61:=by simpa using e1.2
     rcases List.mem_cons.1 hy with rfl | hy
     ·exact hc
     ·simp at hy;omega
   ·split at hy
    ·simp at hy;omega
    ·simp at hy
  ·intro _ _ _ _ _ h;simp at h
theorem good_tok(s:ByteArray){a:Nat}(ha:a<s.size)(hk:0<(Yh (Zl s a)).1):GoodT (Zgk s a):=by
 have hb:=Zid (Zl s a) (Zgo s ha);rw[Xp]at hb;have hrange:∀ x ∈ Zl s a,0≤x∧x<256:=fun x hx=>Ziy s x (List.mem_of_mem_drop hx)
 obtain⟨p1,p2⟩:=tok_parts (Zl s a) hk hrange
 have ht:(Zgk s a).t=strOfNums (((Zl s a).take (Yh (Zl s a)).2.2.1).drop (Yh (Zl s a)).2.1):=by
  have e:=Zhc s (a+(Yh (Zl s a)).2.1) ((Yh (Zl s a)).2.2.1 - (Yh (Zl s a)).2.1) (by omega);rw[show a+(Yh (Zl s a)).2.1+((Yh (Zl s a)).2.2.1 - (Yh (Zl s a)).2.1)=a+(Yh (Zl s a)).2.2.1 from by omega]at e;show s.extract _ _=_;rw[e,List.drop_take];unfold Zl;rw[List.drop_drop]
 have hx:txt (Zgk s a)=(Zl s a).take (Yh (Zl s a)).2.2.2:=by
  have hbl:bL (Zgk s a).t=((Zl s a).take (Yh (Zl s a)).2.2.1).drop (Yh (Zl s a)).2.1:=by
   rw[ht,Zll _ (fun x hx=>hrange x (List.mem_of_mem_take (List.mem_of_mem_drop hx)))]
  unfold txt;rw[hbl,←p1];rfl
 refine⟨Zl s a,hk,rfl,hx,ht,rfl,fun x hxx=>?_,?_⟩
 ·rw[hx]at hxx
  have:=hrange x (List.mem_of_mem_take hxx);exact⟨this.1,this.2,p2 x hxx⟩
 ·rw[hx,List.length_take,Xp];omega
inductive Sh:List TokV→Prop
 |fin:∀ v:TokV,v.k=0→v.t=⟨#[]⟩→v.n=0→Sh [v]
 |tok:∀ v L,GoodT v→Sh L→Sh (v::L)
theorem Tr.sh{s:ByteArray}{a:Nat}{L:List TokV}(h:Tr s a L):Sh L:=by
 induction h with
 |fin a ha=>exact Sh.fin _ rfl rfl rfl
 |skip _ _ _ _ _ ih=>exact ih
 |tok a L ha hk _ _ ih=>exact Sh.tok _ _ (good_tok s ha hk) ih
theorem Tr.size{s:ByteArray}{a:Nat}{L:List TokV}(h:Tr s a L):(wrL L).length+2*a≤2*s.size+1:=by
 induction h with
 |fin a ha=>
  subst ha
  have:wrL [Znj s s.size]=[32]:=by
   unfold wrL txt Znj;rfl
  rw[this];simp;omega
 |skip a b L hab _ ih=>omega
 |tok a L ha hk _ _ ih=>
  have hadv:=Zbs s ha (by omega)
  have hlen:(txt (Zgk s a)).length=(Yh (Zl s a)).2.2.2:=by
   obtain⟨l,g1,g2,g3,g4,g5,g6,g7⟩:=good_tok s ha hk;have hrange:∀ x ∈ Zl s a,0≤x∧x<256:=fun x hx=>Ziy s x (List.mem_of_mem_drop hx)
   obtain⟨p1,_⟩:=tok_parts (Zl s a) hk hrange;have hb:=Zid (Zl s a) (Zgo s ha);rw[Xp]at hb;have e:=congrArg List.length p1;rw[List.length_take,Xp,Nat.min_eq_left (by omega)]at e
   have hbl:(bL (Zgk s a).t).length=(Yh (Zl s a)).2.2.1 - (Yh (Zl s a)).2.1:=by
    rw[Vm];show(s.extract _ _).size=_;rw[size_extract _ _ _ (by omega)];omega
   rw[←e];unfold txt;show(if(Yh (Zl s a)).1=3 then _ else _:List Int).length=_;split
   ·simp[hbl,Xp];omega
   ·simp[hbl,Xp];omega
  rw[wrL_cons,List.length_append,List.length_cons,hlen];omega
def SimT(L M:List TokV):Prop:=L.length=M.length∧∀(i:Nat)(h:i<L.length)(h':i<M.length),(M[i]'h').k=(L[i]'h).k∧(M[i]'h').t=(L[i]'h).t∧(M[i]'h').n=(L[i]'h).n∧(M[i]'h').line=1
theorem SimT.cons{u v:TokV}{L M:List TokV}(h:SimT L M)(h1:v.k=u.k)(h2:v.t=u.t)(h3:v.n=u.n)(h4:v.line=1):SimT (u::L) (v::M):=by
 refine⟨by simp[h.1],fun i hi hi'=>?_⟩;cases i with
 |zero=>exact⟨h1,h2,h3,h4⟩
 |succ i=>exact h.2 i (by simpa using hi) (by simpa using hi')
def zTok:TokV:=⟨0,⟨#[]⟩,0,0,0,0⟩
def Zv(L:List TokV)(a:Nat):TokV:=L[a]?.getD zTok
theorem curT_get(L:List TokV)(a:Nat)(h:a<L.length):Zv L a=L[a]'h:=by unfold Zv;rw[List.getElem?_eq_getElem h];rfl
structure Zmn(L:List TokV):Prop where
 pos:0<L.length
 last:∀ i,i<L.length→((Zv L i).k=0↔i+1=L.length)
 num:∀ i,0≤(Zv L i).n∧(Zv L i).n≤99
theorem numOf_bd(l:List Int):0≤Zdo (Yh l).1 l∧Zdo (Yh l).1 l≤99:=by
 cases l with
 |nil=>simp[Yh,Zdo]
 |cons c r=>
  refine Zag c r (fun x=>0≤Zdo x.1 (c::r)∧Zdo x.1 (c::r)≤99) ?_ ?_ ?_ ?_ ?_ ?_ ?_ ?_
  case refine_2=>
   intro h1 h2 _
   have hd:∀ x ∈ Xx (c::r),48≤x∧x≤57:=by
    intro x hx;rw[firstD_tw]at hx;exact(Zce x).1 (Zoj isD _ x hx)
   have hv:=Zbr _ hd;have hl:(Xx (c::r)).length≤2:=by rw[Zeo];exact h2
   have hp:(10:Int) ^ (Xx (c::r)).length≤100:=by
    generalize(Xx (c::r)).length=n at hl;match n,hl with
    |0,_=>decide
    |1,_=>decide
    |2,_=>decide
   show 0≤Zdo 2 (c::r)∧Zdo 2 (c::r)≤99;unfold Zdo;rw[if_pos rfl];omega
  all_goals(intros;simp[Zdo])
theorem Zkr(v:TokV)(L:List TokV)(i:Nat):Zv (v::L) (i+1)=Zv L i:=by unfold Zv;simp
theorem Zgh(v:TokV)(L:List TokV):Zv (v::L) 0=v:=by unfold Zv;simp
theorem Sh.ends{L:List TokV}(h:Sh L):Zmn L:=by
 induction h with
 |fin v hk ht hn=>
  refine⟨by simp,fun i hi=>?_,fun i=>?_⟩
  ·obtain rfl:i=0:=by simp at hi;exact hi
   rw[Zgh];simp[hk]
  ·cases i with
   |zero=>rw[Zgh,hn];decide
   |succ i=>rw[Zkr];simp[Zv,zTok]
 |tok v L hg hL ih=>
  obtain⟨l,g1,g2,g3,g4,g5,g6,g7⟩:=hg;refine⟨by simp,fun i hi=>?_,fun i=>?_⟩
  ·cases i with
   |zero=>
    have:=ih.pos;rw[Zgh,List.length_cons];constructor
    ·intro h;omega
    ·intro h;omega
   |succ i=>
    rw[Zkr,List.length_cons];have:=ih.last i (by simpa using hi);rw[this];omega
  ·cases i with
   |zero=>rw[Zgh,g5];exact numOf_bd l
   |succ i=>rw[Zkr];exact ih.num i
theorem Tr.len{s:ByteArray}{a:Nat}{L:List TokV}(h:Tr s a L):L.length+a≤s.size+1:=by
 induction h with
 |fin a ha=>simp;omega
 |skip a b L hab _ ih=>omega
 |tok a L ha hk _ _ ih=>
  have:=Zbs s ha (by omega);rw[List.length_cons];omega
def onA(L:List TokV)(a:Nat):Nat:=if(Zv L a).k=0 then a else a+1
theorem Zmn.on{L:List TokV}(h:Zmn L){a:Nat}(ha:a<L.length):onA L a<L.length:=by
 unfold onA;split
 ·exact ha
 ·rename_i hk
  have:¬(a+1=L.length):=fun e=>hk ((h.last a ha).2 e)
  omega
theorem Zmn.on'{L:List TokV}(h:Zmn L){a:Nat}(ha:a<L.length):onA L a=if(a:Int)<(L.length:Int) - 1 then a+1 else a:=by
 unfold onA;have:=h.last a ha;split
 ·rw[if_neg (by omega)]
 ·rw[if_pos (by omega)]
def isT(v:TokV)(t:ByteArray):Bool:=(v.k == 1 || v.k == 4) && (v.t.toList == t.toList)
def wrF(v:TokV):Int×Nat×Nat:=if v.k=0 then(2,v.line,v.col)else(7,v.line,v.col)
def okF:Int×Nat×Nat:=(0,0,0)
def Zmd:ByteArray:=⟨#[45]⟩
def Zbq(L:List TokV)(a:Nat)(t:ByteArray):Nat:=if isT (Zv L a) t=true then onA L a else a
def wantF(L:List TokV)(a:Nat)(t:ByteArray):Int×Nat×Nat:=if isT (Zv L a) t=true then okF else wrF (Zv L a)
def Vs(L:List TokV)(a:Nat)(k:Int):Nat:=if(Zv L a).k=k then onA L a else a
def We(L:List TokV)(a:Nat)(k:Int):Int×Nat×Nat:=if(Zv L a).k=k then okF else wrF (Zv L a)
def Zjb(L:List TokV)(a:Nat):Int:=if(Zv L a).k=2 then(Zv L a).n else 0
def Zkx(L:List TokV)(a:Nat):ByteArray:=if(Zv L a).k=3 then(Zv L a).t else⟨#[]⟩
def Zdv(L:List TokV)(a:Nat):Nat:=if isT (Zv L a) Zmd=true then(if(Zv L (onA L a)).k=2 then onA L (onA L a)else a)else Vs L a 2
def Zix(L:List TokV)(a:Nat):Int:=if isT (Zv L a) Zmd=true then(if(Zv L (onA L a)).k=2 then - (Zv L (onA L a)).n else 0)else Zjb L a
def Zbd(L:List TokV)(a:Nat):Int×Nat×Nat:=if isT (Zv L a) Zmd=true then We L (onA L a) 2 else We L a 2
def Zby(d:Nat):Nat:=if d=8 then 8 else d+1
def Uu(L:List TokV)(a d:Nat):Int×Nat×Nat:=if d=8 then(8,(Zv L a).line,(Zv L a).col)else okF
theorem Zfm(v:TokV):(wrF v).1≠0:=by unfold wrF;split<;>simp
set_option linter.unusedSimpArgs false
set_option linter.unusedVariables false
structure Fl where
 kind:Int
 op:Int
 n:Int
 name:ByteArray
structure Se where
 kind:Int
 side:Int
 wh:Int
 lane:Int
 fs:List Fl
 pick:Int
def zSe:Se:=⟨0,0,0,0,[],0⟩
inductive Ex where
 |leaf (kind n:Int) (sel:Se) (side tk tl:Int)
 |bin (op:Int) (l r:Ex)
def zEx:Ex:=.leaf 0 0 zSe 0 0 0
structure AH where
 kind:Int
 line:Int
 col:Int
 sel:Se
 num:Ex
 side:Int
 tk:Int
 tl:Int
 how:Int
 name:ByteArray
 cop:Int
 cl:Ex
 cr:Ex
def AH.zero(k l c:Int):AH:=⟨k,l,c,zSe,zEx,0,0,0,0,⟨#[]⟩,0,zEx,zEx⟩
inductive Acs where
 |nil
 |cons (h:AH) (thn els rest:Acs)
def Acs.len:Acs→Nat
 |.nil=>0
 |.cons _ _ _ r=>r.len+1
def Acs.app:Acs→Acs→Acs
 |.nil,y=>y
 |.cons h t e r,y=>.cons h t e (r.app y)
structure Ru where
 when_:Int
 stratum:Int
 line:Int
 col:Int
 acts:Acs
structure Ca where
 name:ByteArray
 cost:Int
 power:Int
 line:Int
 col:Int
 rules:List Ru
structure Pl where
 name:ByteArray
 line:Int
 col:Int
 rules:List Ru
structure Fi where
 cards:List Ca
 places:List Pl
theorem Acs.app_nil:∀ x:Acs,x.app .nil=x
 |.nil=>rfl
 |.cons h t e r=>by rw[Acs.app,Acs.app_nil r]
theorem Acs.app_assoc(y z:Acs):∀ x:Acs,(x.app y).app z=x.app (y.app z)
 |.nil=>rfl
 |.cons h t e r=>by rw[Acs.app,Acs.app,Acs.app,Acs.app_assoc y z r]
theorem Acs.len_app(y:Acs):∀ x:Acs,(x.app y).len=x.len+y.len
 |.nil=>by rw[Acs.app,Acs.len];omega
 |.cons h t e r=>by rw[Acs.app,Acs.len,Acs.len,Acs.len_app y r];omega
def Ym:List ByteArray:=[⟨#[109,101]⟩,⟨#[105,116]⟩,⟨#[40]⟩]
def Zg:List ByteArray:=[⟨#[109,105,110,101]⟩,⟨#[116,104,101,105,114,115]⟩,⟨#[98,111,116,104]⟩]
def Zw:List ByteArray:=[⟨#[104,101,114,101]⟩,⟨#[97,119,97,121]⟩,⟨#[108,97,110,101]⟩,⟨#[97,110,121,119,104,101,114,101]⟩]
def Ye:List ByteArray:=[⟨#[99,111,115,116]⟩,⟨#[112,111,119,101,114]⟩,⟨#[110,97,109,101,100]⟩,⟨#[110,111,116]⟩]
def Vb:List ByteArray:=[⟨#[109,101]⟩,⟨#[105,116]⟩]
def Wm:List ByteArray:=[⟨#[97,108,108]⟩,⟨#[102,105,114,115,116]⟩,⟨#[108,97,115,116]⟩,⟨#[119,101,97,107,101,115,116]⟩,⟨#[115,116,114,111,110,103,101,115,116]⟩]
def wTo:List ByteArray:=[⟨#[104,101,114,101]⟩,⟨#[108,101,102,116]⟩,⟨#[114,105,103,104,116]⟩,⟨#[108,97,110,101]⟩]
def Zcl:List ByteArray:=[⟨#[102,105,114,115,116]⟩,⟨#[108,97,115,116]⟩,⟨#[99,104,101,97,112,101,115,116]⟩,⟨#[99,111,115,116,108,105,101,115,116]⟩]
def wOp:List ByteArray:=[⟨#[60]⟩,⟨#[60,61]⟩,⟨#[61]⟩,⟨#[33,61]⟩,⟨#[62,61]⟩,⟨#[62]⟩]
def Jx:List ByteArray:=[⟨#[43]⟩,⟨#[45]⟩]
def Yy:List ByteArray:=[⟨#[99,111,117,110,116]⟩,⟨#[115,117,109]⟩,⟨#[114,111,117,110,100]⟩,⟨#[104,97,110,100]⟩,⟨#[102,114,101,101]⟩]
def Xo:List ByteArray:=[⟨#[112,111,119,101,114]⟩,⟨#[115,101,116]⟩,⟨#[100,101,115,116,114,111,121]⟩,⟨#[109,111,118,101]⟩,⟨#[114,101,116,117,114,110]⟩,⟨#[115,112,97,119,110]⟩,⟨#[100,114,97,119]⟩,⟨#[100,105,115,99,97,114,100]⟩,⟨#[101,110,101,114,103,121]⟩,⟨#[105,102]⟩,⟨#[101,97,99,104]⟩,⟨#[97,117,114,97]⟩,⟨#[100,111,117,98,108,101]⟩,⟨#[115,104,105,101,108,100]⟩,⟨#[98,97,114]⟩]
def Wr:ByteArray:=⟨#[42]⟩
def Wo:ByteArray:=⟨#[40]⟩
def Ws:ByteArray:=⟨#[41]⟩
def Vj:ByteArray:=⟨#[123]⟩
def Zam:ByteArray:=⟨#[125]⟩
def Xi:ByteArray:=⟨#[59]⟩
def Ug:ByteArray:=⟨#[101,108,115,101]⟩
def sMe:ByteArray:=⟨#[109,101]⟩
def sIt:ByteArray:=⟨#[105,116]⟩
inductive St where
 |ok (a d:Nat)
 |bad (F:Int×Nat×Nat)
def St.good:St→Bool
 |.ok _ _=>true
 |.bad _=>false
def Uh(F:Int×Nat×Nat):St→St
 |.ok a d=>if F.1=0 then .ok a d else .bad F
 |.bad G=>.bad G
def Zac(v:TokV):List ByteArray→Nat
 |[]=>0
 |t::r=>if isT v t=true then 1 else if Zac v r=0 then 0 else Zac v r+1
section
variable (L:List TokV)
def St.tok:St→TokV
 |.ok a _=>Zv L a
 |.bad _=>zTok
def Zhi:St→St
 |.ok a d=>.bad (wrF (Zv L a))
 |.bad F=>.bad F
def isS(t:ByteArray):St→Bool
 |.ok a _=>isT (Zv L a) t
 |.bad _=>false
def Xy(t:ByteArray):St→St
 |.ok a d=>.ok (Zbq L a t) d
 |.bad F=>.bad F
def Yw(t:ByteArray)(st:St):St:=if isS L t st=true then Xy L t st else Zhi L st
def Zfz:St→Int
 |.ok a _=>Zjb L a
 |.bad _=>0
def Zcu:St→St
 |.ok a d=>Uh (We L a 2) (.ok (Vs L a 2) d)
 |.bad F=>.bad F
def Zfu:St→ByteArray
 |.ok a _=>Zkx L a
 |.bad _=>⟨#[]⟩
def Jt:St→St
 |.ok a d=>Uh (We L a 3) (.ok (Vs L a 3) d)
 |.bad F=>.bad F
def Zbt:St→Int
 |.ok a _=>Zix L a
 |.bad _=>0
def Zal:St→St
 |.ok a d=>Uh (Zbd L a) (.ok (Zdv L a) d)
 |.bad F=>.bad F
def Zj(ws:List ByteArray):St→Nat
 |.ok a _=>Zac (Zv L a) ws
 |.bad _=>0
def Yu(ws:List ByteArray):St→St
 |.ok a d=>if Zac (Zv L a) ws=0 then .ok a d else .ok (onA L a) d
 |.bad F=>.bad F
def Zm(ws:List ByteArray)(st:St):St:=if Zj L ws st=0 then Zhi L st else Yu L ws st
def Zhd(t:ByteArray):St→St
 |.ok a d=>if isT (Zv L a) t=true then Uh (Uu L a d) (.ok a (Zby d))else .ok a d
 |.bad F=>.bad F
def upS:St→St
 |.ok a d=>.ok a (d - 1)
 |.bad F=>.bad F
def Vl(t:ByteArray)(st:St):St:=Yw L t (Zhd L t st)
def Zft(t:ByteArray)(st:St):St:=upS (Yw L t st)
def Xj:St→St
 |.ok a d=>if(Zv L a).k=0 then .ok a d else .bad (wrF (Zv L a))
 |.bad F=>.bad F
def Yb:St→Nat
 |.ok a _=>L.length - a
 |.bad _=>0
end
section
variable (nk:Int) (L:List TokV)
def Wv(k:Nat)(s:St):Fl×St:=
 if k=1∨k=2 then(⟨k,Zj L wOp s,Zbt L (Zm L wOp s),⟨#[]⟩⟩,Zal L (Zm L wOp s))
 else if k=3 then(⟨3,0,0,Zfu L s⟩,Jt L s)
 else(⟨if Zj L Vb s=0 then nk else 3+(Zj L Vb s:Int),0,0,⟨#[]⟩⟩,Zm L Vb s)
def Yc:Nat→St→List Fl×St
 |0,st=>([],st)
 |n+1,st=>
  if Zj L Ye st=0 then([],st)
  else
   ((Wv nk L (Zj L Ye st) (Yu L Ye st)).1::(Yc n (Wv nk L (Zj L Ye st) (Yu L Ye st)).2).1,
     (Yc n (Wv nk L (Zj L Ye st) (Yu L Ye st)).2).2)
def Un(st:St):Int×Int×Int:=(Zj L Zg st,Zj L Zw (Zm L Zg st),if Zj L Zw (Zm L Zg st)=3 then Zfz L (Zm L Zw (Zm L Zg st))else 0)
def Zax(st:St):St:=if Zj L Zw (Zm L Zg st)=3 then Zcu L (Zm L Zw (Zm L Zg st))else Zm L Zw (Zm L Zg st)
def Xr(n:Nat)(st:St):Se×St:=
 if Zj L Ym st=3 then
  (⟨3,(Un L (Zm L Ym st)).1,(Un L (Zm L Ym st)).2.1,(Un L (Zm L Ym st)).2.2,(Yc nk L n (Zax L (Zm L Ym st))).1,
     Zj L Wm (Yc nk L n (Zax L (Zm L Ym st))).2⟩,
    Yw L Ws (Zm L Wm (Yc nk L n (Zax L (Zm L Ym st))).2))
 else(⟨Zj L Ym st,0,0,0,[],0⟩,Zm L Ym st)
def toK(st:St):Int:=Zj L wTo st
def toL(st:St):Int:=if Zj L wTo st=4 then Zfz L (Zm L wTo st)else 0
def toS(st:St):St:=if Zj L wTo st=4 then Zcu L (Zm L wTo st)else Zm L wTo st
mutual
def Yd:Nat→St→Ex×St
 |0,st=>(zEx,st)
 |n+1,st=>Ud n (Wz n st)
def Ud:Nat→Ex×St→Ex×St
 |0,x=>x
 |n+1,x=>
  if Zj L Jx x.2=0 then x
  else Ud n (.bin (Zj L Jx x.2) x.1 (Wz n (Yu L Jx x.2)).1,(Wz n (Yu L Jx x.2)).2)
def Wz:Nat→St→Ex×St
 |0,st=>(zEx,st)
 |n+1,st=>Uc n (Wf n st)
def Uc:Nat→Ex×St→Ex×St
 |0,x=>x
 |n+1,x=>
  if isS L Wr x.2=true then Uc n (.bin 3 x.1 (Wf n (Xy L Wr x.2)).1,(Wf n (Xy L Wr x.2)).2)
  else x
def Wf:Nat→St→Ex×St
 |0,st=>(zEx,st)
 |n+1,st=>
  if isS L Wo st=true then((Yd n (Vl L Wo st)).1,Zft L Ws (Yd n (Vl L Wo st)).2)
  else if Zj L Yy st=0 then(.leaf 1 (Zbt L st) zSe 0 0 0,Zal L st)
  else if Zj L Yy st=1∨Zj L Yy st=2 then(.leaf (Zj L Yy st+1) 0 (Xr nk L n (Yu L Yy st)).1 0 0 0,(Xr nk L n (Yu L Yy st)).2)
  else if Zj L Yy st=3 then(.leaf 4 0 zSe 0 0 0,Yu L Yy st)
  else if Zj L Yy st=4 then(.leaf 5 0 zSe (Zj L Zg (Yu L Yy st)) 0 0,Zm L Zg (Yu L Yy st))
  else(.leaf 6 0 zSe (Zj L Zg (Yu L Yy st)) (toK L (Zm L Zg (Yu L Yy st))) (toL L (Zm L Zg (Yu L Yy st))),toS L (Zm L Zg (Yu L Yy st)))
end
def Wn(n:Nat)(h:AH)(k:Nat)(st:St):AH×St:=
 if k=1∨k=2∨k=12 then({ h with sel:=(Xr nk L n st).1,num:=(Yd nk L n (Xr nk L n st).2).1 },(Yd nk L n (Xr nk L n st).2).2)
 else if k=3∨k=5∨k=14 then({ h with sel:=(Xr nk L n st).1 },(Xr nk L n st).2)
 else if k=4 then({ h with sel:=(Xr nk L n st).1,tk:=toK L (Xr nk L n st).2,tl:=toL L (Xr nk L n st).2 },toS L (Xr nk L n st).2)
 else if k=6 then
  ({ h with name:=Zfu L st,side:=Zj L Zg (Jt L st),tk:=toK L (Zm L Zg (Jt L st)),tl:=toL L (Zm L Zg (Jt L st)),num:=(Yd nk L n (toS L (Zm L Zg (Jt L st)))).1 },
    (Yd nk L n (toS L (Zm L Zg (Jt L st)))).2)
 else if k=7∨k=9 then({ h with side:=Zj L Zg st,num:=(Yd nk L n (Zm L Zg st)).1 },(Yd nk L n (Zm L Zg st)).2)
 else if k=8 then({ h with side:=Zj L Zg st,how:=Zj L Zcl (Zm L Zg st) },Zm L Zcl (Zm L Zg st))
 else if k=13∨k=15 then({ h with side:=Zj L Zg st,tk:=toK L (Zm L Zg st),tl:=toL L (Zm L Zg st) },toS L (Zm L Zg st))
 else(h,st)
def Uv(n:Nat)(h:AH)(st:St):AH×St:=
 ({ h with cl:=(Yd nk L n st).1,cop:=Zj L wOp (Yd nk L n st).2,cr:=(Yd nk L n (Zm L wOp (Yd nk L n st).2)).1 },(Yd nk L n (Zm L wOp (Yd nk L n st).2)).2)
structure AO where
 h:AH
 thn:Acs
 els:Acs
 st:St
mutual
def Vn:Nat→St→Acs×St
 |0,st=>(.nil,st)
 |n+1,st=>
  if Zj L Xo st=0 then(.nil,st)
  else
   (.cons (Zbn n (AH.zero (Zj L Xo st) (st.tok L).line (st.tok L).col) (Zj L Xo st) (Yu L Xo st)).h
      (Zbn n (AH.zero (Zj L Xo st) (st.tok L).line (st.tok L).col) (Zj L Xo st) (Yu L Xo st)).thn
      (Zbn n (AH.zero (Zj L Xo st) (st.tok L).line (st.tok L).col) (Zj L Xo st) (Yu L Xo st)).els
      (Vn n (Zbn n (AH.zero (Zj L Xo st) (st.tok L).line (st.tok L).col) (Zj L Xo st) (Yu L Xo st)).st).1,
     (Vn n (Zbn n (AH.zero (Zj L Xo st) (st.tok L).line (st.tok L).col) (Zj L Xo st) (Yu L Xo st)).st).2)
def Zbn:Nat→AH→Nat→St→AO
 |0,h,_,st=>⟨h,.nil,.nil,st⟩
 |n+1,h,k,st=>
  if k=10 then
   if isS L Ug (Yv n (Uv nk L n h st).2).2=true then
    ⟨(Uv nk L n h st).1,(Yv n (Uv nk L n h st).2).1,(Yv n (Xy L Ug (Yv n (Uv nk L n h st).2).2)).1,(Yv n (Xy L Ug (Yv n (Uv nk L n h st).2).2)).2⟩
   else⟨(Uv nk L n h st).1,(Yv n (Uv nk L n h st).2).1,.nil,(Yv n (Uv nk L n h st).2).2⟩
  else if k=11 then⟨{ h with sel:=(Xr nk L n st).1 },(Yv n (Xr nk L n st).2).1,.nil,(Yv n (Xr nk L n st).2).2⟩
  else⟨(Wn nk L n h k st).1,.nil,.nil,Yw L Xi (Wn nk L n h k st).2⟩
def Yv:Nat→St→Acs×St
 |0,st=>(.nil,st)
 |n+1,st=>((Vn n (Vl L Vj st)).1,Zft L Zam (Vn n (Vl L Vj st)).2)
end
end
theorem isT_k{v:TokV}{t:ByteArray}(h:isT v t=true):v.k≠0:=by
 unfold isT at h;intro c;rw[c]at h;simp at h
theorem idxW_k{v:TokV}:∀{ws:List ByteArray},Zac v ws≠0→v.k≠0
 |[],h=>absurd rfl h
 |t::r,h=>by
  unfold Zac at h;by_cases ht:isT v t=true
  ·exact isT_k ht
  ·rw[if_neg ht]at h
   by_cases hr:Zac v r=0
   ·rw[if_pos hr]at h;exact absurd rfl h
   ·exact idxW_k hr
theorem Zeg(v:TokV):∀ ws:List ByteArray,Zac v ws≤ws.length
 |[]=>Nat.le_refl _
 |t::r=>by
  have:=Zeg v r;unfold Zac;rw[List.length_cons];split
  ·omega
  ·split<;>omega
theorem curT_lt{L:List TokV}{a:Nat}(h:(Zv L a).k≠0):a<L.length:=by
 apply Nat.lt_of_not_le;intro c;unfold Zv at h;rw[List.getElem?_eq_none c]at h;exact h rfl
theorem onA_le(L:List TokV)(a:Nat):L.length - onA L a≤L.length - a:=by unfold onA;split<;>omega
theorem onA_lt{L:List TokV}{a:Nat}(h:(Zv L a).k≠0):L.length - onA L a+1≤L.length - a:=by
 have:=curT_lt h;unfold onA;rw[if_neg h];omega
section
variable (L:List TokV)
theorem Zly(F:Int×Nat×Nat)(st:St):Yb L (Uh F st)≤Yb L st:=by
 cases st with
 |ok a d=>
  by_cases h:F.1=0
  ·rw[show Uh F (.ok a d)=.ok a d from if_pos h];exact Nat.le_refl _
  ·rw[show Uh F (.ok a d)=.bad F from if_neg h];exact Nat.zero_le _
 |bad G=>exact Nat.le_refl _
theorem rem_wrong(st:St):Yb L (Zhi L st)≤Yb L st:=by cases st<;>exact Nat.zero_le _
theorem wantA_le(a:Nat)(t:ByteArray):L.length - Zbq L a t≤L.length - a:=by
 unfold Zbq;split
 ·exact onA_le L a
 ·exact Nat.le_refl _
theorem kindA_le(a:Nat)(k:Int):L.length - Vs L a k≤L.length - a:=by
 unfold Vs;split
 ·exact onA_le L a
 ·exact Nat.le_refl _
theorem signA_le(a:Nat):L.length - Zdv L a≤L.length - a:=by
 unfold Zdv;split
 ·split
  ·exact Nat.le_trans (onA_le L _) (onA_le L a)
  ·exact Nat.le_refl _
 ·exact kindA_le L a 2
theorem Zlx(t:ByteArray)(st:St):Yb L (Xy L t st)≤Yb L st:=by
 cases st with
 |ok a d=>exact wantA_le L a t
 |bad F=>exact Nat.le_refl _
theorem Zfa{t:ByteArray}{st:St}(h:isS L t st=true):Yb L (Xy L t st)+1≤Yb L st:=by
 cases st with
 |ok a d=>
  have h':isT (Zv L a) t=true:=h;show L.length - Zbq L a t+1≤L.length - a;unfold Zbq;rw[if_pos h'];exact onA_lt (isT_k h')
 |bad F=>cases h
theorem Zjp(t:ByteArray)(st:St):Yb L (Yw L t st)≤Yb L st:=by
 unfold Yw;split
 ·exact Zlx L t st
 ·exact rem_wrong L st
theorem rem_wanted{t:ByteArray}{st:St}(h:isS L t st=true):Yb L (Yw L t st)+1≤Yb L st:=by
 unfold Yw;rw[if_pos h];exact Zfa L h
theorem rem_int(st:St):Yb L (Zcu L st)≤Yb L st:=by
 cases st with
 |ok a d=>have h:=Zly L (We L a 2) (.ok (Vs L a 2) d);exact Nat.le_trans h (kindA_le L a 2)
 |bad F=>exact Nat.le_refl _
theorem Zjq(st:St):Yb L (Jt L st)≤Yb L st:=by
 cases st with
 |ok a d=>have h:=Zly L (We L a 3) (.ok (Vs L a 3) d);exact Nat.le_trans h (kindA_le L a 3)
 |bad F=>exact Nat.le_refl _
theorem rem_sign(st:St):Yb L (Zal L st)≤Yb L st:=by
 cases st with
 |ok a d=>have h:=Zly L (Zbd L a) (.ok (Zdv L a) d);exact Nat.le_trans h (signA_le L a)
 |bad F=>exact Nat.le_refl _
theorem Zfc(ws:List ByteArray)(st:St):Yb L (Yu L ws st)≤Yb L st:=by
 cases st with
 |ok a d=>
  by_cases h:Zac (Zv L a) ws=0
  ·rw[show Yu L ws (.ok a d)=.ok a d from if_pos h];exact Nat.le_refl _
  ·rw[show Yu L ws (.ok a d)=.ok (onA L a) d from if_neg h];exact onA_le L a
 |bad F=>exact Nat.le_refl _
theorem Zao{ws:List ByteArray}{st:St}(h:¬ Zj L ws st=0):Yb L (Yu L ws st)+1≤Yb L st:=by
 cases st with
 |ok a d=>
  have h':¬ Zac (Zv L a) ws=0:=h;rw[show Yu L ws (.ok a d)=.ok (onA L a) d from if_neg h'];exact onA_lt (idxW_k h')
 |bad F=>exact absurd rfl h
theorem Zbj{ws:List ByteArray}{st:St}(h:Zj L ws st=0):Yu L ws st=st:=by
 cases st with
 |ok a d=>
  have h':Zac (Zv L a) ws=0:=h;exact if_pos h'
 |bad F=>rfl
theorem Xu(ws:List ByteArray)(st:St):Yb L (Zm L ws st)≤Yb L st:=by
 unfold Zm;split
 ·exact rem_wrong L st
 ·exact Zfc L ws st
theorem rem_deep(t:ByteArray)(st:St):Yb L (Zhd L t st)≤Yb L st:=by
 cases st with
 |ok a d=>
  by_cases h:isT (Zv L a) t=true
  ·rw[show Zhd L t (.ok a d)=Uh (Uu L a d) (.ok a (Zby d))from if_pos h];exact Zly L (Uu L a d) (.ok a (Zby d))
  ·rw[show Zhd L t (.ok a d)=.ok a d from if_neg h];exact Nat.le_refl _
 |bad F=>exact Nat.le_refl _
theorem rem_up(st:St):Yb L (upS st)=Yb L st:=by cases st<;>rfl
theorem Zhm(t:ByteArray)(st:St):Yb L (Vl L t st)≤Yb L st:=Nat.le_trans (Zjp L t _) (rem_deep L t st)
theorem rem_rise(t:ByteArray)(st:St):Yb L (Zft L t st)≤Yb L st:=by unfold Zft;rw[rem_up];exact Zjp L t st
theorem is_deep{t:ByteArray}{st:St}(h:isS L t st=true):(Zhd L t st).good=true→isS L t (Zhd L t st)=true:=by
 cases st with
 |ok a d=>
  have h':isT (Zv L a) t=true:=h;rw[show Zhd L t (.ok a d)=Uh (Uu L a d) (.ok a (Zby d))from if_pos h'];by_cases hf:(Uu L a d).1=0
  ·rw[show Uh (Uu L a d) (.ok a (Zby d))=.ok a (Zby d)from if_pos hf];intro _;exact h'
  ·rw[show Uh (Uu L a d) (.ok a (Zby d))=.bad (Uu L a d)from if_neg hf];intro c;cases c
 |bad F=>cases h
theorem Zih{t:ByteArray}{st:St}(h:isS L t st=true):Yb L (Vl L t st)+1≤Yb L st:=by
 have h1:=is_deep L h;have h2:=rem_deep L t st;unfold Vl;cases hd:Zhd L t st with
 |ok a d=>
  rw[hd]at h1 h2;have:=rem_wanted L (h1 rfl);omega
 |bad F=>
  have h3:1≤Yb L st:=by have:=Zfa L h;omega
  have:Yb L (Yw L t (.bad F))≤0:=Zjp L t (.bad F);omega
variable (nk:Int)
theorem Zlg(k:Nat)(s:St):Yb L (Wv nk L k s).2≤Yb L s:=by
 unfold Wv;split
 ·exact Nat.le_trans (rem_sign L _) (Xu L _ _)
 ·split
  ·exact Zjq L s
  ·exact Xu L _ _
theorem Zns:∀(n:Nat)(st:St),Yb L (Yc nk L n st).2≤Yb L st
 |0,st=>Nat.le_refl _
 |n+1,st=>by
  unfold Yc;split
  ·exact Nat.le_refl _
  ·exact Nat.le_trans (Zns n _) (Nat.le_trans (Zlg L nk _ _) (Zfc L _ _))
theorem rem_where(st:St):Yb L (Zax L st)≤Yb L st:=by
 unfold Zax;split
 ·exact Nat.le_trans (rem_int L _) (Nat.le_trans (Xu L _ _) (Xu L _ _))
 ·exact Nat.le_trans (Xu L _ _) (Xu L _ _)
theorem Zab(n:Nat)(st:St):Yb L (Xr nk L n st).2≤Yb L st:=by
 unfold Xr;split
 ·exact Nat.le_trans (Zjp L _ _) (Nat.le_trans (Xu L _ _) (Nat.le_trans (Zns L nk n _) (Nat.le_trans (rem_where L _) (Xu L _ _))))
 ·exact Xu L _ _
theorem Zhl(st:St):Yb L (toS L st)≤Yb L st:=by
 unfold toS;split
 ·exact Nat.le_trans (rem_int L _) (Xu L _ _)
 ·exact Xu L _ _
theorem Zmw:∀ n:Nat,(∀ st,Yb L (Yd nk L n st).2≤Yb L st)∧(∀ x,Yb L (Ud nk L n x).2≤Yb L x.2)∧(∀ st,Yb L (Wz nk L n st).2≤Yb L st) ∧
  (∀ x,Yb L (Uc nk L n x).2≤Yb L x.2)∧(∀ st,Yb L (Wf nk L n st).2≤Yb L st):=by
 intro n;induction n with
 |zero=>exact⟨fun _=>by simp[Yd],fun _=>by simp[Ud],fun _=>by simp[Wz],fun _=>by simp[Uc],fun _=>by simp[Wf]⟩
 |succ n ih=>
  obtain⟨h1,h2,h3,h4,h5⟩:=ih;refine⟨fun st=>?_,fun x=>?_,fun st=>?_,fun x=>?_,fun st=>?_⟩
  ·unfold Yd;exact Nat.le_trans (h2 _) (h3 _)
  ·unfold Ud
   split
   ·exact Nat.le_refl _
   ·exact Nat.le_trans (h2 _) (Nat.le_trans (h3 _) (Zfc L _ _))
  ·unfold Wz;exact Nat.le_trans (h4 _) (h5 _)
  ·unfold Uc
   split
   ·exact Nat.le_trans (h4 _) (Nat.le_trans (h5 _) (Zlx L _ _))
   ·exact Nat.le_refl _
  ·unfold Wf
   split
   ·exact Nat.le_trans (rem_rise L _ _) (Nat.le_trans (h1 _) (Zhm L _ _))
   ·split
    ·exact rem_sign L _
    ·split
     ·exact Nat.le_trans (Zab L nk n _) (Zfc L _ _)
     ·split
      ·exact Zfc L _ _
      ·split
       ·exact Nat.le_trans (Xu L _ _) (Zfc L _ _)
       ·exact Nat.le_trans (Zhl L _) (Nat.le_trans (Xu L _ _) (Zfc L _ _))
theorem Zbv(n:Nat)(st:St):Yb L (Yd nk L n st).2≤Yb L st:=(Zmw L nk n).1 st
theorem Zfb(n:Nat)(st:St):Yb L (Wz nk L n st).2≤Yb L st:=(Zmw L nk n).2.2.1 st
theorem Zfd(n:Nat)(st:St):Yb L (Wf nk L n st).2≤Yb L st:=(Zmw L nk n).2.2.2.2 st
theorem rem_plain(n:Nat)(h:AH)(k:Nat)(st:St):Yb L (Wn nk L n h k st).2≤Yb L st:=by
 unfold Wn;split
 ·exact Nat.le_trans (Zbv L nk n _) (Zab L nk n _)
 ·split
  ·exact Zab L nk n _
  ·split
   ·exact Nat.le_trans (Zhl L _) (Zab L nk n _)
   ·split
    ·exact Nat.le_trans (Zbv L nk n _) (Nat.le_trans (Zhl L _) (Nat.le_trans (Xu L _ _) (Zjq L _)))
    ·split
     ·exact Nat.le_trans (Zbv L nk n _) (Xu L _ _)
     ·split
      ·exact Nat.le_trans (Xu L _ _) (Xu L _ _)
      ·split
       ·exact Nat.le_trans (Zhl L _) (Xu L _ _)
       ·exact Nat.le_refl _
theorem Zlz(n:Nat)(h:AH)(st:St):Yb L (Uv nk L n h st).2≤Yb L st:=
 Nat.le_trans (Zbv L nk n _) (Nat.le_trans (Xu L _ _) (Zbv L nk n _))
theorem rem_actss:∀ n:Nat,(∀ st,Yb L (Vn nk L n st).2≤Yb L st)∧(∀ h k st,Yb L (Zbn nk L n h k st).st≤Yb L st)∧(∀ st,Yb L (Yv nk L n st).2≤Yb L st):=by
 intro n;induction n with
 |zero=>exact⟨fun _=>by simp[Vn],fun _ _ _=>by simp[Zbn],fun _=>by simp[Yv]⟩
 |succ n ih=>
  obtain⟨h1,h2,h3⟩:=ih;refine⟨fun st=>?_,fun h k st=>?_,fun st=>?_⟩
  ·unfold Vn
   split
   ·exact Nat.le_refl _
   ·exact Nat.le_trans (h1 _) (Nat.le_trans (h2 _ _ _) (Zfc L _ _))
  ·unfold Zbn
   split
   ·split
    ·exact Nat.le_trans (h3 _) (Nat.le_trans (Zlx L _ _) (Nat.le_trans (h3 _) (Zlz L nk n h st)))
    ·exact Nat.le_trans (h3 _) (Zlz L nk n h st)
   ·split
    ·exact Nat.le_trans (h3 _) (Zab L nk n _)
    ·exact Nat.le_trans (Zjp L _ _) (rem_plain L nk n h k st)
  ·unfold Yv
   exact Nat.le_trans (rem_rise L _ _) (Nat.le_trans (h1 _) (Zhm L _ _))
theorem rem_act(n:Nat)(h:AH)(k:Nat)(st:St):Yb L (Zbn nk L n h k st).st≤Yb L st:=(rem_actss L nk n).2.1 h k st
theorem Zge(n:Nat)(st:St):Yb L (Yv nk L n st).2≤Yb L st:=(rem_actss L nk n).2.2 st
end
def TokSim(pl:Bool)(u v:TokV):Prop:=u.k=v.k∧u.t=v.t∧u.n=v.n∧(pl=true→u.line=v.line∧u.col=v.col)
structure RowSim(pl:Bool)(L M:List TokV):Prop where
 len:L.length=M.length
 tok:∀ a,TokSim pl (Zv L a) (Zv M a)
def FltSim(pl:Bool)(F G:Int×Nat×Nat):Prop:=F.1=G.1∧(pl=true→F=G)
def StSim(pl:Bool):St→St→Prop
 |.ok a d,.ok b e=>a=b∧d=e
 |.bad F,.bad G=>FltSim pl F G
 |_,_=>False
theorem StSim.good{pl:Bool}:∀{s t:St},StSim pl s t→s.good=t.good
 |.ok _ _,.ok _ _,_=>rfl
 |.bad _,.bad _,_=>rfl
section
variable {pl:Bool} {L M:List TokV} (h:RowSim pl L M)
include h
end
theorem Zgg{L:List TokV}{t:ByteArray}:∀{s:St},(Yw L t s).good=true→s.good=true
 |.ok a d,_=>rfl
 |.bad F,h=>h
theorem Zbx{L:List TokV}{ws:List ByteArray}:∀{s:St},(Zm L ws s).good=true→s.good=true
 |.ok a d,_=>rfl
 |.bad F,h=>h
theorem Zou:∀{s:St},(upS s).good=true→s.good=true
 |.ok a d,_=>rfl
 |.bad F,h=>h
theorem filters_stop0(nk:Int)(L:List TokV)(n:Nat)(F:Int×Nat×Nat):Yc nk L (n+1) (.bad F)=([],.bad F):=by rw[Yc];exact if_pos rfl
theorem Zmi{nk:Int}{L:List TokV}:∀{n:Nat}{s:St},(Yc nk L n s).2.good=true→s.good=true
 |_,.ok a d,_=>rfl
 |0,.bad F,h=>h
 |n+1,.bad F,h=>by rw[filters_stop0 nk L n F]at h;exact h
section
variable {pl:Bool} {L M:List TokV} (h:RowSim pl L M) (a b:Int)
include h
end
section
variable {nk:Int} {L:List TokV}
theorem Zhv:∀ n:Nat,(∀ F,(Yd nk L n (.bad F)).2=.bad F)∧(∀ e F,(Ud nk L n (e,.bad F)).2=.bad F)∧(∀ F,(Wz nk L n (.bad F)).2=.bad F)∧(∀ e F,(Uc nk L n (e,.bad F)).2=.bad F)∧(∀ F,(Wf nk L n (.bad F)).2=.bad F)
 |0=>⟨fun F=>rfl,fun e F=>rfl,fun F=>rfl,fun e F=>rfl,fun F=>rfl⟩
 |n+1=>by
  obtain⟨e1,e2,e3,e4,e5⟩:=Zhv n;refine⟨fun F=>?_,fun e F=>?_,fun F=>?_,fun e F=>?_,fun F=>?_⟩
  ·rw[Yd]
   have:Wz nk L n (.bad F)=((Wz nk L n (.bad F)).1,.bad F):=Prod.ext rfl (e3 F);rw[this];exact e2 _ F
  ·rw[Ud]
   show(if(0:Nat)=0 then(e,St.bad F)else _).2=_;rw[if_pos rfl]
  ·rw[Wz]
   have:Wf nk L n (.bad F)=((Wf nk L n (.bad F)).1,.bad F):=Prod.ext rfl (e5 F);rw[this];exact e4 _ F
  ·rw[Uc]
   show(if false=true then _ else(e,St.bad F)).2=_;rw[if_neg Bool.false_ne_true]
  ·rw[Wf]
   have h1:¬ isS L Wo (.bad F)=true:=Bool.false_ne_true;have h2:Zj L Yy (.bad F)=0:=rfl;rw[if_neg h1,if_pos h2];rfl
theorem Zhr{n:Nat}:∀{s:St},(Yd nk L n s).2.good=true→s.good=true
 |.ok a d,_=>rfl
 |.bad F,h=>by rw[(Zhv n).1 F]at h;exact h
theorem Zov:∀{s:St},(toS L s).good=true→s.good=true
 |.ok a d,_=>rfl
 |.bad F,h=>h
end
def AHSim(pl:Bool)(x y:AH):Prop:=x = { y with line:=x.line,col:=x.col }∧(pl=true→x.line=y.line∧x.col=y.col)
section
variable {pl:Bool} {L M:List TokV} (h:RowSim pl L M) (a b:Int)
include h
end
def AcsSim(pl:Bool):Acs→Acs→Prop
 |.nil,.nil=>True
 |.cons h t e r,.cons h' t' e' r'=>AHSim pl h h'∧AcsSim pl t t'∧AcsSim pl e e'∧AcsSim pl r r'
 |_,_=>False
theorem acts_bad{nk:Int}{L:List TokV}:∀(n:Nat)(F:Int×Nat×Nat),(Vn nk L n (.bad F)).2=.bad F
 |0,F=>rfl
 |n+1,F=>by
  have h2:Zj L Xo (.bad F)=0:=rfl;rw[Vn,if_pos h2]
theorem Zng{nk:Int}{L:List TokV}{n:Nat}:∀{s:St},(Vn nk L n s).2.good=true→s.good=true
 |.ok a d,_=>rfl
 |.bad F,h=>by rw[acts_bad n F]at h;exact h
theorem Zim{nk:Int}{L:List TokV}:∀{n:Nat}{s:St},(Yv nk L n s).2.good=true→s.good=true
 |_,.ok a d,_=>rfl
 |0,.bad F,h=>h
 |n+1,.bad F,h=>by
  rw[Yv]at h;have h1:=Zng (Zgg (Zou h));exact h1
theorem good_take{L:List TokV}{t:ByteArray}:∀{s:St},(Xy L t s).good=true→s.good=true
 |.ok a d,_=>rfl
 |.bad F,h=>h
section
variable {pl:Bool} {L M:List TokV} (h:RowSim pl L M) (a b:Int)
include h
end
section
variable {pl:Bool} {L M:List TokV} (h:RowSim pl L M) (a b:Int)
include h
end
structure PT where
 k:Int
 t:ByteArray
 n:Int
def PT.v(p:PT):TokV:=⟨p.k,p.t,p.n,0,0,0⟩
def Fit(v:TokV)(p:PT):Prop:=v.k=p.k∧v.t=p.t∧v.n=p.n
theorem n1:(1:Int)≠0:=by decide
theorem n4:(4:Int)≠0:=by decide
def wd(ws:List ByteArray)(k:Int):ByteArray:=ws[k.toNat - 1]?.getD ⟨#[]⟩
section
variable {L:List TokV}
end
def Zlo(s:ByteArray):Prop:=Zct s=true∧(∀ x ∈ bL s,0≤x∧x<256∧x≠34)
def VFl(f:Fl):Prop:=
 ((f.kind=1∨f.kind=2)∧(1≤f.op∧f.op≤6)∧(-99≤f.n∧f.n≤99)∧f.name=⟨#[]⟩)∨(f.kind=3∧f.op=0∧f.n=0∧Zlo f.name) ∨
   ((f.kind=4∨f.kind=5)∧f.op=0∧f.n=0∧f.name=⟨#[]⟩)
def VSe(s:Se):Prop:=
 ((s.kind=1∨s.kind=2)∧s.side=0∧s.wh=0∧s.lane=0∧s.fs=[]∧s.pick=0) ∨
   (s.kind=3∧(1≤s.side∧s.side≤3)∧(1≤s.wh∧s.wh≤4)∧(0≤s.lane∧s.lane≤99)∧(s.wh≠3→s.lane=0)∧(∀ f ∈ s.fs,VFl f)∧(1≤s.pick∧s.pick≤5))
section
variable {L:List TokV} {nk:Int}
def VTo(k l:Int):Prop:=((1≤k∧k≤3)∧l=0)∨(k=4∧0≤l∧l≤99)
end
theorem rest_next(t:ByteArray){q:Nat}{c:Int}{r:List Int}(h:Zl t q=c::r):q<t.size∧(gB t q:Int)=c∧Zl t (q+1)=r:=by
 have hlen:=congrArg List.length h;rw[Xp,List.length_cons]at hlen;have hq:q<t.size:=by omega
 have hc:=Xa t hq;rw[h]at hc;exact⟨hq,(List.cons.inj hc).1.symm,(List.cons.inj hc).2.symm⟩
def SimC(L M:List TokV):Prop:=L.length=M.length∧∀(i:Nat)(h:i<L.length)(h':i<M.length),(M[i]'h').k=(L[i]'h).k∧(M[i]'h').t=(L[i]'h).t∧(M[i]'h').n=(L[i]'h).n
theorem SimC.cons{u v:TokV}{L M:List TokV}(h:SimC L M)(h1:v.k=u.k)(h2:v.t=u.t)(h3:v.n=u.n):SimC (u::L) (v::M):=by
 refine⟨by simp[h.1],fun i hi hi'=>?_⟩;cases i with
 |zero=>exact⟨h1,h2,h3⟩
 |succ i=>exact h.2 i (by simpa using hi) (by simpa using hi')
def Like:List TokV→List PT→Prop
 |[],[]=>True
 |v::l,p::m=>Fit v p∧Like l m
 |_,_=>False
theorem Like.app:∀{A:List TokV}{S:List PT}{B:List TokV}{T:List PT},Like A S→Like B T→Like (A++B) (S++T)
 |[],[],_,_,_,h=>h
 |v::l,p::m,_,_,h,h'=>⟨h.1,Like.app h.2 h'⟩
theorem Like.len:∀{A:List TokV}{S:List PT},Like A S→A.length=S.length
 |[],[],_=>rfl
 |v::l,p::m,h=>by simp only[List.length_cons,Like.len h.2]
def SafeB(c:Int):Prop:=c=32∨c=10∨c=41∨c=59
def Safe:List Int→Prop
 |[]=>True
 |c::_=>SafeB c
def Byt(X:List Int):Prop:=∀ x ∈ X,0≤x∧x<256
def Scn(cl:Bool)(X:List Int)(T:List PT):Prop:=
 Byt X∧∀(t:ByteArray)(q:Nat)(R:List Int)(acc:List TokV),Zl t q=X++R→(cl=true∨Safe R)→∃ M,Js t q acc=Js t (q+X.length) (acc++M)∧Like M T
theorem rest_app{t:ByteArray}{q:Nat}{X R:List Int}(h:Zl t q=X++R):Zl t (q+X.length)=R:=by
 rw[←restL_drop,h,List.drop_append_of_le_length (Nat.le_refl _),List.drop_of_length_le (Nat.le_refl _),List.nil_append]
theorem Scn.nil:Scn true [] []:=⟨(fun x hx=>by cases hx),fun t q R acc hr _=>⟨[],by simp,trivial⟩⟩
theorem Scn.app{b c:Bool}{X Y:List Int}{S T:List PT}(h1:Scn b X S)(h2:Scn c Y T)(hs:b=true∨(∃ x r,Y=x::r∧SafeB x)):Scn c (X++Y) (S++T):=by
 refine⟨fun x hx=>(List.mem_append.1 hx).elim (h1.1 x) (h2.1 x),?_⟩;intro t q R acc hr hc;rw[List.append_assoc]at hr
 obtain⟨M,e1,l1⟩:=h1.2 t q (Y++R) acc hr (by
  rcases hs with h | ⟨x,r,hx,h⟩
  ·exact .inl h
  ·right;rw[hx];exact h)
 obtain⟨M',e2,l2⟩:=h2.2 t (q+X.length) R (acc++M) (rest_app hr) hc;refine⟨M++M',?_,l1.app l2⟩;rw[e1,e2,List.length_append,Nat.add_assoc,List.append_assoc]
theorem Scn.then{c:Bool}{X Y:List Int}{S T:List PT}(h1:Scn true X S)(h2:Scn c Y T):Scn c (X++Y) (S++T):=h1.app h2 (.inl rfl)
theorem Scn.blank{x:Int}(h:x=32∨x=10):Scn true [x] []:=by
 refine⟨fun y hy=>by rw[List.mem_singleton]at hy;omega,?_⟩;intro t q R acc hr _;obtain⟨h1,h2,_⟩:=rest_next t (show Zl t q=x::R from hr);refine⟨[],?_,trivial⟩;rw[Zdl t acc h1 (by rw[Zef];omega)];simp
def Znv(t:ByteArray):List Int:=34::(bL t++[34])
def Ex.isBin:Ex→Bool
 |.leaf .. =>false
 |.bin .. =>true
def Ex.isSum:Ex→Bool
 |.leaf .. =>false
 |.bin o _ _=>decide (o<3)
def Zap(right:Bool)(op:Int)(x:Ex):Bool:=(decide (op=3) && x.isSum) || (right && x.isBin && (x.isSum || decide (op=3)))
theorem Znf:∀{x:Ex},x.isSum=true→x.isBin=true
 |.leaf ..,h=>h
 |.bin ..,_=>rfl
theorem must_sum{op:Int}(h3:op≠3)(l r:Ex):Zap false op l=false∧Zap true op r=r.isSum:=by
 constructor
 ·unfold Zap;simp[h3]
 ·unfold Zap;simp[h3]
  exact Znf
theorem must_times(l r:Ex):Zap false 3 l=l.isSum∧Zap true 3 r=r.isBin:=by
 constructor
 ·unfold Zap;simp
 ·unfold Zap;simp
  exact Znf
def VLeaf(kind n:Int)(sel:Se)(side tk tl:Int):Prop:=
 (kind=1∧(-99≤n∧n≤99)∧sel=zSe∧side=0∧tk=0∧tl=0)∨((kind=2∨kind=3)∧n=0∧VSe sel∧side=0∧tk=0∧tl=0) ∨
   (kind=4∧n=0∧sel=zSe∧side=0∧tk=0∧tl=0)∨(kind=5∧n=0∧sel=zSe∧(1≤side∧side≤3)∧tk=0∧tl=0) ∨
   (kind=6∧n=0∧sel=zSe∧(1≤side∧side≤3)∧VTo tk tl)
def VEx:Ex→Prop
 |.leaf kind n sel side tk tl=>VLeaf kind n sel side tk tl
 |.bin op l r=>(1≤op∧op≤3)∧VEx l∧VEx r
def kD(b:Bool)(n:Nat):Nat:=if b=true then n+1 else n
def pD:Ex→Nat
 |.leaf .. =>0
 |.bin op l r=>max (kD (Zap false op l) (pD l)) (kD (Zap true op r) (pD r))
section
variable {L:List TokV} {nk:Int}
end
def Zfq(d:Nat)(h:AH):Prop:=
 ((h.kind=1∨h.kind=2∨h.kind=12)∧h = { AH.zero h.kind h.line h.col with sel:=h.sel,num:=h.num }∧VSe h.sel∧VEx h.num∧pD h.num+d≤8) ∨
 ((h.kind=3∨h.kind=5∨h.kind=14)∧h = { AH.zero h.kind h.line h.col with sel:=h.sel }∧VSe h.sel) ∨
 (h.kind=4∧h = { AH.zero h.kind h.line h.col with sel:=h.sel,tk:=h.tk,tl:=h.tl }∧VSe h.sel∧VTo h.tk h.tl) ∨
 (h.kind=6∧h = { AH.zero h.kind h.line h.col with name:=h.name,side:=h.side,tk:=h.tk,tl:=h.tl,num:=h.num }∧Zlo h.name∧(1≤h.side∧h.side≤3)∧VTo h.tk h.tl∧VEx h.num∧pD h.num+d≤8) ∨
 ((h.kind=7∨h.kind=9)∧h = { AH.zero h.kind h.line h.col with side:=h.side,num:=h.num }∧(1≤h.side∧h.side≤3)∧VEx h.num∧pD h.num+d≤8) ∨
 (h.kind=8∧h = { AH.zero h.kind h.line h.col with side:=h.side,how:=h.how }∧(1≤h.side∧h.side≤3)∧(1≤h.how∧h.how≤4)) ∨
 ((h.kind=13∨h.kind=15)∧h = { AH.zero h.kind h.line h.col with side:=h.side,tk:=h.tk,tl:=h.tl }∧(1≤h.side∧h.side≤3)∧VTo h.tk h.tl)
def Zof(d:Nat)(h:AH):Prop:=h = { AH.zero 10 h.line h.col with cop:=h.cop,cl:=h.cl,cr:=h.cr }∧(1≤h.cop∧h.cop≤6)∧(VEx h.cl∧pD h.cl+d≤8)∧(VEx h.cr∧pD h.cr+d≤8)
def VEach(h:AH):Prop:=h = { AH.zero 11 h.line h.col with sel:=h.sel }∧VSe h.sel
def Um:Nat→Acs→Prop
 |_,.nil=>True
 |d,.cons h t e r=>((d<8∧Zof d h∧Um (d+1) t∧Um (d+1) e)∨(d<8∧VEach h∧Um (d+1) t∧e=.nil)∨(Zfq d h∧t=.nil∧e=.nil))∧Um d r
def Acs.isNil:Acs→Bool
 |.nil=>true
 |.cons .. =>false
theorem Zof.kind{d:Nat}{h:AH}(v:Zof d h):h.kind=10:=(congrArg AH.kind v.1 :)
theorem VEach.kind{h:AH}(v:VEach h):h.kind=11:=(congrArg AH.kind v.1 :)
theorem Zfq.kind{d:Nat}{h:AH}(v:Zfq d h):1≤h.kind∧h.kind≤15∧h.kind≠10∧h.kind≠11:=by
 rcases v with⟨k,_⟩ | ⟨k,_⟩ | ⟨k,_⟩ | ⟨k,_⟩ | ⟨k,_⟩ | ⟨k,_⟩ | ⟨k,_⟩<;>omega
theorem Znl{d:Nat}{h:AH}{t e r:Acs}(v:Um d (.cons h t e r)):1≤h.kind∧h.kind≤15:=by
 rcases v.1 with⟨_,v,_⟩ | ⟨_,v,_⟩ | ⟨v,_⟩
 ·rw[v.kind];exact⟨by decide,by decide⟩
 ·rw[v.kind];exact⟨by decide,by decide⟩
 ·exact⟨v.kind.1,v.kind.2.1⟩
section
variable {L:List TokV} {nk:Int}
theorem AHSim.any(h:AH)(l c:Int):AHSim false h { h with line:=l,col:=c }:=⟨rfl,fun hh=>by cases hh⟩
theorem AcsSim.isNil{pl:Bool}{x y:Acs}(h:AcsSim pl x y):x.isNil=y.isNil:=by
 cases x with
 |nil=>cases y with
  |nil=>rfl
  |cons h' t' e' r'=>exact h.elim
 |cons h' t' e' r'=>cases y with
  |nil=>exact h.elim
  |cons h' t' e' r'=>rfl
end
section
variable {L:List TokV} {nk:Int}
end
structure Zar(L:List TokV):Prop where
 int:∀ a,(Zv L a).k=2→0≤(Zv L a).n∧(Zv L a).n≤99
 name:∀ a,(Zv L a).k=3→Zlo (Zv L a).t
def AtD(d:Nat)(st:St):Prop:=∃ a,st=.ok a d
theorem Zko{F:Int×Nat×Nat}{a d:Nat}(h:(Uh F (.ok a d)).good=true):F.1=0∧Uh F (.ok a d)=.ok a d:=by
 have e:Uh F (.ok a d)=if F.1=0 then .ok a d else .bad F:=rfl
 rw[e]at h ⊢;by_cases h0:F.1=0
 ·rw[if_pos h0];exact⟨h0,rfl⟩
 ·rw[if_neg h0]at h;cases h
section
variable {L:List TokV} {nk:Int}
theorem Zaz{ws:List ByteArray}{st:St}{d:Nat}(h:(Zm L ws st).good=true)(ha:AtD d st):AtD d (Zm L ws st)∧1≤(Zj L ws st:Int)∧(Zj L ws st:Int)≤ws.length:=by
 obtain⟨a,rfl⟩:=ha;unfold Zm at h ⊢;by_cases h0:Zj L ws (.ok a d)=0
 ·rw[if_pos h0]at h;cases h
 ·rw[if_neg h0]
  have h0':¬ Zac (Zv L a) ws=0:=h0;have hle:=Zeg (Zv L a) ws;refine⟨⟨onA L a,?_⟩,?_,?_⟩
  ·show(if Zac (Zv L a) ws=0 then St.ok a d else .ok (onA L a) d)=_
   rw[if_neg h0']
  ·have:Zj L ws (.ok a d)=Zac (Zv L a) ws:=rfl
   omega
  ·have:Zj L ws (.ok a d)=Zac (Zv L a) ws:=rfl
   omega
theorem Zin{ws:List ByteArray}{st:St}{d:Nat}(ha:AtD d st):AtD d (Yu L ws st):=by
 obtain⟨a,rfl⟩:=ha;show AtD d (if Zac (Zv L a) ws=0 then St.ok a d else .ok (onA L a) d);split
 ·exact⟨_,rfl⟩
 ·exact⟨_,rfl⟩
theorem take_at{t:ByteArray}{st:St}{d:Nat}(ha:AtD d st):AtD d (Xy L t st):=by
 obtain⟨a,rfl⟩:=ha;exact⟨_,rfl⟩
theorem Zoi{t:ByteArray}{st:St}{d:Nat}(h:(Yw L t st).good=true)(ha:AtD d st):AtD d (Yw L t st):=by
 unfold Yw at h ⊢;split at h
 ·rename_i h0;rw[if_pos h0];exact take_at ha
 ·obtain⟨a,rfl⟩:=ha;cases h
theorem int_at(hR:Zar L){st:St}{d:Nat}(h:(Zcu L st).good=true)(ha:AtD d st):AtD d (Zcu L st)∧0≤Zfz L st∧Zfz L st≤99:=by
 obtain⟨a,rfl⟩:=ha;obtain⟨h0,e⟩:=Zko h
 have hk:(Zv L a).k=2:=by
  unfold We at h0;split at h0
  ·assumption
  ·exact absurd h0 (Zfm _)
 refine⟨⟨_,e⟩,?_⟩;have e2:Zfz L (.ok a d)=(Zv L a).n:=by show Zjb L a=_;unfold Zjb;rw[if_pos hk]
 rw[e2];exact hR.int a hk
theorem name_at(hR:Zar L){st:St}{d:Nat}(h:(Jt L st).good=true)(ha:AtD d st):AtD d (Jt L st)∧Zlo (Zfu L st):=by
 obtain⟨a,rfl⟩:=ha;obtain⟨h0,e⟩:=Zko h
 have hk:(Zv L a).k=3:=by
  unfold We at h0;split at h0
  ·assumption
  ·exact absurd h0 (Zfm _)
 refine⟨⟨_,e⟩,?_⟩;have e2:Zfu L (.ok a d)=(Zv L a).t:=by show Zkx L a=_;unfold Zkx;rw[if_pos hk]
 rw[e2];exact hR.name a hk
theorem sign_at(hR:Zar L){st:St}{d:Nat}(h:(Zal L st).good=true)(ha:AtD d st):AtD d (Zal L st) ∧ -99≤Zbt L st∧Zbt L st≤99:=by
 obtain⟨a,rfl⟩:=ha;obtain⟨h0,e⟩:=Zko h;refine⟨⟨_,e⟩,?_⟩;show -99≤Zix L a∧Zix L a≤99;unfold Zbd We at h0;unfold Zix Zjb;by_cases hm:isT (Zv L a) Zmd=true
 ·rw[if_pos hm]at h0 ⊢
  by_cases hk:(Zv L (onA L a)).k=2
  ·rw[if_pos hk];have:=hR.int _ hk;omega
  ·rw[if_neg hk];omega
 ·rw[if_neg hm]at h0 ⊢
  by_cases hk:(Zv L a).k=2
  ·rw[if_pos hk];have:=hR.int _ hk;omega
  ·rw[if_neg hk];omega
theorem down_at{t:ByteArray}{st:St}{d:Nat}(h:(Vl L t st).good=true)(ha:AtD d st):AtD (d+1) (Vl L t st)∧d≠8:=by
 obtain⟨a,rfl⟩:=ha;unfold Vl at h ⊢;have hg:=Zgg h;have hd:Zhd L t (.ok a d)=if isT (Zv L a) t=true then Uh (Uu L a d) (.ok a (Zby d))else .ok a d:=rfl
 rw[hd]at h hg ⊢;by_cases ht:isT (Zv L a) t=true
 ·rw[if_pos ht]at h hg ⊢
  obtain⟨h0,e⟩:=Zko hg
  have h8:d≠8:=by
   intro h8;unfold Uu at h0;rw[if_pos h8]at h0;exact absurd h0 (by simp)
  rw[e]at h ⊢;have e1:Zby d=d+1:=by unfold Zby;rw[if_neg h8]
  rw[e1]at h ⊢;exact⟨Zoi h ⟨_,rfl⟩,h8⟩
 ·rw[if_neg ht]at h
  unfold Yw at h;have:¬ isS L t (.ok a d)=true:=ht;rw[if_neg this]at h;cases h
theorem rise_at{t:ByteArray}{st:St}{d:Nat}(h:(Zft L t st).good=true)(ha:AtD (d+1) st):AtD d (Zft L t st):=by
 unfold Zft at h ⊢;obtain⟨b,e⟩:=Zoi (Zou h) ha;rw[e];exact⟨b,rfl⟩
theorem good_sign:∀{s:St},(Zal L s).good=true→s.good=true
 |.ok a d,_=>rfl
 |.bad F,h=>h
theorem good_int:∀{s:St},(Zcu L s).good=true→s.good=true
 |.ok a d,_=>rfl
 |.bad F,h=>h
theorem filter_val(hR:Zar L){k:Nat}(hk:1≤k∧k≤4){st:St}{d:Nat}(h:(Wv nk L k st).2.good=true)(ha:AtD d st):AtD d (Wv nk L k st).2∧VFl (Wv nk L k st).1:=by
 unfold Wv at h ⊢;by_cases h12:k=1∨k=2
 ·rw[if_pos h12]at h ⊢
  have h':(Zal L (Zm L wOp st)).good=true:=h;obtain⟨a1,f1,f2⟩:=Zaz (good_sign h') ha;obtain⟨a2,f3,f4⟩:=sign_at hR h' a1;exact⟨a2,.inl ⟨(by show(k:Int)=1∨(k:Int)=2;omega),⟨f1,f2⟩,⟨f3,f4⟩,rfl⟩⟩
 ·rw[if_neg h12]at h ⊢
  by_cases h3:k=3
  ·rw[if_pos h3]at h ⊢
   obtain⟨a1,f1⟩:=name_at hR h ha;exact⟨a1,.inr (.inl ⟨rfl,rfl,rfl,f1⟩)⟩
  ·rw[if_neg h3]at h ⊢
   have h':(Zm L Vb st).good=true:=h;obtain⟨a1,f1,f2⟩:=Zaz h' ha;have f2':(Zj L Vb st:Int)≤2:=f2;refine⟨a1,.inr (.inr ⟨?_,rfl,rfl,rfl⟩)⟩;dsimp only;rw[if_neg (by omega)];omega
theorem Znz(hR:Zar L):∀(n:Nat)(st:St)(d:Nat),(Yc nk L n st).2.good=true→AtD d st→AtD d (Yc nk L n st).2∧∀ f ∈ (Yc nk L n st).1,VFl f
 |0,st,d,h,ha=>⟨ha,fun f hf=>by cases hf⟩
 |n+1,st,d,h,ha=>by
  rw[Yc]at h ⊢;by_cases h0:Zj L Ye st=0
  ·rw[if_pos h0];exact⟨ha,fun f hf=>by cases hf⟩
  ·rw[if_neg h0]at h ⊢
   dsimp only at h ⊢;have hle:Zj L Ye st≤4:=by obtain⟨a,rfl⟩:=ha;exact Zeg (Zv L a) Ye
   have hg:=Zmi h;obtain⟨a1,v1⟩:=filter_val hR ⟨by omega,hle⟩ hg (Zin ha);obtain⟨a2,v2⟩:=Znz hR n _ d h a1;refine⟨a2,fun f hf=>?_⟩;rcases List.mem_cons.1 hf with rfl | hf
   ·exact v1
   ·exact v2 f hf
theorem where_val(hR:Zar L){st:St}{d:Nat}(h:(Zax L st).good=true)(ha:AtD d st) :
  AtD d (Zax L st)∧(1≤(Un L st).1∧(Un L st).1≤3)∧(1≤(Un L st).2.1∧(Un L st).2.1≤4)∧(0≤(Un L st).2.2∧(Un L st).2.2≤99)∧((Un L st).2.1≠3→(Un L st).2.2=0):=by
 unfold Zax at h ⊢;unfold Un;dsimp only;by_cases h3:Zj L Zw (Zm L Zg st)=3
 ·rw[if_pos h3]at h ⊢
  have g1:=good_int h;obtain⟨a1,f1⟩:=Zaz (Zbx g1) ha;obtain⟨a2,f2⟩:=Zaz g1 a1;obtain⟨a3,f3⟩:=int_at hR h a2;rw[if_pos h3];exact⟨a3,f1,f2,f3,fun hh=>by omega⟩
 ·rw[if_neg h3]at h ⊢
  obtain⟨a1,f1⟩:=Zaz (Zbx h) ha;obtain⟨a2,f2⟩:=Zaz h a1;rw[if_neg h3];exact⟨a2,f1,f2,by omega,fun _=>rfl⟩
theorem Zlt(hR:Zar L){n:Nat}{st:St}{d:Nat}(h:(Xr nk L n st).2.good=true)(ha:AtD d st):AtD d (Xr nk L n st).2∧VSe (Xr nk L n st).1:=by
 unfold Xr at h ⊢;by_cases h3:Zj L Ym st=3
 ·rw[if_pos h3]at h ⊢
  dsimp only at h ⊢;have g1:=Zgg h;have g2:=Zmi (Zbx g1)
  have g3:(Zm L Ym st).good=true:=by
   unfold Zax at g2;split at g2
   ·exact Zbx (Zbx (good_int g2))
   ·exact Zbx (Zbx g2)
  obtain⟨a1,_⟩:=Zaz g3 ha;obtain⟨a2,f2,f3,f4,f5⟩:=where_val hR g2 a1;obtain⟨a3,f6⟩:=Znz hR n _ d (Zbx g1) a2;obtain⟨a4,f7⟩:=Zaz g1 a3;exact⟨Zoi h a4,.inr ⟨rfl,f2,f3,f4,f5,f6,f7⟩⟩
 ·rw[if_neg h3]at h ⊢
  obtain⟨a1,f1,f2⟩:=Zaz h ha;have f2':(Zj L Ym st:Int)≤3:=f2;refine⟨a1,.inl ⟨?_,rfl,rfl,rfl,rfl,rfl⟩⟩;dsimp only;omega
theorem to_val(hR:Zar L){st:St}{d:Nat}(h:(toS L st).good=true)(ha:AtD d st):AtD d (toS L st)∧VTo (toK L st) (toL L st):=by
 unfold toS at h ⊢;unfold toK toL;by_cases h4:Zj L wTo st=4
 ·rw[if_pos h4]at h ⊢
  obtain⟨a1,_⟩:=Zaz (good_int h) ha;obtain⟨a2,f⟩:=int_at hR h a1;rw[if_pos h4];exact⟨a2,.inr ⟨by omega,f⟩⟩
 ·rw[if_neg h4]at h ⊢
  obtain⟨a1,f1,f2⟩:=Zaz h ha;have f2':(Zj L wTo st:Int)≤4:=f2;rw[if_neg h4];exact⟨a1,.inl ⟨by omega,rfl⟩⟩
def GE(d:Nat)(x:Ex):Prop:=VEx x∧pD x+d≤8
def GP(d:Nat)(x:Ex):Prop:=VEx x∧pD x+d≤8∧(x.isSum=true→pD x+1+d≤8)
def GF(d:Nat)(x:Ex):Prop:=VEx x∧pD x+d≤8∧(x.isBin=true→pD x+1+d≤8)
theorem GF.gp{d:Nat}{x:Ex}(h:GF d x):GP d x:=⟨h.1,h.2.1,fun hs=>h.2.2 (Znf hs)⟩
theorem GP.ge{d:Nat}{x:Ex}(h:GP d x):GE d x:=⟨h.1,h.2.1⟩
theorem kd_bd{b:Bool}{n d:Nat}(h:n+d≤8)(h2:b=true→n+1+d≤8):kD b n+d≤8:=by
 unfold kD;split
 ·rename_i hb;have:=h2 hb;omega
 ·exact h
theorem ge_bin{d:Nat}{op:Int}{l r:Ex}(ho:1≤op∧op≤2)(hl:GE d l)(hr:GP d r):GE d (.bin op l r):=by
 obtain⟨m1,m2⟩:=must_sum (show op≠3 from by omega) l r;refine⟨⟨⟨ho.1,by omega⟩,hl.1,hr.1⟩,?_⟩;rw[pD,m1,m2];have:=kd_bd (b:=r.isSum) hr.2.1 hr.2.2;have h1:kD false (pD l)=pD l:=rfl;have:=hl.2;omega
theorem gp_bin{d:Nat}{l r:Ex}(hl:GP d l)(hr:GF d r):GP d (.bin 3 l r):=by
 obtain⟨m1,m2⟩:=must_times l r;refine⟨⟨by decide,hl.1,hr.1⟩,?_,fun h=>by cases h⟩;rw[pD,m1,m2];have:=kd_bd (b:=l.isSum) hl.2.1 hl.2.2;have:=kd_bd (b:=r.isBin) hr.2.1 hr.2.2;omega
theorem good_prodL{n:Nat}:∀{x:Ex×St},(Uc nk L n x).2.good=true→x.2.good=true
 |(e,.ok a d),_=>rfl
 |(e,.bad F),h=>by rw[(Zhv n).2.2.2.1 e F]at h;exact h
theorem good_exprL{n:Nat}:∀{x:Ex×St},(Ud nk L n x).2.good=true→x.2.good=true
 |(e,.ok a d),_=>rfl
 |(e,.bad F),h=>by rw[(Zhv n).2.1 e F]at h;exact h
theorem exprs_val(hR:Zar L):∀ n:Nat,
  (∀ st d,4*Yb L st+3≤n→d≤8→(Yd nk L n st).2.good=true→AtD d st→AtD d (Yd nk L n st).2∧GE d (Yd nk L n st).1) ∧
  (∀ x d,4*Yb L x.2≤n→d≤8→(Ud nk L n x).2.good=true→AtD d x.2→GE d x.1→AtD d (Ud nk L n x).2∧GE d (Ud nk L n x).1) ∧
  (∀ st d,4*Yb L st+2≤n→d≤8→(Wz nk L n st).2.good=true→AtD d st→AtD d (Wz nk L n st).2∧GP d (Wz nk L n st).1) ∧
  (∀ x d,4*Yb L x.2≤n→d≤8→(Uc nk L n x).2.good=true→AtD d x.2→GP d x.1→AtD d (Uc nk L n x).2∧GP d (Uc nk L n x).1) ∧
  (∀ st d,4*Yb L st+1≤n→d≤8→(Wf nk L n st).2.good=true→AtD d st→AtD d (Wf nk L n st).2∧GF d (Wf nk L n st).1)
 |0=>by
  refine⟨fun st d h=>by omega,fun x d _ _ _ ha hg=>⟨ha,hg⟩,fun st d h=>by omega,fun x d _ _ _ ha hg=>⟨ha,hg⟩,fun st d h=>by omega⟩
 |n+1=>by
  obtain⟨i1,i2,i3,i4,i5⟩:=exprs_val hR n;refine⟨fun st d hn hd h ha=>?_,fun x d hn hd h ha hg=>?_,fun st d hn hd h ha=>?_,fun x d hn hd h ha hg=>?_,fun st d hn hd h ha=>?_⟩
  ·rw[Yd]at h ⊢
   have r1:=Zfb L nk n st;obtain⟨a1,g1⟩:=i3 st d (by omega) hd (good_exprL h) ha;exact i2 _ d (by omega) hd h a1 g1.ge
  ·rw[Ud]at h ⊢
   by_cases h0:Zj L Jx x.2=0
   ·rw[if_pos h0];exact⟨ha,hg⟩
   ·rw[if_neg h0]at h ⊢
    have r1:=Zao L h0;have r2:=Zfb L nk n (Yu L Jx x.2);have hp:=good_exprL h;obtain⟨a1,g1⟩:=i3 _ d (by omega) hd hp (Zin ha);have hle:Zj L Jx x.2≤2:=by obtain⟨a,e⟩:=ha;rw[e];exact Zeg (Zv L a) Jx
    exact i2 _ d (by dsimp only;omega) hd h a1 (ge_bin ⟨by omega,by omega⟩ hg g1)
  ·rw[Wz]at h ⊢
   have r1:=Zfd L nk n st;obtain⟨a1,g1⟩:=i5 st d (by omega) hd (good_prodL h) ha;exact i4 _ d (by omega) hd h a1 g1.gp
  ·rw[Uc]at h ⊢
   by_cases h0:isS L Wr x.2=true
   ·rw[if_pos h0]at h ⊢
    have r1:=Zfa L h0;have r2:=Zfd L nk n (Xy L Wr x.2);have hp:=good_prodL h;obtain⟨a1,g1⟩:=i5 _ d (by omega) hd hp (take_at ha);exact i4 _ d (by dsimp only;omega) hd h a1 (gp_bin hg g1)
   ·rw[if_neg h0];exact⟨ha,hg⟩
  ·rw[Wf]at h ⊢
   have leaf0:∀{kind n':Int}{sel:Se}{side tk tl:Int},VLeaf kind n' sel side tk tl→GF d (.leaf kind n' sel side tk tl):=fun hv=>⟨hv,by rw[pD];omega,fun hh=>by cases hh⟩
   by_cases ho:isS L Wo st=true
   ·rw[if_pos ho]at h ⊢
    dsimp only at h ⊢;have r1:=Zih L ho;have g0:=Zgg (Zou h);obtain⟨a1,h8⟩:=down_at (Zhr g0) ha;obtain⟨a2,g1⟩:=i1 _ (d+1) (by omega) (by omega) g0 a1;exact⟨rise_at h a2,g1.1,by have:=g1.2;omega,fun _=>by have:=g1.2;omega⟩
   ·rw[if_neg ho]at h ⊢
    by_cases h0:Zj L Yy st=0
    ·rw[if_pos h0]at h ⊢
     obtain⟨a1,f1⟩:=sign_at hR h ha;exact⟨a1,leaf0 (.inl ⟨rfl,f1,rfl,rfl,rfl,rfl⟩)⟩
    ·rw[if_neg h0]at h ⊢
     have hle:Zj L Yy st≤5:=by obtain⟨a,e⟩:=ha;rw[e];exact Zeg (Zv L a) Yy
     by_cases h12:Zj L Yy st=1∨Zj L Yy st=2
     ·rw[if_pos h12]at h ⊢
      obtain⟨a1,f1⟩:=Zlt hR h (Zin ha);exact⟨a1,leaf0 (.inr (.inl ⟨by omega,rfl,f1,rfl,rfl,rfl⟩))⟩
     ·rw[if_neg h12]at h ⊢
      by_cases h3:Zj L Yy st=3
      ·rw[if_pos h3];exact⟨Zin ha,leaf0 (.inr (.inr (.inl ⟨rfl,rfl,rfl,rfl,rfl,rfl⟩)))⟩
      · rw[if_neg h3]at h ⊢
        by_cases h4:Zj L Yy st=4
        ·rw[if_pos h4]at h ⊢
         obtain⟨a1,f1⟩:=Zaz h (Zin ha);exact⟨a1,leaf0 (.inr (.inr (.inr (.inl ⟨rfl,rfl,rfl,f1,rfl,rfl⟩))))⟩
        ·rw[if_neg h4]at h ⊢
         obtain⟨a1,f1⟩:=Zaz (Zov h) (Zin ha);obtain⟨a2,f2⟩:=to_val hR h a1;exact⟨a2,leaf0 (.inr (.inr (.inr (.inr ⟨rfl,rfl,rfl,f1,f2⟩))))⟩
theorem Zhw(hR:Zar L){n:Nat}{st:St}{d:Nat}(hn:4*Yb L st+3≤n)(hd:d≤8)(h:(Yd nk L n st).2.good=true)(ha:AtD d st):AtD d (Yd nk L n st).2∧VEx (Yd nk L n st).1∧pD (Yd nk L n st).1+d≤8:=
 (exprs_val hR n).1 st d hn hd h ha
theorem plain_val(hR:Zar L){n k:Nat}{l c:Int}{st:St}{d:Nat}(hk:1≤k∧k≤15∧k≠10∧k≠11)(hn:4*Yb L st+3≤n)(hd:d≤8)(h:(Wn nk L n (AH.zero k l c) k st).2.good=true)(ha:AtD d st) :
  AtD d (Wn nk L n (AH.zero k l c) k st).2∧Zfq d (Wn nk L n (AH.zero k l c) k st).1:=by
 unfold Wn at h ⊢;unfold Zfq;by_cases c1:k=1∨k=2∨k=12
 ·rw[if_pos c1]at h ⊢
  dsimp only at h ⊢;have r:=Zab L nk n st;obtain⟨a1,f1⟩:=Zlt hR (Zhr h) ha;obtain⟨a2,f2⟩:=Zhw hR (by omega) hd h a1;exact⟨a2,.inl ⟨by show((k:Int)=1∨(k:Int)=2∨(k:Int)=12);omega,rfl,f1,f2⟩⟩
 ·rw[if_neg c1]at h ⊢
  by_cases c2:k=3∨k=5∨k=14
  ·rw[if_pos c2]at h ⊢
   dsimp only at h ⊢;obtain⟨a1,f1⟩:=Zlt hR h ha;exact⟨a1,.inr (.inl ⟨by show((k:Int)=3∨(k:Int)=5∨(k:Int)=14);omega,rfl,f1⟩)⟩
  ·rw[if_neg c2]at h ⊢
   by_cases c3:k=4
   ·rw[if_pos c3]at h ⊢
    dsimp only at h ⊢;obtain⟨a1,f1⟩:=Zlt hR (Zov h) ha;obtain⟨a2,f2⟩:=to_val hR h a1;exact⟨a2,.inr (.inr (.inl ⟨by show(k:Int)=4;omega,rfl,f1,f2⟩))⟩
   ·rw[if_neg c3]at h ⊢
    by_cases c4:k=6
    ·rw[if_pos c4]at h ⊢
     dsimp only at h ⊢;have g1:=Zhr h;have g2:=Zov g1;have r1:=Zhl L (Zm L Zg (Jt L st));have r2:=Xu L Zg (Jt L st);have r3:=Zjq L st;obtain⟨a1,f1⟩:=name_at hR (Zbx g2) ha;obtain⟨a2,f2⟩:=Zaz g2 a1;obtain⟨a3,f3⟩:=to_val hR g1 a2;obtain⟨a4,f4⟩:=Zhw hR (by omega) hd h a3;exact⟨a4,.inr (.inr (.inr (.inl ⟨by show(k:Int)=6;omega,rfl,f1,f2,f3,f4⟩)))⟩
    ·rw[if_neg c4]at h ⊢
     by_cases c5:k=7∨k=9
     ·rw[if_pos c5]at h ⊢
      dsimp only at h ⊢;have r2:=Xu L Zg st;obtain⟨a2,f2⟩:=Zaz (Zhr h) ha;obtain⟨a4,f4⟩:=Zhw hR (by omega) hd h a2;exact⟨a4,.inr (.inr (.inr (.inr (.inl ⟨by show((k:Int)=7∨(k:Int)=9);omega,rfl,f2,f4⟩))))⟩
     ·rw[if_neg c5]at h ⊢
      by_cases c6:k=8
      ·rw[if_pos c6]at h ⊢
       dsimp only at h ⊢;obtain⟨a2,f2⟩:=Zaz (Zbx h) ha;obtain⟨a3,f3⟩:=Zaz h a2;exact⟨a3,.inr (.inr (.inr (.inr (.inr (.inl ⟨by show(k:Int)=8;omega,rfl,f2,f3⟩)))))⟩
      ·rw[if_neg c6]at h ⊢
       have c7:k=13∨k=15:=by omega
       rw[if_pos c7]at h ⊢;dsimp only at h ⊢;obtain⟨a2,f2⟩:=Zaz (Zov h) ha;obtain⟨a3,f3⟩:=to_val hR h a2;exact⟨a3,.inr (.inr (.inr (.inr (.inr (.inr ⟨by show((k:Int)=13∨(k:Int)=15);omega,rfl,f2,f3⟩)))))⟩
theorem cond_val(hR:Zar L){n:Nat}{l c:Int}{st:St}{d:Nat}(hn:4*Yb L st+3≤n)(hd:d≤8)(h:(Uv nk L n (AH.zero 10 l c) st).2.good=true)(ha:AtD d st) :
  AtD d (Uv nk L n (AH.zero 10 l c) st).2∧Zof d (Uv nk L n (AH.zero 10 l c) st).1:=by
 unfold Uv at h ⊢;dsimp only at h ⊢;have r1:=Zbv L nk n st;have r2:=Xu L wOp (Yd nk L n st).2;have g1:=Zhr h;obtain⟨a1,f1⟩:=Zhw hR hn hd (Zbx g1) ha;obtain⟨a2,f2⟩:=Zaz g1 a1;obtain⟨a3,f3⟩:=Zhw hR (by omega) hd h a2;exact⟨a3,rfl,f2,f1,f3⟩
def VAO(d:Nat)(x:AO):Prop:=(d<8∧Zof d x.h∧Um (d+1) x.thn∧Um (d+1) x.els)∨(d<8∧VEach x.h∧Um (d+1) x.thn∧x.els=.nil)∨(Zfq d x.h∧x.thn=.nil∧x.els=.nil)
theorem acts_val(hR:Zar L):∀ n:Nat,
  (∀ st d,4*Yb L st+1≤n→d≤8→(Vn nk L n st).2.good=true→AtD d st→AtD d (Vn nk L n st).2∧Um d (Vn nk L n st).1) ∧
  (∀(k:Nat)(l c:Int) st d,1≤k∧k≤15→4*Yb L st+4≤n→d≤8→(Zbn nk L n (AH.zero k l c) k st).st.good=true→AtD d st →
    AtD d (Zbn nk L n (AH.zero k l c) k st).st∧VAO d (Zbn nk L n (AH.zero k l c) k st)) ∧
  (∀ st d,4*Yb L st+3≤n→d≤8→(Yv nk L n st).2.good=true→AtD d st→AtD d (Yv nk L n st).2∧Um (d+1) (Yv nk L n st).1∧d<8)
 |0=>⟨fun st d h=>by omega,fun k l c st d _ h=>by omega,fun st d h=>by omega⟩
 |n+1=>by
  obtain⟨i1,i2,i3⟩:=acts_val hR n;refine⟨fun st d hn hd h ha=>?_,fun k l c st d hk hn hd h ha=>?_,fun st d hn hd h ha=>?_⟩
  · rw[Vn]at h ⊢
    by_cases h0:Zj L Xo st=0
    ·rw[if_pos h0];exact⟨ha,trivial⟩
    ·rw[if_neg h0]at h ⊢
     dsimp only at h ⊢;have r1:=Zao L h0;have r2:=rem_act L nk n (AH.zero (Zj L Xo st) (st.tok L).line (st.tok L).col) (Zj L Xo st) (Yu L Xo st);have hle:Zj L Xo st≤15:=by obtain⟨a,e⟩:=ha;rw[e];exact Zeg (Zv L a) Xo
     obtain⟨a1,f1⟩:=i2 _ _ _ _ d ⟨by omega,hle⟩ (by omega) hd (Zng h) (Zin ha);obtain⟨a2,f2⟩:=i1 _ d (by omega) hd h a1;exact⟨a2,f1,f2⟩
  · rw[Zbn]at h ⊢
    by_cases h10:k=10
    ·rw[if_pos h10]at h ⊢
     subst h10;have r1:=Zlz L nk n (AH.zero (10:Nat) l c) st;have r2:=Zge L nk n (Uv nk L n (AH.zero (10:Nat) l c) st).2;by_cases he:isS L Ug (Yv nk L n (Uv nk L n (AH.zero (10:Nat) l c) st).2).2=true
     ·rw[if_pos he]at h ⊢
      dsimp only at h ⊢;have r3:=Zfa L he;have g1:=good_take (Zim h);obtain⟨a1,f1⟩:=cond_val hR (by omega) hd (Zim g1) ha;obtain⟨a2,f2,f3⟩:=i3 _ d (by omega) hd g1 a1;obtain⟨a3,f4,_⟩:=i3 _ d (by omega) hd h (take_at a2);exact⟨a3,.inl ⟨f3,f1,f2,f4⟩⟩
     ·rw[if_neg he]at h ⊢
      dsimp only at h ⊢;obtain⟨a1,f1⟩:=cond_val hR (by omega) hd (Zim h) ha;obtain⟨a2,f2,f3⟩:=i3 _ d (by omega) hd h a1;exact⟨a2,.inl ⟨f3,f1,f2,trivial⟩⟩
    ·rw[if_neg h10]at h ⊢
     by_cases h11:k=11
     ·rw[if_pos h11]at h ⊢
      subst h11;dsimp only at h ⊢;have r1:=Zab L nk n st;obtain⟨a1,f1⟩:=Zlt hR (Zim h) ha;obtain⟨a2,f2,f3⟩:=i3 _ d (by omega) hd h a1;exact⟨a2,.inr (.inl ⟨f3,⟨rfl,f1⟩,f2,rfl⟩)⟩
     ·rw[if_neg h11]at h ⊢
      dsimp only at h ⊢;obtain⟨a1,f1⟩:=plain_val hR ⟨hk.1,hk.2,h10,h11⟩ (by omega) hd (Zgg h) ha;exact⟨Zoi h a1,.inr (.inr ⟨f1,rfl,rfl⟩)⟩
  · rw[Yv]at h ⊢
    dsimp only at h ⊢;have g1:=Zgg (Zou h);have r1:=Zhm L Vj st;obtain⟨a1,h8⟩:=down_at (Zng g1) ha;obtain⟨a2,f2⟩:=i1 _ (d+1) (by omega) (by omega) g1 a1;exact⟨rise_at h a2,f2,by omega⟩
end
def lFl(f:Fl):List Int:=
 if f.kind=1∨f.kind=2 then bL (wd Ye f.kind)++32::(bL (wd wOp f.op)++32::Ziz f.n)else if f.kind=3 then bL (wd Ye 3)++32::Znv f.name
 else bL (wd Ye 4)++32::bL (wd Vb (f.kind - 3))
def lFls(l:List Fl):List Int:=l.flatMap fun f=>32::lFl f
def lSel(s:Se):List Int:=
 if s.kind=1∨s.kind=2 then bL (wd Ym s.kind)
 else 40::(bL (wd Zg s.side)++32::(bL (wd Zw s.wh)++((if s.wh=3 then 32::Ziz s.lane else [])++(lFls s.fs++32::(bL (wd Wm s.pick)++[41])))))
def lTo(k l:Int):List Int:=if k=4 then bL (wd wTo 4)++32::Ziz l else bL (wd wTo k)
def lB(b:Bool)(X:List Int):List Int:=if b=true then 40::(X++[41])else X
def lLeaf(kind n:Int)(sel:Se)(side tk tl:Int):List Int:=
 if kind=1 then Ziz n else if kind=2∨kind=3 then bL (wd Yy (kind - 1))++32::lSel sel else if kind=4 then bL (wd Yy 3)
 else if kind=5 then bL (wd Yy 4)++32::bL (wd Zg side)else bL (wd Yy 5)++32::(bL (wd Zg side)++32::lTo tk tl)
def cOp(op:Int):Int:=if op=3 then 42 else if op=1 then 43 else 45
def lE:Ex→List Int
 |.leaf kind n sel side tk tl=>lLeaf kind n sel side tk tl
 |.bin op l r=>lB (Zap false op l) (lE l)++32::cOp op::32::lB (Zap true op r) (lE r)
theorem Scn.lead{c:Bool}{Y:List Int}{T:List PT}(h:Scn c Y T):Scn c (32::Y) T:=(Scn.blank (.inl rfl)).then h
def lArgs(h:AH):List Int:=
 if h.kind=1∨h.kind=2∨h.kind=12 then lSel h.sel++32::lE h.num
 else if h.kind=3∨h.kind=5∨h.kind=14 then lSel h.sel
 else if h.kind=4 then lSel h.sel++32::lTo h.tk h.tl
 else if h.kind=6 then Znv h.name++32::(bL (wd Zg h.side)++32::(lTo h.tk h.tl++32::lE h.num))
 else if h.kind=7∨h.kind=9 then bL (wd Zg h.side)++32::lE h.num
 else if h.kind=8 then bL (wd Zg h.side)++32::bL (wd Zcl h.how)
 else bL (wd Zg h.side)++32::lTo h.tk h.tl
def Zne(X:List Int):List Int:=123::32::(X++[125])
def lElse(no:Bool)(e:List Int):List Int:=if no=true then []else 32::(bL Ug++32::Zne e)
def lAct(h:AH)(t e:List Int)(no:Bool):List Int:=
 bL (wd Xo h.kind)++32::(if h.kind=10 then lE h.cl++32::(bL (wd wOp h.cop)++32::(lE h.cr++32::(Zne t++lElse no e)))else if h.kind=11 then lSel h.sel++32::Zne t else lArgs h++[59])
def Zah:Acs→List Int
 |.nil=>[]
 |.cons h t e r=>lAct h (Zah t) (Zah e) e.isNil++32::Zah r
def Zmt(k l:Int):ByteArray:=if k=4 then⟨#[108,97,110,101,32]⟩++Wl l else wd wTo k
def Zlw(t:ByteArray)(f:Fl):ByteArray:=
 if f.kind=1 then t++⟨#[32,99,111,115,116,32]⟩++wd wOp f.op++⟨#[32]⟩++Wl f.n
 else if f.kind=2 then t++⟨#[32,112,111,119,101,114,32]⟩++wd wOp f.op++⟨#[32]⟩++Wl f.n
 else if f.kind=3 then t++⟨#[32,110,97,109,101,100,32,34]⟩++f.name++⟨#[34]⟩
 else if f.kind=4 then t++⟨#[32,110,111,116,32,109,101]⟩else t++⟨#[32,110,111,116,32,105,116]⟩
def rzSel0(s:Se):ByteArray:=
 if s.wh=3 then⟨#[40]⟩++wd Zg s.side++⟨#[32]⟩++wd Zw s.wh++⟨#[32]⟩++Wl s.lane else⟨#[40]⟩++wd Zg s.side++⟨#[32]⟩++wd Zw s.wh
def Zdm(s:Se):ByteArray:=
 if s.kind=1 then⟨#[109,101]⟩else if s.kind=2 then⟨#[105,116]⟩
 else s.fs.foldl Zlw (rzSel0 s)++⟨#[32]⟩++wd Wm s.pick++⟨#[41]⟩
def Zlv(op:Int):ByteArray:=if op=1 then⟨#[32,43,32]⟩else if op=2 then⟨#[32,45,32]⟩else⟨#[32,42,32]⟩
def Zmu(kind n:Int)(sel:Se)(side tk tl:Int):ByteArray:=
 if kind=1 then Wl n else if kind=2 then⟨#[99,111,117,110,116,32]⟩++Zdm sel else if kind=3 then⟨#[115,117,109,32]⟩++Zdm sel
 else if kind=4 then⟨#[114,111,117,110,100]⟩else if kind=5 then⟨#[104,97,110,100,32]⟩++wd Zg side
 else⟨#[102,114,101,101,32]⟩++wd Zg side++⟨#[32]⟩++Zmt tk tl
def rzBr(b:Bool)(x:ByteArray):ByteArray:=if b=true then⟨#[40]⟩++x++⟨#[41]⟩else x
def Zfn:Ex→ByteArray
 |.leaf kind n sel side tk tl=>Zmu kind n sel side tk tl
 |.bin op l r=>rzBr (Zap false op l) (Zfn l)++Zlv op++rzBr (Zap true op r) (Zfn r)
def Zcb(h:AH)(s:ByteArray):ByteArray:=if h.kind<6∨h.kind=11∨h.kind=12∨h.kind=14 then s++⟨#[32]⟩++Zdm h.sel else s++⟨#[32]⟩++wd Zg h.side
def Zdz(h:AH)(s:ByteArray):ByteArray:=if h.kind=6 then s++⟨#[32,34]⟩++h.name++⟨#[34]⟩else s
def Zdx(h:AH)(s:ByteArray):ByteArray:=if h.kind=4∨h.kind=6∨h.kind=13∨h.kind=15 then s++⟨#[32]⟩++Zmt h.tk h.tl else s
def Zea(h:AH)(s:ByteArray):ByteArray:=if h.kind=8 then s++⟨#[32]⟩++wd Zcl h.how else s
def Zdy(h:AH)(s:ByteArray):ByteArray:=if h.kind=1∨h.kind=2∨h.kind=6∨h.kind=7∨h.kind=9∨h.kind=12 then s++⟨#[32]⟩++Zfn h.num else s
def Zdi(h:AH):ByteArray:=Zdy h (Zea h (Zdx h (Zcb h (Zdz h (wd Xo h.kind)))))++⟨#[59]⟩
def rzCd(h:AH)(t:ByteArray):ByteArray:=wd Xo 10++⟨#[32]⟩++Zfn h.cl++⟨#[32]⟩++wd wOp h.cop++⟨#[32]⟩++Zfn h.cr++⟨#[32]⟩++t
def Zat(h:AH)(t e:ByteArray)(no:Bool):ByteArray:=
 if h.kind=10 then(if no=true then rzCd h t else rzCd h t++⟨#[32,101,108,115,101,32]⟩++e)
 else if h.kind=11 then Zcb h (wd Xo h.kind)++⟨#[32]⟩++t else Zdi h
def Zeb:Acs→ByteArray→ByteArray
 |.nil,s=>s
 |.cons h t e r,s=>Zeb r (s++Zat h (Zeb t ⟨#[123,32]⟩++⟨#[125]⟩) (Zeb e ⟨#[123,32]⟩++⟨#[125]⟩) e.isNil++⟨#[32]⟩)
def Vf(x:Acs):ByteArray:=Zeb x ⟨#[123,32]⟩++⟨#[125]⟩
def Zbl:Nat→Acs→ByteArray→ByteArray
 |_,.nil,s=>s
 |i,.cons h t e r,s=>Zbl (i+1) r ((if 0<i then s++⟨#[32]⟩else s)++Zat h (Vf t) (Vf e) e.isNil)
theorem Va(s t:ByteArray):bL (s++t)=bL s++bL t:=by
 have h1:=Ziy s;have h2:=Ziy t
 have e:strOfNums (bL s++bL t)=s++t:=by
  conv=>rhs;rw[←Zgl s,←Zgl t]
  unfold strOfNums;apply ByteArray.ext;simp[ByteArray.data_append]
 rw[←e];exact Zll _ (by intro x hx;rcases List.mem_append.1 hx with hx | hx;exact h1 x hx;exact h2 x hx)
theorem Zks(n:Int):bL (Wl n)=Ziz n:=Zll _ (putL_by n)
theorem Zde:bL (⟨#[]⟩:ByteArray)=[]:=by decide +kernel
theorem Zdd:bL (⟨#[10]⟩:ByteArray)=[10]:=by decide +kernel
theorem Zdc:bL (⟨#[32]⟩:ByteArray)=[32]:=by decide +kernel
theorem Zdb:bL (⟨#[34]⟩:ByteArray)=[34]:=by decide +kernel
theorem Zda:bL (⟨#[40]⟩:ByteArray)=[40]:=by decide +kernel
theorem Zcz:bL (⟨#[41]⟩:ByteArray)=[41]:=by decide +kernel
theorem Zcy:bL (⟨#[59]⟩:ByteArray)=[59]:=by decide +kernel
theorem Zcx:bL (⟨#[125]⟩:ByteArray)=[125]:=by decide +kernel
theorem Zcw:bL (⟨#[32,34]⟩:ByteArray)=[32,34]:=by decide +kernel
theorem Zcv:bL (⟨#[34,32]⟩:ByteArray)=[34,32]:=by decide +kernel
theorem Jq:bL (⟨#[123,32]⟩:ByteArray)=[123,32]:=by decide +kernel
theorem Jp:bL (⟨#[105,116]⟩:ByteArray)=[105,116]:=by decide +kernel
theorem Jo:bL (⟨#[109,101]⟩:ByteArray)=[109,101]:=by decide +kernel
theorem Jn:bL (⟨#[32,42,32]⟩:ByteArray)=[32,42,32]:=by decide +kernel
theorem Jm:bL (⟨#[32,43,32]⟩:ByteArray)=[32,43,32]:=by decide +kernel
theorem Jl:bL (⟨#[32,45,32]⟩:ByteArray)=[32,45,32]:=by decide +kernel
theorem Jk:bL (⟨#[115,117,109,32]⟩:ByteArray)=[115,117,109,32]:=by decide +kernel
theorem Jj:bL (⟨#[104,97,110,100,32]⟩:ByteArray)=[104,97,110,100,32]:=by decide +kernel
theorem Ji:bL (⟨#[108,97,110,101,32]⟩:ByteArray)=[108,97,110,101,32]:=by decide +kernel
theorem Jh:bL (⟨#[102,114,101,101,32]⟩:ByteArray)=[102,114,101,101,32]:=by decide +kernel
theorem Jg:bL (⟨#[114,111,117,110,100]⟩:ByteArray)=[114,111,117,110,100]:=by decide +kernel
theorem Jf:bL (⟨#[99,97,114,100,32,34]⟩:ByteArray)=[99,97,114,100,32,34]:=by decide +kernel
theorem Je:bL (⟨#[32,99,111,115,116,32]⟩:ByteArray)=[32,99,111,115,116,32]:=by decide +kernel
theorem Jd:bL (⟨#[32,101,108,115,101,32]⟩:ByteArray)=[32,101,108,115,101,32]:=by decide +kernel
theorem Jc:bL (⟨#[99,111,117,110,116,32]⟩:ByteArray)=[99,111,117,110,116,32]:=by decide +kernel
theorem Jb:bL (⟨#[112,108,97,99,101,32,34]⟩:ByteArray)=[112,108,97,99,101,32,34]:=by decide +kernel
theorem Ja:bL (⟨#[34,32,99,111,115,116,32]⟩:ByteArray)=[34,32,99,111,115,116,32]:=by decide +kernel
theorem Uz:bL (⟨#[32,110,111,116,32,105,116]⟩:ByteArray)=[32,110,111,116,32,105,116]:=by decide +kernel
theorem Uy:bL (⟨#[32,110,111,116,32,109,101]⟩:ByteArray)=[32,110,111,116,32,109,101]:=by decide +kernel
theorem Ux:bL (⟨#[32,112,111,119,101,114,32]⟩:ByteArray)=[32,112,111,119,101,114,32]:=by decide +kernel
theorem Uw:bL (⟨#[32,110,97,109,101,100,32,34]⟩:ByteArray)=[32,110,97,109,101,100,32,34]:=by decide +kernel
theorem bl_f1:bL (wd Ye 1)=[99,111,115,116]:=by decide +kernel
theorem bl_f2:bL (wd Ye 2)=[112,111,119,101,114]:=by decide +kernel
theorem bl_f3:bL (wd Ye 3)=[110,97,109,101,100]:=by decide +kernel
theorem bl_f4:bL (wd Ye 4)=[110,111,116]:=by decide +kernel
theorem bl_m1:bL (wd Vb 1)=[109,101]:=by decide +kernel
theorem bl_m2:bL (wd Vb 2)=[105,116]:=by decide +kernel
theorem bl_s1:bL (wd Ym 1)=[109,101]:=by decide +kernel
theorem bl_s2:bL (wd Ym 2)=[105,116]:=by decide +kernel
theorem bl_t4:bL (wd wTo 4)=[108,97,110,101]:=by decide +kernel
theorem bl_c1:bL (wd Yy 1)=[99,111,117,110,116]:=by decide +kernel
theorem bl_c2:bL (wd Yy 2)=[115,117,109]:=by decide +kernel
theorem bl_c3:bL (wd Yy 3)=[114,111,117,110,100]:=by decide +kernel
theorem bl_c4:bL (wd Yy 4)=[104,97,110,100]:=by decide +kernel
theorem bl_c5:bL (wd Yy 5)=[102,114,101,101]:=by decide +kernel
theorem bl_else:bL Ug=[101,108,115,101]:=by decide +kernel
theorem Zok{k l:Int}(hv:VTo k l):bL (Zmt k l)=lTo k l:=by
 unfold Zmt lTo;split
 ·simp[Va,Zks,bl_t4,Zde,Zdd,Zdc,Zdb,Zda,Zcz,Zcy,Zcx,Zcw,Zcv,Jq,Jp,Jo,Jn,Jm,Jl,Jk,Jj,Ji,Jh,Jg,Jf,Je,Jd,Jc,Jb,Ja,Uz,Uy,Ux,Uw]
 ·rfl
theorem rzFl_is{f:Fl}(hv:VFl f)(t:ByteArray):bL (Zlw t f)=bL t++32::lFl f:=by
 unfold Zlw lFl;rcases hv with⟨hk,_⟩ | ⟨hk,_⟩ | ⟨hk,_⟩
 ·rcases hk with hk | hk
  ·simp[hk,Va,Zks,bl_f1,Zde,Zdd,Zdc,Zdb,Zda,Zcz,Zcy,Zcx,Zcw,Zcv,Jq,Jp,Jo,Jn,Jm,Jl,Jk,Jj,Ji,Jh,Jg,Jf,Je,Jd,Jc,Jb,Ja,Uz,Uy,Ux,Uw]
  ·simp[hk,Va,Zks,bl_f2,Zde,Zdd,Zdc,Zdb,Zda,Zcz,Zcy,Zcx,Zcw,Zcv,Jq,Jp,Jo,Jn,Jm,Jl,Jk,Jj,Ji,Jh,Jg,Jf,Je,Jd,Jc,Jb,Ja,Uz,Uy,Ux,Uw]
 ·simp[hk,Va,bl_f3,Znv,Zde,Zdd,Zdc,Zdb,Zda,Zcz,Zcy,Zcx,Zcw,Zcv,Jq,Jp,Jo,Jn,Jm,Jl,Jk,Jj,Ji,Jh,Jg,Jf,Je,Jd,Jc,Jb,Ja,Uz,Uy,Ux,Uw]
 ·rcases(by omega:f.kind=4∨f.kind=5)with hk | hk
  ·simp[hk,Va,bl_f4,bl_m1,Zde,Zdd,Zdc,Zdb,Zda,Zcz,Zcy,Zcx,Zcw,Zcv,Jq,Jp,Jo,Jn,Jm,Jl,Jk,Jj,Ji,Jh,Jg,Jf,Je,Jd,Jc,Jb,Ja,Uz,Uy,Ux,Uw]
  ·simp[hk,Va,bl_f4,bl_m2,Zde,Zdd,Zdc,Zdb,Zda,Zcz,Zcy,Zcx,Zcw,Zcv,Jq,Jp,Jo,Jn,Jm,Jl,Jk,Jj,Ji,Jh,Jg,Jf,Je,Jd,Jc,Jb,Ja,Uz,Uy,Ux,Uw]
theorem rzFls_is:∀(l:List Fl)(t:ByteArray),(∀ f ∈ l,VFl f)→bL (l.foldl Zlw t)=bL t++lFls l
 |[],t,_=>by simp[lFls]
 |f::l,t,h=>by
  rw[List.foldl_cons,rzFls_is l _ (fun g hg=>h g (by simp[hg])),rzFl_is (h f (by simp))];simp[lFls]
theorem Zez{s:Se}(hv:VSe s):bL (Zdm s)=lSel s:=by
 unfold Zdm lSel;rcases hv with⟨hk,_⟩ | ⟨hk,h1,h2,h3,h4,h5,h6⟩
 ·rcases hk with hk | hk
  ·simp[hk,bl_s1,Zde,Zdd,Zdc,Zdb,Zda,Zcz,Zcy,Zcx,Zcw,Zcv,Jq,Jp,Jo,Jn,Jm,Jl,Jk,Jj,Ji,Jh,Jg,Jf,Je,Jd,Jc,Jb,Ja,Uz,Uy,Ux,Uw]
  ·simp[hk,bl_s2,Zde,Zdd,Zdc,Zdb,Zda,Zcz,Zcy,Zcx,Zcw,Zcv,Jq,Jp,Jo,Jn,Jm,Jl,Jk,Jj,Ji,Jh,Jg,Jf,Je,Jd,Jc,Jb,Ja,Uz,Uy,Ux,Uw]
 ·have n1:¬ s.kind=1:=by omega
  have n2:¬ s.kind=2:=by omega
  rw[if_neg n1,if_neg n2,if_neg (by omega),Va,Va,Va,rzFls_is _ _ h5];unfold rzSel0;by_cases hw:s.wh=3
  ·simp[hw,Va,Zks,Zde,Zdd,Zdc,Zdb,Zda,Zcz,Zcy,Zcx,Zcw,Zcv,Jq,Jp,Jo,Jn,Jm,Jl,Jk,Jj,Ji,Jh,Jg,Jf,Je,Jd,Jc,Jb,Ja,Uz,Uy,Ux,Uw]
  ·simp[hw,Va,Zks,Zde,Zdd,Zdc,Zdb,Zda,Zcz,Zcy,Zcx,Zcw,Zcv,Jq,Jp,Jo,Jn,Jm,Jl,Jk,Jj,Ji,Jh,Jg,Jf,Je,Jd,Jc,Jb,Ja,Uz,Uy,Ux,Uw]
theorem rzLeaf_is{kind n:Int}{sel:Se}{side tk tl:Int}(hv:VLeaf kind n sel side tk tl):bL (Zmu kind n sel side tk tl)=lLeaf kind n sel side tk tl:=by
 unfold Zmu lLeaf;rcases hv with⟨hk,hn,_⟩ | ⟨hk,_,hs,_⟩ | ⟨hk,_⟩ | ⟨hk,_,_,hs,_⟩ | ⟨hk,_,_,hs,ht⟩
 ·simp[hk,Zks]
 ·rcases hk with hk | hk
  ·simp[hk,Va,Zez hs,bl_c1,Zde,Zdd,Zdc,Zdb,Zda,Zcz,Zcy,Zcx,Zcw,Zcv,Jq,Jp,Jo,Jn,Jm,Jl,Jk,Jj,Ji,Jh,Jg,Jf,Je,Jd,Jc,Jb,Ja,Uz,Uy,Ux,Uw]
  ·simp[hk,Va,Zez hs,bl_c2,Zde,Zdd,Zdc,Zdb,Zda,Zcz,Zcy,Zcx,Zcw,Zcv,Jq,Jp,Jo,Jn,Jm,Jl,Jk,Jj,Ji,Jh,Jg,Jf,Je,Jd,Jc,Jb,Ja,Uz,Uy,Ux,Uw]
 ·simp[hk,bl_c3,Zde,Zdd,Zdc,Zdb,Zda,Zcz,Zcy,Zcx,Zcw,Zcv,Jq,Jp,Jo,Jn,Jm,Jl,Jk,Jj,Ji,Jh,Jg,Jf,Je,Jd,Jc,Jb,Ja,Uz,Uy,Ux,Uw]
 ·simp[hk,Va,bl_c4,Zde,Zdd,Zdc,Zdb,Zda,Zcz,Zcy,Zcx,Zcw,Zcv,Jq,Jp,Jo,Jn,Jm,Jl,Jk,Jj,Ji,Jh,Jg,Jf,Je,Jd,Jc,Jb,Ja,Uz,Uy,Ux,Uw]
 ·simp[hk,Va,Zok ht,bl_c5,Zde,Zdd,Zdc,Zdb,Zda,Zcz,Zcy,Zcx,Zcw,Zcv,Jq,Jp,Jo,Jn,Jm,Jl,Jk,Jj,Ji,Jh,Jg,Jf,Je,Jd,Jc,Jb,Ja,Uz,Uy,Ux,Uw]
theorem rzBr_is{b:Bool}{x:ByteArray}{X:List Int}(h:bL x=X):bL (rzBr b x)=lB b X:=by
 unfold rzBr lB;split
 ·simp[Va,h,Zde,Zdd,Zdc,Zdb,Zda,Zcz,Zcy,Zcx,Zcw,Zcv,Jq,Jp,Jo,Jn,Jm,Jl,Jk,Jj,Ji,Jh,Jg,Jf,Je,Jd,Jc,Jb,Ja,Uz,Uy,Ux,Uw]
 ·exact h
theorem Zfy:∀ x:Ex,VEx x→bL (Zfn x)=lE x
 |.leaf kind n sel side tk tl,hv=>rzLeaf_is hv
 |.bin op l r,hv=>by
  have h1:=rzBr_is (b:=Zap false op l) (Zfy l hv.2.1);have h2:=rzBr_is (b:=Zap true op r) (Zfy r hv.2.2)
  have h3:bL (Zlv op)=[32,cOp op,32]:=by
   have h:op=1∨op=2∨op=3:=by have:=hv.1;omega
   rcases h with rfl | rfl | rfl<;>simp[Zlv,cOp,Zde,Zdd,Zdc,Zdb,Zda,Zcz,Zcy,Zcx,Zcw,Zcv,Jq,Jp,Jo,Jn,Jm,Jl,Jk,Jj,Ji,Jh,Jg,Jf,Je,Jd,Jc,Jb,Ja,Uz,Uy,Ux,Uw]
  unfold Zfn lE;rw[Va,Va,h1,h2,h3];simp
theorem rzPl_is{h:AH}{d:Nat}(hv:Zfq d h):bL (Zdi h)=bL (wd Xo h.kind)++32::(lArgs h++[59]):=by
 unfold Zdi Zdy Zea Zdx Zcb Zdz lArgs;rcases hv with⟨hk,_,hs,hn,_⟩ | ⟨hk,_,hs⟩ | ⟨hk,_,hs,ht⟩ | ⟨hk,_,_,_,ht,hn,_⟩ | ⟨hk,_,_,hn,_⟩ | ⟨hk,_⟩ | ⟨hk,_,_,ht⟩
 ·have e:=Zez hs
  have e2:=Zfy _ hn;rcases hk with hk | hk | hk<;>simp[hk,Va,e,e2,Zde,Zdd,Zdc,Zdb,Zda,Zcz,Zcy,Zcx,Zcw,Zcv,Jq,Jp,Jo,Jn,Jm,Jl,Jk,Jj,Ji,Jh,Jg,Jf,Je,Jd,Jc,Jb,Ja,Uz,Uy,Ux,Uw]
 ·have e:=Zez hs
  rcases hk with hk | hk | hk<;>simp[hk,Va,e,Zde,Zdd,Zdc,Zdb,Zda,Zcz,Zcy,Zcx,Zcw,Zcv,Jq,Jp,Jo,Jn,Jm,Jl,Jk,Jj,Ji,Jh,Jg,Jf,Je,Jd,Jc,Jb,Ja,Uz,Uy,Ux,Uw]
 ·have e:=Zez hs
  have e2:=Zok ht;simp[hk,Va,e,e2,Zde,Zdd,Zdc,Zdb,Zda,Zcz,Zcy,Zcx,Zcw,Zcv,Jq,Jp,Jo,Jn,Jm,Jl,Jk,Jj,Ji,Jh,Jg,Jf,Je,Jd,Jc,Jb,Ja,Uz,Uy,Ux,Uw]
 ·have e:=Zfy _ hn
  have e2:=Zok ht;simp[hk,Va,e,e2,Znv,Zde,Zdd,Zdc,Zdb,Zda,Zcz,Zcy,Zcx,Zcw,Zcv,Jq,Jp,Jo,Jn,Jm,Jl,Jk,Jj,Ji,Jh,Jg,Jf,Je,Jd,Jc,Jb,Ja,Uz,Uy,Ux,Uw]
 ·have e2:=Zfy _ hn
  rcases hk with hk | hk<;>simp[hk,Va,e2,Zde,Zdd,Zdc,Zdb,Zda,Zcz,Zcy,Zcx,Zcw,Zcv,Jq,Jp,Jo,Jn,Jm,Jl,Jk,Jj,Ji,Jh,Jg,Jf,Je,Jd,Jc,Jb,Ja,Uz,Uy,Ux,Uw]
 ·simp[hk,Va,Zde,Zdd,Zdc,Zdb,Zda,Zcz,Zcy,Zcx,Zcw,Zcv,Jq,Jp,Jo,Jn,Jm,Jl,Jk,Jj,Ji,Jh,Jg,Jf,Je,Jd,Jc,Jb,Ja,Uz,Uy,Ux,Uw]
 ·have e2:=Zok ht
  rcases hk with hk | hk<;>simp[hk,Va,e2,Zde,Zdd,Zdc,Zdb,Zda,Zcz,Zcy,Zcx,Zcw,Zcv,Jq,Jp,Jo,Jn,Jm,Jl,Jk,Jj,Ji,Jh,Jg,Jf,Je,Jd,Jc,Jb,Ja,Uz,Uy,Ux,Uw]
theorem rzAct_is{h:AH}{d:Nat}{t e:ByteArray}{T E:List Int}{no:Bool}(hv:Zof d h∨VEach h∨Zfq d h)(ht:bL t=Zne T)(he:bL e=Zne E):bL (Zat h t e no)=lAct h T E no:=by
 unfold Zat lAct;rcases hv with hv | hv | hv
 ·have hk:=hv.kind
  obtain⟨_,_,⟨h1,_⟩,h2,_⟩:=hv;have e1:=Zfy _ h1;have e2:=Zfy _ h2;rw[if_pos hk,if_pos hk,hk];unfold rzCd lElse;split
  ·simp[Va,e1,e2,ht,Zde,Zdd,Zdc,Zdb,Zda,Zcz,Zcy,Zcx,Zcw,Zcv,Jq,Jp,Jo,Jn,Jm,Jl,Jk,Jj,Ji,Jh,Jg,Jf,Je,Jd,Jc,Jb,Ja,Uz,Uy,Ux,Uw]
  ·simp[Va,e1,e2,ht,he,bl_else,Zde,Zdd,Zdc,Zdb,Zda,Zcz,Zcy,Zcx,Zcw,Zcv,Jq,Jp,Jo,Jn,Jm,Jl,Jk,Jj,Ji,Jh,Jg,Jf,Je,Jd,Jc,Jb,Ja,Uz,Uy,Ux,Uw]
 ·have hk:=hv.kind
  have e1:=Zez hv.2;rw[if_neg (by omega),if_pos hk,if_neg (by omega),if_pos hk,hk];unfold Zcb;simp[hk,Va,e1,ht,Zde,Zdd,Zdc,Zdb,Zda,Zcz,Zcy,Zcx,Zcw,Zcv,Jq,Jp,Jo,Jn,Jm,Jl,Jk,Jj,Ji,Jh,Jg,Jf,Je,Jd,Jc,Jb,Ja,Uz,Uy,Ux,Uw]
 ·have hk:=hv.kind
  rw[if_neg (by omega),if_neg (by omega),if_neg (by omega),if_neg (by omega),rzPl_is hv]
theorem Um.parts{d:Nat}{h:AH}{t e r:Acs}(hv:Um d (.cons h t e r)):(Zof d h∨VEach h∨Zfq d h)∧Um (d+1) t∧Um (d+1) e∧Um d r:=by
 obtain⟨hv,hr⟩:=hv;rcases hv with⟨_,a,b,c⟩ | ⟨_,a,b,c⟩ | ⟨a,b,c⟩
 ·exact⟨.inl a,b,c,hr⟩
 ·exact⟨.inr (.inl a),b,by rw[c];trivial,hr⟩
 ·exact⟨.inr (.inr a),by rw[b];trivial,by rw[c];trivial,hr⟩
theorem Zkl:∀(x:Acs)(d:Nat)(s:ByteArray),Um d x→bL (Zeb x s)=bL s++Zah x
 |.nil,d,s,_=>by simp[Zeb,Zah]
 |.cons h t e r,d,s,hv=>by
  obtain⟨h0,ht,he,hr⟩:=hv.parts;have e1:bL (Zeb t ⟨#[123,32]⟩++⟨#[125]⟩)=Zne (Zah t):=by rw[Va,Zkl t _ _ ht];simp[Zne,Zde,Zdd,Zdc,Zdb,Zda,Zcz,Zcy,Zcx,Zcw,Zcv,Jq,Jp,Jo,Jn,Jm,Jl,Jk,Jj,Ji,Jh,Jg,Jf,Je,Jd,Jc,Jb,Ja,Uz,Uy,Ux,Uw]
  have e2:bL (Zeb e ⟨#[123,32]⟩++⟨#[125]⟩)=Zne (Zah e):=by rw[Va,Zkl e _ _ he];simp[Zne,Zde,Zdd,Zdc,Zdb,Zda,Zcz,Zcy,Zcx,Zcw,Zcv,Jq,Jp,Jo,Jn,Jm,Jl,Jk,Jj,Ji,Jh,Jg,Jf,Je,Jd,Jc,Jb,Ja,Uz,Uy,Ux,Uw]
  unfold Zeb Zah;rw[Zkl r _ _ hr,Va,Va,rzAct_is h0 e1 e2];simp[Zde,Zdd,Zdc,Zdb,Zda,Zcz,Zcy,Zcx,Zcw,Zcv,Jq,Jp,Jo,Jn,Jm,Jl,Jk,Jj,Ji,Jh,Jg,Jf,Je,Jd,Jc,Jb,Ja,Uz,Uy,Ux,Uw]
theorem rzBlk_is{x:Acs}{d:Nat}(hv:Um d x):bL (Vf x)=Zne (Zah x):=by
 unfold Vf;rw[Va,Zkl x _ _ hv];simp[Zne,Zde,Zdd,Zdc,Zdb,Zda,Zcz,Zcy,Zcx,Zcw,Zcv,Jq,Jp,Jo,Jn,Jm,Jl,Jk,Jj,Ji,Jh,Jg,Jf,Je,Jd,Jc,Jb,Ja,Uz,Uy,Ux,Uw]
theorem rzActG_is:∀(x:Acs)(d i:Nat)(s:ByteArray),Um d x→x.isNil=false→bL (Zbl i x s)++[32]=bL s++(if 0<i then [32]else [])++Zah x
 |.nil,d,i,s,_,h=>by cases h
 |.cons h t e r,d,i,s,hv,_=>by
  obtain⟨h0,ht,he,hr⟩:=hv.parts;have e1:=rzAct_is (no:=e.isNil) h0 (rzBlk_is ht) (rzBlk_is he)
  have e3:bL ((if 0<i then s++⟨#[32]⟩else s)++Zat h (Vf t) (Vf e) e.isNil)=bL s++(if 0<i then [32]else [])++lAct h (Zah t) (Zah e) e.isNil:=by
   rw[Va,e1];split<;>simp[Va,Zde,Zdd,Zdc,Zdb,Zda,Zcz,Zcy,Zcx,Zcw,Zcv,Jq,Jp,Jo,Jn,Jm,Jl,Jk,Jj,Ji,Jh,Jg,Jf,Je,Jd,Jc,Jb,Ja,Uz,Uy,Ux,Uw]
  unfold Zbl;cases r with
  |nil=>
   simp only[Zbl,Zah];rw[e3];simp
  |cons h2 t2 e2 r2=>
   rw[rzActG_is _ d _ _ hr rfl,e3];simp[Zah]
theorem size_of{s:ByteArray}{X:List Int}(h:bL s=X):s.size=X.length:=by rw[←h,Vm]
open Go.ChangeShapes Go.WideShapes Go.ChangeAt Go.RowKit
theorem notSm{c:Int}(h:¬(97≤c∧c≤122)):Zba c=false:=by rw[←Bool.not_eq_true,Zfj];exact h
theorem notD{c:Int}(h:¬(48≤c∧c≤57)):isD c=false:=by rw[←Bool.not_eq_true,Zce];exact h
theorem slice_ab{P:Program}(t:TypeId)(h:P.underlying t=some .string)(s:ByteArray)(a E:Nat)(h1:a+1≤E)(hz:E≤s.size)(w:World) :
  (Instr.slice t (.string s) (some (.int .i64 ((a:Int)+1))) (some (.int .i64 (E:Int))) none).run P w=.ok (.string (s.extract (a+1) E)) w:=by
 rw[run_slice_string w t s .i64 .i64 _ _ h (by omega) (by omega) (by omega)];rw[show((a:Int)+1).toNat=a+1 from by omega,Int.toNat_natCast]
theorem rtok_rem(s:ByteArray)(a:Nat)(w:World)(hs:s.size≤1099511627776)(ha:a<s.size)(hd:gB s a=35) :
  Calls Tryz.prog 196 #[.string s,.int .i64 (a:Int)] w fun e w'=>e=.returned (Zem (Yh (Zl s a)) a)∧Below w.heap.size w w':=by
 have hk:Yh (Zl s a)=(-1,0,tw (Xl 10) (Zl s a),tw (Xl 10) (Zl s a)):=by
  rw[Xa s ha,hd];rw[Jw,if_neg (by decide),if_neg (by decide),if_pos (show((35:Nat):Int)=35 from rfl)]
 have hv:Zem (Yh (Zl s a)) a=.tuple #[.int .i64 (-1),.int .i64 (a:Int),.int .i64 ((a+tw (Xl 10) (Zl s a):Nat):Int),.int .i64 ((a+tw (Xl 10) (Zl s a):Nat):Int)]:=by
  rw[hk];rfl
 have HV:=Hh hv;have g:=Uk s a ha;have c0:=fun w=>Zkm ((s[a]'ha).toNat:Int) w
 have c2:=fun w=>Zgx ((s[a]'ha).toNat:Int) w
 have c3:=fun w=>rtUntil s a 10 w (by omega) (by omega)
 rw[notSm (by omega)]at c0;rw[notD (by omega)]at c2;have q1:(((s[a]'ha).toNat:Int) == 35)=true:=by rw[←g,hd];rfl
 have l0:decide (s.size≤a)=false:=by simp;omega
 generalize a+tw (Xl 10) (Zl s a)=G at *;clear hv hk hd g;go_enter Tryz.func196,Tryz.ntmps196;go_wp2_with(first
 |(go_at_call 223;refine(c0 _).mono ?_;rintro e w1 ⟨rfl,rfl⟩)
 |(go_at_call 224;refine(c2 _).mono ?_;rintro e w1 ⟨rfl,rfl⟩)
 |(go_at_call 225;refine(c3 _).mono ?_;rintro e w1 ⟨rfl,rfl⟩))
 refine bodyPost_ret (v:=.tuple #[.int .i64 (-1),.int .i64 (a:Int),.int .i64 (G:Int),.int .i64 (G:Int)]) (by simp[results,Tryz.results196,go_sem]) rfl ⟨by rw[HV.out],Below.refl _ _⟩
theorem rtok_mark(s:ByteArray)(a:Nat)(w:World)(hs:s.size≤1099511627776)(ha:a<s.size)(h1:Zba (gB s a)=false)(h2:isD (gB s a)=false)(h3:gB s a≠35)(h4:gB s a≠34) :
  Calls Tryz.prog 196 #[.string s,.int .i64 (a:Int)] w fun e w'=>e=.returned (Zem (Yh (Zl s a)) a)∧Below w.heap.size w w':=by
 have hk:Yh (Zl s a)=if Zaq (Zl s a)=0 then(-4,0,0,0)else(4,0,Zaq (Zl s a),Zaq (Zl s a)):=by
  conv=>lhs;rw[Xa s ha]
  rw[Jw,if_neg (by rw[h1];simp),if_neg (by rw[h2];simp),if_neg (by omega),if_neg (by omega),←Xa s ha]
 have hle:=markL_le (Zl s a);rw[Xp]at hle;have g:=Uk s a ha;have c0:=fun w=>Zkm ((s[a]'ha).toNat:Int) w
 have c2:=fun w=>Zgx ((s[a]'ha).toNat:Int) w
 have c3:=fun w=>rtMark s a w (by omega) ha
 rw[←g,h1]at c0;rw[←g,h2]at c2;rw[g]at c0 c2;have q1:(((s[a]'ha).toNat:Int) == 35)=false:=by rw[←g];simp;omega
 have q2:(((s[a]'ha).toNat:Int) == 34)=false:=by rw[←g];simp;omega
 have l0:decide (s.size≤a)=false:=by simp;omega
 generalize Zaq (Zl s a)=n at *;clear h1 h2 h3 h4 g;by_cases h0:n=0
 ·have hv:Zem (Yh (Zl s a)) a=.tuple #[.int .i64 (-4),.int .i64 0,.int .i64 0,.int .i64 0]:=by rw[hk,if_pos h0];rfl
  have HV:=Hh hv;have hz:((n:Int) == 0)=true:=by rw[h0];rfl
  clear hv hk h0;go_enter Tryz.func196,Tryz.ntmps196;go_wp2_with(first
 |(go_at_call 223;refine(c0 _).mono ?_;rintro e w1 ⟨rfl,rfl⟩)
 |(go_at_call 224;refine(c2 _).mono ?_;rintro e w1 ⟨rfl,rfl⟩)
 |(go_at_call 227;refine(c3 _).mono ?_;rintro e w1 ⟨rfl,b1⟩))
  refine bodyPost_ret (v:=.tuple #[.int .i64 (-4),.int .i64 0,.int .i64 0,.int .i64 0]) (by simp[results,Tryz.results196,go_sem]) rfl ⟨by rw[HV.out],b1⟩
 ·have hv:Zem (Yh (Zl s a)) a=.tuple #[.int .i64 4,.int .i64 (a:Int),.int .i64 ((a:Int)+(n:Int)),.int .i64 ((a:Int)+(n:Int))]:=by rw[hk,if_neg h0];rfl
  have HV:=Hh hv;have hz:((n:Int) == 0)=false:=by simpa using h0
  clear hv hk h0;go_enter Tryz.func196,Tryz.ntmps196;go_wp2_with(first
 |(go_at_call 223;refine(c0 _).mono ?_;rintro e w1 ⟨rfl,rfl⟩)
 |(go_at_call 224;refine(c2 _).mono ?_;rintro e w1 ⟨rfl,rfl⟩)
 |(go_at_call 227;refine(c3 _).mono ?_;rintro e w1 ⟨rfl,b1⟩))
  refine bodyPost_ret (v:=.tuple #[.int .i64 4,.int .i64 (a:Int),.int .i64 ((a:Int)+(n:Int)),.int .i64 ((a:Int)+(n:Int))]) (by simp[results,Tryz.results196,go_sem]) rfl ⟨by rw[HV.out],b1⟩
theorem rtok_name(s:ByteArray)(a:Nat)(w:World)(hs:s.size≤1099511627776)(ha:a<s.size)(hd:gB s a=34) :
  Calls Tryz.prog 196 #[.string s,.int .i64 (a:Int)] w fun e w'=>e=.returned (Zem (Yh (Zl s a)) a)∧Below w.heap.size w w':=by
 have hk:Yh (Zl s a)=if tw (Xl 34) (Zl s (a+1))=(Zl s (a+1)).length∨Zct (strOfNums ((Zl s (a+1)).take (tw (Xl 34) (Zl s (a+1)))))=false then(-3,0,0,0)else(3,1,tw (Xl 34) (Zl s (a+1))+1,tw (Xl 34) (Zl s (a+1))+2):=by
  conv=>lhs;rw[Xa s ha,hd]
  rw[Jw,if_neg (by decide),if_neg (by decide),if_neg (by decide),if_pos (show((34:Nat):Int)=34 from rfl)]
 have g:=Uk s a ha;have c0:=fun w=>Zkm ((s[a]'ha).toNat:Int) w
 have c2:=fun w=>Zgx ((s[a]'ha).toNat:Int) w
 have c3:∀ w:World,Calls Tryz.prog 225 #[.string s,.int .i64 ((a:Int)+1),.int .u8 34] w fun e w'=>e=.returned (.int .i64 ((a+1+tw (Xl 34) (Zl s (a+1)):Nat):Int))∧w=w':=fun w=>rtUntil s (a+1) 34 w (by omega) (by omega)
 rw[notSm (by omega)]at c0;rw[notD (by omega)]at c2;have q1:(((s[a]'ha).toNat:Int) == 35)=false:=by rw[←g,hd];rfl
 have q2:(((s[a]'ha).toNat:Int) == 34)=true:=by rw[←g,hd];rfl
 have l0:decide (s.size≤a)=false:=by simp;omega
 have hle:=Ziw (Xl 34) (Zl s (a+1));rw[Xp]at hle hk;have hst:=Zhc s (a+1) (tw (Xl 34) (Zl s (a+1))) (by omega);have hst':s.extract (a+1) (a+1+tw (Xl 34) (Zl s (a+1)))=strOfNums ((Zl s (a+1)).take (tw (Xl 34) (Zl s (a+1)))):=hst;clear hst;rw[←hst']at hk;clear hst';generalize tw (Xl 34) (Zl s (a+1))=n at *;clear hd g;obtain⟨E,hE⟩:∃ E,a+1+n=E:=⟨_,rfl⟩
 rw[hE]at hk c3;have hsl:=fun w=>slice_ab (P:=Tryz.prog) 9 (by kernel_rfl) s a E (by omega) (by omega) w
 have e1:a+1≤E:=by omega
 have e2:E≤s.size:=by omega
 have HE:=Hh hE;have he':n=s.size - (a+1)↔E=s.size:=by omega
 have HX:=Hh he';clear hE he' hle;by_cases he:E=s.size
 ·have hv:Zem (Yh (Zl s a)) a=.tuple #[.int .i64 (-3),.int .i64 0,.int .i64 0,.int .i64 0]:=by rw[hk,if_pos (Or.inl (HX.out.2 he))];rfl
  have HV:=Hh hv;have hz:((E:Int) == (s.size:Int))=true:=by simp;omega
  clear hv hk he;go_enter Tryz.func196,Tryz.ntmps196;go_wp2_with(first
 |(go_at_call 223;refine(c0 _).mono ?_;rintro e w1 ⟨rfl,rfl⟩)
 |(go_at_call 224;refine(c2 _).mono ?_;rintro e w1 ⟨rfl,rfl⟩)
 |(go_at_call 225;refine(c3 _).mono ?_;rintro e w1 ⟨rfl,rfl⟩))
  refine bodyPost_ret (v:=.tuple #[.int .i64 (-3),.int .i64 0,.int .i64 0,.int .i64 0]) (by simp[results,Tryz.results196,go_sem]) rfl ⟨by rw[HV.out],Below.refl _ _⟩
 ·have hz:((E:Int) == (s.size:Int))=false:=by simp;omega
  have c4:=fun w=>rName_any (s.extract (a+1) E) w (by rw[size_extract _ _ _ (by omega)];omega)
  cases hnm:Zct (s.extract (a+1) E)with
  |false=>
    rw[hnm]at c4;have hv:Zem (Yh (Zl s a)) a=.tuple #[.int .i64 (-3),.int .i64 0,.int .i64 0,.int .i64 0]:=by rw[hk,if_pos (Or.inr hnm)];rfl
    have HV:=Hh hv;clear hv hk he hnm;go_enter Tryz.func196,Tryz.ntmps196;go_wp2_with(first
 |(go_at_call 223;refine(c0 _).mono ?_;rintro e w1 ⟨rfl,rfl⟩)
 |(go_at_call 224;refine(c2 _).mono ?_;rintro e w1 ⟨rfl,rfl⟩)
 |(go_at_call 225;refine(c3 _).mono ?_;rintro e w1 ⟨rfl,rfl⟩)
 |(go_at_call 226;refine(c4 _).mono ?_;rintro e w1 ⟨rfl,b1⟩))
    refine bodyPost_ret (v:=.tuple #[.int .i64 (-3),.int .i64 0,.int .i64 0,.int .i64 0]) (by simp[results,Tryz.results196,go_sem]) rfl ⟨by rw[HV.out],b1⟩
  |true=>
    rw[hnm]at c4
    have hv:Zem (Yh (Zl s a)) a=.tuple #[.int .i64 3,.int .i64 ((a:Int)+1),.int .i64 (E:Int),.int .i64 ((E:Int)+1)]:=by
     rw[hk,if_neg (by rw[hnm];have:=HX.out;simp;omega)];show Value.tuple #[.int .i64 3,.int .i64 ((a+1:Nat):Int),.int .i64 ((a+(n+1):Nat):Int),.int .i64 ((a+(n+2):Nat):Int)]=_;have:=HE.out;rw[show a+(n+1)=E from by omega,show a+(n+2)=E+1 from by omega];rfl
    have HV:=Hh hv;clear hv hk he hnm;go_enter Tryz.func196,Tryz.ntmps196;go_wp2_with(first
 |(go_at_call 223;refine(c0 _).mono ?_;rintro e w1 ⟨rfl,rfl⟩)
 |(go_at_call 224;refine(c2 _).mono ?_;rintro e w1 ⟨rfl,rfl⟩)
 |(go_at_call 225;refine(c3 _).mono ?_;rintro e w1 ⟨rfl,rfl⟩)
 |(go_at_call 226;refine(c4 _).mono ?_;rintro e w1 ⟨rfl,b1⟩))
    refine bodyPost_ret (v:=.tuple #[.int .i64 3,.int .i64 ((a:Int)+1),.int .i64 (E:Int),.int .i64 ((E:Int)+1)]) (by simp[results,Tryz.results196,go_sem]) rfl ⟨by rw[HV.out],b1⟩
theorem rtToken(s:ByteArray)(a:Nat)(w:World)(hs:s.size≤1099511627776)(ha:a<s.size) :
  Calls Tryz.prog 196 #[.string s,.int .i64 (a:Int)] w fun e w'=>e=.returned (Zem (Yh (Zl s a)) a)∧Below w.heap.size w w':=by
 cases h1:Zba (gB s a:Int)with
 |true=>exact rtok_word s a w hs ha h1
 |false=>
  cases h2:isD (gB s a:Int)with
  |true=>exact rtok_num s a w hs ha h2
  |false=>
   by_cases h3:gB s a=35
   ·exact rtok_rem s a w hs ha h3
   ·by_cases h4:gB s a=34
    ·exact rtok_name s a w hs ha h4
    ·exact rtok_mark s a w hs ha h1 h2 h3 h4
end Go.Proofs.YtljdgdphldckhaaGreat
